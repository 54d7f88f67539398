import PyProof.Rows.All
import Wide.All
import OpenK.AllK
import Wide.FinOn
import HandS.ForMost
import HandS.ForExc
import HandS.AnyAll
import HandS.GenOver
import HandS.GenList
import HandS.More
import HandS.Defaults
import HandS.HeadHook4
import HandS.IsInst
import HandS.Iter
import HandS.Text
import HandS.Rev
import HandS.RevTup
import HandS.DictComp
import HandS.Deep
import HandS.List
import KE.GoesEnum
import PyProof.DictMoreH
import HandS.Base
import HandS.Call
import HandS.Dict
import HandS.SetKeys
import HandS.DictTup
import HandS.TupSets
import HandS.SetBool
import PyProof.StrOps2
import HandS.Head0
import HandS.Head1
import HandS.Head2
import HandS.HeadEnd
import HandS.HeadHook1
import HandS.HeadHook2
import HandS.HeadHook3
import HandS.HeadWalk
import HandS.LawCells
import HandS.Codes
import HandS.TupMul
import HandS.FStr
import HandS.RaiseMore
import HandS.TupAny
import HandS.SortRule
import HandS.Star
import HandS.StrMore
import HandS.TryMany
import HandS.TryOnly
import HandS.ExcIs
import PySem.Challenge.RW_redraft_k05_tellings_refused
set_option Elab.async false
set_option linter.all false
set_option maxRecDepth 100000
set_option maxHeartbeats 4000000
/-! all(elt for x in iter if ..), any(..): the element any expression that the layer reads (calls of defs, too), the walked thing any that the layer walks -/
namespace Rd
open PySem PySem.Spec PyProof.Rows L2 GxR

/-- the frame of a generator expression of X, made at s -/
abbrev gcx (X : Cx) (s : Shared) (H : Hp) (sc : Scope) (ce : Env) (fp : List Addr) (a : Addr) (o : Obj) (B : Around) : Cx :=
  { X with A := B, s_0 := s, H_0 := H, env := ce, outer := X.stack, stack := ce :: X.stack, ex := fp, fn := fun x => sc.names.lookup x == some .cell, calm := true, pn := [(a, o)], xe := fun _ _ => False }

theorem not_in_frs {X : Cx} {pins : List (Addr × Obj)} {σ : L2.St} {H : Hp} {s : Shared} (I : Inv X pins σ H s) {b : Addr} (hb : s.heap.objs.size ≤ b) : b ∉ frs X.stack := fun hm => by
  obtain ⟨_, o, ho, _⟩ := I.stack.mem hm
  exact Nat.lt_irrefl _ (Nat.lt_of_lt_of_le (Heap.lt_size ho) hb)

theorem gen_start {X : Cx} {pins : List (Addr × Obj)} {σ : L2.St} {H : Hp} {s s' : Shared} {sc : Scope} {own : List (Str × Nat)} {fp : List Addr} {ce : Env} {a : Addr} {o : Obj} {B : Around}
    (I : Inv X pins σ H s) (ok : BlkOk X.N X.env.scope sc own) (nc : ∀ y ∈ sc.names, y.2 ≠ .cell) (hN : X.N.Nodup) (hfp : ∀ b ∈ fp, FpOk X pins H b ∧ b < s.heap.objs.size)
    (e1 : ce.scope = sc) (e2 : ce.locals = s.heap.objs.size) (e3 : ce.globals = X.env.globals) (e4 : ce.builtins = builtinsNs) (e5 : ce.cells = cloFrom X.env.cells sc.names []) (e6 : ce.frame = some s.heap.objs.size)
    (hB : B.frames = some (ce :: X.stack)) (hh : B.handled = none)
    (os : s'.os = s.os) (gb : AllBare s'.gens) (kp : ∀ b u, s.heap.get? b = some u → s'.heap.get? b = some u) (ns : ∃ m, s'.heap.Ns s.heap.objs.size m) (ha : s'.heap.get? a = some o) (hlt : s.heap.objs.size < a) (hod : ∀ v, o.data ≠ .cell v) :
    Inv (gcx X s H sc ce fp a o B) [] (wipe σ (own.map (·.2))) H s' := by
  have nocell : ∀ y, sc.names.lookup y ≠ some .cell := fun y z => nc _ (PySem.mem_of_lookup z) rfl
  have clo : ∀ {y c}, ce.cells.lookup y = some c → X.env.cells.lookup y = some c ∧ c < s.heap.objs.size := fun {y c} e => by
    rw [e5] at e
    rcases cloFrom_mem (PySem.mem_of_lookup e) with hm | ⟨hy, rfl⟩
    · cases hm
    · have h1 : ∃ c, X.env.cells.lookup y = some c := by
        rcases ok.free _ hy rfl with k | k
        · exact I.ok.has _ (.inl k)
        · exact I.ok.has _ (.inr k)
      obtain ⟨c1, h2⟩ := h1
      rw [h2]
      obtain ⟨v, z⟩ := I.cell _ _ h2
      exact ⟨rfl, z.lt⟩
  have has : ∀ {y}, sc.names.lookup y = some .free → ∃ c, ce.cells.lookup y = some c := fun {y} hy => by
    obtain ⟨c, hc⟩ := mem_lookup (cloFrom_has (cells := X.env.cells) (acc := []) (PySem.mem_of_lookup hy))
    exact ⟨c, by rw [e5]; exact hc⟩
  have okB : (gcx X s H sc ce fp a o B).Ok := by
    refine ⟨I.ok.mod, ?_, ?_, e4, ?_, fun y z c h1 h2 => I.ok.inj y z c (clo h1).1 (clo h2).1, fun y hy => ?_, fun y c z _ => ?_, fun _ => hh, hB, .inr ⟨rfl, ?_⟩, fun b hb => ⟨?_, fun y c e z => ?_⟩, I.bs, Nat.le_trans I.ok.bsz I.sz, fun b u e hb => ?_, fun b hb z => ?_, I.stack, I.stkFree⟩
    · show ce.scope.kind = _
      rw [e1]
      exact ok.kind
    · show ce.globals = _
      rw [e3]
      exact I.ok.glob
    · show s.heap.objs.size ≤ ce.locals
      rw [e2]
      exact Nat.le_refl _
    · show ∃ c, ce.cells.lookup y = some c
      rcases hy with hy | hy
      · have hy : ce.scope.names.lookup y = some .cell := hy
        rw [e1] at hy
        exact absurd hy (nocell y)
      · have hy : ce.scope.names.lookup y = some .free := hy
        rw [e1] at hy
        exact has hy
    · have z : (sc.names.lookup y == some NameKind.cell) = true := z
      exact absurd (by simpa using z) (nocell y)
    · show ce.frame = some ce.locals
      rw [e6, e2]
    · show b ≠ ce.locals
      rw [e2]
      exact Nat.ne_of_lt (hfp b hb).2
    · exact (hfp b hb).1.2.2.2.2.1 y c (clo e).1 z
    · rcases (hfp b hb).1.2.2.2.1 with z | z
      · exact I.ok.noex b u e z
      · exact absurd (Nat.lt_of_lt_of_le (Heap.lt_size e) (Nat.le_trans I.ok.bsz z)) (Nat.lt_irrefl _)
    · rcases List.mem_cons.mp (I.stkSub b z) with z | z
      · exact (hfp b hb).1.2.1 z
      · exact (hfp b hb).1.2.2.1 z
  obtain ⟨m1, hm1⟩ := ns
  refine ⟨okB, os, gb, Un.kept kp, ⟨m1, ?_, fun i y av q1 q2 q3 => ?_⟩, fun y c e => ?_, ?_, fun y c e => I.freeC y c (clo e).1, fun p hp => ?_, I.hok.kept kp, by rw [wipe_length]; exact I.len⟩
  · show Heap.Ns _ ce.locals _
    rw [e2]
    exact hm1
  · obtain ⟨q2, hne⟩ := wipe_some q2
    have q3 : Vis ce.scope y := q3
    rw [e1] at q3
    have q1 : X.N[i]? = some y := q1
    have no : ∀ k, sc.names.lookup y = some k → k = .local ∨ k = .cell → False := fun k e hk => by
      rcases ok.own _ (PySem.mem_of_lookup e) hk with z | z
      · obtain ⟨p, hp, hpy⟩ := List.mem_map.mp z
        have z2 := ok.ix p hp
        have hpy : p.1 = y := hpy
        rw [hpy] at z2
        exact hne (List.mem_map.mpr ⟨p, hp, nodup_ix hN z2 q1⟩)
      · exact z (List.mem_of_getElem? q1)
    have hf : sc.names.lookup y = some .free := by
      rcases q3 with z | z | z
      · exact (no _ z (.inl rfl)).elim
      · exact (no _ z (.inr rfl)).elim
      · exact z
    obtain ⟨m, hn, hl⟩ := I.loc
    have hk := ok.free _ (PySem.mem_of_lookup hf) rfl
    obtain ⟨u, r, q⟩ := hl i y av q1 q2 (hk.elim (fun k => .inr (.inl k)) fun k => .inr (.inr k))
    refine ⟨u, r, .inr ⟨.inr ?_, ?_⟩⟩
    · show ce.scope.names.lookup y = some .free
      rw [e1]
      exact hf
    · obtain ⟨c, hc⟩ := has hf
      rcases q with ⟨k, _⟩ | ⟨_, c', e', z⟩
      · have k : X.env.scope.names.lookup y = some .local := k
        rcases hk with hk | hk <;> rw [show X.env.scope.names.lookup y = _ from hk] at k <;> cases k
      · have hc' := (clo hc).1
        rw [hc'] at e'
        cases e'
        exact ⟨c, hc, z.keeps kp⟩
  · obtain ⟨v, z⟩ := I.cell y c (clo e).1
    exact ⟨v, z.keeps kp⟩
  · show H ce.locals = none
    rw [e2]
    exact I.hok.fresh (Nat.le_refl _)
  · have hp : p = (a, o) := by simpa using hp
    subst hp
    refine ⟨ha, I.hok.fresh (Nat.le_of_lt hlt), ?_, not_in_frs I (Nat.le_of_lt hlt), hod⟩
    show a ≠ ce.locals
    rw [e2]
    exact Nat.ne_of_gt hlt

theorem inv_gens {X : Cx} {pins : List (Addr × Obj)} {σ : L2.St} {H : Hp} {s : Shared} {G : Array GenState} (I : Inv X pins σ H s) (hG : AllBare G) : Inv X pins σ H { s with gens := G } :=
  ⟨I.ok, I.os, hG, I.base, I.loc, I.cell, I.free, I.freeC, I.pin, I.hok, I.len⟩

/-- the reading: J what is walked, k the answer that goes on (True for all, False for any) -/
def tGen (k : Bool) (P : Addr) (wi : TI) (g : TG) (tt : TT) (te : TE) (vs : List Nat) : TE := fun σ H Q => wi σ H fun J H1 => TabG H1 P ∧ ∀ H2, Tabbed P H1 H2 →
  ∃ W : Nat → Nat → Hp → Prop, (∃ m, W 0 m H2) ∧ ∀ i m H, W i m H →
    (J.stop i H ∧ Q (.bl k) H) ∨ (J.go i H ∧ ∃ Nx : Hp → Prop, (∀ H', Nx H' → ∃ m', m' < m ∧ W (i + 1) m' H') ∧ ∀ x H', J.yld i H x H' → g x (wipe σ vs) H' fun σ2 H2 => wipe σ2 vs = wipe σ vs ∧ tt σ2 H2 fun b H3 =>
      if b = true then te σ2 H3 fun y H4 => ∃ c, y = .bl c ∧ (c = k → Nx H4) ∧ (c = (!k) → Q (.bl (!k)) H4) else Nx H3)

/-- the answer is known -/
def Fin (X : Cx) (pins : List (Addr × Obj)) (σ : L2.St) (Q : VK) (b : Bool) (s : Shared) : Prop := ∃ H, Inv X pins σ H s ∧ Q (.bl b) H
theorem Fin.gens {X : Cx} {pins : List (Addr × Obj)} {σ : L2.St} {Q : VK} {b : Bool} {s : Shared} {G : Array GenState} (h : Fin X pins σ Q b s) (hG : AllBare G) : Fin X pins σ Q b { s with gens := G } :=
  let ⟨H, I, q⟩ := h; ⟨H, inv_gens I hG, q⟩
theorem Fin.kept {X : Cx} {pins : List (Addr × Obj)} {σ : L2.St} {Q : VK} {b : Bool} {s : Shared} {h' : Heap} (h : Fin X pins σ Q b s) (k : ∀ c u, s.heap.get? c = some u → h'.get? c = some u) : Fin X pins σ Q b { s with heap := h' } :=
  let ⟨H, I, q⟩ := h; ⟨H, I.kept (t' := s.toks) k, q⟩
/-- the generator's end -/
abbrev GR1 (X : Cx) (pins : List (Addr × Obj)) (σ : L2.St) (Q : VK) (k : Bool) : GenEnd := fun _ _ r s => r = .ok .next ∧ (AllBare s.gens ∧ Fin X pins σ Q k s)
/-- an item comes out -/
abbrev GY1 (X : Cx) (pins : List (Addr × Obj)) (σ : L2.St) (Q : VK) (k : Bool) (a : Addr) (g : Nat) : Protocol := fun _ _ v s kap =>
  ∃ b, v = .bool b ∧ s.heap.IsGen a g ∧ s.heap.NoLimit ∧ AllBare s.gens ∧ (b = (!k) → Fin X pins σ Q (!k) s) ∧ (b = k → ∀ G, AllBare G → kap (.send .none) { s with gens := G })
/-- a generator that is to be asked -/
def Live (X : Cx) (pins : List (Addr × Obj)) (σ : L2.St) (Q : VK) (k : Bool) (a : Addr) (g n : Nat) (s : Shared) : Prop :=
  s.heap.IsGen a g ∧ s.heap.NoLimit ∧ AllBare s.gens ∧ ∃ gs, s.gens[g]? = some gs ∧ gs.Goes (model X.prog X.w) X.A.in1.in1 (GR1 X pins σ Q k) (GY1 X pins σ Q k a g) n (.send .none) (s.setGen g .running)

section
variable {X : Cx} {pins : List (Addr × Obj)} {σ : L2.St} {Q : VK} {a : Addr} {g : Nat}
/-- what a step of the consumer finds -/
theorem next_live {k : Bool} {n : Nat} {s : Shared} {Q' : Option Value → Shared → Prop} {E : Value → Shared → Prop} (hh : X.A.handled = none) (hd : X.A.depth < recursionLimit) (h : Live X pins σ Q k a g n s)
    (hy : ∀ (b : Bool) (s' : Shared), (b = (!k) → Fin X pins σ Q (!k) s') → (b = k → ∃ m, m < n ∧ Live X pins σ Q k a g m s') → Q' (some (.bool b)) s') (he : ∀ s', Fin X pins σ Q k s' → Q' none s') :
    wpAny (model X.prog X.w) X.A.in1 (pyNext (.ref a)) Q' E s := by
  obtain ⟨hg, hl, hb0, gs, hgs, hgo⟩ := h
  have hgl : g < s.gens.size := (Array.getElem?_eq_some_iff.mp hgs).1
  refine GenW.wpAny_gsz (n := g + 1) hgl (wpAny_pyNext_genexpQ (A := X.A.in1) (P := fun _ _ s => AllBare s.gens ∧ Fin X pins σ Q k s) hh hl hd hg hgs hgo (fun v s1 gs1 hbare hv => ?_) fun s1 hp h1 hk => ?_)
  · intro hsz
    obtain ⟨b, rfl, hg1, hl1, hb1, q1, q2⟩ := hv
    have hG : AllBare (s1.setGen g gs1).gens := allBare_setGen hb1 hbare
    have es : s1.setGen g gs1 = { s1 with gens := (s1.setGen g gs1).gens } := rfl
    refine hy b _ (fun e => by rw [es]; exact (q1 e).gens hG) fun e => ?_
    have hsz1 : g < s1.gens.size := by
      have z : (s1.setGen g gs1).gens.size = s1.gens.size := GenW.setGen_size _ _ _
      have z2 : g + 1 ≤ (s1.setGen g gs1).gens.size := hsz
      omega
    cases n with
    | zero => exact False.elim (q2 e s1.gens hb1)
    | succ m =>
      refine ⟨m, Nat.lt_succ_self m, hg1, hl1, hG, gs1, setGen_at hsz1, ?_⟩
      exact q2 e ((s1.setGen g gs1).setGen g .running).gens (allBare_setGen hG rfl)
  · intro _
    have z := (Fin.gens (G := (s1.setGen g .finished).gens) hp.2 (allBare_setGen hp.1 rfl)).kept hk
    exact he _ z

theorem all_loop {R : Result → Shared → Prop} (hh : X.A.handled = none) (hd : X.A.depth < recursionLimit) (hR : ∀ b s, Fin X pins σ Q b s → R (.ok (.ret (.bool b))) s) :
    ∀ (n : Nat) (s : Shared), Live X pins σ Q true a g n s → codeAny (model X.prog X.w) X.A (.builtin "all.loop" ⟨[.ref a], []⟩) R s := by
  intro n
  induction n using Nat.strongRecOn with
  | ind n ih =>
    intro s h
    refine codeAny_builtin F.entry_all_loop ?_
    rw [Around.under_plainId F.plain_all_loop _]
    show wpAny _ X.A.in1 (pyNext (.ref a) >>= _) _ _ s
    refine wpAny_bind (next_live hh hd h (fun b s1 q1 q2 => ?_) fun s1 q => ?_)
    · refine wpAny_bind (wpAny_holding (wpAny_truthy_bool ?_))
      refine wpAny_bind (wpAny_letGo ?_)
      cases b with
      | true =>
        simp only [if_true]
        obtain ⟨m, hm, hL⟩ := q2 rfl
        exact wpAny_pure ⟨plainId_quiet F.plain_all_loop _, ih m hm _ hL⟩
      | false =>
        simp only [Bool.false_eq_true, if_false]
        exact wpAny_bind (wpAny_rule (wpAny_pure (hR _ _ (q1 rfl))))
    · exact wpAny_bind (wpAny_rule (wpAny_pure (hR _ _ q)))
theorem any_loop {R : Result → Shared → Prop} (hh : X.A.handled = none) (hd : X.A.depth < recursionLimit) (hR : ∀ b s, Fin X pins σ Q b s → R (.ok (.ret (.bool b))) s) :
    ∀ (n : Nat) (s : Shared), Live X pins σ Q false a g n s → codeAny (model X.prog X.w) X.A (.builtin "any.loop" ⟨[.ref a], []⟩) R s := by
  intro n
  induction n using Nat.strongRecOn with
  | ind n ih =>
    intro s h
    refine codeAny_builtin F.entry_any_loop ?_
    rw [Around.under_plainId F.plain_any_loop _]
    show wpAny _ X.A.in1 (pyNext (.ref a) >>= _) _ _ s
    refine wpAny_bind (next_live hh hd h (fun b s1 q1 q2 => ?_) fun s1 q => ?_)
    · refine wpAny_bind (wpAny_holding (wpAny_truthy_bool ?_))
      refine wpAny_bind (wpAny_letGo ?_)
      cases b with
      | false =>
        simp only [Bool.false_eq_true, if_false]
        obtain ⟨m, hm, hL⟩ := q2 rfl
        exact wpAny_pure ⟨plainId_quiet F.plain_any_loop _, ih m hm _ hL⟩
      | true =>
        simp only [if_true]
        exact wpAny_bind (wpAny_rule (wpAny_pure (hR _ _ (q1 rfl))))
    · exact wpAny_bind (wpAny_rule (wpAny_pure (hR _ _ q)))
theorem call_all_live {n : Nat} {s : Shared} {Q' : Value → Shared → Prop} {E : Value → Shared → Prop} (hh : X.A.handled = none) (hd : X.A.depth < recursionLimit) (h : Live X pins σ Q true a g n s) (hQ : ∀ b s', Fin X pins σ Q b s' → Q' (.bool b) s') :
    wpAny (model X.prog X.w) X.A (call (.builtin "all") [.ref a]) Q' E s := by
  refine call_function_tree F.kind_all F.plain_all F.entry_all (F.args_all1 _) ?_
  unfold Builtin.«all»
  refine wpAny_bind (m := oneArg "all" _) (wpAny_pure ?_)
  refine wpAny_bind (wpAny_pyIter_gen h.1 ?_)
  exact wpAny_pure ⟨plainId_quiet F.plain_all_loop _, all_loop hh hd (fun b s' q => hQ b s' q) n s h⟩
theorem call_any_live {n : Nat} {s : Shared} {Q' : Value → Shared → Prop} {E : Value → Shared → Prop} (hh : X.A.handled = none) (hd : X.A.depth < recursionLimit) (h : Live X pins σ Q false a g n s) (hQ : ∀ b s', Fin X pins σ Q b s' → Q' (.bool b) s') :
    wpAny (model X.prog X.w) X.A (call (.builtin "any") [.ref a]) Q' E s := by
  refine call_function_tree F.kind_any F.plain_any F.entry_any (F.args_any1 _) ?_
  unfold Builtin.«any»
  refine wpAny_bind (m := oneArg "any" _) (wpAny_pure ?_)
  refine wpAny_bind (wpAny_pyIter_gen h.1 ?_)
  exact wpAny_pure ⟨plainId_quiet F.plain_any_loop _, any_loop hh hd (fun b s' q => hQ b s' q) n s h⟩
end

/-! ### the generator's own turns -/
theorem mono_no {α : Type} {t : Sem α} {Q Q' : α → Shared → Prop} {M : Model} {A : Around} {E : Value → Shared → Prop} {s : Shared} (h : wpAny M A t Q (fun _ _ => False) s) (hQ : ∀ a s, Q a s → Q' a s) : wpAny M A t Q' E s :=
  wpAny_mono h hQ fun _ _ z => False.elim z

section
variable {X : Cx} {pins : List (Addr × Obj)} {σ : L2.St} {Q : VK} {k : Bool} {a : Addr} {g : Nat} {o : Obj} {s4 : Shared} {H3 : Hp} {sc : Scope} {own : List (Str × Nat)} {ce : Env} {fp : List Addr} {it : Addr} {tn : Nat → Heap → Prop} {J : It} {B : Around}
  {elt tg iter : Expr} {ifs : List Expr} {pos : Pos} {gt : TG} {tt : TT} {te : TE} {W : Nat → Nat → Hp → Prop}
theorem gen_turns (hB : B = X.A.in1.in1.over (.compLoop (.GeneratorExp elt [⟨tg, iter, ifs, 0⟩] sc pos) 0 (.ref it) .none ce) []) (hco : ce.scope.isCoroutine = false)
    (I4 : Inv X pins σ H3 s4) (T : Turn X.prog X.w X.K tg J fp it tn) (ffp : ∀ b ∈ fp, FpOk X pins H3 b) (hafp : ∀ b ∈ fp, b ≠ a) (hgo : ∃ nm qn, o.cls = .type "generator" ∧ o.data = .fields #[.int g 0, nm, qn] ∧ o.slots = #[])
    (pg : PG (gcx X s4 H3 sc ce fp a o B) tg gt) (pt : PTs (gcx X s4 H3 sc ce fp a o B) ifs tt) (pe : PE (gcx X s4 H3 sc ce fp a o B) elt te)
    (turn : ∀ i m H, W i m H → (J.stop i H ∧ Q (.bl k) H) ∨ (J.go i H ∧ ∃ Nx : Hp → Prop, (∀ H', Nx H' → ∃ m', m' < m ∧ W (i + 1) m' H') ∧ ∀ x H', J.yld i H x H' → gt x (wipe σ (own.map (·.2))) H' fun σ2 H2 => wipe σ2 (own.map (·.2)) = wipe σ (own.map (·.2)) ∧ tt σ2 H2 fun b H3 =>
      if b = true then te σ2 H3 fun y H4 => ∃ c, y = .bl c ∧ (c = k → Nx H4) ∧ (c = (!k) → Q (.bl (!k)) H4) else Nx H3)) :
    ∀ (m n i : Nat) (s0 s : Shared) (H : Hp), m < n → Inv (gcx X s4 H3 sc ce fp a o B) [] (wipe σ (own.map (·.2))) H s → tn i s.heap → (∀ b ∈ fp, H b = none) → W i m H →
      Seg (model X.prog X.w) X.A.in1.in1 (GR1 X pins σ Q k) (GY1 X pins σ Q k a g) n s0 (.compLoop (.GeneratorExp elt [⟨tg, iter, ifs, 0⟩] sc pos) 0 (.ref it) .none ce)
        ((model X.prog X.w).den (.compLoop (.GeneratorExp elt [⟨tg, iter, ifs, 0⟩] sc pos) 0 (.ref it) .none ce)) [] s := by
  have stat : ∀ {σ' : L2.St} {H' : Hp} {s' : Shared}, Inv (gcx X s4 H3 sc ce fp a o B) [] σ' H' s' → (∀ b ∈ fp, H' b = none) → ∀ b ∈ fp, FpOk (gcx X s4 H3 sc ce fp a o B) [] H' b := fun {σ' H' s'} I' hn b hb =>
    ⟨hn b hb, (I'.ok.exf b hb).1, I'.ok.exfs b hb, .inl hb, fun x c e => (I'.ok.exf b hb).2 x c e, fun p hp z => by
      have hp : p = (a, o) := by simpa using hp
      subst hp
      exact hafp b hb z.symm⟩
  -- back in the def's context
  have back : ∀ {σ' : L2.St} {H' : Hp} {s' : Shared} {ps : List (Addr × Obj)}, Inv (gcx X s4 H3 sc ce fp a o B) ps σ' H' s' → Inv X pins σ H' s' := fun {σ' H' s' ps} I6 =>
    I4.call' (ch := fp) I6.os I6.base I6.hok I6.bare fun b hb => ⟨(ffp b hb).2.2.2.1, (ffp b hb).2.1, (ffp b hb).2.2.2.2.1, (ffp b hb).2.2.2.2.2⟩
  have isg : ∀ {σ' : L2.St} {H' : Hp} {s' : Shared} {ps : List (Addr × Obj)}, Inv (gcx X s4 H3 sc ce fp a o B) ps σ' H' s' → s'.heap.IsGen a g := fun {σ' H' s' ps} I6 => by
    obtain ⟨nm, qn, h1, h2, h3⟩ := hgo
    exact ⟨o, nm, qn, (I6.pin (a, o) (by simp)).1, h1, h2, h3⟩
  have hy : ∀ v, yieldOut ce v = yieldValue v := fun v => by simp only [yieldOut, hco, Bool.false_eq_true, if_false]
  intro m
  induction m using Nat.strongRecOn with
  | ind m ih =>
    intro n i s0 s H hmn I st nf w
    show Seg _ X.A.in1.in1 _ _ _ s0 _ ((compTurn (.GeneratorExp elt [⟨tg, iter, ifs, 0⟩] sc pos) 0 (.ref it) .none ce).onRaise (leaving ce)) [] s
    rw [compTurn_gen, Sem.onRaise_eq_wrap]
    refine seg_bind_wrap (wpAny_standAt ?_)
    rcases turn i m H w with ⟨stop, q⟩ | ⟨go, Nx, hNx, step⟩
    · refine seg_bind_wrap ?_
      rw [← hB]
      refine mono_no (T.done (gcx X s4 H3 sc ce fp a o B) rfl rfl rfl rfl i [] s _ H (fun _ _ => False) I (stat I nf) st stop) fun r s6 hr => ?_
      obtain ⟨hr, I6⟩ := hr
      subst hr
      exact seg_end (.ok .next) ⟨rfl, I6.bare, H, back I6, q⟩
    · refine seg_bind_wrap ?_
      rw [← hB]
      refine mono_no (T.item (gcx X s4 H3 sc ce fp a o B) rfl rfl rfl rfl i [] s _ H (fun _ _ => False) I (stat I nf) st go) fun r s6 hr => ?_
      obtain ⟨u, hr, h6⟩ := hr
      subst hr
      refine seg_bind_wrap ?_
      rw [← hB]
      refine mono_no h6 fun _ s7 h7 => ?_
      obtain ⟨x, H7, I7, r7, y7, st7, n7⟩ := h7
      have I7' := I7.pinned (stat I7 n7) (T.obj _ _ st7)
      refine seg_bind_wrap ?_
      rw [← hB]
      refine mono_no (pg.run _ s7 _ H7 x u _ I7' r7 (step x H7 y7)) fun _ s8 h8 => ?_
      obtain ⟨σ8, H8, I8, hw8, q8⟩ := h8
      refine seg_bind_wrap ?_
      rw [← hB]
      refine mono_no (pt.run _ s8 σ8 H8 _ I8 q8) fun b s9 h9 => ?_
      obtain ⟨H9, I9, q9⟩ := h9
      -- the turn's end
      have fin : ∀ {s' : Shared} {H' : Hp}, Inv (gcx X s4 H3 sc ce fp a o B) ([] ++ pinsAt fp s7.heap) σ8 H' s' → Nx H' → ∃ m', m' < m ∧ Inv (gcx X s4 H3 sc ce fp a o B) [] (wipe σ (own.map (·.2))) H' s' ∧ tn (i + 1) s'.heap ∧ (∀ b ∈ fp, H' b = none) ∧ W (i + 1) m' H' := fun {s' H'} I' nx => by
        obtain ⟨m', hm, w'⟩ := hNx H' nx
        have pin' : ∀ b ∈ fp, ∀ ob, s7.heap.get? b = some ob → s'.heap.get? b = some ob ∧ H' b = none := fun b hb ob e => by
          have z := I'.pin (b, ob) (List.mem_append_right _ (List.mem_append_right _ (mem_pinsAt hb e)))
          exact ⟨z.1, z.2.1⟩
        have hl : (wipe σ (own.map (·.2))).length = σ8.length := by rw [← hw8, wipe_length]
        refine ⟨m', hm, (I'.unpinned (pins := [])).weak hl (fun j v e => ?_), T.keep _ _ _ st7 fun b hb ob e => (pin' b hb ob e).1, fun b hb => ?_, w'⟩
        · rw [← hw8] at e
          exact (wipe_some e).1
        · obtain ⟨ob, e, _⟩ := T.obj _ _ st7 b hb
          exact (pin' b hb ob e).2
      cases b with
      | false =>
        simp only [Bool.false_eq_true, if_false] at q9 ⊢
        obtain ⟨m', hm, J1, J2, J3, J4⟩ := fin I9 q9
        exact seg_again rfl (ih m' hm n (i + 1) s0 s9 H9 (Nat.lt_trans hm hmn) J1 J2 J3 J4)
      | true =>
        simp only [if_true] at q9 ⊢
        simp only [hy]
        rw [Sem.bind_eq_wrap', Sem.bind_eq_wrap', Sem.wrap_wrap, Sem.wrap_wrap]
        refine seg_wrap ?_
        rw [← hB]
        refine mono_no (pe.run _ s9 σ8 H9 _ I9 q9) fun z s10 h10 => ?_
        obtain ⟨y, H10, I10, r10, c, rfl, c1, c2⟩ := h10
        obtain rfl : z = Value.bool c := r10
        obtain ⟨n', rfl⟩ : ∃ n', n = n' + 1 := ⟨n - 1, by omega⟩
        refine seg_at (seg_yield rfl rfl rfl ⟨c, rfl, isg I10, I10.nolimit, I10.bare, fun e => ⟨H10, back I10, c2 e⟩, fun e G hG => ?_⟩)
        obtain ⟨m', hm, J1, J2, J3, J4⟩ := fin I10 (c1 e)
        exact seg_again rfl (ih m' hm n' (i + 1) _ _ H10 (by omega) (inv_gens J1 hG) J2 J3 J4)

/-- .. from its start -/
theorem gen_begins (hB : B = X.A.in1.in1.over (.compLoop (.GeneratorExp elt [⟨tg, iter, ifs, 0⟩] sc pos) 0 (.ref it) .none ce) []) (hco : ce.scope.isCoroutine = false)
    (I4 : Inv X pins σ H3 s4) (T : Turn X.prog X.w X.K tg J fp it tn) (ffp : ∀ b ∈ fp, FpOk X pins H3 b) (hafp : ∀ b ∈ fp, b ≠ a) (hgo : ∃ nm qn, o.cls = .type "generator" ∧ o.data = .fields #[.int g 0, nm, qn] ∧ o.slots = #[])
    (pg : PG (gcx X s4 H3 sc ce fp a o B) tg gt) (pt : PTs (gcx X s4 H3 sc ce fp a o B) ifs tt) (pe : PE (gcx X s4 H3 sc ce fp a o B) elt te)
    (turn : ∀ i m H, W i m H → (J.stop i H ∧ Q (.bl k) H) ∨ (J.go i H ∧ ∃ Nx : Hp → Prop, (∀ H', Nx H' → ∃ m', m' < m ∧ W (i + 1) m' H') ∧ ∀ x H', J.yld i H x H' → gt x (wipe σ (own.map (·.2))) H' fun σ2 H2 => wipe σ2 (own.map (·.2)) = wipe σ (own.map (·.2)) ∧ tt σ2 H2 fun b H3 =>
      if b = true then te σ2 H3 fun y H4 => ∃ c, y = .bl c ∧ (c = k → Nx H4) ∧ (c = (!k) → Q (.bl (!k)) H4) else Nx H3))
    {m : Nat} {s0 s : Shared} {H : Hp} (I : Inv (gcx X s4 H3 sc ce fp a o B) [] (wipe σ (own.map (·.2))) H s) (st : tn 0 s.heap) (nf : ∀ b ∈ fp, H b = none) (w : W 0 m H) :
      Seg (model X.prog X.w) X.A.in1.in1 (GR1 X pins σ Q k) (GY1 X pins σ Q k a g) (m + 1) s0 (.compStart (.GeneratorExp elt [⟨tg, iter, ifs, 0⟩] sc pos) 0 (.ref it) .none ce)
        ((model X.prog X.w).den (.compStart (.GeneratorExp elt [⟨tg, iter, ifs, 0⟩] sc pos) 0 (.ref it) .none ce)) [] s := by
  have loop := gen_turns (W := W) hB hco I4 T ffp hafp hgo pg pt pe turn m (m + 1) 0 s0 s H (Nat.lt_succ_self m) I st nf w
  show Seg _ X.A.in1.in1 _ _ _ s0 _ ((compStart (.GeneratorExp elt [⟨tg, iter, ifs, 0⟩] sc pos) 0 (.ref it) .none ce).onRaise (leaving ce)) [] s
  unfold compStart
  rw [Sem.onRaise_eq_wrap]
  show Seg _ X.A.in1.in1 _ _ _ s0 _ ((ask >>= _).wrap _ _ _ _) [] s
  refine seg_bind_wrap (wpAny_askSetting ?_)
  split
  · exact seg_again rfl loop
  · first
      | exact seg_bind_wrap (wpAny_rule (seg_bind_wrap (wpAny_standAt (seg_bind_wrap (T.self _ 0 s _ _ st (seg_again rfl loop))))))
      | (refine seg_bind_wrap (wpAny_rule ?_); show Seg _ X.A.in1.in1 _ _ _ s0 _ ((standAt iter.pos >>= _).wrap _ _ _ _) [] s; exact seg_bind_wrap (wpAny_standAt (seg_bind_wrap (T.self _ 0 s _ _ st (seg_again rfl loop)))))
end

/-- the generator expression's own scope -/
structure GScp (X : Cx) (sc : Scope) (own : List (Str × Nat)) : Prop where
  co : sc.isCoroutine = false
  cell : ∀ y ∈ sc.names, y.2 ≠ .cell
  dot : sc.names.lookup (".0" : Str) = some NameKind.local
  blk : BlkOk X.N X.env.scope sc own

section
variable {X : Cx} {pins : List (Addr × Obj)} {σ : L2.St} {H : Hp} {s : Shared} {Q : VK} {k : Bool} {j : Nat} {c P : Addr} {sc : Scope} {own : List (Str × Nat)} {elt tg iter : Expr} {ifs : List Expr} {gpos p pos : Pos} {wi : TI} {gt : TG} {tt : TT} {te : TE}
theorem gen_room {X : Cx} {j : Nat} {code : Code} (hr : Room (j + 1) X.A) (h1 : code.weight = 1) (h2 : code.cUnits ≤ 3) : Room j (X.A.in1.in1.over code []) := by
  refine ⟨hr.hd, ?_, ?_⟩
  · have e : (X.A.in1.in1.over code []).depth = X.A.depth + 0 + code.weight := rfl
    have := hr.dp
    rw [e, h1]
    omega
  · have e : (X.A.in1.in1.over code []).units = X.A.units + 1 + 1 + 0 + code.cUnits := rfl
    have := hr.un
    rw [e]
    omega
theorem gen_frames {A : Around} {l : List Env} {ce : Env} {iv acc : Value} (h : A.frames = some l) : (A.in1.in1.over (.compLoop (.GeneratorExp elt [⟨tg, iter, ifs, 0⟩] sc gpos) 0 iv acc ce) []).frames = some (ce :: l) := by
  have e : A.in1.in1.frames = some l := h
  have e2 : (A.in1.in1.over (.compLoop (.GeneratorExp elt [⟨tg, iter, ifs, 0⟩] sc gpos) 0 iv acc ce) []).frames = pushEnvs (Code.envs (.compLoop (.GeneratorExp elt [⟨tg, iter, ifs, 0⟩] sc gpos) 0 iv acc ce)) (pushEnvs (envsOf []) A.in1.in1.frames) := rfl
  rw [e2, e]
  rfl
theorem gen_made {Q' : Value → Shared → Prop} (hr : Room (j + 1) X.A) (hN : X.N.Nodup) (TB : TabB X.base X.mg c P) (hcode : X.env.code = .ref c) (S : GScp X sc own) (hi : PI X tg iter wi)
    (hg : ∀ (s : Shared) (H : Hp) (cl : List (Str × Addr)) (C : Addr) (code : Value) (fp : List Addr) (a : Addr) (o : Obj) (B : Around), PG (gcx X s H sc (genEnv sc cl C code builtinsNs X.env) fp a o B) tg gt)
    (ht : ∀ (s : Shared) (H : Hp) (cl : List (Str × Addr)) (C : Addr) (code : Value) (fp : List Addr) (a : Addr) (o : Obj) (B : Around), Room j B → PTs (gcx X s H sc (genEnv sc cl C code builtinsNs X.env) fp a o B) ifs tt)
    (he : ∀ (s : Shared) (H : Hp) (cl : List (Str × Addr)) (C : Addr) (code : Value) (fp : List Addr) (a : Addr) (o : Obj) (B : Around), Room j B → PE (gcx X s H sc (genEnv sc cl C code builtinsNs X.env) fp a o B) elt te)
    (hs : ∀ v, genFold iter X.env v = pure v) (I : Inv X pins σ H s) (h : tGen k P wi gt tt te (own.map (·.2)) σ H Q) (hQ : ∀ a g n s5, Live X pins σ Q k a g n s5 → Q' (.ref a) s5) :
    wpAny (model X.prog X.w) X.A (eval (.GeneratorExp elt [⟨tg, iter, ifs, 0⟩] sc gpos) X.env) Q' X.xe s := by
  have hfree : ∀ y ∈ sc.names, y.2 = .free → ∃ c, X.env.cells.lookup y.1 = some c := fun y hy e => by
    rcases S.blk.free y hy e with k | k
    · exact I.ok.has _ (.inl k)
    · exact I.ok.has _ (.inr k)
  refine wpAny_GeneratorExp_make S.co (closure_ok hfree) S.cell S.dot S.blk.kind (by have := hr.dp; omega) ?_ hs
  refine thn (hi.run pins s σ H _ I h) fun xv s1 hx => thn hx fun itv s2 h2 => ?_
  obtain ⟨it, fp, tn, J, H2, rfl, I2, T, st2, f2, ⟨ps, hP, hTr⟩, q⟩ := h2
  have hPs : s2.heap.get? P = some { cls := .none, data := .fields ps } := I2.hok P _ hP
  have cd : PySem.W.CodeHd s2.heap c P := TB.code.keeps fun b u e => I2.bk b u e
  refine ⟨I2.nolimit, ?_⟩
  have nP : ∀ b, H2 b = none → b ≠ P := fun b e z => by
    rw [z, hP] at e
    cases e
  have szf : ∀ b ∈ fp, b < s2.heap.objs.size := fun b hb => by
    obtain ⟨u, e, _⟩ := T.obj _ _ st2 b hb
    exact Heap.lt_size e
  have cont : ∀ (code : Value) (h3 : Heap) (tk : Nat) (ps' : Array Value), Heap.ExtBut P s2.heap h3 → s2.heap.objs.size ≤ h3.objs.size → h3.get? P = some { cls := .none, data := .fields ps' } → (∃ more, ps' = ps ++ more) → TriplesOk ps'.toList →
      wpAny (model X.prog X.w) X.A (builtinsFor X.env.globals X.env.builtins) (fun bi s₄ =>
        ∀ h', h'.Ns s₄.heap.objs.size (fun y => if y = ".0" then some (.ref it) else none) → Heap.SameBut s₄.heap.objs.size (s₄.heap.push { cls := .type "frame", data := .dict #[] }) h' →
          Q' (.ref h'.objs.size) { s₄ with
            gens := s₄.gens.push (.fresh (.compStart (.GeneratorExp elt [⟨tg, iter, ifs, 0⟩] sc gpos) 0 (.ref it) .none (genEnv sc (cloFrom X.env.cells sc.names []) s₄.heap.objs.size code bi X.env))),
            toks := s₄.toks + 1 + 1 + 1,
            heap := h'.push { cls := .type "generator", data := .fields #[.int s₄.gens.size 0, .str "<genexpr>" (s₄.toks + 1), .str (X.env.qual ++ "<genexpr>") (s₄.toks + 1 + 1)] } }) X.xe { s2 with heap := h3, toks := tk } := by
    intro code h3 tk ps' hx3 hsz3 hP3 hmore ht3
    have I3 : Inv X pins σ (upd H2 P (.tbl ps')) { s2 with heap := h3, toks := tk } := by
      obtain ⟨more, rfl⟩ := hmore
      exact inv_tab (more := more) (h' := h3) (g' := s2.gens) (d' := s2.drawn) (t' := tk) I2 hP (fun b u hb e => hx3 b u hb e) hP3 I2.bare
    generalize hH3 : upd H2 P (.tbl ps') = H3 at I3
    have hT3 : Tabbed P H2 H3 := by
      rw [← hH3]
      exact ⟨⟨ps', upd_same, ht3⟩, fun b hb => upd_ne hb⟩
    obtain ⟨W, ⟨m0, w0⟩, turn⟩ := q H3 hT3
    obtain ⟨bm, ob, e1, e2, e3, e4, e5, e6, e7, e8⟩ := TB.bm
    refine wpAny_builtinsFor (m := X.mg) (by rw [I3.ok.glob]; exact I3.mod.glob.keeps I3.bk) e1 e2 (I3.bk _ _ e5) e6 e7 e8 ?_
    intro h' hn' hs'
    have hsz : h'.objs.size = h3.objs.size + 1 := by
      rw [hs'.1, Heap.size_push]
    have keep' : ∀ b u, h3.get? b = some u → h'.get? b = some u := fun b u e => hs'.extBut b u (Nat.ne_of_lt (Heap.lt_size e)) (Heap.get?_push_of_some _ e)
    have hlt : h3.objs.size < h'.objs.size := by
      have hsz' : h'.objs.size = h3.objs.size + 1 := hsz
      omega
    have f3 : ∀ b ∈ fp, FpOk X pins H3 b := fun b hb => by
      have z := f2 b hb
      exact ⟨(hT3.2 b (nP b z.1)).trans z.1, z.2⟩
    have st3 : tn 0 h3 := T.keep _ _ _ st2 fun b hb u e => hx3 b u (nP b (f2 b hb).1) e
    have gb : AllBare (s2.gens.push (.fresh (.compStart (.GeneratorExp elt [⟨tg, iter, ifs, 0⟩] sc gpos) 0 (.ref it) .none (genEnv sc (cloFrom X.env.cells sc.names []) h3.objs.size code builtinsNs X.env)))) := I2.bare.push rfl
    have hsz2 : ∀ b ∈ fp, b < h3.objs.size := fun b hb => Nat.lt_of_lt_of_le (szf b hb) hsz3
    have keep5 : ∀ (u : Obj) b v, h3.get? b = some v → (h'.push u).get? b = some v := fun u b v e => Heap.get?_push_of_some _ (keep' b v e)
    refine hQ _ s2.gens.size (m0 + 1) _ ⟨⟨_, _, _, Heap.get?_push_size _ rfl, rfl, rfl, rfl⟩, I3.nolimit.keeps (keep5 _), gb, _, Array.getElem?_push_size .., rfl, ?_⟩
    refine gen_begins (own := own) (fp := fp) (tn := tn) (J := J) (W := W) (H3 := H3) (s4 := { s2 with heap := h3, toks := tk }) rfl S.co I3 T f3 (fun b hb z => ?_) ⟨_, _, rfl, rfl, rfl⟩ (hg _ _ _ _ _ _ _ _ _) (ht _ _ _ _ _ _ _ _ _ (gen_room hr rfl (by show (3 : Nat) ≤ 3; decide))) (he _ _ _ _ _ _ _ _ _ (gen_room hr rfl (by show (3 : Nat) ≤ 3; decide))) turn
      (inv_gens (gen_start (s' := { s2 with heap := h'.push _, toks := tk + 1 + 1 + 1, gens := s2.gens.push _ }) (a := h'.objs.size) I3 S.blk S.cell hN (fun b hb => ⟨f3 b hb, hsz2 b hb⟩) rfl rfl rfl rfl rfl rfl ?_ hr.hd rfl gb (keep5 _) ⟨_, Heap.Ns.push hn' _⟩ (Heap.get?_push_size _ rfl) hlt (fun v z => by cases z)) (allBare_setGen (s := { s2 with heap := h'.push _, toks := tk + 1 + 1 + 1, gens := s2.gens.push _ }) gb rfl))
      (T.keep _ _ _ st3 fun b hb u e => keep5 _ b u e) (fun b hb => (f3 b hb).1) w0
    · have h1 := hsz2 b hb
      rw [z] at h1
      exact absurd (Nat.lt_trans h1 hlt) (Nat.lt_irrefl _)
    · exact gen_frames I3.ok.frames
  cases hf : codeAmong gpos ps.toList with
  | none =>
    refine wpAny_genexprCodeX hcode (cd.code hPs hTr) (cd.tab hPs) hf fun c' h' tk hx hge hlt hco' _ htab' _ => ?_
    obtain ⟨o1, vs, f1, tf, fl, tg1, inF, tx, tt1, op, _, _, _, _, _, _, _, _, _, htr, _⟩ := hco'
    exact cont _ h' tk _ hx (Nat.le_trans hge (Nat.le_of_lt hlt)) htab'.2 ⟨_, rfl⟩ htr
  | some cv =>
    refine wpAny_genexprCode_hit hcode (cd.code hPs hTr) hf ?_
    exact cont cv s2.heap s2.toks ps (Heap.ExtBut.refl _ _) (Nat.le_refl _) hPs ⟨#[], by simp⟩ hTr

/-- all(elt for tg in iter if ..) -/
theorem pe_allG (hr : Room (j + 1) X.A) (hN : X.N.Nodup) (hgl : Gl X "all") (hm : X.mg "all" = none) (hb : bootBuiltins "all" = some (.builtin "all")) (TB : TabB X.base X.mg c P) (hcode : X.env.code = .ref c) (S : GScp X sc own) (hi : PI X tg iter wi)
    (hg : ∀ (s : Shared) (H : Hp) (cl : List (Str × Addr)) (C : Addr) (code : Value) (fp : List Addr) (a : Addr) (o : Obj) (B : Around), PG (gcx X s H sc (genEnv sc cl C code builtinsNs X.env) fp a o B) tg gt)
    (ht : ∀ (s : Shared) (H : Hp) (cl : List (Str × Addr)) (C : Addr) (code : Value) (fp : List Addr) (a : Addr) (o : Obj) (B : Around), Room j B → PTs (gcx X s H sc (genEnv sc cl C code builtinsNs X.env) fp a o B) ifs tt)
    (he : ∀ (s : Shared) (H : Hp) (cl : List (Str × Addr)) (C : Addr) (code : Value) (fp : List Addr) (a : Addr) (o : Obj) (B : Around), Room j B → PE (gcx X s H sc (genEnv sc cl C code builtinsNs X.env) fp a o B) elt te)
    (hs : ∀ v, genFold iter X.env v = pure v := by intro _; rfl)
    (hst : starEach [.GeneratorExp elt [⟨tg, iter, ifs, 0⟩] sc gpos] X.env = (false, eval (.GeneratorExp elt [⟨tg, iter, ifs, 0⟩] sc gpos) X.env) :: starEach [] X.env := by rfl) :
    PE X (.Call (.Name "all" p) [.GeneratorExp elt [⟨tg, iter, ifs, 0⟩] sc gpos] [] pos) (tGen true P wi gt tt te (own.map (·.2))) := by
  refine ⟨fun pins s σ H Q I h => ?_⟩
  refine wpAny_Call_Name_kw (ld_blt I hgl hm hb ?_)
  refine PyProof.Rows.callWith_builtin1 ?_ hst (by rfl)
  rw [hst]
  show wpAny _ _ (spliced ((false, eval (.GeneratorExp elt [⟨tg, iter, ifs, 0⟩] sc gpos) X.env) :: backTo pos (starEach [] X.env))) _ _ s
  refine Calls.spliced_cons (gen_made hr hN TB hcode S hi hg ht he hs I h fun a g n s5 hL => ?_)
  refine Calls.spliced_nil ?_
  refine call_all_live hr.hd (by have := hr.dp; omega) hL fun b s' hf => ?_
  obtain ⟨H', I', q⟩ := hf
  exact ⟨.bl b, H', I', rfl, q⟩
/-- any(elt for tg in iter if ..) -/
theorem pe_anyG (hr : Room (j + 1) X.A) (hN : X.N.Nodup) (hgl : Gl X "any") (hm : X.mg "any" = none) (hb : bootBuiltins "any" = some (.builtin "any")) (TB : TabB X.base X.mg c P) (hcode : X.env.code = .ref c) (S : GScp X sc own) (hi : PI X tg iter wi)
    (hg : ∀ (s : Shared) (H : Hp) (cl : List (Str × Addr)) (C : Addr) (code : Value) (fp : List Addr) (a : Addr) (o : Obj) (B : Around), PG (gcx X s H sc (genEnv sc cl C code builtinsNs X.env) fp a o B) tg gt)
    (ht : ∀ (s : Shared) (H : Hp) (cl : List (Str × Addr)) (C : Addr) (code : Value) (fp : List Addr) (a : Addr) (o : Obj) (B : Around), Room j B → PTs (gcx X s H sc (genEnv sc cl C code builtinsNs X.env) fp a o B) ifs tt)
    (he : ∀ (s : Shared) (H : Hp) (cl : List (Str × Addr)) (C : Addr) (code : Value) (fp : List Addr) (a : Addr) (o : Obj) (B : Around), Room j B → PE (gcx X s H sc (genEnv sc cl C code builtinsNs X.env) fp a o B) elt te)
    (hs : ∀ v, genFold iter X.env v = pure v := by intro _; rfl)
    (hst : starEach [.GeneratorExp elt [⟨tg, iter, ifs, 0⟩] sc gpos] X.env = (false, eval (.GeneratorExp elt [⟨tg, iter, ifs, 0⟩] sc gpos) X.env) :: starEach [] X.env := by rfl) :
    PE X (.Call (.Name "any" p) [.GeneratorExp elt [⟨tg, iter, ifs, 0⟩] sc gpos] [] pos) (tGen false P wi gt tt te (own.map (·.2))) := by
  refine ⟨fun pins s σ H Q I h => ?_⟩
  refine wpAny_Call_Name_kw (ld_blt I hgl hm hb ?_)
  refine PyProof.Rows.callWith_builtin1 ?_ hst (by rfl)
  rw [hst]
  show wpAny _ _ (spliced ((false, eval (.GeneratorExp elt [⟨tg, iter, ifs, 0⟩] sc gpos) X.env) :: backTo pos (starEach [] X.env))) _ _ s
  refine Calls.spliced_cons (gen_made hr hN TB hcode S hi hg ht he hs I h fun a g n s5 hL => ?_)
  refine Calls.spliced_nil ?_
  refine call_any_live hr.hd (by have := hr.dp; omega) hL fun b s' hf => ?_
  obtain ⟨H', I', q⟩ := hf
  exact ⟨.bl b, H', I', rfl, q⟩
end
end Rd

namespace Rd
open PySem PySem.Spec PyProof.Rows L2 GxR

/-! ### heaps: all that was tracked is as it was, but for the tables of the defs that hold a generator expression -/
def Tb (Ps : List Addr) (H : Hp) : Prop := ∀ P ∈ Ps, TabG H P
def Kp (Ps : List Addr) (H H' : Hp) : Prop := Tb Ps H' ∧ ∀ b o, b ∉ Ps → H b = some o → H' b = some o
theorem Kp.refl {Ps : List Addr} {H : Hp} (t : Tb Ps H) : Kp Ps H H := ⟨t, fun _ _ _ e => e⟩
theorem Kp.trans {Ps : List Addr} {H H1 H2 : Hp} (a : Kp Ps H H1) (b : Kp Ps H1 H2) : Kp Ps H H2 := ⟨b.1, fun c o hc e => b.2 c o hc (a.2 c o hc e)⟩
theorem Tb.notin {Ps : List Addr} {H : Hp} (t : Tb Ps H) {b : Addr} {o : HO} (e : H b = some o) (ho : ∀ ps, o ≠ .tbl ps) : b ∉ Ps := fun hb => by
  obtain ⟨ps, h1, _⟩ := t b hb
  rw [e] at h1
  exact ho ps (Option.some.inj h1)
theorem Tb.none {Ps : List Addr} {H : Hp} (t : Tb Ps H) {b : Addr} (e : H b = Option.none) : b ∉ Ps := fun hb => by
  obtain ⟨ps, h1, _⟩ := t b hb
  rw [e] at h1
  cases h1
theorem Tb.same {Ps : List Addr} {H H' : Hp} (t : Tb Ps H) (s : Same H H') : Tb Ps H' := fun P hP => by
  obtain ⟨ps, h1, h2⟩ := t P hP
  exact ⟨ps, s _ _ h1, h2⟩
theorem Kp.same {Ps : List Addr} {H H' : Hp} (t : Tb Ps H) (s : Same H H') : Kp Ps H H' := ⟨t.same s, fun b o _ e => s b o e⟩
theorem Kp.at {Ps : List Addr} {H H' : Hp} (t : Tb Ps H) (k : Kp Ps H H') {b : Addr} {o : HO} (e : H b = some o) (ho : ∀ ps, o ≠ .tbl ps) : H' b = some o := k.2 b o (t.notin e ho) e
theorem Kp.seq {Ps : List Addr} {H H' : Hp} {K : PySem.W.Frag} {a : Addr} {xs : List V} (t : Tb Ps H) (k : Kp Ps H H') (h : SqL K H a xs) : SqL K H' a xs := by
  rcases h with (h | ⟨o, h⟩) | h
  · exact .inl (.inl (k.at t h fun _ z => by cases z))
  · exact .inl (.inr ⟨o, k.at t h fun _ z => by cases z⟩)
  · exact .inr h
theorem Kp.seqT {Ps : List Addr} {H H' : Hp} {K : PySem.W.Frag} {a : Addr} {xs : List V} (t : Tb Ps H) (k : Kp Ps H H') (h : SqT K H a xs) : SqT K H' a xs := by
  rcases h with (h | ⟨o, h⟩) | h
  · exact .inl (.inl (k.at t h fun _ z => by cases z))
  · exact .inl (.inr ⟨o, k.at t h fun _ z => by cases z⟩)
  · exact .inr h
theorem same_upd {H : Hp} {p : Addr} {o : HO} (h : H p = Option.none) : Same H (upd H p o) := fun b x e => by
  rw [upd_ne (ne_of_none e h)]
  exact e
theorem Kp.new {Ps : List Addr} {H : Hp} (t : Tb Ps H) {p : Addr} {o : HO} (h : H p = Option.none) : Kp Ps H (upd H p o) := Kp.same t (same_upd h)
theorem Kp.tab {Ps : List Addr} {P : Addr} {H H' : Hp} (t : Tb Ps H) (hP : P ∈ Ps) (h : Tabbed P H H') : Kp Ps H H' := by
  refine ⟨fun p hp => ?_, fun b o hb e => ?_⟩
  · by_cases z : p = P
    · rw [z]
      exact h.1
    · obtain ⟨ps, h1, h2⟩ := t p hp
      exact ⟨ps, (h.2 p z).trans h1, h2⟩
  · have z : b ≠ P := fun z => hb (by rw [z]; exact hP)
    exact (h.2 b z).trans e
/-- what was free before is free or new -/
theorem Kp.free {Ps : List Addr} {H H' : Hp} (t : Tb Ps H) (k : Kp Ps H H') {l : Addr} (h : H' l = Option.none) : H l = Option.none := by
  cases q : H l with
  | none => rfl
  | some o =>
    by_cases hl : l ∈ Ps
    · obtain ⟨ps, h1, _⟩ := k.1 l hl
      rw [h] at h1
      cases h1
    · rw [k.2 l o hl q] at h
      cases h

/-! ### a def whose code object is known -/
theorem okC {CX : CXT} {P : Program} {w : World} {K : PySem.W.Frag} {mg : Str → Option Value} {base : Heap} {x qual : Str} {params : Arguments} {body : List Stmt} {scope : Scope} {f : Addr} {fd : FuncData} {N ps : List Str} {k : Nat} {sp : Sp} {p : He.Defn}
    (F : FunD K x qual params body scope [] [] f fd) (hf : f = He.fAd K p) (S : FnScope N ps scope) (len : ∀ vs H Q E, sp vs H Q E → vs.length = ps.length)
    (hbody : ∀ (A : Around) (outer : List Env) (s : Shared) (H : Hp) (vs : List V) (Q : VK) (E : XK), Room k (A.deeper (envOfC qual scope s.heap.objs.size f (.ref (He.codeOf K p)))) → sp vs H Q E →
      ∃ t, PSs (cxOf CX P w K mg base N qual scope f (.ref (He.codeOf K p)) A outer s H E) body t ∧ t { nx := fun _ H' => Q .non H', rt := Q } (start N vs) H) : FnOk P w K mg base CX (k + 1) f fd ps sp := by
  obtain ⟨oc, od, dV, kV, doc, pm, an, cdv, ct, osl, rfl, lk, hcd, _, _⟩ := F.ex
  obtain ⟨c, rfl⟩ := He.codeIn_ref hcd
  have e : He.codeOf K p = c := He.codeOf_eq (by rw [← hf]; exact lk) rfl
  rw [e] at hbody
  exact fn_of lk hcd S len fun A outer s H vs Q E hr hsp => hbody A outer s H vs Q E hr hsp

/-! ### readings of generator expressions -/
theorem take_all {α : Type} {l : List α} {pb : α → Bool} {i : Nat} {x : α} (h : l[i]? = some x) (ht : (l.take i).all pb = true) : (l.take (i + 1)).all pb = pb x := by
  rw [List.take_add_one, List.all_append, ht, h]
  simp
theorem all_fail {α : Type} {l : List α} {pb : α → Bool} {i : Nat} {x : α} (h : l[i]? = some x) (hx : pb x = false) : l.all pb = false := by
  cases e : l.all pb with
  | false => rfl
  | true =>
    have := List.all_eq_true.mp e x (List.mem_of_getElem? h)
    rw [hx] at this
    cases this
/-- all(.. for x in text) -/
theorem read_all_str {x : Str} {pb : Nat → Bool} {Pv : Hp → Prop} {g : TG} {te : TE} {vs : List Nat} {σ : L2.St} {H2 : Hp} {Q : VK} (h0 : Pv H2)
    (he : ∀ (i c : Nat) (H : Hp) (R : V → Hp → Prop), x.cps.toList[i]? = some c → Pv H → (∀ H4, Pv H4 → R (.bl (pb c)) H4) → g (.str ⟨#[c]⟩) (wipe σ vs) H fun σ2 H2 => wipe σ2 vs = wipe σ vs ∧ te σ2 H2 R) (hd : ∀ H, Pv H → Q (.bl (x.cps.toList.all pb)) H) :
    ∃ W : Nat → Nat → Hp → Prop, (∃ m, W 0 m H2) ∧ ∀ i m H, W i m H →
      ((Its x).stop i H ∧ Q (.bl true) H) ∨ ((Its x).go i H ∧ ∃ Nx : Hp → Prop, (∀ H', Nx H' → ∃ m', m' < m ∧ W (i + 1) m' H') ∧ ∀ v H', (Its x).yld i H v H' → g v (wipe σ vs) H' fun σ2 H2 => wipe σ2 vs = wipe σ vs ∧ tYes σ2 H2 fun b H3 =>
        if b = true then te σ2 H3 fun y H4 => ∃ c, y = .bl c ∧ (c = true → Nx H4) ∧ (c = (!true) → Q (.bl (!true)) H4) else Nx H3) := by
  have esz : x.cps.size = x.cps.toList.length := by simp
  refine ⟨fun i m H => m = x.cps.size - i ∧ i ≤ x.cps.size ∧ Pv H ∧ (x.cps.toList.take i).all pb = true, ⟨x.cps.size, by simp, Nat.zero_le _, h0, rfl⟩, ?_⟩
  rintro i m H ⟨rfl, hi, hp, ha⟩
  by_cases hlt : i < x.cps.size
  · refine .inr ⟨hlt, fun H' => Pv H' ∧ (x.cps.toList.take (i + 1)).all pb = true, fun H' q => ⟨x.cps.size - (i + 1), by omega, rfl, hlt, q⟩, fun v H' y => ?_⟩
    obtain ⟨rfl, c, hc, rfl⟩ := y
    have hc' : x.cps.toList[i]? = some c := by rw [Array.getElem?_toList]; exact hc
    refine he i c H' _ hc' hp fun H4 p4 => ⟨pb c, rfl, fun z => ⟨p4, ?_⟩, fun z => ?_⟩
    · rw [take_all hc' ha]
      exact z
    · have z : pb c = false := z
      have q5 := hd H4 p4
      rw [all_fail hc' z] at q5
      exact q5
  · have e : i = x.cps.size := by omega
    subst e
    refine .inl ⟨Nat.le_refl _, ?_⟩
    have q := hd H hp
    rw [List.take_of_length_le (by omega)] at ha
    rw [ha] at q
    exact q
/-- all(.. for x in xs), xs a tuple -/
theorem read_all_tup {K : PySem.W.Frag} {a : Addr} {xs : List V} {pb : V → Bool} {Pv : Hp → Prop} {g : TG} {te : TE} {vs : List Nat} {σ : L2.St} {H2 : Hp} {Q : VK} (h0 : Pv H2) (hl : ∀ H, Pv H → SqT K H a xs)
    (he : ∀ (i : Nat) (v : V) (H : Hp) (R : V → Hp → Prop), xs[i]? = some v → Pv H → (∀ H4, Pv H4 → R (.bl (pb v)) H4) → g v (wipe σ vs) H fun σ2 H2 => wipe σ2 vs = wipe σ vs ∧ te σ2 H2 R) (hd : ∀ H, Pv H → Q (.bl (xs.all pb)) H) :
    ∃ W : Nat → Nat → Hp → Prop, (∃ m, W 0 m H2) ∧ ∀ i m H, W i m H →
      ((Itt K a).stop i H ∧ Q (.bl true) H) ∨ ((Itt K a).go i H ∧ ∃ Nx : Hp → Prop, (∀ H', Nx H' → ∃ m', m' < m ∧ W (i + 1) m' H') ∧ ∀ v H', (Itt K a).yld i H v H' → g v (wipe σ vs) H' fun σ2 H2 => wipe σ2 vs = wipe σ vs ∧ tYes σ2 H2 fun b H3 =>
        if b = true then te σ2 H3 fun y H4 => ∃ c, y = .bl c ∧ (c = true → Nx H4) ∧ (c = (!true) → Q (.bl (!true)) H4) else Nx H3) := by
  refine ⟨fun i m H => m = xs.length - i ∧ i ≤ xs.length ∧ Pv H ∧ (xs.take i).all pb = true, ⟨xs.length, by simp, Nat.zero_le _, h0, rfl⟩, ?_⟩
  rintro i m H ⟨rfl, hi, hp, ha⟩
  by_cases hlt : i < xs.length
  · refine .inr ⟨⟨xs, xs[i], hl H hp, List.getElem?_eq_getElem hlt⟩, fun H' => Pv H' ∧ (xs.take (i + 1)).all pb = true, fun H' q => ⟨xs.length - (i + 1), by omega, rfl, hlt, q⟩, fun v H' y => ?_⟩
    obtain ⟨rfl, y⟩ := y
    have hc' : xs[i]? = some v := y xs (hl H' hp)
    refine he i v H' _ hc' hp fun H4 p4 => ⟨pb v, rfl, fun z => ⟨p4, ?_⟩, fun z => ?_⟩
    · rw [take_all hc' ha]
      exact z
    · have z : pb v = false := z
      have q5 := hd H4 p4
      rw [all_fail hc' z] at q5
      exact q5
  · have e : i = xs.length := by omega
    subst e
    refine .inl ⟨⟨xs, hl H hp, Nat.le_refl _⟩, ?_⟩
    have q := hd H hp
    rw [List.take_of_length_le (Nat.le_refl _)] at ha
    rw [ha] at q
    exact q
end Rd

/-! list(reversed(text)) -/
namespace Rs
open PySem PySem.Spec PyProof.Rows RT
theorem norev_str : typeLookup (.type "str") "__reversed__" = pure none := by rw [typeLookup_type, builtinLookup_eq_fast]; kernel_rfl
theorem item_str : typeLookup (.type "str") "__getitem__" = pure (some (.builtin "str.__getitem__")) := by rw [typeLookup_type, builtinLookup_eq_fast]; kernel_rfl
theorem nolen_rev : typeLookup (.type "reversed") "__len__" = pure none := by rw [typeLookup_type, builtinLookup_eq_fast]; kernel_rfl
theorem hint_rev : typeLookup (.type "reversed") "__length_hint__" = pure (some (.builtin "reversed.__length_hint__")) := by rw [typeLookup_type, builtinLookup_eq_fast]; kernel_rfl
theorem slot_hint : Slot "reversed" "__length_hint__" "reversed.__length_hint__" :=
  .of (owner := "reversed") (n := "__length_hint__") hint_rev (by decide +kernel) (by decide +kernel) (by decide +kernel) (by first | exact .inl (by decide +kernel) | exact .inr (by decide +kernel)) (by rw [isSubtype_type]; kernel_rfl)
theorem entry_hint : entryFor table "reversed.__length_hint__" = some Builtin.«reversed.__length_hint__» := entryFor_of_tree (by kernel_rfl)
theorem args_hint (a : Value) : argsOk "reversed.__length_hint__" ⟨[a], []⟩ := by
  unfold argsOk
  rw [signature?_of (id := "reversed.__length_hint__") (n := ['_', '_', 't', 'n', 'i', 'h', '_', 'h', 't', 'g', 'n', 'e', 'l', '_', '_']) (o := ['d', 'e', 's', 'r', 'e', 'v', 'e', 'r']) (by kernel_rfl) owner_rt]
  kernel_rfl
theorem desc_hint : typeOf (.builtin "reversed.__length_hint__") = pure (.type "method_descriptor") := by show builtinType _ = _; rw [builtinType_eq_fast]; kernel_rfl
theorem sub_str_dict : isSubtype (.type "str") (.type "dict") = pure false := by rw [isSubtype_type]; kernel_rfl
def rsObj (x : Str) (t : Tok) (i : Int) : Obj := { cls := .type "reversed", data := .fields #[.str x t, rawInt i] }
def IsRs (h : Heap) (a : Addr) (x : Str) (t : Tok) (i : Int) : Prop := ∃ o, h.get? a = some o ∧ o.cls = .type "reversed" ∧ o.data = .fields #[.str x t, rawInt i]
theorem IsRs.at {h h' : Heap} {a : Addr} {x : Str} {t : Tok} {i : Int} (z : IsRs h a x t i) (e : ∀ o, h.get? a = some o → h'.get? a = some o) : IsRs h' a x t i := let ⟨o, ho, r⟩ := z; ⟨o, e _ ho, r⟩
section
variable {prog : Program} {w : World} {A : Around} {E : Value → Shared → Prop} {s : Shared} {x : Str} {t : Tok}
theorem IsRs.typeIs {a : Addr} {i : Int} (z : IsRs s.heap a x t i) : s.TypeIs (.ref a) "reversed" := let ⟨o, ho, hc, _⟩ := z; ⟨o, ho, hc⟩
theorem line_index {n : Nat} (h : n ≤ sizeLine) : ¬ ((n : Int) ≥ 2 ^ 63) := by
  rw [sizeLine_eq] at h
  omega
theorem code_rs {Q1 : Value → Shared → Prop} (hz : x.length ≤ sizeLine) (h : Q1 (.ref s.heap.objs.size) { s with heap := s.heap.push (rsObj x t ((x.length : Int) - 1)), toks := s.toks + 1 + 1 }) :
    codeAny (model prog w) A (.call (.builtin "reversed.__new__") ⟨[.type "reversed", .str x t], []⟩) (wants Q1 E) s := by
  have hT : s.TypeIs (.str x t) "str" := rfl
  refine codeAny_of_tree ?_
  show wpAny _ A.in1 (do checkBuiltinCall "reversed.__new__" ⟨[.type "reversed", .str x t], []⟩; again (.builtin "reversed.__new__" ⟨[.type "reversed", .str x t], []⟩)) _ _ s
  refine wpAny_bind (wpAny_of_eq (F.newCall_reversed_1 _) (wpAny_pure ⟨plainId_quiet F.plain_reversed_new _, codeAny_builtin F.entry_reversed_new ?_⟩))
  rw [Around.under_plainId F.plain_reversed_new _]
  unfold Builtin.«reversed.__new__»
  refine wpAny_bind (wpAny_of_eq (newClass_reversed _) ?_)
  try dsimp only
  refine wpAny_bind (wpAny_of_eq (a := ()) (by first | rfl | kernel_rfl) ?_)
  try dsimp only
  refine wpAny_bind (wpAny_of_eq (a := ()) (by first | rfl | kernel_rfl) ?_)
  try dsimp only
  refine wpAny_bind (wpAny_specialOf hT norev_str ?_)
  try dsimp only
  refine wpAny_bind ?_
  wp_delta
  refine wpAny_bind (wpAny_isInstance (T := "str") (U := "dict") (b := false) hT sub_str_dict ?_)
  try dsimp only
  try rw [if_neg Bool.false_ne_true]
  try dsimp only
  refine wpAny_bind (wpAny_specialOf hT item_str ?_)
  try dsimp only
  try rw [if_pos (by decide +kernel)]
  refine wpAny_pure ?_
  try dsimp only
  try rw [if_neg (by decide)]
  try dsimp only
  refine wpAny_bind (len_str (line_index hz) ?_)
  refine wpAny_bind (wpAny_of_eq (a := some ((x.length : Nat) : Int)) rfl ?_)
  try dsimp only
  refine wpAny_bind ?_
  show wpAny _ _ (newObj (.type "reversed") (.fields #[.str x t, rawInt ((x.length : Int) - 1)])) _ _ _
  refine wpAny_newObj_type ?_
  exact wpAny_pure h
theorem call_rs {Q : Value → Shared → Prop} (hz : x.length ≤ sizeLine) (h : Q (.ref s.heap.objs.size) { s with heap := s.heap.push (rsObj x t ((x.length : Int) - 1)), toks := s.toks + 1 + 1 }) :
    wpAny (model prog w) A (call (.type "reversed") [.str x t]) Q E s := by
  refine callType_codes (Q₁ := fun obj s₁ => s₁.TypeIs obj "reversed" ∧ Q obj s₁) called_rt (F.typeCall_reversed_1 _) F.entry_object_init (code_rs (A := A.in1) hz ⟨⟨_, Heap.get?_push_size _ rfl, rfl⟩, h⟩) fun obj s1 h1 => ?_
  exact ⟨h1.1, F.args_object_init_2 obj _, object_init_meets called_rt.init.lookup called_rt.made (by decide) prog w A.in1 _ s1 ⟨h1.1, rfl, h1.2⟩⟩
theorem next_rs {it : Addr} {i : Nat} {c : Nat} {Q : Option Value → Shared → Prop} (hit : IsRs s.heap it x t (i : Int)) (hc0 : x.cps[i]? = some c) (hz : x.length ≤ sizeLine)
    (hQ : ∀ h' u k, IsRs h' it x t ((i : Int) - 1) → Heap.SameBut it s.heap h' → Q (some (.str ⟨#[c]⟩ u)) { s with heap := h', toks := k }) : wpAny (model prog w) A (pyNext (.ref it)) Q E s := by
  obtain ⟨o, ho, hc, hd⟩ := id hit
  have hi : i < x.cps.size := (Array.getElem?_eq_some_iff.mp hc0).1
  have hT : s.TypeIs (.str x t) "str" := rfl
  have hz2 := hz
  rw [sizeLine_eq] at hz2
  have hi2 : i < x.length := hi
  unfold pyNext
  refine wpAny_bind (wpAny_attempt (wpAny_callSpecial?_slot (name := Str.ofString "__next__") hit.typeIs slot_rt_next (wpAny_call_entry slot_rt_next hit.typeIs entry_rt_next ?_ (args_rt_next _))))
  unfold Builtin.«reversed.__next__»
  refine wpAny_bind (wpAny_of_eq (a := (Value.ref it, [])) rfl ?_)
  try dsimp only
  refine wpAny_bind (wpAny_field ho hd (x := .str x t) rfl ?_)
  try dsimp only
  refine wpAny_bind (wpAny_field ho hd (x := rawInt (i : Int)) rfl ?_)
  show wpAny _ _ (if (i : Int) < 0 then _ else _) _ _ s
  rw [if_neg (by omega)]
  try dsimp only
  refine wpAny_bind (wpAny_specialOf hT item_str ?_)
  try dsimp only
  try rw [if_neg (by decide)]
  try dsimp only
  refine wpAny_bind (wpAny_mkInt ?_)
  refine wpAny_bind (wpAny_attempt ?_)
  have fin : seqIndex? (i : Int) x.length = some i := seqIndex_of (by omega) (by omega)
  refine getItem_str (s := { s with toks := s.toks + 1 }) (c := c) (by rw [decide_eq_false (by omega), decide_eq_false (by omega)]; rfl) (by rw [fin]; exact hc0) ?_
  try dsimp only
  refine wpAny_bind (wpAny_field (s := { s with toks := s.toks + 1 + 1 }) ho hd (x := rawInt (i : Int)) rfl ?_)
  try dsimp only
  refine wpAny_bind (wpAny_setField (s := { s with toks := s.toks + 1 + 1 }) ho hd (by simp) ?_)
  first
  | refine wpAny_pure ⟨_, rfl, wpAny_pure (hQ _ _ _ ?_ (Heap.SameBut.update ..))⟩
  | refine wpAny_bind (wpAny_pure (wpAny_pure ⟨_, rfl, wpAny_pure (hQ _ _ _ ?_ (Heap.SameBut.update ..))⟩))
  exact ⟨_, Heap.get?_update_self _ ho (Obj.isFreed_of_fields (Obj.data_mapFields hd _)), (Obj.cls_mapFields ..).trans hc, by
    rw [Obj.data_mapFields hd]; simp⟩
theorem end_rs {it : Addr} {Q : Option Value → Shared → Prop} (hh : A.handled = none) (hit : IsRs s.heap it x t (-1)) (hQ : ∀ h', Heap.ExtBut it s.heap h' → Q none { s with heap := h' }) : wpAny (model prog w) A (pyNext (.ref it)) Q E s := by
  obtain ⟨o, ho, hc, hd⟩ := id hit
  unfold pyNext
  refine wpAny_bind (wpAny_attempt (wpAny_callSpecial?_slot (name := Str.ofString "__next__") hit.typeIs slot_rt_next (wpAny_call_entry slot_rt_next hit.typeIs entry_rt_next ?_ (args_rt_next _))))
  unfold Builtin.«reversed.__next__»
  refine wpAny_bind (wpAny_of_eq (a := (Value.ref it, [])) rfl ?_)
  try dsimp only
  refine wpAny_bind (wpAny_field ho hd (x := .str x t) rfl ?_)
  try dsimp only
  refine wpAny_bind (wpAny_field ho hd (x := rawInt (-1)) rfl ?_)
  show wpAny _ _ (if (-1 : Int) < 0 then _ else _) _ _ s
  rw [if_pos (by decide)]
  try dsimp only
  refine wpAny_bind (wpAny_rule ?_)
  refine wpAny_bind ?_
  wp_delta
  refine wpAny_bind (wpAny_setField ho hd (by simp) ?_)
  have ho2 := Heap.get?_update_self (Obj.mapFields (·.setIfInBounds 1 (rawInt (-1)))) ho (Obj.isFreed_of_fields (Obj.data_mapFields hd _))
  refine wpAny_setField (s := { s with heap := s.heap.update it (Obj.mapFields (·.setIfInBounds 1 (rawInt (-1)))) }) ho2 (Obj.data_mapFields hd _) (by simp) ?_
  try dsimp only
  first
  | show wpAny _ _ (newExc (.type "StopIteration") [] >>= _) _ _ _
  | (refine wpAny_bind ?_; show wpAny _ _ (newExc (.type "StopIteration") [] >>= _) _ _ _)
  | (refine wpAny_bind ?_; wp_delta; show wpAny _ _ (newExc (.type "StopIteration") [] >>= _) _ _ _)
  refine wpAny_bind ?_
  simp only [newExc, newTuple]
  refine wpAny_bind (wpAny_newObj_type ?_ (by size_fits))
  refine wpAny_bind (m := firstArgMember _ _) (wpAny_of_eq (a := Value.none) (by first | rfl | (simp only [firstArgMember]; rfl)) ?_)
  refine wpAny_newObj_type ?_ (by size_fits)
  simp only [raiseNew]
  refine wpAny_bind (wpAny_handled ?_)
  first | rw [show A.in1.handled = none from hh] | rw [hh]
  refine wpAny_bind (wpAny_pure (wpAny_throw ?_))
  refine wpAny_bind (wpAny_isInstance (T := "StopIteration") (b := true) ⟨_, Heap.get?_push_size _ rfl, rfl⟩ isSubtype_stop ?_)
  refine wpAny_pure (hQ _ ?_)
  refine ((?_ : Heap.ExtBut it s.heap _).push _).push _
  exact fun b ob hb e => (Heap.get?_update_other _ _ (Ne.symm hb)).trans ((Heap.get?_update_other _ _ (Ne.symm hb)).trans e)
theorem iter_rs {it : Addr} {i : Int} {Q : Value → Shared → Prop} (hit : IsRs s.heap it x t i) (h : Q (.ref it) s) : wpAny (model prog w) A (pyIter (.ref it)) Q E s := by
  refine wpAny_pyIter_slot hit.typeIs slot_rt_iter (wpAny_call_entry slot_rt_iter hit.typeIs entry_rt_iter ?_ (args_rt_iter _))
  show wpAny _ _ (ret (.ref it)) _ _ s
  exact wpAny_pure ⟨_, rfl, "reversed", _, hit.typeIs, slot_rt_next.lookup, h⟩
end
theorem walks_rs {prog : Program} {w : World} {A : Around} (hh : A.handled = none) (it : Addr) (x : Str) (t : Tok) (hz : x.length ≤ sizeLine) :
    Walks prog w A it [it] [it] x.cps.size (fun i v => ∃ c u, x.cps[x.cps.size - 1 - i]? = some c ∧ v = .str ⟨#[c]⟩ u) (fun i h => i ≤ x.cps.size ∧ IsRs h it x t ((x.cps.size : Int) - 1 - (i : Int))) where
  sub := fun b hb => hb
  frame := fun _ _ _ z hk => ⟨z.1, z.2.at fun o e => hk it (by simp) o e⟩
  item := fun i s Q E hi z hQ => by
    have e : (x.cps.size : Int) - 1 - (i : Int) = ((x.cps.size - 1 - i : Nat) : Int) := by omega
    have hit := z.2
    rw [e] at hit
    have hx : x.cps[x.cps.size - 1 - i]? = some (x.cps[x.cps.size - 1 - i]'(by omega)) := Array.getElem?_eq_getElem (by omega)
    refine next_rs hit hx hz fun h' u k hit' hs' => ?_
    have e2 : ((x.cps.size - 1 - i : Nat) : Int) - 1 = (x.cps.size : Int) - 1 - ((i + 1 : Nat) : Int) := by omega
    rw [e2] at hit'
    exact hQ _ h' k ⟨_, _, hx, rfl⟩ ⟨hi, hit'⟩ fun b o hb eo => hs'.extBut b o (fun h => hb (by simp [h])) eo
  done := fun s Q E z hQ => by
    have e : (x.cps.size : Int) - 1 - (x.cps.size : Int) = -1 := by omega
    have hit := z.2
    rw [e] at hit
    exact end_rs hh hit fun h' he' => hQ h' s.toks fun b o hb eo => he' b o (fun h => hb (by simp [h])) eo
  self := fun _ _ _ _ z hQ => iter_rs z.2 hQ

section
variable {prog : Program} {w : World} {A : Around} {E : Value → Shared → Prop} {s : Shared} {x : Str} {t : Tok}
theorem code_hint {it : Addr} {i : Nat} {Q : Value → Shared → Prop} (hit : IsRs s.heap it x t (i : Int)) (hi : i < x.length) (hz : x.length ≤ sizeLine) (hQ : ∀ u k, Q (.int ((i : Int) + 1) u) { s with toks := k }) :
    wpAny (model prog w) A (call (.builtin "reversed.__length_hint__") [.ref it]) Q E s := by
  obtain ⟨o, ho, hc, hd⟩ := id hit
  have hz2 := hz
  rw [sizeLine_eq] at hz2
  refine wpAny_call_entry slot_hint hit.typeIs entry_hint ?_ (args_hint _)
  unfold Builtin.«reversed.__length_hint__»
  refine wpAny_bind (wpAny_of_eq (a := Value.ref it) rfl ?_)
  try dsimp only
  refine wpAny_bind (wpAny_field ho hd (x := .str x t) rfl ?_)
  try dsimp only
  try rw [if_neg (by decide)]
  try dsimp only
  refine wpAny_bind (len_str (line_index hz) ?_)
  refine wpAny_bind (wpAny_of_eq (a := some ((x.length : Nat) : Int)) rfl ?_)
  try dsimp only
  refine wpAny_bind (wpAny_field (s := { s with toks := s.toks + 1 + 1 }) ho hd (x := rawInt (i : Int)) rfl ?_)
  show wpAny _ _ (if ((x.length : Nat) : Int) < (i : Int) + 1 then _ else _) _ _ _
  rw [if_neg (by omega)]
  show wpAny _ _ (retInt ((i : Int) + 1)) _ _ _
  exact wpAny_bind (wpAny_mkInt (wpAny_pure ⟨_, rfl, hQ _ _⟩))
/-- the length hint -/
theorem hint_rs {it : Addr} {i : Nat} {Q : Bool → Shared → Prop} (hit : IsRs s.heap it x t (i : Int)) (hi : i < x.length) (hz : x.length ≤ 1000000) (hQ : ∀ k, Q true { s with toks := k }) : wpAny (model prog w) A (Builtin.List.listLengthHint (.ref it)) Q E s := by
  obtain ⟨o, ho, hc, hd⟩ := id hit
  unfold Builtin.List.listLengthHint
  refine wpAny_bind (wpAny_specialOf hit.typeIs nolen_rev ?_)
  show wpAny _ _ (specialOf (Value.ref it) (Str.ofString "__length_hint__") >>= _) _ _ _
  refine wpAny_bind (wpAny_specialOf hit.typeIs hint_rev ?_)
  generalize hid : ("reversed.__length_hint__" : String) = id0
  wp_delta
  rw [show splitId id0 = some ("reversed", "__length_hint__") from by subst hid; decide +kernel]
  subst hid
  refine wpAny_bind (wpAny_isInstance (b := true) hit.typeIs (by rw [isSubtype_type]; kernel_rfl) ?_)
  try dsimp only
  rw [if_neg (show ¬ (!true) = true by decide)]
  rw [if_neg (by decide +kernel)]
  refine wpAny_bind (wpAny_rule ?_)
  refine wpAny_bind ?_
  unfold bindSpecial
  refine wpAny_bind (wpAny_of_eq desc_hint ?_)
  rw [if_pos (by decide +kernel)]
  refine wpAny_pure ?_
  try dsimp only
  refine wpAny_bind (wpAny_attempt (code_hint hit hi (Nat.le_trans hz (by decide)) fun u k => ?_))
  try dsimp only
  obtain ⟨j, hj⟩ : ∃ j : Int, j = (i : Int) + 1 := ⟨_, rfl⟩
  rw [← hj]
  refine wpAny_bind (wpAny_of_eq (show asInt? (.int j u) = pure (some j) from rfl) ?_)
  try dsimp only
  have h1 : Builtin.List.listFitsIndex j = true := by
    unfold Builtin.List.listFitsIndex
    rw [Bool.and_eq_true]
    exact ⟨decide_eq_true (by omega), decide_eq_true (by omega)⟩
  have h2 : Builtin.List.listTooLong j.toNat = false := by
    unfold Builtin.List.listTooLong
    exact decide_eq_false (by rw [sizeLine_eq]; omega)
  rw [if_neg (by rw [h1]; decide), if_neg (by omega), if_neg (by rw [h2]; decide)]
  have h3 : (j != 0) = true := by
    rw [bne_iff_ne]
    omega
  rw [h3]
  exact wpAny_pure (hQ k)
end

section
variable {prog : Program} {w : World} {A : Around} {E : Value → Shared → Prop} {s : Shared} {x : Str} {t : Tok}
/-- what is collected -/
abbrev RevAt (x : Str) (i : Nat) (v : Value) : Prop := ∃ c u, x.cps[x.cps.size - 1 - i]? = some c ∧ v = .str ⟨#[c]⟩ u
theorem extend_rs {R : Result → Shared → Prop} (hh : A.handled = none) {it S : Addr} {res : Value} {c0 : Nat} (hit : IsRs s.heap it x t ((x.cps.size : Int) - 1)) (h1 : 1 ≤ x.length) (hz : x.length ≤ 1000000) (hSI : S ≠ it) (hS : s.heap.get? S = some { cls := .type "list", data := .seq #[] c0 })
    (hR : ∀ h' tk acc' c', (∀ b o, b ≠ S → b ≠ it → s.heap.get? b = some o → h'.get? b = some o) → h'.get? S = some { cls := .type "list", dict := none, data := .seq acc' c', slots := #[] } → ItemsOf (RevAt x) acc' x.cps.size → R (.ok (.ret res)) { s with heap := h', toks := tk }) :
    wpAny (model prog w) A.in1 (Builtin.List.listExtendWith (.ref S) (.ref it) res)
      (fun fin s' => match fin with | .done f => R (.ok f) s' | .again c' => c'.quiet = true ∧ codeAny (model prog w) A c' R s') (fun e s' => R (.error e) s') s := by
  have hz2 : x.length ≤ sizeLine := Nat.le_trans hz (by decide)
  have W := (walks_rs (prog := prog) (w := w) (A := A.in1) hh it x t hz2).toS
  have hSf : S ∉ [it] := fun hm => hSI (List.mem_singleton.mp hm)
  have hx1 : 1 ≤ x.cps.size := h1
  have e0 : (x.cps.size : Int) - 1 = ((x.cps.size - 1 : Nat) : Int) := by omega
  unfold Builtin.List.listExtendWith
  refine wpAny_bind (wpAny_typeOf hit.typeIs ?_)
  have q1 : Builtin.List.listSameRef (.ref S) (.ref it) = false := by simp [Builtin.List.listSameRef, hSI]
  have q2 : (Value.type "reversed" == Value.type "list") = false := by decide
  have q3 : (Value.type "reversed" == Value.type "tuple") = false := by decide
  simp only [q1, q2, q3, Bool.or_false, Bool.false_eq_true, if_false]
  refine wpAny_bind (iter_rs hit ?_)
  refine wpAny_bind (wpAny_holding ?_)
  refine hint_rs (i := x.cps.size - 1) (by rw [← e0]; exact hit) (by show x.cps.size - 1 < x.cps.size; omega) hz fun k => ?_
  show wpAny _ A.in1 (rule "list.extend.makes-room" >>= fun _ => Builtin.List.listTouch (.ref S) >>= fun _ => again (.builtin "list.extend.loop" ⟨[.ref S, .ref it, res], []⟩)) _ _ _
  refine wpAny_bind (wpAny_rule ?_)
  refine wpAny_bind ?_
  show wpAny _ A.in1 (updateSeq S (·.push .none) >>= fun _ => updateSeq S (·.pop)) _ _ _
  refine wpAny_bind (wpAny_updateSeq (s := { s with toks := k }) hS rfl ?_)
  have hS2 := Heap.get?_update_self (Obj.mapSeq (·.push Value.none)) hS rfl
  refine wpAny_updateSeq (hz := by seq_fits) hS2 rfl ?_
  have hS3 := Heap.get?_update_self (Obj.mapSeq (·.pop)) hS2 rfl
  have oth : ∀ b o, b ≠ S → s.heap.get? b = some o → ((s.heap.update S (Obj.mapSeq (·.push Value.none))).update S (Obj.mapSeq (·.pop))).get? b = some o :=
    fun b o hb e => (Heap.get?_update_other _ _ (Ne.symm hb)).trans ((Heap.get?_update_other _ _ (Ne.symm hb)).trans e)
  have ez : (x.cps.size : Int) - 1 - ((0 : Nat) : Int) = (x.cps.size : Int) - 1 := by omega
  refine wpAny_pure ⟨plainId_quiet F.plain_extend_loop _, codeAny_extend_loopS W hz2 _ hSf _ x.cps.size 0 _ _ _ rfl (Nat.zero_le _) ⟨Nat.zero_le _, by rw [ez]; exact hit.at fun o e => oth it o (Ne.symm hSI) e⟩ hS3 (ItemsOf.nil _) fun s' acc' c' hm hS' hacc => ?_⟩
  rw [Moved.eq_with hm]
  refine hR s'.heap s'.toks acc' c' (fun b ob hb hi e => hm.heap b ob (fun hmem => ?_) (oth b ob hb e)) hS' hacc
  rcases List.mem_cons.mp hmem with e' | hmem
  · exact hb e'
  · exact hi (List.mem_singleton.mp hmem)
theorem call_list_rs {Q : Value → Shared → Prop} (hh : A.handled = none) {it : Addr} (hit : IsRs s.heap it x t ((x.cps.size : Int) - 1)) (h1 : 1 ≤ x.length) (hz : x.length ≤ 1000000)
    (hQ : ∀ h' tk acc' c', (∀ b o, b ≠ it → s.heap.get? b = some o → h'.get? b = some o) → h'.get? s.heap.objs.size = some { cls := .type "list", dict := none, data := .seq acc' c', slots := #[] } → ItemsOf (RevAt x) acc' x.cps.size → Q (.ref s.heap.objs.size) { s with heap := h', toks := tk }) :
    wpAny (model prog w) A (call (.type "list") [.ref it]) Q E s := by
  have hlt : it < s.heap.objs.size := let ⟨_, ho, _⟩ := hit; Heap.lt_size ho
  refine callType_codes (Q₁ := fun obj s₁ => obj = .ref s.heap.objs.size ∧ s₁ = { s with heap := s.heap.push { cls := .type "list", data := .seq #[] } }) F.called_list (F.typeCall_list_1 _) F.entry_list_init
    (code_list_new _ ⟨rfl, rfl⟩) fun obj s1 hs1 => ?_
  obtain ⟨rfl, rfl⟩ := hs1
  have hS : (s.heap.push { cls := .type "list", data := .seq #[] }).get? s.heap.objs.size = some { cls := .type "list", data := .seq #[] } := Heap.get?_push_size _ rfl
  refine ⟨⟨_, hS, rfl⟩, F.args_list_init_2 _ _, ?_⟩
  show wpAny _ A.in1.in1 (do let old ← Builtin.List.listItems (.ref s.heap.objs.size); Builtin.List.listUpdate (.ref s.heap.objs.size) (fun _ => #[]); letGo old.toList.reverse; Builtin.List.listExtendWith (.ref s.heap.objs.size) (.ref it) .none) _ _ _
  refine wpAny_bind ?_
  unfold Builtin.List.listItems
  refine wpAny_bind (wpAny_seqItems hS rfl (wpAny_pure ?_))
  show wpAny _ A.in1.in1 (updateSeq s.heap.objs.size (fun _ => #[]) >>= fun _ => letGo (#[] : Array Value).toList.reverse >>= fun _ => Builtin.List.listExtendWith (.ref s.heap.objs.size) (.ref it) .none) _ _ _
  refine wpAny_bind (wpAny_updateSeq hS rfl ?_)
  have hS2 := Heap.get?_update_self (Obj.mapSeq (fun _ => (#[] : Array Value))) hS rfl
  have oth : ∀ b o, b ≠ s.heap.objs.size → (s.heap.push { cls := .type "list", data := .seq #[] }).get? b = some o → ((s.heap.push { cls := .type "list", data := .seq #[] }).update s.heap.objs.size (Obj.mapSeq (fun _ => (#[] : Array Value)))).get? b = some o :=
    fun b o hb e => (Heap.get?_update_other _ _ (Ne.symm hb)).trans e
  have old : ∀ b o, s.heap.get? b = some o → ((s.heap.push { cls := .type "list", data := .seq #[] }).update s.heap.objs.size (Obj.mapSeq (fun _ => (#[] : Array Value)))).get? b = some o :=
    fun b o e => oth b o (Nat.ne_of_lt (Heap.lt_size e)) (Heap.get?_push_of_some _ e)
  refine wpAny_bind (wpAny_letGo ?_)
  refine extend_rs (A := A.in1) hh (hit.at fun o e => old it o e) h1 hz (Nat.ne_of_gt hlt) hS2 fun h' tk acc' c' hk hS' hacc => ?_
  exact ⟨rfl, hQ h' tk acc' c' (fun b o hb e => hk b o (Nat.ne_of_lt (Heap.lt_size e)) hb (old b o e)) hS' hacc⟩
end
theorem vals_rs {x : Str} {acc : Array Value} (h : ItemsOf (RevAt x) acc x.cps.size) : L2.Vals (x.cps.toList.reverse.map fun c => L2.V.str ⟨#[c]⟩) acc.toList := by
  have key : ∀ (l : List L2.V) (us : List Value), l.length = us.length → (∀ (i : Nat) (v : L2.V) (u : Value), l[i]? = some v → us[i]? = some u → L2.RelV v u) → L2.Vals l us := by
    intro l
    induction l with
    | nil =>
      intro us hl _
      cases us with
      | nil => exact .nil
      | cons _ _ => cases hl
    | cons v r ih =>
      intro us hl hr
      cases us with
      | nil => cases hl
      | cons u us => exact .cons (hr 0 v u rfl rfl) (ih us (Nat.succ.inj hl) fun i a b h1 h2 => hr (i + 1) a b h1 h2)
  have hs : acc.toList.length = x.cps.size := by rw [Array.length_toList]; exact h.1
  refine key _ _ (by rw [List.length_map, List.length_reverse, Array.length_toList, hs]) fun i v u h1 h2 => ?_
  rw [Array.getElem?_toList] at h2
  obtain ⟨c, tk, hc, rfl⟩ := h.2 i u h2
  have hi : i < x.cps.size := by
    have := (Array.getElem?_eq_some_iff.mp h2).1
    rw [h.1] at this
    exact this
  rw [List.getElem?_map, List.getElem?_reverse (by rw [Array.length_toList]; exact hi), Array.length_toList, Array.getElem?_toList, hc] at h1
  cases h1
  exact ⟨tk, rfl⟩
section
open L2
variable {X : Cx}
/-- list(reversed(x)), x a text: a new list of its signs, from behind -/
def tListRs (te : TE) : TE := fun σ H Q => te σ H fun v H1 => ∃ x : Str, v = .str x ∧ 1 ≤ x.length ∧ x.length ≤ 1000000 ∧ ∀ q, H1 q = none → Q (.ref q) (upd H1 q (.lst (x.cps.toList.reverse.map fun c => V.str ⟨#[c]⟩)))
theorem pe_listRs {e : Expr} {te : TE} {p p2 pos pos2 : Pos} (hc : X.calm = true) (hg : Gl X "list") (hm : X.mg "list" = none) (hg2 : Gl X "reversed") (hm2 : X.mg "reversed" = none) (he : PE X e te)
    (hs : starEach [e] X.env = (false, eval e X.env) :: starEach [] X.env := by rfl)
    (hs2 : starEach [.Call (.Name "reversed" p2) [e] [] pos2] X.env = (false, eval (.Call (.Name "reversed" p2) [e] [] pos2) X.env) :: starEach [] X.env := by rfl) :
    PE X (.Call (.Name "list" p) [.Call (.Name "reversed" p2) [e] [] pos2] [] pos) (tListRs te) := by
  refine ⟨fun pins s σ H Q I h => ?_⟩
  refine Call_ (ld_blt (u := .type "list") I hg hm (by decide +kernel) (PyProof.Rows.callWith_type1 (args_cons (Call_ (ld_blt I hg2 hm2 PyProof.Rows.boot_reversed (PyProof.Rows.callWith_type1 (args_cons (thn (he.run pins s σ H _ I h) fun u s1 hq => args_nil ?_) hs) hs rfl))) hs2) hs2 rfl))
  obtain ⟨v, H1, I1, r1, x, ev, h1, hz, q⟩ := hq
  subst ev
  obtain ⟨t, rfl⟩ := r1
  refine call_rs (Nat.le_trans hz (by decide)) (args_nil ?_)
  have k0 : ∀ b o, s1.heap.get? b = some o → (s1.heap.push (rsObj x t ((x.length : Int) - 1))).get? b = some o := fun b o e => Heap.get?_push_of_some _ e
  have I2 : Inv X pins σ H1 { s1 with heap := s1.heap.push (rsObj x t ((x.length : Int) - 1)), toks := s1.toks + 1 + 1 } := I1.kept k0
  obtain ⟨f0, f1, f2, f3, f4, f5⟩ := I1.fpOk (H' := H1) (b := s1.heap.objs.size) (Nat.le_refl _) (I1.hok.fresh (Nat.le_refl _))
  refine call_list_rs (s := { s1 with heap := s1.heap.push (rsObj x t ((x.length : Int) - 1)), toks := s1.toks + 1 + 1 }) (I1.ok.hd hc) ⟨_, Heap.get?_push_size _ rfl, rfl, rfl⟩ h1 hz fun h' tk acc c' hk hS hi => ?_
  have hne : (s1.heap.push (rsObj x t ((x.length : Int) - 1))).objs.size ≠ s1.heap.objs.size := by
    rw [Heap.size_push]
    exact Nat.succ_ne_self _
  have kp : ∀ b u, s1.heap.get? b = some u → h'.get? b = some u := fun b u e => hk b u (Nat.ne_of_lt (Heap.lt_size e)) (Heap.get?_push_of_some _ e)
  have hD : s1.heap.objs.size ≤ (s1.heap.push (rsObj x t ((x.length : Int) - 1))).objs.size := by
    rw [Heap.size_push]
    exact Nat.le_succ _
  refine ⟨.ref (s1.heap.push (rsObj x t ((x.length : Int) - 1))).objs.size, _, I1.laid (t' := tk) kp hD (show ObjOk X.prog X.w _ h' _ (.lst (x.cps.toList.reverse.map fun c => V.str ⟨#[c]⟩)) from ⟨?_, acc.toList, c', vals_rs hi, ?_⟩), rfl, q _ (I1.hok.fresh hD)⟩
  · rw [List.length_map, List.length_reverse, Array.length_toList]
    exact Nat.le_trans hz (by decide)
  · rw [hS, Array.toArray_toList]
end
end Rs

namespace Dm
open PySem PySem.Spec PyProof.Rows L2

/-! ### xs.extend(t), t a tuple -/
theorem extend_tup (l : Addr) (items : Array Value) (n : Nat) (b : Addr) (items2 : Array Value) (n2 : Nat) (dd : Option Addr) (sl : Array (Option Value)) (hs0 : ¬(!items.isEmpty && Builtin.List.listTooLong (items.size + items2.size)) = true)
    (hs1 : items.size ≤ sizeLine) (hs2 : items.size + items2.size ≤ sizeLine + 1) :
    Meets (Builtin.«list.extend» { pos := [Value.ref l, Value.ref b] }) fun x R s =>
      s.heap.get? l = some { cls := Value.type "list", data := Data.seq items n } ∧ s.heap.get? b = some { cls := Value.type "tuple", dict := dd, data := Data.seq items2 n2, slots := sl } ∧
        R (Except.ok (Flow.ret Value.none)) { heap := s.heap.update l (Obj.mapSeq fun x => x ++ items2), gens := s.gens, drawn := s.drawn, toks := s.toks, os := s.os } := by
  refine Meets.of_wp fun prog w A R s h => ?_
  obtain ⟨hp, g, d, tk, os⟩ := s
  obtain ⟨hl, hb, h⟩ := h
  have hz' : (items ++ items2).size ≤ sizeLine + 1 := by rw [Array.size_append]; exact hs2
  have e0 : (!items.isEmpty && Builtin.List.listTooLong (items.size + items2.size)) = false := Bool.of_not_eq_true hs0
  refine wpAny_bind ?_
  refine wpAny_bind ?_
  refine wpAny_ite_true rfl ?_
  refine wpAny_pure (wpAny_pure ?_)
  refine wpAny_bind ?_
  refine wpAny_bind ?_
  refine AutoSeq1.wpAny_loadPart' hb ?_
  refine wpAny_pure ?_
  refine wpAny_ite_true (by simp) ?_
  refine wpAny_bind ?_
  refine wpAny_bind ?_
  refine wpAny_bind ?_
  refine wpAny_load' hb ?_
  refine wpAny_pure (wpAny_pure ?_)
  refine wpAny_bind ?_
  refine wpAny_bind ?_
  refine wpAny_bind ?_
  refine wpAny_load' hl ?_
  refine wpAny_pure (wpAny_pure ?_)
  refine wpAny_ite_false (by simp [e0]) ?_
  refine wpAny_bind ?_
  exact wpAny_updateSeq hl rfl (wpAny_pure ⟨Value.none, rfl, h⟩) hs1 hz'
def rExtendT (K : PySem.W.Frag) (x : V) (vs : List V) (H : Hp) (Q : VK) : Prop :=
  ∃ l b xs zs, x = .ref l ∧ vs = [.ref b] ∧ H l = some (.lst xs) ∧ SqT K H b zs ∧ xs.length + zs.length ≤ sizeLine ∧ Q .non (upd H l (.lst (xs ++ zs)))
theorem mt_extendT {X : Cx} : MtM X "list.extend" (rExtendT X.K) := by
  intro pins s σ H x vs v us Q I rx rv h
  obtain ⟨l, b, xs, zs, rfl, rfl, hH, hB, hz, q⟩ := h
  cases rx
  obtain ⟨u, rfl, ru⟩ := Vals.one rv
  cases ru
  obtain ⟨z, its, n, r, hl, e⟩ := Inv.lstM I hH
  obtain ⟨its2, r2, ⟨o, e2, oc, n2, od⟩, z2⟩ := Inv.tuple I hB
  obtain ⟨c, dd, data, sl⟩ := o
  subst oc
  subst od
  have hl2 : zs.length = its2.length := Vals.length r2
  have hsz : its.toArray.size + its2.toArray.size ≤ sizeLine := by
    rw [List.size_toArray, List.size_toArray]
    omega
  have hlong : ¬(!its.toArray.isEmpty && Builtin.List.listTooLong (its.toArray.size + its2.toArray.size)) = true := by
    rw [notLongL hsz, Bool.and_false]
    exact Bool.false_ne_true
  refine call_meets F.slot_list_extend ⟨_, e, rfl⟩ F.entry_list_extend (F.args_list_extend_2 (.ref l) (.ref b)) (extend_tup l its.toArray n b its2.toArray n2 dd sl hlong (by omega) (by omega)) ⟨e, e2, .non, upd H l (.lst (xs ++ zs)), ?_, rfl, q⟩
  exact Inv.lset I hH e (List.append_toArray its its2) (Vals.append r r2) (by rw [List.length_append]; exact hz)

/-! ### d == e, d != e: dicts with number and text keys, values data -/
def DpK (K : PySem.W.Frag) (H : Hp) (ks : List (Key × V)) (kd : List (Key × PyData)) : Prop := Paired (fun p q => p.1 = q.1 ∧ Dp K H p.2 q.2 ∧ SeqAt.shaped q.2 = true) ks kd
def dataAt (ld : List (Key × PyData)) (k : Key) : Option PyData := (ld.find? fun kv => decide (kv.1 = k)).map (·.2)
def hitB (ld : List (Key × PyData)) : List (Key × PyData) → Bool
  | [] => true
  | p :: r => match dataAt ld p.1 with
    | none => false
    | some e => p.2.eqv e && hitB ld r
def sameB (kd ld : List (Key × PyData)) : Bool := kd.length == ld.length && hitB ld kd
theorem find_kv {K : PySem.W.Frag} {H : Hp} : ∀ {ls : List (Key × V)} {vb : List (Key × Value)} {ld : List (Key × PyData)}, KV ls vb → DpK K H ls ld → ∀ k : Key,
    (dataAt ld k = none ∧ valueAt vb k = none) ∨ ∃ v u d, dataAt ld k = some d ∧ valueAt vb k = some u ∧ RelV v u ∧ Dp K H v d ∧ SeqAt.shaped d = true
  | _, _, _, .nil, .nil, k => .inl ⟨rfl, rfl⟩
  | _, _, _, .cons (a := p) (b := q) h1 t1, .cons (b := d) h2 t2, k => by
    by_cases e : p.1 = k
    · refine .inr ⟨p.2, q.2, d.2, ?_, ?_, h1.2, h2.2.1, h2.2.2⟩
      · unfold dataAt
        rw [List.find?_cons_of_pos (p := fun kv : Key × PyData => decide (kv.1 = k)) (decide_eq_true (h2.1 ▸ e))]
        rfl
      · unfold valueAt
        rw [List.find?_cons_of_pos (p := fun kv : Key × Value => decide (kv.1 = k)) (decide_eq_true (h1.1 ▸ e))]
        rfl
    · have g := find_kv t1 t2 k
      unfold dataAt valueAt at g ⊢
      rw [List.find?_cons_of_neg (by simpa [← h2.1] using e), List.find?_cons_of_neg (by simpa [← h1.1] using e)]
      exact g
theorem hits_of {X : Cx} {pins : List (Addr × Obj)} {σ : L2.St} {H : Hp} {s : Shared} (I : L2.Inv X pins σ H s) (hu : X.A.in1.units + 64 < cLine) {ls : List (Key × V)} {vb : List (Key × Value)} {ld : List (Key × PyData)} (rb : KV ls vb) (db : DpK X.K H ls ld) :
    ∀ {ks : List (Key × V)} {va : List (Key × Value)} {kd : List (Key × PyData)}, KV ks va → DpK X.K H ks kd → PySem.W.KeqHits X.A.in1 s vb va (hitB ld kd)
  | _, _, _, .nil, .nil => .nil
  | _, _, _, .cons (a := p) (b := q) h1 t1, .cons (b := d) h2 t2 => by
    obtain ⟨q1, q2⟩ := q
    obtain ⟨d1, d2⟩ := d
    obtain ⟨e1, r1⟩ := h1
    obtain ⟨e2, r2, r3⟩ := h2
    have e1 : p.1 = q1 := e1
    have e2 : p.1 = d1 := e2
    subst e1
    rcases find_kv rb db p.1 with ⟨h3, h4⟩ | ⟨v, u, d, h3, h4, h5, h6, h7⟩
    · unfold hitB
      rw [show dataAt ld d1 = none from e2 ▸ h3]
      exact .miss h4
    · unfold hitB
      rw [show dataAt ld d1 = some d from e2 ▸ h3]
      obtain ⟨as, ra⟩ := Dp.reads I d2 p.2 q2 r2 r1
      obtain ⟨bs, rb2⟩ := Dp.reads I d v u h6 h5
      exact .hit h4 (PySem.W.keq_at ra rb2 r3 h7 hu) (hits_of I hu rb db t1 t2)
def rNeDK (K : PySem.W.Frag) : R2 := fun x y H Q => ∃ a b ks ls kd ld, x = .ref a ∧ y = .ref b ∧ H a = some (.dK ks) ∧ H b = some (.dK ls) ∧ DpK K H ks kd ∧ DpK K H ls ld ∧ Q (.bl (!sameB kd ld)) H
theorem op_neDK {X : Cx} (hu : X.A.units + 65 < cLine) : OpR X (compareOp .NotEq) (rNeDK X.K) := by
  intro pins s σ H x y v u Q I rx ry h
  obtain ⟨a, b, ks, ls, kd, ld, rfl, rfl, ea, eb, hk, hl, q⟩ := h
  cases rx
  cases ry
  obtain ⟨_, ya, va, ra, da⟩ := dk_of I.hok ea
  obtain ⟨_, yb, vb, rb, db⟩ := dk_of I.hok eb
  have i1 : X.A.in1.units + 64 < cLine := by
    have : X.A.in1.units = X.A.units + 1 := rfl
    omega
  refine PySem.W.keq_ne ya yb da db (by omega) (fun _ => hits_of I i1 rb hl ra hk) (fin_bl I q ?_)
  unfold sameB
  have l1 : va.length = kd.length := (KV.length ra).symm.trans (Paired.length hk)
  have l2 : vb.length = ld.length := (KV.length rb).symm.trans (Paired.length hl)
  rw [l1, l2]
end Dm

namespace It2
open PySem PySem.Spec PyProof.Rows L2
/-! ### x in t, x not in t: t a tuple of data, x data -/
def rInTD (K : PySem.W.Frag) (neg : Bool) : R2 := fun x y H Q => ∃ d ds, Dp K H x d ∧ Dp K H y (.tuple ds) ∧ SeqAt.shaped d = true ∧ SeqAt.shaped (.tuple ds) = true ∧ Q (.bl (if neg then !ds.any fun z => PyData.eqv z d else ds.any fun z => PyData.eqv z d)) H
theorem op_notInTD {X : Cx} (hu : X.A.units + 65 < cLine) : OpR X (compareOp .NotIn) (rInTD X.K true) := by
  intro pins s σ H x y v u Q I rx ry h
  obtain ⟨d, ds, hd, he, sd, se, q⟩ := h
  obtain ⟨as, r1⟩ := Dp.reads I d x v hd rx
  obtain ⟨bs, r2⟩ := Dp.reads I (.tuple ds) y u he ry
  exact SeqAt.notIn_tuple_reads r2 r1 (SeqAt.canLay_of_shaped se) (SeqAt.canLay_of_shaped sd) (room_in_shaped sd hu) ⟨.bl (!ds.any fun z => PyData.eqv z d), H, I, rfl, q⟩
theorem op_inTD {X : Cx} (hu : X.A.units + 65 < cLine) : OpR X (compareOp .In) (rInTD X.K false) := by
  intro pins s σ H x y v u Q I rx ry h
  obtain ⟨d, ds, hd, he, sd, se, q⟩ := h
  obtain ⟨as, r1⟩ := Dp.reads I d x v hd rx
  obtain ⟨bs, r2⟩ := Dp.reads I (.tuple ds) y u he ry
  exact SeqAt.in_tuple_reads r2 r1 (SeqAt.canLay_of_shaped se) (SeqAt.canLay_of_shaped sd) (room_in_shaped sd hu) ⟨.bl (ds.any fun z => PyData.eqv z d), H, I, rfl, q⟩
end It2

/-! enumerate(list, start), the start given by its place -/
namespace Ef
open PySem PySem.Spec PyProof.Rows L2

def IteF (K : PySem.W.Frag) (a : Addr) (k : Int) : It :=
  ⟨fun i H => ∃ (xs : List V) (x : V), SqL K H a xs ∧ xs[i]? = some x, fun i H v H' => ∃ T x, v = .ref T ∧ H T = none ∧ H' = upd H T (.tup [.int (k + (i : Nat)), x]) ∧ ∀ xs, SqL K H a xs → xs[i]? = some x, fun i H => ∃ xs : List V, SqL K H a xs ∧ xs.length = i⟩
theorem enum_ne {h : Heap} {e it a : Addr} {k : Int} {old : Value} {items : Array Value} (he : IsEnum h e it k old) (hl : h.IsList a items) : e ≠ a := fun z => by
  obtain ⟨o, ho, r⟩ := hl
  rw [← z, he] at ho
  injection ho with ho
  subst ho
  simp at r
theorem turn_enumF {P : Program} {w : World} {K : PySem.W.Frag} {elts : List Expr} {kk : Nat} {tpos : Pos} (a e it : Addr) (k : Int) :
    Turn P w K (.Tuple elts kk tpos) (IteF K a k) [e, it] e (fun i h => (∃ old, IsEnum h e it (k + ((i : Nat) : Int)) old) ∧ h.IsListIter it a i ∧ e ≠ it ∧ it ≠ a) where
  mem := by simp
  obj := fun i h st b hb => by
    obtain ⟨⟨old, he⟩, ⟨o, ho, hc, hd⟩, _⟩ := st
    have e' : b = e ∨ b = it := by simpa using hb
    rcases e' with z | z
    · rw [z]; exact ⟨_, he, fun v q => nomatch q⟩
    · rw [z]; exact ⟨o, ho, fun v q => by rw [hd] at q; cases q⟩
  keep := fun i h h' st k => let ⟨⟨old, he⟩, hi, hne⟩ := st; ⟨⟨old, k e (by simp) _ he⟩, hi.at fun o q => k it (by simp) o q, hne⟩
  item := by
    intro X hP hw hK hc i pins s σ H E I hf st hg
    subst hP hw hK
    obtain ⟨⟨old, he⟩, hit, hne, hia⟩ := st
    obtain ⟨xs, x, hq, hx⟩ := hg
    obtain ⟨its, rv, p, hz⟩ := I.list hq
    obtain ⟨u, hu, ru⟩ := rv.get hx
    have hel : e < s.heap.objs.size := Heap.lt_size he
    have hil : it < s.heap.objs.size := by obtain ⟨_, q, _⟩ := hit; exact Heap.lt_size q
    have hea : e ≠ a := enum_ne he p.isList
    have hD := Draws.list (prog := X.prog) (w := X.w) (A := X.A.in1) (I.ok.hd hc) it a (Ne.symm hia) its.toArray
    refine wpAny_pyNext_enum_itemC (i := i) hD he ⟨hit, p.isList⟩ (by have := (List.getElem?_eq_some_iff.mp hu).1; simpa using this) hne (by simp [hne, hea]) fun u' h' tk hu' ho hit' hT hsz hk => ?_
    have eu : u' = u := by
      have hu2 : its[i]? = some u' := by simpa using hu'
      rw [hu] at hu2
      exact (Option.some.inj hu2).symm
    subst eu
    refine ⟨_, rfl, wpAny_letOwnedTupleGo_enum (s := { s with heap := h', toks := tk + 1 }) ho fun h'' he' sb => ?_⟩
    have hT2 : h''.get? s.heap.objs.size = some { cls := .type "tuple", data := .seq #[.int (k + (i : Int)) tk, u'] } := (sb.2 _ (Nat.ne_of_gt hel)).trans hT
    have new : ObjOk X.prog X.w (upd H s.heap.objs.size (.tup [.int (k + (i : Nat)), x])) h'' s.heap.objs.size (.tup [.int (k + (i : Nat)), x]) :=
      ⟨by show 2 ≤ sizeLine; decide, [.int (k + (i : Int)) tk, u'], .cons ⟨_, rfl⟩ (.cons ru .nil), ⟨_, hT2, rfl, _, rfl⟩⟩
    have I1 : Inv X pins σ (upd H s.heap.objs.size (.tup [.int (k + (i : Nat)), x])) { s with heap := h'', toks := tk + 1 } :=
      I.turnedNew (ch := [e, it]) (fun b ob hb q => (sb.2 b (fun z => hb (by simp [z]))).trans (hk b ob (fun z => hb (by simp [z])) (fun z => hb (by simp [z])) q)) hf (Nat.le_refl _) new
    refine ⟨.ref s.heap.objs.size, _, I1, rfl, ⟨_, x, rfl, I.hok.fresh (Nat.le_refl _), rfl, fun ys hy => by rw [I.list_inj hy hq]; exact hx⟩, ⟨⟨u', ?_⟩, hit'.1.at fun o q => (sb.2 it (Ne.symm hne)).trans q, hne, hia⟩, fun b hb => ?_⟩
    · have e1 : k + ((i + 1 : Nat) : Int) = k + (i : Int) + 1 := by omega
      rw [e1]; exact he'
    · have hb' : b < s.heap.objs.size := by
        have e' : b = e ∨ b = it := by simpa using hb
        rcases e' with z | z
        · rw [z]; exact hel
        · rw [z]; exact hil
      rw [upd_ne (Nat.ne_of_lt hb')]
      exact (hf b hb).1
  done := by
    intro X hP hw hK hc i pins s σ H E I hf st hg
    subst hP hw hK
    obtain ⟨⟨old, he⟩, hit, hne, hia⟩ := st
    obtain ⟨xs, hq, hx⟩ := hg
    obtain ⟨its, rv, p, hz⟩ := I.list hq
    obtain ⟨f0, f1, f2, f3, f4, f5⟩ := hf it (by simp)
    have hl := rv.length
    have hea : e ≠ a := enum_ne he p.isList
    have hD := Draws.list (prog := X.prog) (w := X.w) (A := X.A.in1) (I.ok.hd hc) it a (Ne.symm hia) its.toArray
    have hn : its.toArray.size = i := by
      rw [List.size_toArray]
      omega
    rw [← hn] at hit
    exact wpAny_pyNext_enum_endD hD he ⟨hit, p.isList⟩ fun h' eb => ⟨rfl, I.turned (t' := s.toks) (fun b o hb q => eb b o hb q) f0 f1 f3 f4 f5⟩
  self := fun A i s Q E st h => let ⟨⟨_, he⟩, _⟩ := st; wpAny_pyIter_enum he h
def iEnumF (K : PySem.W.Frag) (ta : TA) : TI := fun σ H R => ta σ H fun vs H1 => ∃ a xs k, vs = [.ref a, .int k] ∧ SqL K H1 a xs ∧ -(2 ^ 63) ≤ k ∧ k < 2 ^ 63 ∧ R (IteF K a k) H1
theorem pi_enumF {X : Cx} {e f : Expr} {ta : TA} {p pos tpos : Pos} {elts : List Expr} {kk : Nat} (hg : Gl X "enumerate") (hm : X.mg "enumerate" = none) (ha : PA X [e, f] ta) (hs : starEach [e, f] X.env = [(false, eval e X.env), (false, eval f X.env)] := by rfl) (hs2 : starEach [f] X.env = [(false, eval f X.env)] := by rfl) :
    PI X (.Tuple elts kk tpos) (.Call (.Name "enumerate" p) [e, f] [] pos) (iEnumF X.K ta) := by
  refine ⟨fun pins s σ H R I h => ?_⟩
  refine Call_ (ld_blt I hg hm boot_enumerate (PyProof.Rows.callWith_type1 (thn (ha.run pos pins s σ H _ I h) fun us s1 ⟨vs, H1, I1, r1, q1⟩ => ?_) (by rw [hs, hs2]) (by rw [hs2]; rfl)))
  obtain ⟨a, xs, k, ex, hq, k0, k1, q⟩ := q1
  subst ex
  cases r1 with
  | cons r rr =>
    cases rr with
    | cons r' rr =>
      cases rr
      cases r
      obtain ⟨t', rfl⟩ := r'
      obtain ⟨its, rv, p', hz⟩ := I1.list hq
      refine enum_begins (begins_list a its.toArray) p'.isList k0 k1 fun h' he hit hsz hk => wpAny_pyIter_enum he ?_
      have I2 : Inv X pins σ H1 { s1 with heap := h' } := I1.kept (t' := s1.toks) hk
      have hia : s1.heap.objs.size ≠ a := fun z => by
        obtain ⟨o, ho, _⟩ := p'.isList
        have h1 := Heap.lt_size ho
        rw [← z] at h1
        exact Nat.lt_irrefl _ h1
      have e0 : k + ((0 : Nat) : Int) = k := by omega
      refine ⟨s1.heap.objs.size + 1, [s1.heap.objs.size + 1, s1.heap.objs.size], _, _, H1, rfl, I2, turn_enumF a (s1.heap.objs.size + 1) s1.heap.objs.size k, ⟨⟨.none, by rw [e0]; exact he⟩, ⟨_, hit, rfl, rfl⟩, Nat.succ_ne_self _, hia⟩, fun b hb => ?_, q⟩
      have e' : b = s1.heap.objs.size + 1 ∨ b = s1.heap.objs.size := by simpa using hb
      have hle : s1.heap.objs.size ≤ b := by
        rcases e' with z | z
        · rw [z]; exact Nat.le_add_right _ _
        · rw [z]; exact Nat.le_refl _
      exact I1.fpOk hle (I1.hok.fresh hle)
theorem for_enumF {K : PySem.W.Frag} {a : Addr} {k : Int} {xs : List V} {g : TG} {tb : TS} {D : Ends} {σ : L2.St} {H : Hp} (Pv : Nat → L2.St → Hp → Prop) (h0 : Pv 0 σ H) (hl : ∀ i σ H, i ≤ xs.length → Pv i σ H → SqL K H a xs)
    (hs : ∀ (i : Nat) (x : V) (T : Addr) (σ : L2.St) (H : Hp), xs[i]? = some x → H T = none → Pv i σ H → g (.ref T) σ (upd H T (.tup [.int (k + (i : Nat)), x])) fun σ2 H2 => tb { D with nx := Pv (i + 1), ct := Pv (i + 1), bk := D.nx } σ2 H2) (hd : ∀ σ H, Pv xs.length σ H → D.nx σ H) :
    ∃ W : Nat → Nat → L2.St → Hp → Prop, (∃ m, W 0 m σ H) ∧ ∀ i m σ H, W i m σ H →
      ((IteF K a k).stop i H ∧ D.nx σ H) ∨ ((IteF K a k).go i H ∧ ∃ N : L2.St → Hp → Prop, (∀ σ' H', N σ' H' → ∃ m', m' < m ∧ W (i + 1) m' σ' H') ∧ ∀ x H', (IteF K a k).yld i H x H' → g x σ H' fun σ2 H2 => tb { D with nx := N, ct := N, bk := D.nx } σ2 H2) := by
  refine ⟨fun i m σ H => m = xs.length - i ∧ i ≤ xs.length ∧ Pv i σ H, ⟨xs.length, by simp, Nat.zero_le _, h0⟩, ?_⟩
  rintro i m σ H ⟨rfl, hi, p⟩
  have q := hl i σ H hi p
  by_cases hlt : i < xs.length
  · refine .inr ⟨⟨xs, xs[i], q, by simp [hlt]⟩, Pv (i + 1), fun σ' H' p' => ⟨xs.length - (i + 1), by omega, rfl, hlt, p'⟩, fun x H' y => ?_⟩
    obtain ⟨T, z, rfl, nT, rfl, hz⟩ := y
    exact hs i z T σ H (hz xs q) nT p
  · have e : i = xs.length := by omega
    subst e
    exact .inl ⟨⟨xs, q, rfl⟩, hd σ H p⟩
end Ef

/-! d.setdefault(t, v), the keys of d tuples -/
namespace PySem
section
variable {prog : Program} {w : World} {K : Type} [DecidableEq K] {knd : HeapKind prog w K} {A : Around} {E : Value → Shared → Prop} {s : Shared}
theorem St_meetsSetd {d b : Addr} {k : K} (dflt : Value) (hd : (d == sysModules) = false) :
    MeetsIn prog w (Builtin.«dict.setdefault» ⟨[.ref d, .ref b, dflt], []⟩) (fun A R s => ∃ xs, knd.room A.in1 ∧ knd.is s.heap k b ∧ s.heap.DictOfH knd d xs ∧ xs.length ≤ sizeLine ∧
      (∀ p, atKey xs k = some p → ∀ tk, R (.ok (.ret p.2)) { s with toks := tk }) ∧
      (atKey xs k = none → ∀ h' tk, h'.DictOfH knd d (storedH xs k b dflt) → Heap.SameBut d s.heap h' → R (.ok (.ret dflt)) { s with heap := h', toks := tk })) :=
  .of_wp fun A R s ⟨xs, hu, hkey, hm, hz, h1, h2⟩ => by
    unfold Builtin.«dict.setdefault»
    refine wpAny_bind ?_
    unfold Builtin.Dict.keyAndDefault
    refine wpAny_bind (wpAny_notOrdered_dict hm.typeIs ?_)
    show wpAny _ _ (pure (d, Value.ref b, some dflt)) _ _ s
    refine wpAny_pure ?_
    show wpAny _ _ (if (d == sysModules) = true then _ else (dictSetDefault d (.ref b) dflt >>= _)) _ _ s
    rw [if_neg (by rw [hd]; exact Bool.false_ne_true)]
    exact wpAny_bind (wpAny_dictSetDefault_heap (hsz := hz) hu hkey hm (fun p hp => wpAny_pure ⟨p.2, rfl, h1 p hp _⟩) fun hn h' hm' hs' => wpAny_pure ⟨dflt, rfl, h2 hn h' _ hm' hs'⟩)
end
end PySem
namespace St
open PySem PySem.Spec PyProof.Rows L2 L2.DX
/-- d.setdefault(y, z), d with tuples as keys -/
def tDSetT (td ty tx : TE) : TE := fun σ H Q => td σ H fun x H1 => ∃ a, x = .ref a ∧ IsD H1 a ∧ ty σ H1 fun y H2 => tx σ H2 fun z H3 => ∃ (kvs : List (List L2.Key × V)) (k : List L2.Key) (b : Addr), H3 a = some (.dT kvs) ∧ y = .ref b ∧ H3 b = some (.tup (k.map kV)) ∧ kvs.length < sizeLine ∧
  (∀ v, valV kvs k = some v → Q v H3) ∧ (valV kvs k = none → Q z (upd H3 a (.dT (putK kvs k z))))
section
variable {X : Cx} {pins : List (Addr × Obj)} {σ : L2.St} {H : Hp} {s : Shared} {a b : Addr} {r : Value} {d : V} {k : List L2.Key} {E : Value → Shared → Prop}
theorem d_setT {kvs : List (List L2.Key × V)} {Q : Value → Shared → Prop} (hu : X.A.units + 1 < cLine) (I : Inv X pins σ H s) (e : H a = some (.dT kvs)) (eb : H b = some (.tup (k.map kV))) (rd : RelV d r) (hl : kvs.length < sizeLine)
    (h1 : ∀ v, valV kvs k = some v → ∀ (w' : Value) (s' : Shared), Inv X pins σ H s' → RelV v w' → Q w' s') (h2 : valV kvs k = none → ∀ (s' : Shared), Inv X pins σ (upd H a (.dT (putK kvs k d))) s' → Q r s') :
    wpAny (model X.prog X.w) X.A (call (.builtin "dict.setdefault") [.ref a, .ref b, r]) Q E s := by
  obtain ⟨z, hd, xs, rel, dd⟩ := dt_of I.hok e
  have hz : xs.length ≤ sizeLine := by rw [← Paired.length rel]; exact z
  refine call_meetsIn PySem.F.slot_dict_setdefault dd.typeIs PySem.F.entry_dict_setdefault (PySem.F.args_dict_setdefault_3 _ _ _) (St_meetsSetd (knd := tupleKind (mixKind X.prog X.w)) (k := k) r hd)
    ⟨xs, tupleKind_room_in1 hu, key_of I.hok eb, dd, hz, fun p hp tk => ?_, fun hn h' tk dd' hs => ?_⟩
  · have q := rel.val k
    rw [hp] at q
    cases ev : valV kvs k with
    | none =>
      rw [ev] at q
      exact (show False from q).elim
    | some v0 =>
      rw [ev] at q
      exact h1 v0 ev _ _ (I.tok tk) q
  · have q := rel.val k
    rw [hn] at q
    cases ev : valV kvs k with
    | some v0 =>
      rw [ev] at q
      exact (show False from q).elim
    | none =>
      have hl2 : (putK kvs k d).length ≤ sizeLine := by
        have := length_putK kvs k d
        omega
      obtain ⟨o, es, ep, hq, g2, g3, g4, _, g5⟩ := dd'
      refine h2 ev _ (d_write (t' := tk) I (by rw [e]; exact True.intro) hs ⟨o, hq⟩ ⟨hl2, hd, _, (rel.put k eb rd).keeps (fun c ys ec => ?_), o, es, ep, hq, g2, g3, g4, g5⟩)
      rw [upd_ne (ne_of ec e (fun z => nomatch z))]
      exact ec
end
section
variable {X : Cx} {o e f : Expr} {td ty tx : TE} {apos cpos : Pos}
theorem pe_dsetT (hu : X.A.units + 1 < cLine) (ho : PE X o td) (he : PE X e ty) (hf : PE X f tx) (m : M2 X o "setdefault" apos e f cpos) : PE X (.Call (.Attribute o "setdefault" apos) [e, f] [] cpos) (tDSetT td ty tx) := by
  refine ⟨fun pins s σ H Q I h => ?_⟩
  refine wpAny_Call_method m.base m.few m.line PySem.F.plainAttrs_dict PySem.F.slot_dict_setdefault PySem.F.type_dict_setdefault (thn (ho.run pins s σ H _ I h) fun u s1 ⟨x, H1, I1, rx, a, ex, d, q1⟩ => ?_)
  subst ex
  obtain rfl : u = Value.ref a := rx
  obtain ⟨t1, t2, _⟩ := isD_at I1 d
  refine ⟨t1, t2, ?_⟩
  rw [m.trees]
  refine Calls.callWith_builtin rfl (Calls.evalArgs_plain (Calls.spliced_cons (thn (he.run pins s1 σ H1 _ I1 q1) fun iv s2 ⟨y, H2, I2, ry, q2⟩ =>
    Calls.spliced_cons (thn (hf.run pins s2 σ H2 _ I2 q2) fun fv s3 ⟨z, H3, I3, rz, kvs, k, b, ea, ey, eb, hl, q3, q4⟩ => Calls.spliced_nil ?_))))
  subst ey
  obtain rfl : iv = Value.ref b := ry
  exact d_setT hu I3 ea eb rz hl (fun v hv w' s4 I4 rw' => ⟨v, _, I4, rw', q3 v hv⟩) fun hn s4 I4 => ⟨z, _, I4, rz, q4 hn⟩
end
end St

/-! the round of i -> 5 i + 1 on 512 places -/
namespace Sm
open PySem L2
/-- the places, one after another -/
def orbL (m : Nat) : Nat → Nat → List Nat
  | 0, _ => []
  | n + 1, x => x :: orbL m n ((x * 5 + 1) % (m + 1))
theorem orbL_get (m : Nat) : ∀ (n x k : Nat), k < n → (orbL m n x)[k]? = some (lcgI m x k)
  | 0, x, k, h => absurd h (Nat.not_lt_zero _)
  | n + 1, x, 0, h => rfl
  | n + 1, x, k + 1, h => by
    show (orbL m n ((x * 5 + 1) % (m + 1)))[k]? = _
    rw [orbL_get m n _ k (by omega)]
    have key : ∀ k x, lcgI m ((x * 5 + 1) % (m + 1)) k = lcgI m x (k + 1) := by
      intro k
      induction k with
      | zero => intro x; rfl
      | succ k ih =>
        intro x
        show (lcgI m ((x * 5 + 1) % (m + 1)) k * 5 + 1) % (m + 1) = (lcgI m x (k + 1) * 5 + 1) % (m + 1)
        rw [ih]
    rw [key]
theorem orb_all : ((List.range 512).all fun j => (orbL 511 512 0).contains j) = true := by decide +kernel
theorem lcgI_zero (m : Nat) : ∀ k, lcgI m 0 k = lcgN m k
  | 0 => rfl
  | k + 1 => by
    show (lcgI m 0 k * 5 + 1) % (m + 1) = (lcgN m k * 5 + 1) % (m + 1)
    rw [lcgI_zero m k]
theorem orbL_len (m : Nat) : ∀ n x, (orbL m n x).length = n
  | 0, _ => rfl
  | n + 1, x => congrArg (· + 1) (orbL_len m n _)
/-- each of the 512 places comes in a round -/
theorem lcg_all511 {j : Nat} (hj : j ≤ 511) : ∃ b, b ≤ 511 ∧ lcgN 511 b = j := by
  have h := List.all_eq_true.mp orb_all j (List.mem_range.mpr (by omega))
  have h := List.contains_iff_mem.mp h
  obtain ⟨b, hb⟩ := List.mem_iff_getElem?.mp h
  have hl : b < 512 := by
    have := (List.getElem?_eq_some_iff.mp hb).1
    rwa [orbL_len] at this
  rw [orbL_get 511 512 0 b hl, lcgI_zero] at hb
  exact ⟨b, by omega, Option.some.inj hb⟩
theorem round511 : lcgN 511 512 = 0 := by decide +kernel
/-- the masks that come, up to 512 places -/
def MaskX (m : Nat) : Prop := MaskOk m ∨ m = 511
theorem allX {m : Nat} (hm : MaskX m) {j : Nat} (hj : j ≤ m) : ∃ b, b ≤ m ∧ lcgN m b = j := by
  rcases hm with h | h
  · exact lcg_all h hj
  · subst h
    exact lcg_all511 hj
theorem roundX {m : Nat} (hm : MaskX m) : lcgN m (m + 1) = 0 := by
  rcases hm with h | h
  · exact lcg_round h
  · subst h
    exact round511
theorem modX {m : Nat} (hm : MaskX m) (k : Nat) : lcgN m (m + 1 + k) = lcgN m k := by
  induction k with
  | zero => exact roundX hm
  | succ k ih =>
    show (lcgN m (m + 1 + k) * 5 + 1) % (m + 1) = (lcgN m k * 5 + 1) % (m + 1)
    rw [ih]
/-- from any place to any other within a round -/
theorem fromX {m : Nat} (hm : MaskX m) {i j : Nat} (hi : i ≤ m) (hj : j ≤ m) : ∃ k, k ≤ m ∧ lcgI m i k = j := by
  obtain ⟨a, ha, rfl⟩ := allX hm hi
  obtain ⟨b, hb, rfl⟩ := allX hm hj
  by_cases c : a ≤ b
  · exact ⟨b - a, by omega, by rw [lcgN_add, Nat.add_sub_cancel' c]⟩
  · refine ⟨m + 1 + b - a, by omega, ?_⟩
    rw [lcgN_add, Nat.add_sub_cancel' (by omega), modX hm]
/-- a search meets every place within its bound -/
theorem nth_meetsX {m : Nat} (hm : MaskX m) (h : Int) {j : Nat} (hj : j ≤ m) : ∃ n k, n ≤ m + 12 ∧ runI m (SetTable.bits h) n = j ∧ k < 10 * SetTable.turns m ∧ (nth m (runAt m (SetTable.bits h % (m + 1)) (SetTable.bits h)) k).j = j := by
  obtain ⟨c, hc, e⟩ := fromX hm (runI_le m (SetTable.bits h) 12) hj
  have e2 : runI m (SetTable.bits h) (12 + c) = j := by
    rw [runI_tail (bits_lt h)]
    exact e
  obtain ⟨k, hk, ek⟩ := run_nth m (SetTable.bits h) (12 + c)
  refine ⟨12 + c, k, by omega, e2, ?_, ?_⟩
  · unfold SetTable.turns
    omega
  · rw [ek]
    exact e2
end Sm

/-! a set's table of up to 512 places: each entry is found again from its hash -/
namespace Sm
open PySem L2
/-- the c-th state of the search for the hash h -/
abbrev stp (m : Nat) (h : Int) (c : Nat) : SetTable.Probe := nth m (runAt m (SetTable.bits h % (m + 1)) (SetTable.bits h)) c
theorem stp_le (m : Nat) (h : Int) (c : Nat) : (stp m h c).j ≤ m := by
  have b := runEnd_bd (m := m) (i := SetTable.bits h % (m + 1)) (Nat.le_of_lt_succ (Nat.mod_lt _ (Nat.succ_pos m)))
  have z : (runAt m (SetTable.bits h % (m + 1)) (SetTable.bits h)).j + (runAt m (SetTable.bits h % (m + 1)) (SetTable.bits h)).more ≤ m := by
    unfold runAt
    dsimp only
    omega
  have q := nth_in c _ z
  show (nth m (runAt m (SetTable.bits h % (m + 1)) (SetTable.bits h)) c).j ≤ m
  omega
theorem stp_add (m : Nat) (h : Int) (c d : Nat) : nth m (stp m h c) d = stp m h (c + d) := (nth_add m c _ d).symm
theorem stp_dm (m : Nat) (h : Int) : ∀ c, (stp m h c).dummy = none
  | 0 => rfl
  | c + 1 => by
    have e : stp m h (c + 1) = adv m (stp m h c) := nth_succ m _ c
    rw [e]
    unfold adv
    split
    · exact stp_dm m h c
    · exact stp_dm m h c
/-- h's entry, if it stands at j, is met before any free place -/
def Met (m : Nat) (pl : List Nat) (h : Int) (j : Nat) : Prop := ∃ c, (stp m h c).j = j ∧ ∀ d, d < c → (stp m h d).j ∈ pl
theorem Met.mono {m : Nat} {pl pl' : List Nat} {h : Int} {j : Nat} (x : Met m pl h j) (s : ∀ y ∈ pl, y ∈ pl') : Met m pl' h j :=
  let ⟨c, e, b⟩ := x
  ⟨c, e, fun d hd => s _ (b d hd)⟩
structure Tab (t : SetTable) (hs : List Int) : Prop where
  up : Ris t.place.toList
  noD : t.dummies = #[]
  len : t.place.toList.length = hs.length
  msk : MaskX t.mask
  lim : ∀ y ∈ t.place.toList, y ≤ t.mask
  met : ∀ (i : Nat) (h : Int) (j : Nat), hs[i]? = some h → t.place.toList[i]? = some j → Met t.mask t.place.toList h j
theorem Tab.fresh (f mv : Nat) (l : Bool) : Tab (.fresh f mv l) [] :=
  ⟨List.Pairwise.nil, rfl, rfl, .inl (.inl rfl), fun y hy => (by cases hy), fun i h j e => (by cases e)⟩
/-- the first free place of the search -/
def Hole (t : SetTable) (h : Int) (c : Nat) : Prop := (stp t.mask h c).j ∉ t.place.toList ∧ ∀ d, d < c → (stp t.mask h d).j ∈ t.place.toList
theorem Tab.hole {t : SetTable} {hs : List Int} (T : Tab t hs) (hl : hs.length ≤ t.mask) (h : Int) : ∃ c, c < 10 * SetTable.turns t.mask ∧ Hole t h c := by
  obtain ⟨j, hj, hn⟩ := st_missing t.place.toList (t.mask + 1) (by rw [T.len]; omega)
  obtain ⟨_, k, _, _, hk, e⟩ := nth_meetsX T.msk h (Nat.le_of_lt_succ hj)
  have e : (stp t.mask h k).j = j := e
  obtain ⟨c, c1, c2, c3⟩ := st_least (p := fun c => (stp t.mask h c).j ∉ t.place.toList) k (fun z => hn (e ▸ z))
  exact ⟨c, Nat.lt_of_le_of_lt c1 hk, c2, fun d hd => Classical.byContradiction fun z => c3 d hd z⟩
theorem Hole.ahead {t : SetTable} {hs : List Int} (T : Tab t hs) {h : Int} {c : Nat} (Z : Hole t h c) {i j : Nat} (hi : hs[i]? = some h) (hj : t.place.toList[i]? = some j) : ∃ d, d < c ∧ (stp t.mask h d).j = j := by
  obtain ⟨d, e, b⟩ := T.met i h j hi hj
  refine ⟨d, Nat.lt_of_not_le fun z => ?_, e⟩
  rcases Nat.lt_or_eq_of_le z with z | z
  · exact Z.1 (b c z)
  · subst z
    exact Z.1 (e ▸ List.mem_of_getElem? hj)
theorem Tab.odd {t : SetTable} {hs : List Int} (T : Tab t hs) : t.mask % 2 = 1 := by
  rcases T.msk with (e | e | e) | e <;> (rw [e])
theorem Tab.big {t : SetTable} {hs : List Int} (T : Tab t hs) : t.mask ≤ 511 := by
  rcases T.msk with (e | e | e) | e <;> omega
/-- one put in at the hole -/
theorem Tab.put {t : SetTable} {hs : List Int} (T : Tab t hs) {h : Int} {c p : Nat} (Z : Hole t h c) (hp : SetTable.below t.place (stp t.mask h c).j = p) :
    p ≤ hs.length ∧ Tab (t.put (stp t.mask h c).j).1 (hs.take p ++ h :: hs.drop p) := by
  have lj := stp_le t.mask h c
  obtain ⟨z1, z2⟩ := Z
  have z2' : ∀ (pl : List Nat), (∀ y ∈ t.place.toList, y ∈ pl) → Met t.mask pl h (stp t.mask h c).j := fun pl s => ⟨c, rfl, fun d hd => s _ (z2 d hd)⟩
  generalize (stp t.mask h c).j = j at lj z1 z2' hp ⊢
  have cut := (below_cut T.up j).1
  rw [hp] at cut
  have a1 : p ≤ t.place.toList.length := by rw [Array.length_toList]; exact cut
  have a2 : p ≤ hs.length := by rw [← T.len]; exact a1
  have pl : (t.put j).1.place.toList = t.place.toList.take p ++ j :: t.place.toList.drop p := by rw [put_place, hp]
  have sub : ∀ y ∈ t.place.toList, y ∈ (t.put j).1.place.toList := fun y hy => by rw [pl]; exact mem_ins.2 (.inr hy)
  refine ⟨a2, ?_, put_dm T.noD j, ?_, T.msk, fun y hy => ?_, fun i h' j' e1 e2 => ?_⟩
  · refine ris_insert T.up fun e => z1 (List.mem_of_getElem? (i := SetTable.below t.place j) ?_)
    rw [Array.getElem?_toList]
    exact e
  · rw [pl, len_ins _ a1, len_ins _ a2, T.len]
  · rw [pl] at hy
    rcases mem_ins.1 hy with hy | hy
    · exact hy ▸ lj
    · exact T.lim y hy
  · show Met t.mask _ h' j'
    rw [pl, tins_get _ a1] at e2
    rw [tins_get _ a2] at e1
    rcases Nat.lt_trichotomy i p with q | q | q
    · rw [if_pos q] at e1 e2
      exact (T.met i h' j' e1 e2).mono sub
    · rw [if_neg (by omega), if_pos q] at e1 e2
      cases e1
      cases e2
      exact z2' _ sub
    · rw [if_neg (by omega), if_neg (by omega)] at e1 e2
      exact (T.met (i - 1) h' j' e1 e2).mono sub
/-! laying all anew -/
theorem holeO {m : Nat} (hm : MaskX m) (ow : Array (Option Nat)) (h : Int) {j : Nat} (hj : j ≤ m) (hf : oAt ow j = none) :
    ∃ c, SetTable.layClean.free m ow (SetTable.turns m) (SetTable.bits h % (m + 1)) (SetTable.bits h) = some (stp m h c).j ∧ oAt ow (stp m h c).j = none ∧ ∀ d, d < c → oAt ow (stp m h d).j ≠ none := by
  obtain ⟨n, _, hn, e, _, _⟩ := nth_meetsX hm h hj
  have en : (stp m h (off m (SetTable.bits h % (m + 1)) (SetTable.bits h) n)).j = j := by
    unfold stp
    rw [nth_off, itL_run]
    exact e
  obtain ⟨c, c1, c2, c3⟩ := st_least (p := fun c => oAt ow (stp m h c).j = none) _ (by rw [en]; exact hf)
  refine ⟨c, free_spec m ow _ n _ _ c (by unfold SetTable.turns; omega) c1 (fun d hd => ?_) (by rw [show oAt ow (nth m _ c).j = none from c2]; rfl), c2, c3⟩
  have q := c3 d hd
  cases z : oAt ow (nth m (runAt m (SetTable.bits h % (m + 1)) (SetTable.bits h)) d).j with
  | none => exact absurd z q
  | some _ => rfl
theorem ownX {m : Nat} (hm : MaskX m) {dn : List Int} {ow : Array (Option Nat)} (W : Own m dn ow) (hl : dn.length ≤ m) (h : Int) :
    ∃ j, SetTable.layClean.free m ow (SetTable.turns m) (SetTable.bits h % (m + 1)) (SetTable.bits h) = some j ∧ Own m (dn ++ [h]) (ow.setIfInBounds j (some dn.length)) := by
  obtain ⟨us, hus, husi⟩ := W.ps
  obtain ⟨f, f1, f2⟩ := st_missing us (m + 1) (by omega)
  have f3 : oAt ow f = none := Classical.byContradiction fun z => f2 (husi f (Nat.le_of_lt_succ f1) z)
  obtain ⟨c, e1, e2, e3⟩ := holeO hm ow h (Nat.le_of_lt_succ f1) f3
  have lj := stp_le m h c
  refine ⟨_, e1, ?_⟩
  have own : ∀ d, (stp m h d).j = way m h d := fun _ => rfl
  rw [own] at e2 lj ⊢
  generalize hj : way m h c = j at e2 lj ⊢
  have isz : j < ow.size := by rw [W.sz]; omega
  have at_j := oAt_set_self (some dn.length) isz
  have at_i : ∀ i, i ≠ j → oAt (ow.setIfInBounds j (some dn.length)) i = oAt ow i := fun i hi => oAt_set_ne _ hi
  have stays : ∀ i, oAt ow i ≠ none → oAt (ow.setIfInBounds j (some dn.length)) i ≠ none := fun i hi => by
    by_cases q : i = j
    · subst q
      exact absurd e2 hi
    · rw [at_i i q]
      exact hi
  constructor
  · rw [Array.size_setIfInBounds, W.sz]
  · intro i k hi e
    by_cases q : i = j
    · subst q
      rw [at_j] at e
      cases e
      exact ⟨h, c, by simp, hj, fun d hd => stays _ (e3 d hd)⟩
    · rw [at_i i q] at e
      obtain ⟨h', c', g1, g2, g3⟩ := W.at_ i k hi e
      have lt := (List.getElem?_eq_some_iff.mp g1).1
      exact ⟨h', c', by rw [List.getElem?_append_left lt]; exact g1, g2, fun d hd => stays _ (g3 d hd)⟩
  · intro k hk
    rw [List.length_append] at hk
    have hk : k < dn.length + 1 := hk
    rcases Nat.lt_or_eq_of_le (Nat.le_of_lt_succ hk) with q | q
    · obtain ⟨i, g1, g2⟩ := W.all k q
      refine ⟨i, g1, ?_⟩
      rw [at_i i (fun z => by subst z; rw [e2] at g2; cases g2)]
      exact g2
    · exact ⟨j, lj, by rw [at_j, q]⟩
  · refine ⟨j :: us, by simp [hus], fun i hi e => ?_⟩
    by_cases q : i = j
    · exact q ▸ List.mem_cons_self
    · rw [at_i i q] at e
      exact List.mem_cons_of_mem _ (husi i hi e)
theorem layX {m : Nat} (hm : MaskX m) : ∀ (rest dn : List Int) (ow : Array (Option Nat)), Own m dn ow → dn.length + rest.length ≤ m →
    ∃ ow', rest.foldl (stepF m) (some (ow, dn.length)) = some (ow', (dn ++ rest).length) ∧ Own m (dn ++ rest) ow'
  | [], dn, ow, W, _ => ⟨ow, by simp, by simpa using W⟩
  | h :: rest, dn, ow, W, hl => by
    have hl : dn.length + (rest.length + 1) ≤ m := hl
    obtain ⟨j, e, W'⟩ := ownX hm W (by omega) h
    obtain ⟨ow', f1, f2⟩ := layX hm rest (dn ++ [h]) _ W' (by simp; omega)
    refine ⟨ow', ?_, by simpa using f2⟩
    rw [List.foldl_cons, stepF_some e]
    simpa using f1
theorem relaidX (t : SetTable) {hs : Array Int} {wanted M : Nat} (hw : SetTable.sizeAbove wanted - 1 = M) (hM : MaskX M) (hn : hs.size ≤ M) :
    ∃ t' od, t.relaid hs wanted = some (t', od) ∧ od.toList.Perm (List.range hs.size) ∧ Tab t' (od.toList.map fun i => hs.getD i 0) ∧ t'.mask = M ∧ t'.led = t.led := by
  obtain ⟨ow, e, W⟩ := layX hM hs.toList [] _ (Own.init M) (by simpa using hn)
  rw [List.nil_append] at W e
  have eL : SetTable.layClean M hs = some ow := by
    rw [layClean_eq]
    have e : hs.toList.foldl (stepF M) (some (Array.replicate (M + 1) none, 0)) = some (ow, hs.toList.length) := e
    rw [e]
    rfl
  have eR : t.relaid hs wanted = some (tabOf t M ow, ((liveOf M ow).map (·.2)).toArray) := by
    rw [relaid_eq, hw, eL]
    rfl
  obtain ⟨u1, u2⟩ := ris_live (fun j => ow.getD j none) (List.range (M + 1)) List.pairwise_lt_range
  have u1 : Ris ((liveOf M ow).map (·.1)) := u1
  have u2 : ∀ x ∈ (liveOf M ow).map (·.1), x ∈ List.range (M + 1) := u2
  have sz : (liveOf M ow).length = hs.size := by
    obtain ⟨us, g1, g2⟩ := W.ps
    refine Nat.le_antisymm ?_ ?_
    · have nd : ((liveOf M ow).map (·.1)).Nodup := List.Pairwise.imp (fun h => Nat.ne_of_lt h) u1
      have q := nat_nodup_len _ us nd fun x hx => by
        obtain ⟨⟨y, k⟩, hq, rfl⟩ := List.mem_map.mp hx
        have b := (mem_live W.sz).1 hq
        exact g2 y b.1 (by rw [b.2]; simp)
      rw [List.length_map, g1] at q
      exact q
    · have q := nat_nodup_len (List.range hs.size) ((liveOf M ow).map (·.2)) List.nodup_range fun k hk => by
        obtain ⟨i, b1, b2⟩ := W.all k (List.mem_range.mp hk)
        exact List.mem_map.mpr ⟨(i, k), (mem_live W.sz).2 ⟨b1, b2⟩, rfl⟩
      rw [List.length_map, List.length_range] at q
      exact q
  refine ⟨_, _, eR, ?_, ?_, rfl, rfl⟩
  · refine perm_range hs.size _ (by rw [List.toList_toArray, List.length_map, sz]) fun k hk => ?_
    obtain ⟨i, b1, b2⟩ := W.all k hk
    exact List.mem_map.mpr ⟨(i, k), (mem_live W.sz).2 ⟨b1, b2⟩, rfl⟩
  · constructor
    · exact u1
    · rfl
    · show ((liveOf M ow).map (·.1)).length = (((liveOf M ow).map (·.2)).map fun i => hs.getD i 0).length
      simp
    · exact hM
    · exact fun y hy => Nat.le_of_lt_succ (List.mem_range.mp (u2 y hy))
    · intro i h j e1 e2
      have e1 : (((liveOf M ow).map (·.2)).map fun i => hs.getD i 0)[i]? = some h := e1
      have e2 : ((liveOf M ow).map (·.1))[i]? = some j := e2
      cases q : (liveOf M ow)[i]? with
      | none => simp [q] at e2
      | some r =>
        obtain ⟨y, k⟩ := r
        simp only [List.getElem?_map, q, Option.map_some, Option.some.injEq] at e1 e2
        subst e2
        have b := (mem_live W.sz).1 (List.mem_of_getElem? q)
        obtain ⟨h', c, g1, g2, g3⟩ := W.at_ y k b.1 b.2
        have eh : hs.getD k 0 = h' := by
          rw [Array.getD_eq_getD_getElem?, ← Array.getElem?_toList, g1]
          rfl
        rw [eh] at e1
        subst e1
        refine ⟨c, g2, fun d hd => ?_⟩
        show way M h' d ∈ (liveOf M ow).map (·.1)
        cases z : oAt ow (way M h' d) with
        | none => exact absurd z (g3 d hd)
        | some k2 => exact List.mem_map.mpr ⟨(_, k2), (mem_live W.sz).2 ⟨stp_le M h' d, z⟩, rfl⟩
theorem size_308 : SetTable.sizeAbove (SetTable.grown 77) = 512 := by decide +kernel
end Sm

/-! sets of tuples of ints and texts: searched, added to, asked -/
namespace Sx
open PySem PySem.Spec PyProof.Rows L2 Sm
abbrev Ky := List L2.Key
abbrev Tp (P : Program) (w : World) (h : Heap) (k : Ky) (a : Addr) : Prop := IsTupleKey (mixKind P w) h k a
abbrev kh (P : Program) (w : World) (k : Ky) : Int := tupleKeyHash (mixKind P w) k
section
variable {P : Program} {w : World} {A : Around} {E : Value → Shared → Prop} {s : Shared}
theorem flat_items {k : Ky} {vs : List Value} (h : ItemsAre (mixKind P w) k vs) : ∀ v ∈ vs, (∃ i t, v = Value.int i t) ∨ ∃ x t, v = Value.str x t := by
  induction h with
  | nil => intro v hv; cases hv
  | cons h1 _ ih =>
    intro v hv
    rcases List.mem_cons.mp hv with e | hv
    · subst e
      rcases keyIs_shape h1 with ⟨i, t, _, e⟩ | ⟨x, t, _, e⟩
      · exact .inl ⟨i, t, e⟩
      · exact .inr ⟨x, t, e⟩
    · exact ih v hv
theorem cls_flat {v : Value} (h : (∃ i t, v = Value.int i t) ∨ ∃ x t, v = Value.str x t) (n : Nat) : ofAClassStatement n v = pure false := by
  rcases h with ⟨i, t, rfl⟩ | ⟨x, t, rfl⟩ <;> cases n <;> rfl
theorem byv_flat {v : Value} (h : (∃ i t, v = Value.int i t) ∨ ∃ x t, v = Value.str x t) (n : Nat) : ∃ b, hashByValue n v = pure b := by
  rcases h with ⟨i, t, rfl⟩ | ⟨x, t, rfl⟩
  · exact ⟨true, by cases n <;> rfl⟩
  · exact ⟨false, by cases n <;> rfl⟩
abbrev FlatL (l : List Value) : Prop := ∀ v ∈ l, (∃ i t, v = Value.int i t) ∨ ∃ x t, v = Value.str x t
theorem cls_tup {k : Ky} {b : Addr} {Q : Bool → Shared → Prop} (hk : Tp P w s.heap k b) (h : Q false s) : wpAny (model P w) A (ofAClassStatement 8 (.ref b)) Q E s := by
  have hT := hk.typeIs
  obtain ⟨o, its, n, ho, _, hd, hi⟩ := hk
  have fl : FlatL its.toList := flat_items hi
  unfold ofAClassStatement
  refine wpAny_bind (wpAny_typeOf hT ?_)
  dsimp only
  simp only [show (("tuple" : String) == "tuple") = true from by decide, if_true, Bool.not_true, Bool.false_eq_true, if_false]
  try refine wpAny_bind (wpAny_pure ?_)
  try simp only [Bool.not_true, Bool.false_eq_true, if_false]
  show wpAny _ _ (seqItems? (.ref b) >>= _) _ _ s
  refine wpAny_bind (wpAny_seqItems ho hd ?_)
  dsimp only
  refine wpAny_bind ?_
  show wpAny _ _ (forIn its _ _) _ _ s
  rw [← Array.forIn_toList]
  refine wpAny_forIn_list _ (fun l r z => r.1 = none ∧ z = s ∧ FlatL l) _ (fun v l r z hz => ?_) (fun r z hz => ?_) _ _ ⟨rfl, rfl, fl⟩
  · obtain ⟨hr, rfl, hl⟩ := hz
    rw [cls_flat (hl v List.mem_cons_self)]
    refine wpAny_bind (wpAny_pure ?_)
    simp only [Bool.false_eq_true, if_false]
    exact wpAny_pure ⟨rfl, rfl, fun u hu => hl u (List.mem_cons_of_mem _ hu)⟩
  · obtain ⟨r1, r2⟩ := r
    obtain ⟨hr, rfl, _⟩ := hz
    simp only at hr
    subst hr
    exact wpAny_pure h
theorem byv_tup {k : Ky} {b : Addr} {Q : Bool → Shared → Prop} (hk : Tp P w s.heap k b) (h : ∀ c, Q c s) : wpAny (model P w) A (hashByValue 8 (.ref b)) Q E s := by
  have hT := hk.typeIs
  obtain ⟨o, its, n, ho, _, hd, hi⟩ := hk
  have fl : FlatL its.toList := flat_items hi
  unfold hashByValue
  refine wpAny_bind (wpAny_specialOf hT F.slot_tuple_hash.lookup ?_)
  show wpAny _ _ (seqItems? (.ref b) >>= _) _ _ s
  refine wpAny_bind (wpAny_seqItems ho hd ?_)
  refine wpAny_bind ?_
  show wpAny _ _ (forIn its _ _) _ _ s
  rw [← Array.forIn_toList]
  refine wpAny_forIn_list _ (fun l r z => z = s ∧ FlatL l) _ (fun v l r z hz => ?_) (fun r z hz => ?_) _ _ ⟨rfl, fl⟩
  · obtain ⟨rfl, hl⟩ := hz
    obtain ⟨c, ec⟩ := byv_flat (hl v List.mem_cons_self) 7
    rw [ec]
    refine wpAny_bind (wpAny_pure ?_)
    have nx : FlatL l := fun u hu => hl u (List.mem_cons_of_mem _ hu)
    cases c with
    | true =>
      simp only [Bool.not_true, Bool.false_eq_true, if_false]
      exact wpAny_pure ⟨rfl, nx⟩
    | false =>
      simp only [Bool.not_false, if_true]
      exact wpAny_pure (wpAny_pure (h _))
  · obtain ⟨r1, r2⟩ := r
    obtain ⟨rfl, _⟩ := hz
    cases r1 with
    | none => exact wpAny_pure (h _)
    | some c => exact wpAny_pure (h _)
end

abbrev Mem := List (Addr × Ky)
abbrev ksOf (L : Mem) : List Ky := L.map fun p => p.2
def hasK (L : Mem) (k : Ky) : Bool := L.any fun p => decide (p.2 = k)
theorem hasK_iff {L : Mem} {k : Ky} : hasK L k = true ↔ k ∈ ksOf L := by
  unfold hasK
  rw [List.any_eq_true, List.mem_map]
  exact ⟨fun ⟨p, m, e⟩ => ⟨p, m, of_decide_eq_true e⟩, fun ⟨p, m, e⟩ => ⟨p, m, decide_eq_true e⟩⟩
theorem hasK_no {L : Mem} {k : Ky} (h : k ∉ ksOf L) : hasK L k = false := by
  cases e : hasK L k with
  | false => rfl
  | true => exact absurd (hasK_iff.1 e) h
abbrev hsOf (P : Program) (w : World) (L : Mem) : List Int := L.map fun p => kh P w p.2
def rowOf (P : Program) (w : World) (p : Addr × Ky) : Int × Value := (kh P w p.2, .ref p.1)
/-- the set at a: its entries, its table -/
structure SetR (P : Program) (w : World) (h : Heap) (a : Addr) (L : Mem) (es : Array (Int × Value)) (t : SetTable) : Prop where
  ob : ∃ o ep, h.get? a = some o ∧ o.ExactSet ∧ o.data = .set es ep t
  rows : es.toList = L.map (rowOf P w)
  tab : Tab t (hsOf P w L)
  nd : (ksOf L).Nodup
  room : L.length * 5 < t.mask * 3
/-- its members stand as tuples -/
abbrev Tups (P : Program) (w : World) (h : Heap) (L : Mem) : Prop := ∀ p ∈ L, Tp P w h p.2 p.1
section
variable {P : Program} {w : World} {A : Around} {E : Value → Shared → Prop} {s : Shared} {h : Heap} {a : Addr} {L : Mem} {es : Array (Int × Value)} {t : SetTable}
theorem SetR.size (R : SetR P w h a L es t) : es.size = L.length := by
  rw [← Array.length_toList, R.rows, List.length_map]
theorem SetR.fits (R : SetR P w h a L es t) : t.fits es.size = true := by
  have e1 := R.tab.len
  rw [List.length_map, Array.length_toList] at e1
  have e2 := R.room
  unfold SetTable.fits SetTable.fill
  rw [R.tab.noD, R.size, e1, Bool.and_eq_true]
  exact ⟨beq_self_eq_true _, decide_eq_true (by show L.length + 0 ≤ t.mask; omega)⟩
theorem SetR.at (R : SetR P w h a L es t) {i : Nat} {p : Addr × Ky} (e : L[i]? = some p) : es[i]? = some (kh P w p.2, Value.ref p.1) := by
  rw [← Array.getElem?_toList, R.rows, List.getElem?_map, e]
  rfl
theorem SetR.sound (R : SetR P w h a L es t) : ¬ t.gaveWay = true := by
  unfold SetTable.gaveWay
  rw [R.tab.odd]
  decide
theorem seen_not {k : Ky} {b : Addr} {Q : Bool → Shared → Prop} (hk : Tp P w s.heap k b) {ys : List Value} (hy : ∀ y ∈ ys, ∃ k' c, y = Value.ref c ∧ Tp P w s.heap k' c) (q : Q false s) :
    wpAny (model P w) A (searchCouldBeSeen (.ref b) ys) Q E s := by
  unfold searchCouldBeSeen
  refine wpAny_bind ?_
  refine wpAny_forIn_list _ (fun l r z => r.1 = none ∧ z = s ∧ ∀ y ∈ l, ∃ k' c, y = Value.ref c ∧ Tp P w s.heap k' c) _ (fun v l r z hz => ?_) (fun r z hz => ?_) _ _ ⟨rfl, rfl, hy⟩
  · obtain ⟨hr, rfl, hl⟩ := hz
    obtain ⟨k', c, rfl, hc⟩ := hl v List.mem_cons_self
    have nx : ∀ y ∈ l, ∃ k' c, y = Value.ref c ∧ Tp P w z.heap k' c := fun u hu => hl u (List.mem_cons_of_mem _ hu)
    dsimp only
    split
    · exact wpAny_pure ⟨rfl, rfl, nx⟩
    · refine wpAny_bind (wpAny_eqIsQuiet_tuple hk ?_)
      simp only [Bool.not_true, Bool.false_eq_true, if_false]
      refine wpAny_bind (wpAny_eqIsQuiet_tuple hc ?_)
      simp only [Bool.not_true, Bool.false_eq_true, if_false]
      refine wpAny_bind (cls_tup hk ?_)
      simp only [Bool.false_eq_true, if_false]
      refine wpAny_bind (cls_tup hc ?_)
      simp only [Bool.false_eq_true, if_false]
      exact wpAny_pure ⟨rfl, rfl, nx⟩
  · obtain ⟨r1, r2⟩ := r
    obtain ⟨hr, rfl, _⟩ := hz
    simp only at hr
    subst hr
    exact wpAny_pure q
/-- the search from its c-th state on -/
theorem seek (R : SetR P w s.heap a L es t) (TU : Tups P w s.heap L) {x : Addr} {k : Ky} (hx : Tp P w s.heap k x) (hu : A.units < cLine) (add : Bool) {z : Nat} (hz : z < 10 * SetTable.turns t.mask) (Z : Hole t (kh P w k) z) {Q : SetFound → Shared → Prop}
    (yes : ∀ i, (add = false → i.isSome = true) → k ∈ ksOf L → Q (.there i) s) (no : k ∉ ksOf L → Q (.free (stp t.mask (kh P w k) z).j false) s) :
    ∀ (f c : Nat) (st : Option SetTable.Probe), st.getD (t.probeStart (kh P w k)) = stp t.mask (kh P w k) c → c ≤ z → z - c < f →
      (∀ (i : Nat) (p : Addr × Ky), L[i]? = some p → p.2 = k → ∃ d, c ≤ d ∧ d < z ∧ t.place.toList[i]? = some (stp t.mask (kh P w k) d).j) →
      wpAny (model P w) A (setSearchFrom a (.ref x) (kh P w k) add f st) Q E s
  | 0, c, st, _, _, hf, _ => absurd hf (Nat.not_lt_zero _)
  | f + 1, c, st, hst, hc, hf, lie => by
    obtain ⟨o, ep, ho, hex, hd⟩ := R.ob
    rw [setSearchFrom_succ]
    refine wpAny_bind (wpAny_setState_of ho hd R.fits ?_)
    dsimp only
    refine wp_if_neg R.sound ?_
    try refine wpAny_bind (wpAny_pure ?_)
    have hAt : ∀ (i : Nat) (p : Addr × Ky), L[i]? = some p → ((es[i]?.map (·.1)).getD 0) = kh P w p.2 := fun i p e => by rw [R.at e]; rfl
    have spec := go_spec t R.tab.up R.tab.noD (fun i => (es[i]?.map (·.1)).getD 0) (kh P w k) (10 * SetTable.turns t.mask) (z - c) (stp t.mask (kh P w k) c) (stp_dm _ _ c) (by omega)
      (fun q hq => by rw [stp_add]; exact Z.2 _ (by omega)) (by rw [stp_add, Nat.add_sub_cancel' hc]; exact Z.1)
    simp only [stp_add, Nat.add_sub_cancel' hc] at spec
    have pr : ∀ r, SetTable.probe.go t (fun i => (es[i]?.map (·.1)).getD 0) (kh P w k) (10 * SetTable.turns t.mask) (stp t.mask (kh P w k) c) = r → t.probe (fun i => (es[i]?.map (·.1)).getD 0) (kh P w k) (st.getD (t.probeStart (kh P w k))) = r := fun r e => by
      rw [hst]
      exact e
    rcases spec with ⟨q, i, hq, hi, hh, hno, hpr⟩ | ⟨hno, hpr⟩
    · rw [pr _ hpr]
      dsimp only
      have hil : i < L.length := by
        have e1 := (List.getElem?_eq_some_iff.mp hi).1
        rw [R.tab.len, List.length_map] at e1
        exact e1
      obtain ⟨p, hp⟩ : ∃ p, L[i]? = some p := ⟨_, List.getElem?_eq_getElem hil⟩
      have hpm := List.mem_of_getElem? hp
      have rest : wpAny (model P w) A (searchRest a (.ref x) (kh P w k) add f es t (stp t.mask (kh P w k) (c + q)).j i (stp t.mask (kh P w k) (c + (q + 1)))) Q E s := by
        unfold searchRest
        rw [R.at hp]
        dsimp only
        refine wpAny_bind (wpAny_holding (wpAny_eqBool_tuple hu (TU p hpm) hx ?_))
        refine wpAny_bind (wpAny_setState_of ho hd R.fits ?_)
        dsimp only
        have live : t.slot (stp t.mask (kh P w k) (c + q)).j = .live i := slot_live R.tab.up hi
        by_cases ek : p.2 = k
        · have mem : k ∈ ksOf L := List.mem_map.mpr ⟨p, hpm, ek⟩
          cases add with
          | true =>
            refine wp_if_pos (by simp [ek]) ?_
            exact wpAny_pure (yes none (fun e => nomatch e) mem)
          | false =>
            refine wp_if_neg (by simp) ?_
            try refine wpAny_bind (wpAny_pure ?_)
            rw [sameMem]
            dsimp only
            simp only [if_true, live, R.at hp]
            refine wpAny_bind (wpAny_isSame_ref_self (wpAny_bind (wpAny_pure ?_)))
            simp only [if_true]
            refine wp_if_pos (by simp [ek]) ?_
            exact wpAny_pure (yes (some i) (fun _ => rfl) mem)
        · refine wp_if_neg (by simp [ek]) ?_
          try refine wpAny_bind (wpAny_pure ?_)
          rw [sameMem]
          dsimp only
          simp only [if_true, live, R.at hp]
          refine wpAny_bind (wpAny_isSame_ref_self (wpAny_bind (wpAny_pure ?_)))
          simp only [if_true]
          refine wp_if_neg (by simp [ek]) ?_
          refine seek R TU hx hu add hz Z yes no f (c + (q + 1)) _ rfl (by omega) (by omega) fun i0 p0 h0 k0 => ?_
          obtain ⟨d, d1, d2, d3⟩ := lie i0 p0 h0 k0
          refine ⟨d, Classical.byContradiction fun far => ?_, d2, d3⟩
          rcases Nat.lt_or_eq_of_le (show d ≤ c + q by omega) with e | e
          · refine hno (d - c) i0 (by omega) (by rw [Nat.add_sub_cancel' d1]; exact d3) ?_
            rw [hAt i0 p0 h0, k0]
          · subst e
            have s0 := slot_live R.tab.up d3
            rw [live] at s0
            injection s0 with s0
            subst s0
            rw [hp] at h0
            cases h0
            exact ek k0
      by_cases hl : t.led = true
      · refine wp_if_neg (by simp [hl]) ?_
        try refine wpAny_bind (wpAny_pure ?_)
        exact rest
      · refine wp_if_pos (by simp [hl]) ?_
        refine wpAny_bind (seen_not hx (fun y hy => ?_) ?_)
        · obtain ⟨e, he, rfl⟩ := List.mem_map.mp hy
          have e1 : e ∈ es.toList := by
            have e0 : e ∈ es ∧ e.1 = kh P w k := by simpa using he
            simpa using e0.1
          rw [R.rows] at e1
          obtain ⟨p2, m2, rfl⟩ := List.mem_map.mp e1
          exact ⟨p2.2, p2.1, rfl, TU p2 m2⟩
        · refine wp_if_neg (by decide) ?_
          try refine wpAny_bind (wpAny_pure ?_)
          exact rest
    · rw [pr _ hpr]
      dsimp only
      refine wpAny_pure (no fun mem => ?_)
      obtain ⟨p0, m0, k0⟩ := List.mem_map.mp mem
      obtain ⟨i0, h0⟩ := List.mem_iff_getElem?.mp m0
      obtain ⟨d, d1, d2, d3⟩ := lie i0 p0 h0 k0
      refine hno (d - c) i0 (by omega) (by rw [Nat.add_sub_cancel' d1]; exact d3) ?_
      rw [hAt i0 p0 h0, k0]
/-- the whole search -/
theorem search (R : SetR P w s.heap a L es t) (TU : Tups P w s.heap L) {x : Addr} {k : Ky} (hx : Tp P w s.heap k x) (hu : A.units < cLine) (add : Bool) {Q : SetFound → Shared → Prop}
    (yes : ∀ i, (add = false → i.isSome = true) → k ∈ ksOf L → Q (.there i) s) (no : ∀ z, k ∉ ksOf L → Hole t (kh P w k) z → Q (.free (stp t.mask (kh P w k) z).j false) s) :
    wpAny (model P w) A (setSearch a (.ref x) (kh P w k) add) Q E s := by
  have room := R.room
  obtain ⟨z, hz, Z⟩ := R.tab.hole (by rw [List.length_map]; omega) (kh P w k)
  have big := R.tab.big
  unfold setSearch
  refine seek R TU hx hu add hz Z yes (fun n => no z n Z) 100000 0 none rfl (Nat.zero_le _) (by unfold SetTable.turns at hz; omega) fun i p hp hk => ?_
  have hil : i < t.place.toList.length := by
    rw [R.tab.len, List.length_map]
    exact (List.getElem?_eq_some_iff.mp hp).1
  obtain ⟨d, d1, d2⟩ := Z.ahead R.tab (i := i) (by rw [List.getElem?_map, hp, ← hk]; rfl) (List.getElem?_eq_getElem hil)
  exact ⟨d, Nat.zero_le _, d1, by rw [d2]; exact List.getElem?_eq_getElem hil⟩
/-- is it there -/
theorem contains_at (R : SetR P w s.heap a L es t) (TU : Tups P w s.heap L) {x : Addr} {k : Ky} (hx : Tp P w s.heap k x) (hu : A.units < cLine) {Q : Bool → Shared → Prop}
    (q : ∀ tk, Q (hasK L k) { s with toks := tk }) : wpAny (model P w) A (setContains a (.ref x)) Q E s := by
  obtain ⟨o, ep, ho, hex, hd⟩ := R.ob
  unfold setContains setFind
  refine wpAny_holding ?_
  refine wpAny_bind (wpAny_pyHash_tuple hu hx ?_)
  rw [show (100000 : Nat) = 99999 + 1 from rfl]
  unfold setFindIn
  refine wpAny_bind ?_
  refine wpAny_bind (wpAny_setState_of (s := { s with toks := s.toks + (k.length + 1) }) ho hd R.fits ?_)
  dsimp only
  refine wp_if_neg (by simp [byScan, Value.scannable]) ?_
  try refine wpAny_bind (wpAny_pure ?_)
  refine wpAny_bind (search (s := { s with toks := s.toks + (k.length + 1) }) R TU hx hu false (fun i hi m => ?_) fun z n _ => ?_)
  · dsimp only
    refine wpAny_pure (wpAny_pure ?_)
    rw [hi rfl]
    have e := q (s.toks + (k.length + 1))
    rw [hasK_iff.2 m] at e
    exact e
  · dsimp only
    refine wpAny_pure (wpAny_pure ?_)
    have e := q (s.toks + (k.length + 1))
    rw [hasK_no n] at e
    exact e

theorem rows_in (L : Mem) (p : Nat) (x : Addr × Ky) : (L.map (rowOf P w)).take p ++ rowOf P w x :: (L.map (rowOf P w)).drop p = (L.take p ++ x :: L.drop p).map (rowOf P w) := by
  simp
theorem ins_perm {α : Type} (L : List α) (p : Nat) (x : α) : (L.take p ++ x :: L.drop p).Perm (x :: L) := by
  have q : (L.take p ++ x :: L.drop p).Perm (x :: (L.take p ++ L.drop p)) := List.perm_middle
  rwa [List.take_append_drop] at q
theorem pick {α : Type} (L : List α) : (List.range L.length).filterMap (fun i => L[i]?) = L := by
  induction L with
  | nil => rfl
  | cons x L ih =>
    rw [List.length_cons, List.range_succ_eq_map, List.filterMap_cons_some (List.getElem?_cons_zero), List.filterMap_map]
    exact congrArg (x :: ·) ih
theorem ordered (L : Mem) (es : Array (Int × Value)) (od : Array Nat) (hr : es.toList = L.map (rowOf P w)) (hp : od.toList.Perm (List.range L.length)) :
    ∃ L2, (od.filterMap (es[·]?)).toList = L2.map (rowOf P w) ∧ L2.Perm L ∧ hsOf P w L2 = od.toList.map fun i => (es.map (·.1)).getD i 0 := by
  have key : ∀ l : List Nat, (∀ i ∈ l, i < L.length) → l.filterMap (fun i => es[i]?) = (l.filterMap fun i => L[i]?).map (rowOf P w) ∧ hsOf P w (l.filterMap fun i => L[i]?) = l.map fun i => (es.map (·.1)).getD i 0 := by
    intro l
    induction l with
    | nil => intro _; exact ⟨rfl, rfl⟩
    | cons i l ih =>
      intro hl
      obtain ⟨e1, e2⟩ := ih fun j hj => hl j (List.mem_cons_of_mem _ hj)
      obtain ⟨p, hp⟩ : ∃ p, L[i]? = some p := ⟨_, List.getElem?_eq_getElem (hl i List.mem_cons_self)⟩
      have he : es[i]? = some (rowOf P w p) := by rw [← Array.getElem?_toList, hr, List.getElem?_map, hp]; rfl
      refine ⟨?_, ?_⟩
      · rw [List.filterMap_cons_some he, List.filterMap_cons_some hp, e1]
        rfl
      · rw [List.filterMap_cons_some hp, List.map_cons, ← e2]
        refine congrArg (· :: _) ?_
        rw [Array.getD_eq_getD_getElem?, Array.getElem?_map, he]
        rfl
  obtain ⟨e1, e2⟩ := key od.toList fun i hi => List.mem_range.mp (hp.mem_iff.mp hi)
  refine ⟨od.toList.filterMap fun i => L[i]?, by first | (rw [Array.toList_filterMap]; exact e1) | simpa using e1, ?_, e2⟩
  have q := hp.filterMap fun i => L[i]?
  rwa [pick] at q
theorem tup_keep {h h' : Heap} {k : Ky} {b : Addr} {o : Obj} {ep : Nat} (x : Tp P w h k b) (ho : h.get? a = some o) (hd : o.data = .set es ep t) (sb : Heap.SameBut a h h') : Tp P w h' k b := by
  obtain ⟨o', its, n, e1, e2, e3, e4⟩ := x
  refine ⟨o', its, n, ?_, e2, e3, e4⟩
  rw [sb.2 b fun z => ?_]
  · exact e1
  · subst z
    rw [ho] at e1
    cases e1
    rw [hd] at e3
    exact nomatch e3
/-- laid anew, larger -/
theorem relay {o : Obj} {ep : Nat} (ho : s.heap.get? a = some o) (hex : o.ExactSet) (hd : o.data = .set es ep t) (rows : es.toList = L.map (rowOf P w)) (T : Tab t (hsOf P w L)) (hle : L.length ≤ t.mask) (nd : (ksOf L).Nodup) {n M : Nat}
    (hn : SetTable.sizeAbove (SetTable.grown n) - 1 = M) (hM : MaskX M) (hl : L.length * 5 < M * 3) {Q : Unit → Shared → Prop}
    (q : ∀ h' L' es' t', Heap.SameBut a s.heap h' → SetR P w h' a L' es' t' → L'.Perm L → Q () { s with heap := h' }) : wpAny (model P w) A (setRelay a (SetTable.grown n)) Q E s := by
  have sz : es.size = L.length := by rw [← Array.length_toList, rows, List.length_map]
  have e1 := T.len
  rw [List.length_map, Array.length_toList] at e1
  have fit : t.fits es.size = true := by
    unfold SetTable.fits SetTable.fill
    rw [T.noD, sz, e1, Bool.and_eq_true]
    exact ⟨beq_self_eq_true _, decide_eq_true (by show L.length + 0 ≤ t.mask; omega)⟩
  have big : M ≤ 511 := by rcases hM with (e | e | e) | e <;> omega
  obtain ⟨t', od, e, hp, T', em, _⟩ := relaidX t (hs := es.map (·.1)) hn hM (by rw [Array.size_map, sz]; omega)
  rw [Array.size_map, sz] at hp
  obtain ⟨L2, r1, r2, r3⟩ := ordered L es od rows hp
  have sz2 : (od.filterMap (es[·]?)).size = es.size := by
    rw [← Array.length_toList, r1, List.length_map, r2.length_eq, sz]
  rw [setRelay_eq]
  refine wpAny_bind (wpAny_setState_of ho hd fit ?_)
  dsimp only
  refine wp_if_neg (by rw [sizeLine_eq]; omega) ?_
  try refine wpAny_bind (wpAny_pure ?_)
  rw [e]
  dsimp only
  refine wpAny_bind ?_
  refine wp_if_neg (by rw [sz2]; simp) ?_
  try refine wpAny_bind (wpAny_pure ?_)
  refine wpAny_pure ?_
  dsimp only
  refine wpAny_storeSet_of ho hd (q _ L2 _ t' (Heap.SameBut.update ..) ⟨⟨_, _, store_at ho hd, ⟨hex.1, hex.2.1, hex.2.2⟩, rfl⟩, r1, by rw [r3]; exact T', (r2.map (·.2)).nodup_iff.mpr nd, by rw [r2.length_eq, em]; exact hl⟩ r2) ?_
  rw [sz2, sz, sizeLine_eq]
  omega
theorem full_cases {m n : Nat} (hm : MaskX m) (h1 : n * 5 < m * 3) (h2 : (n + 1) * 5 ≥ m * 3) (h3 : n + 1 ≤ 300) : ∃ M, SetTable.sizeAbove (SetTable.grown (n + 1)) - 1 = M ∧ MaskX M ∧ (n + 1) * 5 < M * 3 := by
  rcases hm with (e | e | e) | e
  · have en : n = 4 := by omega
    subst en
    exact ⟨31, by rw [size_20], .inl (.inr (.inl rfl)), by omega⟩
  · have en : n = 18 := by omega
    subst en
    exact ⟨127, by rw [size_76], .inl (.inr (.inr rfl)), by omega⟩
  · have en : n = 76 := by omega
    subst en
    exact ⟨511, by rw [size_308], .inr rfl, by omega⟩
  · omega
/-- one added -/
theorem add_hashed (R : SetR P w s.heap a L es t) (TU : Tups P w s.heap L) {x : Addr} {k : Ky} (hx : Tp P w s.heap k x) (hu : A.units < cLine) (hl : L.length + 1 ≤ 300) {Q : Bool → Shared → Prop}
    (q : ∀ b h' L' es' t', Heap.SameBut a s.heap h' → SetR P w h' a L' es' t' → (k ∈ ksOf L ∧ L' = L ∨ k ∉ ksOf L ∧ L'.Perm ((x, k) :: L)) → Q b { s with heap := h' }) :
    wpAny (model P w) A (setAddHashed a (.ref x) (kh P w k)) Q E s := by
  obtain ⟨o, ep, ho, hex, hd⟩ := R.ob
  have room := R.room
  unfold setAddHashed
  refine wpAny_holding ?_
  rw [show (100000 : Nat) = 99999 + 1 from rfl, setAddHashedIn_succ]
  refine wpAny_bind (wpAny_setState_of ho hd R.fits ?_)
  dsimp only
  refine wp_if_neg (by simp [byScan, Value.scannable]) ?_
  try refine wpAny_bind (wpAny_pure ?_)
  refine wpAny_bind (search R TU hx hu true (fun i _ m => ?_) fun z n Z => ?_)
  · dsimp only
    exact wpAny_pure (q false s.heap L es t (Heap.SameBut.refl a s.heap) R (.inl ⟨m, rfl⟩))
  · dsimp only
    refine wpAny_bind (wpAny_setState_of ho hd R.fits ?_)
    dsimp only
    have fil : (t.put (stp t.mask (kh P w k) z).j).1.mask = t.mask := rfl
    obtain ⟨le, T'⟩ := R.tab.put Z rfl
    have at2 : (t.put (stp t.mask (kh P w k) z).j).2 = SetTable.below t.place (stp t.mask (kh P w k) z).j := rfl
    generalize t.put (stp t.mask (kh P w k) z).j = pt at fil T' at2 ⊢
    obtain ⟨t1, p⟩ := pt
    dsimp only at fil T' at2 ⊢
    subst at2
    generalize SetTable.below t.place (stp t.mask (kh P w k) z).j = p at le T' ⊢
    have pm := ins_perm L p (x, k)
    have hsE : (hsOf P w L).take p ++ kh P w k :: (hsOf P w L).drop p = hsOf P w (L.take p ++ (x, k) :: L.drop p) := by
      simp
    rw [hsE] at T'
    have rows1 : (SetTable.insertAt es p (kh P w k, Value.ref x)).toList = (L.take p ++ (x, k) :: L.drop p).map (rowOf P w) := by
      rw [SetTable.toList_insertAt, R.rows, ← rows_in]
      rfl
    have nd1 : (ksOf (L.take p ++ (x, k) :: L.drop p)).Nodup := by
      have e1 := (pm.map fun p => p.2).nodup_iff.mpr (List.nodup_cons.mpr ⟨n, R.nd⟩)
      exact e1
    generalize L.take p ++ (x, k) :: L.drop p = L1 at pm T' rows1 nd1
    generalize SetTable.insertAt es p (kh P w k, Value.ref x) = es1 at rows1 ⊢
    have len1 : L1.length = L.length + 1 := pm.length_eq
    have sz1 : es1.size = L.length + 1 := by rw [← Array.length_toList, rows1, List.length_map, len1]
    have esz := R.size
    have tail : ∀ t2 : SetTable, t2.place = t1.place → t2.dummies = t1.dummies → t2.mask = t1.mask → wpAny (model P w) A (do
        storeSet a es1 t2
        if (!false && t2.tooFull) = true then do
            setRelay a (SetTable.grown (es.size + 1))
            pure true
          else pure true) Q E s := fun t2 g1 g2 g3 => by
      have T2 : Tab t2 (hsOf P w L1) := by
        obtain ⟨b1, b2, b3, b4, b5, b6⟩ := T'
        rw [← g1] at b1 b3 b5 b6
        rw [← g2] at b2
        rw [← g3] at b4 b5 b6
        exact ⟨b1, b2, b3, b4, b5, b6⟩
      refine wpAny_bind (wpAny_storeSet_of ho hd ?_ (by rw [sz1, sizeLine_eq]; omega))
      have sb : Heap.SameBut a s.heap (s.heap.update a (Obj.putSet es1 t2)) := Heap.SameBut.update ..
      have ho1 := store_at (es' := es1) (t' := t2) ho hd
      generalize s.heap.update a (Obj.putSet es1 t2) = h1 at sb ho1 ⊢
      have fill2 : t2.fill = L.length + 1 := by
        unfold SetTable.fill
        rw [T2.noD]
        have e1 := T2.len
        rw [List.length_map, Array.length_toList, len1] at e1
        exact e1
      by_cases hf : t2.tooFull = true
      · refine wp_if_pos (by simp [hf]) ?_
        have f2 : (L.length + 1) * 5 ≥ t2.mask * 3 := by
          unfold SetTable.tooFull at hf
          rw [decide_eq_true_eq, fill2] at hf
          exact hf
        rw [g3, fil] at f2
        rw [esz]
        obtain ⟨M, m1, m2, m3⟩ := full_cases R.tab.msk room f2 hl
        refine wpAny_bind (relay (s := { s with heap := h1 }) ho1 ⟨hex.1, hex.2.1, hex.2.2⟩ rfl rows1 T2 (by rw [len1, g3, fil]; omega) nd1 m1 m2 (by rw [len1]; exact m3) fun h2 L2 es2 t3 sb2 R2 pm2 => ?_)
        exact wpAny_pure (q true h2 L2 es2 t3 (sb.trans sb2) R2 (.inr ⟨n, pm2.trans pm⟩))
      · refine wp_if_neg (by simp [hf]) ?_
        refine wpAny_pure (q true h1 L1 es1 t2 sb ⟨⟨_, _, ho1, ⟨hex.1, hex.2.1, hex.2.2⟩, rfl⟩, rows1, T2, nd1, ?_⟩ (.inr ⟨n, pm⟩))
        unfold SetTable.tooFull at hf
        rw [decide_eq_true_eq, fill2] at hf
        rw [len1]
        omega
    by_cases hpl : t1.plain = true
    · refine wp_if_pos hpl (wpAny_bind (byv_tup hx fun c => ?_))
      cases c with
      | true => exact tail t1 rfl rfl rfl
      | false => exact tail { t1 with plain := false } rfl rfl rfl
    · refine wp_if_neg hpl (wpAny_bind (wpAny_pure ?_))
      exact tail t1 rfl rfl rfl
end
end Sx

/-! {t for .. in ..}, t a tuple of ints and texts; t in such a set -/
namespace Sx
open PySem PySem.Spec PyProof.Rows L2 Sm PpSet
/-- the set at a as a tracked thing: its members, each an address and the key that stands there -/
def SetO (P : Program) (w : World) (a : Addr) (L : Mem) : HO := .ext fun h => ∃ es t, SetR P w h a L es t
/-- the members stand -/
abbrev MemT (K : PySem.W.Frag) (H : Hp) (L : Mem) : Prop := ∀ p ∈ L, SqT K H p.1 (p.2.map kV)
/-- L with the key k at T put in -/
def Put (L : Mem) (T : Addr) (k : Ky) (L' : Mem) : Prop := k ∈ ksOf L ∧ L' = L ∨ k ∉ ksOf L ∧ L'.Perm ((T, k) :: L)
theorem setO_ok {P : Program} {w : World} {H : Hp} {h : Heap} {a : Addr} {L : Mem} {es : Array (Int × Value)} {t : SetTable} (R : SetR P w h a L es t) : ObjOk P w H h a (SetO P w a L) := by
  obtain ⟨o, ep, ho, r⟩ := R.ob
  refine ⟨⟨es, t, R⟩, ⟨o, ho⟩, fun h1 h2 ⟨es1, t1, R1⟩ k => ⟨es1, t1, ?_, R1.rows, R1.tab, R1.nd, R1.room⟩⟩
  obtain ⟨o1, ep1, ho1, r1⟩ := R1.ob
  exact ⟨o1, ep1, k _ ho1, r1⟩
theorem setR_new {P : Program} {w : World} {h : Heap} {a : Addr} (ho : h.get? a = some { cls := .type "set", dict := none, data := .set #[] 0 (.fresh 0 0 (!w.params.followText "set-order")) }) : SetR P w h a [] #[] (.fresh 0 0 (!w.params.followText "set-order")) :=
  ⟨⟨_, _, ho, ⟨rfl, rfl, rfl⟩, rfl⟩, rfl, Tab.fresh _ _ _, List.nodup_nil, by show 0 * 5 < 7 * 3; decide⟩
theorem typeS {P : Program} {w : World} {s : Shared} {a : Addr} {L : Mem} {es : Array (Int × Value)} {t : SetTable} (R : SetR P w s.heap a L es t) : s.TypeIs (.ref a) "set" := by
  obtain ⟨o, ep, ho, hex, _⟩ := R.ob
  exact ⟨o, ho, hex.1⟩
theorem items_mix {P : Program} {w : World} : ∀ {k : Ky} {us : List Value}, Vals (k.map kV) us → ItemsAre (mixKind P w) k us
  | [], _, .nil => .nil
  | .inl i :: k, _, .cons r t => by
    obtain ⟨tk, rfl⟩ := r
    exact .cons (mixKind_int P w i tk) (items_mix t)
  | .inr x :: k, _, .cons r t => by
    obtain ⟨tk, rfl⟩ := r
    exact .cons (mixKind_str P w x tk) (items_mix t)
section
variable {X : Cx} {pins : List (Addr × Obj)} {σ : L2.St} {H : Hp} {s : Shared} {D T : Addr} {k : Ky} {L : Mem} {E : Value → Shared → Prop}
theorem tp_of (I : Inv X pins σ H s) (h : SqT X.K H T (k.map kV)) : Tp X.prog X.w s.heap k T := by
  obtain ⟨its, r, ⟨o, ho, hc, n, hd⟩, _⟩ := I.tuple h
  exact ⟨o, its.toArray, n, ho, hc, hd, by simpa using items_mix r⟩
theorem setO_get (I : Inv X pins σ H s) (hD : H D = some (SetO X.prog X.w D L)) : ∃ es t, SetR X.prog X.w s.heap D L es t := (I.hok D _ hD).1
/-- found.add(t) -/
theorem addX {Q : Value → Shared → Prop} (hu : X.A.units + 64 < cLine) (I : Inv X pins σ H s) (hD : H D = some (SetO X.prog X.w D L)) (hT : SqT X.K H T (k.map kV)) (hL : MemT X.K H L) (few : L.length + 1 ≤ 300)
    (q : ∀ s' L', Put L T k L' → Inv X pins σ (upd H D (SetO X.prog X.w D L')) s' → Q .none s') : wpAny (model X.prog X.w) X.A (call (.builtin "set.add") [.ref D, .ref T]) Q E s := by
  obtain ⟨es, t, R⟩ := setO_get I hD
  have hx := tp_of I hT
  have TU : Tups X.prog X.w s.heap L := fun p hp => tp_of I (hL p hp)
  refine wpAny_call_entry F.slot_set_add (typeS R) F.entry_set_add ?_ (F.args_set_add_2 _ _)
  unfold Builtin.«set.add» Builtin.Frozenset.oneOther
  simp only [List.isEmpty_nil, bind_assoc]
  unfold Builtin.Frozenset.addrOf setAdd
  refine wpAny_bind (wpAny_pure ?_)
  try dsimp only
  refine wpAny_bind (wpAny_pure ?_)
  try dsimp only
  refine wpAny_bind (wpAny_holding (wpAny_bind (wpAny_pyHash_tuple (by show X.A.units + 1 < cLine; omega) hx ?_)))
  refine add_hashed (s := { s with toks := s.toks + (k.length + 1) }) R TU hx (by show X.A.units + 1 < cLine; omega) few fun b h' L' es' t' sb R' pu => ?_
  refine wpAny_pure ⟨_, rfl, q _ L' pu ?_⟩
  refine I.write (e := D) (t' := s.toks + (k.length + 1)) (by rw [hD]; trivial) (.inl rfl) (fun b u hb hu => (sb.2 b hb).trans hu) ?_ (setO_ok R')
  obtain ⟨o, ep, ho, _⟩ := R'.ob
  exact ⟨o, ho⟩
/-- t in found -/
def rInX (K : PySem.W.Frag) (P : Program) (w : World) : R2 := fun x y H Q => ∃ (T a : Addr) (k : Ky) (L : Mem), x = .ref T ∧ y = .ref a ∧ SqT K H T (k.map kV) ∧ H a = some (SetO P w a L) ∧ MemT K H L ∧ Q (.bl (hasK L k)) H
theorem op_inX (hu : X.A.units + 64 < cLine) : OpR X (compareOp .In) (rInX X.K X.prog X.w) := by
  intro pins s σ H x y v u Q I rx ry h
  obtain ⟨T, a, k, L, rfl, rfl, hT, ha, hL, q⟩ := h
  cases rx
  cases ry
  obtain ⟨es, t, R⟩ := setO_get I ha
  have hx := tp_of I hT
  have TU : Tups X.prog X.w s.heap L := fun p hp => tp_of I (hL p hp)
  show wpAny _ _ (contains (.ref a) (.ref T) >>= fun b => pure (Value.bool b)) _ _ s
  refine wpAny_bind ?_
  unfold contains
  try with_reducible refine wpAny_holding ?_
  refine wpAny_bind (wpAny_specialOf (typeS R) F.slot_set_contains.lookup ?_)
  show wpAny _ _ (if (some (Value.builtin "set.__contains__") == some Value.none) = true then _ else _) _ _ s
  rw [if_neg (by rw [beq_builtin_none]; exact Bool.false_ne_true)]
  refine wpAny_bind (wpAny_callSpecialUnlessNone?_slot (name := Str.ofString "__contains__") (typeS R) F.slot_set_contains (wpAny_call_entry F.slot_set_contains (typeS R) entry_set_contains ?_ (F.args_set_contains_2 _ _)))
  unfold Builtin.«frozenset.__contains__» Builtin.Frozenset.oneOther
  simp only [List.isEmpty_nil, bind_assoc]
  unfold Builtin.Frozenset.addrOf Builtin.Frozenset.withSetAsKey
  refine wpAny_bind (wpAny_pure ?_)
  try dsimp only
  refine wpAny_bind (wpAny_pure ?_)
  try dsimp only
  refine wpAny_bind (wpAny_tryCatch ?_)
  refine contains_at R TU hx (by show X.A.units + 1 < cLine; omega) fun tk => ?_
  show wpAny _ _ (ret (Value.bool (hasK L k))) _ _ _
  exact wpAny_pure ⟨_, rfl, wpAny_truthy_bool (wpAny_pure ⟨.bl _, H, I.tok tk, rfl, q⟩)⟩
end
section
variable {X : Cx}
/-- a set comprehension: D the new set -/
def tSx (P : Program) (w : World) (K : PySem.W.Frag) (wi : TI) (g : TG) (tt : TT) (te : TE) (vs : List Nat) : TE := fun σ H Q => wi σ H fun J H1 => ∀ D, H1 D = none → ∃ W : Nat → Nat → Hp → Prop, (∃ m, W 0 m (upd H1 D (SetO P w D []))) ∧ ∀ i m H, W i m H →
  (J.stop i H ∧ Q (.ref D) H) ∨ (J.go i H ∧ ∃ N : Hp → Prop, (∀ H', N H' → ∃ m', m' < m ∧ W (i + 1) m' H') ∧ ∀ x H', J.yld i H x H' → g x (wipe σ vs) H' fun σ2 H2 => wipe σ2 vs = wipe σ vs ∧ tt σ2 H2 fun b H3 =>
    if b = true then te σ2 H3 fun y H4 => ∃ (T : Addr) (k : Ky) (L : Mem), y = .ref T ∧ SqT K H4 T (k.map kV) ∧ H4 D = some (SetO P w D L) ∧ MemT K H4 L ∧ L.length + 1 ≤ 300 ∧ ∀ L', Put L T k L' → N (upd H4 D (SetO P w D L')) else N H3)
theorem setX_core {pins : List (Addr × Obj)} {s : Shared} {σ : L2.St} {H : Hp} {Q : VK} {elt tg iter : Expr} {ifs : List Expr} {scope : Scope} {own : List (PySem.Str × Nat)} {pos pos' : Pos} {wi : TI} {g : TG} {tt : TT} {te : TE} {use : Option (Value → Sem Unit)} {Qf : Value → Shared → Prop}
    (hu : X.A.units + 64 < cLine) (hc : X.calm = true) (hN : X.N.Nodup) (I : Inv X pins σ H s) (hi : PI X tg iter wi) (ok : BlkOk X.N X.env.scope scope own)
    (hg : ∀ (z : Shared) (Z : Hp) (C : Addr) (cl : List (PySem.Str × Addr)) (fp : List Addr), PG (X.blk z Z scope (compEnvC scope cl C X.env) fp) tg g)
    (ht : ∀ (z : Shared) (Z : Hp) (C : Addr) (cl : List (PySem.Str × Addr)) (fp : List Addr), PTs (X.blk z Z scope (compEnvC scope cl C X.env) fp) ifs tt)
    (he : ∀ (z : Shared) (Z : Hp) (C : Addr) (cl : List (PySem.Str × Addr)) (fp : List Addr), PE (X.blk z Z scope (compEnvC scope cl C X.env) fp) elt te) (hs : ∀ x, foldedSetIterable iter X.env x = pure x)
    (h : tSx X.prog X.w X.K wi g tt te (own.map (·.2)) σ H Q)
    (fin : ∀ D C z m Z, Inv X pins σ Z z → Q (.ref D) Z → z.heap.Ns C m → FpOk X pins Z C → compPost (model X.prog X.w) X.A X.xe use Qf (.ref D) C (.ok .next) z) :
    wpAny (model X.prog X.w) X.A (comprehension (.SetComp elt [⟨tg, iter, ifs, 0⟩] scope pos) scope X.env pos' (newSet (.type "set")) false (eval iter X.env) use) Qf X.xe s := by
  have cells : ∀ y ∈ scope.names, y.2 = .free → ∃ c, X.env.cells.lookup y.1 = some c := fun y hy e => by
    rcases ok.free y hy e with k | k
    · exact I.ok.has _ (.inl k)
    · exact I.ok.has _ (.inr k)
  refine wpAny_comprehension_free (use := use) rfl hs (closure_ok cells) ok.kind (fun y hy e => by rw [ok.uniq y hy, e]) (thn (hi.run pins s σ H _ I h) fun _ _ hx => thn hx fun _ s2 h2 => ?_)
  obtain ⟨it, fp, tn, J, H2, rfl, I2, T, st2, f2, q⟩ := h2
  refine newSet_ok (newEnv_comp ?_)
  -- the new set at D
  generalize hD : s2.heap.objs.size = D
  obtain ⟨W, ⟨m0, w0⟩, turn⟩ := q D (I2.hok.fresh (Nat.le_of_eq hD))
  generalize hob : ({ cls := .type "set", dict := none, data := .set #[] 0 (.fresh 0 0 (!X.w.params.followText "set-order")) } : Obj) = ob
  generalize hs3 : ({ s2 with heap := s2.heap.push ob } : Shared) = s3
  have heap3 : s3.heap = s2.heap.push ob := by rw [← hs3]
  generalize hH3 : upd H2 D (SetO X.prog X.w D []) = H3 at w0
  have I3 : Inv X pins σ H3 s3 := by
    rw [← hs3, ← hH3]
    refine I2.laid (t' := s2.toks) (fun b o e => Heap.get?_push_of_some _ e) (Nat.le_of_eq hD) (setO_ok (es := #[]) (setR_new ?_))
    rw [← hD, ← hob]
    exact Heap.get?_push_size _ rfl
  have old : ∀ b ∈ fp, b < s2.heap.objs.size := fun b hb => by
    obtain ⟨o, e, _⟩ := T.obj _ _ st2 b hb
    exact Heap.lt_size e
  have f3 : ∀ b ∈ fp, FpOk X pins H3 b ∧ b < s3.heap.objs.size := fun b hb => by
    have lt := old b hb
    obtain ⟨n1, n2⟩ := f2 b hb
    refine ⟨⟨?_, n2⟩, by rw [heap3, Heap.size_push]; exact Nat.lt_succ_of_lt lt⟩
    rw [← hH3, upd_ne (by rw [← hD]; exact Nat.ne_of_lt lt)]
    exact n1
  have st3 : tn 0 s3.heap := T.keep _ _ _ st2 fun b _ o e => by rw [heap3]; exact Heap.get?_push_of_some _ e
  -- the block
  have I4 := block_start I3 ok hN f3
  have G := hg s3 H3 s3.heap.objs.size (cellsFrom (s3.heap.objs.size + 1) scope.names (cloFrom X.env.cells scope.names [])) fp
  have C := ht s3 H3 s3.heap.objs.size (cellsFrom (s3.heap.objs.size + 1) scope.names (cloFrom X.env.cells scope.names [])) fp
  have L := he s3 H3 s3.heap.objs.size (cellsFrom (s3.heap.objs.size + 1) scope.names (cloFrom X.env.cells scope.names [])) fp
  show codeAny _ _ (.compStart (.SetComp elt [⟨tg, iter, ifs, 0⟩] scope pos) 0 (.ref it) (.ref D) (compEnvC scope (cellsFrom (s3.heap.objs.size + 1) scope.names (cloFrom X.env.cells scope.names [])) s3.heap.objs.size X.env)) (compPost (model X.prog X.w) X.A X.xe use Qf (.ref D) s3.heap.objs.size) { s3 with heap := pushCells (s3.heap.push { cls := .type "dict", data := .dict #[] }) scope.names }
  generalize hV : compEnvC scope (cellsFrom (s3.heap.objs.size + 1) scope.names (cloFrom X.env.cells scope.names [])) s3.heap.objs.size X.env = V at I4 G C L ⊢
  have locV : V.locals = s3.heap.objs.size := by subst hV; rfl
  generalize hs4 : ({ s3 with heap := pushCells (s3.heap.push { cls := .type "dict", data := .dict #[] }) scope.names } : Shared) = s4 at I4 ⊢
  have st4 : tn 0 s4.heap := T.keep _ _ _ st3 fun b _ o e => by
    rw [← hs4]
    exact pushCells_keeps _ _ _ _ (Heap.get?_push_of_some _ e)
  have free : ∀ {σ' : L2.St} {H' : Hp} {z : Shared}, Inv (X.blk s3 H3 scope V fp) [] σ' H' z → (∀ b ∈ fp, H' b = none) → ∀ b ∈ fp, FpOk (X.blk s3 H3 scope V fp) [] H' b := fun {σ' H' z} I' n b hb =>
    ⟨n b hb, (I'.ok.exf b hb).1, I'.ok.exfs b hb, .inl hb, fun x c e => (I'.ok.exf b hb).2 x c e, fun p hp => by cases hp⟩
  refine codeAny_compStart_set ?loop (T.self X.A 0 _ _ _ st4 ?loop)
  refine compLoopS_any (fun n z => ∃ i Z, Inv (X.blk s3 H3 scope V fp) [] (wipe σ (own.map (·.2))) Z z ∧ tn i z.heap ∧ (∀ b ∈ fp, Z b = none) ∧ W i n Z) (fun n s5 h5 => ?_) m0 ⟨0, H3, I4, st4, fun b hb => (f3 b hb).1.1, w0⟩
  obtain ⟨i, H5, I5, st5, n5, w5⟩ := h5
  rcases turn i n H5 w5 with ⟨stop, qq⟩ | ⟨go, N, hNx, step⟩
  · refine thnF (T.done (X.blk s3 H3 scope V fp) rfl rfl rfl hc i [] s5 _ H5 (fun _ _ => False) I5 (free I5 n5) st5 stop) fun r s6 ⟨hr, I6⟩ => ?_
    subst hr
    have I7 : Inv X pins σ H5 s6 := I3.call' (ch := fp) I6.os I6.base I6.hok I6.bare fun b hb => by
      obtain ⟨⟨_, g1, g2, g3, g4, g5⟩, _⟩ := f3 b hb
      exact ⟨g3, g1, g4, g5⟩
    have nC : H5 s3.heap.objs.size = none := locV ▸ I6.free
    obtain ⟨m, hn, _⟩ := I6.loc
    have hn : s6.heap.Ns s3.heap.objs.size m := locV ▸ hn
    exact fin D s3.heap.objs.size s6 m H5 I7 qq hn (I3.fpOk (Nat.le_refl _) nC)
  · refine thnF (T.item (X.blk s3 H3 scope V fp) rfl rfl rfl hc i [] s5 _ H5 (fun _ _ => False) I5 (free I5 n5) st5 go) fun r s6 ⟨u, hr, h6⟩ => ?_
    subst hr
    refine thnF h6 fun _ s7 ⟨x, H7, I7, r7, y7, st7, n7⟩ => ?_
    have I7p := I7.pinned (free I7 n7) (T.obj _ _ st7)
    refine thnF (G.run _ s7 _ H7 x u _ I7p r7 (step x H7 y7)) fun _ s8 ⟨σ8, H8, I8, w8, q8⟩ => ?_
    refine thnF (C.run _ s8 σ8 H8 _ I8 q8) fun b s9 ⟨H9, I9, q9⟩ => ?_
    have back : ∀ {z : Shared} {Z : Hp}, Inv (X.blk s3 H3 scope V fp) ([] ++ pinsAt fp s7.heap) σ8 Z z → N Z → ∃ m, m < n ∧ ∃ i Z, Inv (X.blk s3 H3 scope V fp) [] (wipe σ (own.map (·.2))) Z z ∧ tn i z.heap ∧ (∀ b ∈ fp, Z b = none) ∧ W i m Z := fun {z Z} J nx => by
      obtain ⟨m, lt, w'⟩ := hNx Z nx
      have pin : ∀ b ∈ fp, ∀ o, s7.heap.get? b = some o → z.heap.get? b = some o ∧ Z b = none := fun b hb o e => by
        have p := J.pin (b, o) (List.mem_append_right _ (List.mem_append_right _ (mem_pinsAt hb e)))
        exact ⟨p.1, p.2.1⟩
      refine ⟨m, lt, i + 1, Z, (J.unpinned (pins := [])).weak (by rw [← w8, wipe_length]) (fun j v e => by rw [← w8] at e; exact (wipe_some e).1), T.keep _ _ _ st7 fun b hb o e => (pin b hb o e).1, fun b hb => ?_, w'⟩
      obtain ⟨o, e, _⟩ := T.obj _ _ st7 b hb
      exact (pin b hb o e).2
    cases b with
    | false =>
      simp only [Bool.false_eq_true, if_false] at q9 ⊢
      exact back I9 q9
    | true =>
      simp only [if_true] at q9 ⊢
      refine thnF (L.run _ s9 σ8 H9 _ I9 q9) fun v s10 ⟨yv, H10, I10, r10, T2, k2, L2', ey, hT, hD2, hM, few, nx⟩ => ?_
      subst ey
      cases (show v = Value.ref T2 from r10)
      exact addX (X := X.blk s3 H3 scope V fp) hu I10 hD2 hT hM few fun z L3 pu J => back J (nx L3 pu)
/-- as a value -/
theorem pe_setX {elt tg iter : Expr} {ifs : List Expr} {scope : Scope} {own : List (PySem.Str × Nat)} {pos : Pos} {wi : TI} {g : TG} {tt : TT} {te : TE} (hu : X.A.units + 64 < cLine) (hc : X.calm = true) (hN : X.N.Nodup) (hi : PI X tg iter wi) (ok : BlkOk X.N X.env.scope scope own)
    (hg : ∀ (z : Shared) (Z : Hp) (C : Addr) (cl : List (PySem.Str × Addr)) (fp : List Addr), PG (X.blk z Z scope (compEnvC scope cl C X.env) fp) tg g)
    (ht : ∀ (z : Shared) (Z : Hp) (C : Addr) (cl : List (PySem.Str × Addr)) (fp : List Addr), PTs (X.blk z Z scope (compEnvC scope cl C X.env) fp) ifs tt)
    (he : ∀ (z : Shared) (Z : Hp) (C : Addr) (cl : List (PySem.Str × Addr)) (fp : List Addr), PE (X.blk z Z scope (compEnvC scope cl C X.env) fp) elt te) (hs : ∀ x, foldedSetIterable iter X.env x = pure x := by intro _; rfl) :
    PE X (.SetComp elt [⟨tg, iter, ifs, 0⟩] scope pos) (tSx X.prog X.w X.K wi g tt te (own.map (·.2))) := by
  refine ⟨fun pins s σ H Q I h => ?_⟩
  rw [eval_SetComp]
  refine setX_core (use := none) hu hc hN I hi ok hg ht he hs h fun D C z m Z J q hn f => ⟨m, hn, fun y sb => ?_⟩
  obtain ⟨a0, a1, _, a3, a4, a5⟩ := f
  exact ⟨.ref D, Z, J.turned (t' := z.toks) (fun b o hb e => (sb.2 b hb).trans e) a0 a1 a3 a4 a5, rfl, q⟩
/-- y = {..} on one line, y a local -/
theorem ps_setX {i : Nat} {y : Str} {py : Pos} {elt tg iter : Expr} {ifs : List Expr} {scope : Scope} {own : List (PySem.Str × Nat)} {pos spos : Pos} {wi : TI} {g : TG} {tt : TT} {te : TE} (hu : X.A.units + 64 < cLine) (hc : X.calm = true) (hN : X.N.Nodup) (hy : X.N[i]? = some y) (hyl : X.env.scope.names.lookup y = some .local)
    (hsw : swapsWith (.SetComp elt [⟨tg, iter, ifs, 0⟩] scope pos) (some (.Name y py)) spos.line X.env = pure true) (hi : PI X tg iter wi) (ok : BlkOk X.N X.env.scope scope own)
    (hg : ∀ (z : Shared) (Z : Hp) (C : Addr) (cl : List (PySem.Str × Addr)) (fp : List Addr), PG (X.blk z Z scope (compEnvC scope cl C X.env) fp) tg g)
    (ht : ∀ (z : Shared) (Z : Hp) (C : Addr) (cl : List (PySem.Str × Addr)) (fp : List Addr), PTs (X.blk z Z scope (compEnvC scope cl C X.env) fp) ifs tt)
    (he : ∀ (z : Shared) (Z : Hp) (C : Addr) (cl : List (PySem.Str × Addr)) (fp : List Addr), PE (X.blk z Z scope (compEnvC scope cl C X.env) fp) elt te) (hs : ∀ x, foldedSetIterable iter X.env x = pure x := by intro _; rfl) :
    PS X (.Assign [.Name y py] (.SetComp elt [⟨tg, iter, ifs, 0⟩] scope pos) spos) (tAsg (tSx X.prog X.w X.K wi g tt te (own.map (·.2))) (gName i)) := by
  refine ⟨fun pins s σ H D I h => ?_⟩
  rw [exec_Assign_Name_used _ _ _ _ hsw]
  refine wpAny_bind (wpAny_standAt (wpAny_bind ?_))
  show wpAny _ X.A (comprehension (.SetComp elt [⟨tg, iter, ifs, 0⟩] scope pos) scope X.env (firstIterPos [⟨tg, iter, ifs, 0⟩] pos) (newSet (.type "set")) false (eval iter X.env) (some (assign (.Name y py) X.env)) >>= fun _ => pure _) _ _ s
  have h : tSx X.prog X.w X.K wi g tt te (own.map (·.2)) σ H (fun x H1 => gName i x σ H1 D.nx) := h
  refine wpAny_bind (thn (setX_core (Qf := fun _ s' => SP X pins D .next s') hu hc hN I hi ok hg ht he hs h fun L C z m Z J q hn f => ?_) fun _ s' hq => wpAny_pure (wpAny_pure hq))
  show wpAny _ _ (assign (.Name y py) X.env (.ref L)) _ _ _
  refine wpAny_assign_Name (store_ok2 (v := V.ref L) J hN hy (.inl hyl) rfl (fun s2 I2 ⟨a, sb, ha⟩ => ?_) (.inr hyl))
  obtain ⟨a0, a1, _, a3, a4, a5⟩ := f
  have far : C ≠ a := by
    rcases ha with rfl | z
    · exact a1
    · exact fun e => a4 y a z e.symm
  exact ⟨m, hn.sameBut sb far, fun _ sb3 => ⟨_, Z, I2.turned (t' := s2.toks) (fun b o hb e => (sb3.2 b hb).trans e) a0 a1 a3 a4 a5, q⟩⟩
theorem sw_set {elt : Expr} {gs : List Comprehension} {scope : Scope} {pos py : Pos} {y : Str} {l : Nat} {env : Env} (hk : env.scope.kind = .function) (hy : env.scope.names.lookup y = some .local) (hl : (py.line == pos.line) = true)
    (ha : (scope.names.any fun (n, k) => n == y && (k == .local || k == .cell)) = false) : swapsWith (.SetComp elt gs scope pos) (some (.Name y py)) l env = pure true := by
  have e1 : env.kindOf y = some .local := hy
  have e2 : env.blockKind = .function := by
    unfold Env.blockKind
    rw [hk]
    rfl
  unfold swapsWith
  simp only [e2, e1, ha, Expr.pos, hl]
  rfl
/-- over a list -/
theorem sx_lst {P : Program} {w : World} {K : PySem.W.Frag} {a : Addr} {xs : List V} {g : TG} {tt : TT} {te : TE} {vs : List Nat} {σ : L2.St} {H1 : Hp} {D : Addr} {Qd : Hp → Prop} (Pv : Nat → Hp → Prop) (h0 : Pv 0 (upd H1 D (SetO P w D []))) (hl : ∀ i H, i ≤ xs.length → Pv i H → SqL K H a xs)
    (hs : ∀ i x H, xs[i]? = some x → Pv i H → g x (wipe σ vs) H fun σ2 H2 => wipe σ2 vs = wipe σ vs ∧ tt σ2 H2 fun b H3 =>
      if b = true then te σ2 H3 fun y H4 => ∃ (T : Addr) (k : Ky) (L : Mem), y = .ref T ∧ SqT K H4 T (k.map kV) ∧ H4 D = some (SetO P w D L) ∧ MemT K H4 L ∧ L.length + 1 ≤ 300 ∧ ∀ L', Put L T k L' → Pv (i + 1) (upd H4 D (SetO P w D L')) else Pv (i + 1) H3) (hd : ∀ H, Pv xs.length H → Qd H) :
    ∃ W : Nat → Nat → Hp → Prop, (∃ m, W 0 m (upd H1 D (SetO P w D []))) ∧ ∀ i m H, W i m H →
      ((Itl K a).stop i H ∧ Qd H) ∨ ((Itl K a).go i H ∧ ∃ N : Hp → Prop, (∀ H', N H' → ∃ m', m' < m ∧ W (i + 1) m' H') ∧ ∀ x H', (Itl K a).yld i H x H' → g x (wipe σ vs) H' fun σ2 H2 => wipe σ2 vs = wipe σ vs ∧ tt σ2 H2 fun b H3 =>
        if b = true then te σ2 H3 fun y H4 => ∃ (T : Addr) (k : Ky) (L : Mem), y = .ref T ∧ SqT K H4 T (k.map kV) ∧ H4 D = some (SetO P w D L) ∧ MemT K H4 L ∧ L.length + 1 ≤ 300 ∧ ∀ L', Put L T k L' → N (upd H4 D (SetO P w D L')) else N H3) := by
  refine ⟨fun i m H => m = xs.length - i ∧ i ≤ xs.length ∧ Pv i H, ⟨_, rfl, Nat.zero_le _, h0⟩, fun i m H hW => ?_⟩
  obtain ⟨rfl, le, p⟩ := hW
  have q := hl i H le p
  rcases Nat.lt_or_eq_of_le le with lt | e
  · refine .inr ⟨⟨xs, xs[i], q, by simp [lt]⟩, Pv (i + 1), fun H' p' => ⟨xs.length - (i + 1), by omega, rfl, lt, p'⟩, fun x H' y => ?_⟩
    obtain ⟨rfl, y⟩ := y
    exact hs i x _ (y xs q) p
  · subst e
    exact .inl ⟨⟨xs, q, Nat.le_refl _⟩, hd H p⟩
end
end Sx

/-! a text times a number -/
namespace Rs2
open PySem PySem.Spec PyProof.Rows L2
def repS (a : Str) (n : Nat) : Str := ⟨(List.replicate n a.cps).foldl (· ++ ·) #[]⟩
section
variable {X : Cx}
theorem op_repS : OpR X (binaryOp .Mult) (fun x y H Q => ∃ (a : Str) (n : Nat), x = .str a ∧ y = .int (n : Int) ∧ 2 ≤ n ∧ n ≤ 1000 ∧ 1 ≤ a.length ∧ a.length ≤ 1000 ∧ (repS a n).length ≤ 1000000 ∧ Q (.str (repS a n)) H) := by
  intro pins s σ H x y v u Q I rx ry h
  obtain ⟨a, n, rfl, rfl, h2, h3, h4, h5, h6, q⟩ := h
  obtain ⟨t, rfl⟩ := rx
  obtain ⟨t', rfl⟩ := ry
  have n1 : ¬ ((n : Int) < 1) := by omega
  have n2 : (((n : Int) == 1) || (a.length == 0)) = false := by
    rw [Bool.or_eq_false_iff]
    exact ⟨by simp; omega, by simp; omega⟩
  have e : ((n : Int)).toNat = n := by omega
  refine PySem.P.mul_str ?_ (fun _ _ => ?_) (fun _ _ => ?_) ?_
  · rw [decide_eq_false (by omega), decide_eq_false (by omega)]
    rfl
  · have h7 : a.length * n ≤ 1000 * 1000 := Nat.mul_le_mul h5 h3
    have h8 : (a.length : Int) ≤ (2 ^ 63 - 1) / (n : Int) := Int.le_ediv_of_mul_le (by omega) (by
      have : ((a.length * n : Nat) : Int) ≤ 1000000 := by omega
      rw [Int.natCast_mul] at this
      omega)
    omega
  · rw [e]
    have h7 : a.length * n ≤ 1000 * 1000 := Nat.mul_le_mul h5 h3
    have h8 : 1000000 ≤ sizeLine := by decide
    exact decide_eq_false (by omega)
  · rw [if_neg n1, if_neg (by rw [n2]; exact Bool.false_ne_true), e]
    exact ⟨Nat.le_trans h6 (by decide), ⟨.str _, H, I.tok _, ⟨_, rfl⟩, q⟩⟩
end
end Rs2

namespace Rd
open PySem PySem.Spec PyProof.Rows L2 GxR
open C8 (pss_cut tCut)
/-! ### words, plainly -/
theorem one_lt (a b : Nat) : decide (([a] : List Nat) < [b]) = decide (a < b) := by
  by_cases h : a < b
  · rw [decide_eq_true h]
    exact decide_eq_true (List.cons_lt_cons_iff.mpr (.inl h))
  · rw [decide_eq_false h]
    refine decide_eq_false fun z => ?_
    rcases List.cons_lt_cons_iff.mp z with z | ⟨_, z⟩
    · exact h z
    · exact List.not_lt_nil _ z
def signB (c : Nat) : Bool := (!decide (c < 33) && !decide (36 < c)) || (!decide (c < 38) && !decide (126 < c))
def wordB (a : Str) : Bool := decide ((1 : Int) ≤ (a.length : Int)) && (decide ((a.length : Int) ≤ 40) && a.cps.toList.all signB)
theorem wordB_len {a : Str} (h : wordB a = true) : 1 ≤ a.length ∧ a.length ≤ 40 := by
  unfold wordB at h
  rw [Bool.and_eq_true, Bool.and_eq_true] at h
  obtain ⟨h1, h2, _⟩ := h
  have h1 := of_decide_eq_true h1
  have h2 := of_decide_eq_true h2
  omega
theorem wordB_signs {a : Str} (h : wordB a = true) : ∀ c ∈ a.cps.toList, signB c = true := by
  unfold wordB at h
  rw [Bool.and_eq_true, Bool.and_eq_true] at h
  exact List.all_eq_true.mp h.2.2
theorem small_line {n : Nat} (h : n ≤ 1000000) : n ≤ sizeLine := Nat.le_trans h (by decide)
theorem tyL {K : PySem.W.Frag} {H : Hp} {a : Addr} {xs : List V} (h : SqL K H a xs) : TyX K H (.ref a) (.type "list") := by
  rcases h with (h | ⟨o, h⟩) | ⟨o, its, n, e, c, _⟩
  · exact .base (.lst h)
  · exact .base (.frz h)
  · exact .kList e c
theorem tyT {K : PySem.W.Frag} {H : Hp} {a : Addr} {xs : List V} (h : SqT K H a xs) : TyX K H (.ref a) (.type "tuple") := by
  rcases h with (h | ⟨o, h⟩) | ⟨o, its, n, e, c, _⟩
  · exact .base (.tup h)
  · exact .fTuple h
  · exact .kTuple e c
theorem for_enum {K : PySem.W.Frag} {a : Addr} {xs : List V} {g : TG} {tb : TS} {D : Ends} {σ : L2.St} {H : Hp} (Pv : Nat → L2.St → Hp → Prop) (h0 : Pv 0 σ H) (hl : ∀ i σ H, i ≤ xs.length → Pv i σ H → SqL K H a xs)
    (hs : ∀ (i : Nat) (x : V) (T : Addr) (σ : L2.St) (H : Hp), xs[i]? = some x → H T = none → Pv i σ H → g (.ref T) σ (upd H T (.tup [.int (i : Nat), x])) fun σ2 H2 => tb { D with nx := Pv (i + 1), ct := Pv (i + 1), bk := D.nx } σ2 H2) (hd : ∀ σ H, Pv xs.length σ H → D.nx σ H) :
    ∃ W : Nat → Nat → L2.St → Hp → Prop, (∃ m, W 0 m σ H) ∧ ∀ i m σ H, W i m σ H →
      ((Ite K a).stop i H ∧ D.nx σ H) ∨ ((Ite K a).go i H ∧ ∃ N : L2.St → Hp → Prop, (∀ σ' H', N σ' H' → ∃ m', m' < m ∧ W (i + 1) m' σ' H') ∧ ∀ x H', (Ite K a).yld i H x H' → g x σ H' fun σ2 H2 => tb { D with nx := N, ct := N, bk := D.nx } σ2 H2) := by
  refine ⟨fun i m σ H => m = xs.length - i ∧ i ≤ xs.length ∧ Pv i σ H, ⟨xs.length, by simp, Nat.zero_le _, h0⟩, ?_⟩
  rintro i m σ H ⟨rfl, hi, p⟩
  have q := hl i σ H hi p
  by_cases hlt : i < xs.length
  · refine .inr ⟨⟨xs, xs[i], q, by simp [hlt]⟩, Pv (i + 1), fun σ' H' p' => ⟨xs.length - (i + 1), by omega, rfl, hlt, p'⟩, fun x H' y => ?_⟩
    obtain ⟨T, z, rfl, nT, rfl, hz⟩ := y
    exact hs i z T σ H (hz xs q) nT p
  · have e : i = xs.length := by omega
    subst e
    exact .inl ⟨⟨xs, q, Nat.le_refl _⟩, hd σ H p⟩
theorem yesT {σ : L2.St} {H : Hp} {f g : Hp → Prop} (h : f H) : tYes σ H fun b H3 => if b = true then f H3 else g H3 := by
  show if true = true then f H else g H
  exact iteT h
theorem Kp.set {Ps : List Addr} {H H' : Hp} (t : Tb Ps H) (k : Kp Ps H H') {D : Addr} {o : HO} (h : H D = Option.none) : Kp Ps H (upd H' D o) := by
  have hD := t.none h
  refine ⟨fun P hP => ?_, fun b u hb e => ?_⟩
  · obtain ⟨ps, h1, h2⟩ := k.1 P hP
    exact ⟨ps, by rw [upd_ne (fun z => hD (by rw [← z]; exact hP))]; exact h1, h2⟩
  · rw [upd_ne (ne_of_none e h)]
    exact k.2 b u hb e
theorem take_snoc {α : Type} {l : List α} {i : Nat} {x : α} (h : l[i]? = some x) : l.take (i + 1) = l.take i ++ [x] := by
  rw [List.take_add_one, h]
  rfl
def top (i : Nat) : Stmt := PySem.Challenge.pw_redraft_k05_tellings_refused.main.body.getD i (.Pass ⟨0, 0, 0, 0⟩)
abbrev sIsSign : Stmt := top 9
abbrev sIsWord : Stmt := top 10
abbrev sCheckWords : Stmt := top 11
abbrev sCheckLength : Stmt := top 12
abbrev sCheckText : Stmt := top 13
abbrev sIsNumber : Stmt := top 22
abbrev sRowWords : Stmt := top 23
abbrev sIsRow : Stmt := top 24
abbrev sCheckRows : Stmt := top 25
abbrev sWordsOf : Stmt := top 26
abbrev sBlocksOf : Stmt := top 27
abbrev sCheckFit : Stmt := top 28
abbrev sDone : Stmt := top 29
abbrev sTurned : Stmt := top 30
abbrev sCost : Stmt := top 31
abbrev sCheckNoBlocks : Stmt := top 33
abbrev sPlacesIn : Stmt := top 34
abbrev sRunAt : Stmt := top 35
abbrev sHasRun : Stmt := top 36
abbrev sLongestRun : Stmt := top 37
abbrev sIsFree : Stmt := top 38
abbrev sUse : Stmt := top 39
abbrev sNextFree : Stmt := top 40
abbrev sPutPlacesOf : Stmt := top 41
abbrev sPairsOf : Stmt := top 42
abbrev sRowParted : Stmt := top 43
abbrev sWithPairs : Stmt := top 44
abbrev sWithBlocks : Stmt := top 45
abbrev sWrittenRow : Stmt := top 48
abbrev sWritten : Stmt := top 49
abbrev sCellAt : Stmt := top 51
abbrev sSignBy : Stmt := top 52
abbrev sWordBy : Stmt := top 53
abbrev sNear : Stmt := top 54
abbrev sMenu : Stmt := top 55
abbrev sBuiltRow : Stmt := top 56
abbrev sBuilt : Stmt := top 57
abbrev sLawWordsOf : Stmt := top 58
abbrev sNoRow : Stmt := top 59
abbrev sTried : Stmt := top 60
abbrev sKinds : Stmt := top 61
abbrev sNonePriced : Stmt := top 62
abbrev sOthers : Stmt := top 63
abbrev sOldSpoilt : Stmt := top 64
abbrev sBlockSpoilt : Stmt := top 65
abbrev sNoWordIn : Stmt := top 66
abbrev sExchanged : Stmt := top 67
abbrev sRight : Stmt := top 68
abbrev sRowsFor : Stmt := top 69
abbrev sLaw : Stmt := top 70
/-! ### the program's words -/
section
variable {P : Program} {w : World} {K : PySem.W.Frag} {mg : Str → Option Value} {base : Heap}
abbrev FnP (K : PySem.W.Frag) (x : Str) (st : Stmt) (f : Addr) (fd : FuncData) : Prop := FunD K x x (defArgs st) (defBody st) (defScope st) [] [] f fd
theorem scIsSign : FnScope ["sign"] ["sign"] (defScope sIsSign) := ⟨rfl, rfl, rfl, by decide +kernel, rfl, by decide +kernel, by decide +kernel⟩
theorem scIsWord : FnScope ["word", "sign"] ["word"] (defScope sIsWord) := ⟨rfl, rfl, rfl, by decide +kernel, rfl, by decide +kernel, by decide +kernel⟩
def spIsSign : Sp := fun vs H Q _ => ∃ c : Nat, vs = [.str ⟨#[c]⟩] ∧ Q (.bl (signB c)) H
theorem ok_is_sign {f : Addr} {fd : FuncData} (F : FnP K "is_sign" sIsSign f fd) : FnOk P w K mg base (L2.CX P w) 1 f fd ["sign"] spIsSign := by
  refine F.ok scIsSign (fun vs H Q E h => ?_) (fun cdv A outer s H vs Q E hr h => ?_)
  · obtain ⟨c, rfl, _⟩ := h
    rfl
  · obtain ⟨c, rfl, q⟩ := h
    refine ⟨_, pss_one (ps_ret (pe_or (pe_chain op_le_str op_le_str pe_str (pv 0) pe_str) (pe_one (pe_chain op_le_str op_le_str pe_str (pv 0) pe_str)))), ?_⟩
    have k1 : ("!" : Str).cps.toList = [33] := by decide +kernel
    have k2 : ("$" : Str).cps.toList = [36] := by decide +kernel
    have k3 : ("&" : Str).cps.toList = [38] := by decide +kernel
    have k4 : ("~" : Str).cps.toList = [126] := by decide +kernel
    have kc : (⟨#[c]⟩ : Str).cps.toList = [c] := rfl
    refine ⟨_, rfl, _, _, rfl, rfl, _, rfl, ?_⟩
    rw [k1, kc, one_lt]
    unfold signB at q
    by_cases h1 : c < 33
    · rw [decide_eq_true h1] at q ⊢
      refine iteF ⟨_, rfl, iteF ⟨_, rfl, _, _, rfl, rfl, _, rfl, ?_⟩⟩
      rw [k3, kc, one_lt]
      by_cases h3 : c < 38
      · rw [decide_eq_true h3] at q ⊢
        exact iteF q
      · omega
    · rw [decide_eq_false h1] at q ⊢
      refine iteT ⟨_, _, rfl, rfl, ?_⟩
      rw [k2, kc, one_lt]
      by_cases h2 : 36 < c
      · rw [decide_eq_true h2] at q ⊢
        refine ⟨_, rfl, iteF ⟨_, rfl, _, _, rfl, rfl, _, rfl, ?_⟩⟩
        rw [k3, kc, one_lt]
        by_cases h3 : c < 38
        · rw [decide_eq_true h3] at q ⊢
          exact iteF q
        · rw [decide_eq_false h3] at q ⊢
          refine iteT ⟨_, _, rfl, rfl, ?_⟩
          rw [k4, kc, one_lt]
          exact q
      · rw [decide_eq_false h2] at q ⊢
        exact ⟨_, rfl, iteT q⟩

def spIsWord (Ps : List Addr) : Sp := fun vs H Q _ => ∃ a : Str, vs = [.str a] ∧ a.length ≤ sizeLine ∧ Tb Ps H ∧ ∀ H', Kp Ps H H' → Q (.bl (wordB a)) H'
theorem ok_is_word {Ps : List Addr} {f fS Pw : Addr} {fd fdS : FuncData} (F : FnP K "is_word" sIsWord f fd) (hf : f = He.fAd K ("is_word", none)) (hPw : Pw ∈ Ps) (TB : GxR.TabB base mg (He.codeOf K ("is_word", none)) Pw)
    (FS : FnP K "is_sign" sIsSign fS fdS) (bS : Binds K fdS ["sign"] []) (gS : mg "is_sign" = some (.ref fS)) (mI : mg "isinstance" = none) (mS : mg "str" = none) (mL : mg "len" = none) (mA : mg "all" = none) {tL : Tok} (mN : mg "LONGEST" = some (.int 40 tL)) :
    FnOk P w K mg base (L2.CX P w) 3 f fd ["word"] (spIsWord Ps) := by
  have GS : FnOk P w K mg base (L2.CX P w) 1 fS fdS ["sign"] spIsSign := ok_is_sign FS
  refine okC F hf scIsWord (fun vs H Q E h => ?_) (fun A outer s H vs Q E hr h => ?_)
  · obtain ⟨a, rfl, _⟩ := h
    rfl
  · obtain ⟨a, rfl, hz, ht, q⟩ := h
    refine ⟨_, pss_cons (ps_if (pt_not (pt_val (pe_callB call_isi (by rfl) mI (by decide +kernel) (pa_cons (pv 0) (pa_cons (pe_bltn (v := .ty "str") (by rfl) mS (by decide +kernel) rfl) pa_nil))))) (pss_one (ps_ret pe_bl)) pss_nil)
      (pss_one (ps_ret (pe_and (pe_chain op_le op_le pe_int (pe_callB call_len_str (by rfl) mL PySem.boot_len (pa_cons (pv 0) pa_nil)) (pe_glob (v := .int 40) (by rfl) mN ⟨_, rfl⟩))
        (pe_one (pe_allG (own := [("sign", 1)]) (gt := gName 1) (tt := tYes) (P := Pw) hr scIsWord.nd (by rfl) mA (by decide +kernel) TB rfl ⟨rfl, by decide +kernel, rfl, blkOk_by (N := ["word", "sign"]) (sc := defScope sIsWord) (by decide +kernel)⟩ (pi_str (pv 0))
          (fun _ _ _ _ _ _ _ _ _ => pg_name (i := 1) scIsWord.nd rfl (Or.inl rfl)) (fun _ _ _ _ _ _ _ _ _ _ => pts_nil) (fun _ _ _ _ _ _ _ _ _ hb => pe_call GS hb (by rfl) gS FS.kp bS .nil passL (pa_cons (pv 1) pa_nil))))))), ?_⟩
    refine ⟨_, rfl, .str a, .ty "str", _, _, true, rfl, .ty _, .base (.str a), kit_ty (by decide +kernel), true, rfl, iteF ?_⟩
    refine ⟨_, rfl, a, rfl, hz, 1, (a.length : Int), rfl, rfl, _, rfl, ?_⟩
    have eN : wordB a = (decide ((1 : Int) ≤ (a.length : Int)) && (decide ((a.length : Int) ≤ 40) && a.cps.toList.all signB)) := rfl
    rw [eN] at q
    by_cases h1 : (1 : Int) ≤ (a.length : Int)
    · rw [decide_eq_true h1] at q ⊢
      refine iteT ⟨(a.length : Int), 40, rfl, rfl, _, rfl, ?_⟩
      by_cases h2 : (a.length : Int) ≤ 40
      · rw [decide_eq_true h2] at q ⊢
        refine iteT ⟨_, rfl, a, rfl, ht Pw hPw, fun H2 hT => ?_⟩
        have k2 := Kp.tab ht hPw hT
        refine read_all_str (pb := signB) (Pv := fun H3 => H3 = H2) rfl (fun i c H3 R _ p hR => ?_) (fun H3 p => ?_)
        · subst p
          refine ⟨rfl, _, rfl, c, rfl, hR _ rfl⟩
        · subst p
          exact q _ k2
      · rw [decide_eq_false h2] at q ⊢
        exact iteF (q H (Kp.refl ht))
    · rw [decide_eq_false h1] at q ⊢
      exact iteF ⟨_, rfl, iteF (q H (Kp.refl ht))⟩
end
/-! ### rows, plainly -/
structure RowD where
  kind : Str
  num : Int
  ws : List Str
def plainK : List Str := ["keep", "cut", "put"]
def blockK : List Str := ["take", "lay"]
def oldK : List Str := ["keep", "cut", "take"]
def newK : List Str := ["keep", "put", "lay"]
def numB (k : Str) (n : Int) : Bool := if inV (.str k) (blockK.map V.str) = true then decide (1 ≤ n) && decide (n ≤ 999999999) else decide (V.int n = V.int 0)
structure RowOk (r : RowD) : Prop where
  kind : r.kind ∈ plainK ++ blockK
  num : numB r.kind r.num = true
  some : r.ws ≠ []
  words : ∀ a ∈ r.ws, wordB a = true
def RowAt (K : PySem.W.Frag) (H : Hp) (v : V) (r : RowD) : Prop := ∃ T W, v = .ref T ∧ SqT K H T [.str r.kind, .int r.num, .ref W] ∧ SqT K H W (r.ws.map V.str)
def RowsAt (K : PySem.W.Frag) (H : Hp) (xs : List V) (rs : List RowD) : Prop := xs.length = rs.length ∧ ∀ (i : Nat) (v : V), xs[i]? = some v → ∃ r, rs[i]? = some r ∧ RowAt K H v r
theorem RowAt.kp {K : PySem.W.Frag} {Ps : List Addr} {H H' : Hp} {v : V} {r : RowD} (t : Tb Ps H) (k : Kp Ps H H') (h : RowAt K H v r) : RowAt K H' v r :=
  let ⟨T, W, e, h1, h2⟩ := h; ⟨T, W, e, k.seqT t h1, k.seqT t h2⟩
theorem RowsAt.kp {K : PySem.W.Frag} {Ps : List Addr} {H H' : Hp} {xs : List V} {rs : List RowD} (t : Tb Ps H) (k : Kp Ps H H') (h : RowsAt K H xs rs) : RowsAt K H' xs rs :=
  ⟨h.1, fun i v e => let ⟨r, h1, h2⟩ := h.2 i v e; ⟨r, h1, h2.kp t k⟩⟩
theorem inV_strs (k : Str) : ∀ l : List Str, inV (.str k) (l.map V.str) = decide (k ∈ l) := by
  intro l
  unfold inV
  induction l with
  | nil => rfl
  | cons a r ih =>
    rw [List.map_cons, List.any_cons, ih]
    have e : eqV (V.str a) (V.str k) = decide (k = a) := by
      show decide (a = k) = decide (k = a)
      by_cases h : a = k
      · subst h
        rfl
      · rw [decide_eq_false h, decide_eq_false (Ne.symm h)]
    rw [e]
    by_cases h : k = a
    · rw [decide_eq_true h, decide_eq_true (show k ∈ a :: r from h ▸ List.mem_cons_self)]
      rfl
    · by_cases h2 : k ∈ r
      · rw [decide_eq_true h2, decide_eq_true (List.mem_cons_of_mem _ h2), Bool.or_true]
      · rw [decide_eq_false h, decide_eq_false h2, decide_eq_false (fun z => (List.mem_cons.mp z).elim h h2)]
        rfl
theorem flat_strs : ∀ l : List Str, (l.map V.str).all flatV = true := by
  intro l
  induction l with
  | nil => rfl
  | cons a r ih =>
    rw [List.map_cons, List.all_cons, ih]
    rfl
/-- a tuple of texts that stands at the top -/
def KTup (K : PySem.W.Frag) (a : Addr) (l : List Str) : Prop := ∀ H, SqT K H a (l.map V.str)
def tupB (K : PySem.W.Frag) (a : Addr) (l : List Str) : Bool := match K.lookup a with
  | some ⟨.type c, _, .seq its _, _⟩ => decide (c = "tuple") && (decide (its.size ≤ 100) && He.relAll (l.map V.str) its.toList)
  | _ => false
theorem tupB_ok {K : PySem.W.Frag} {a : Addr} {l : List Str} (h : tupB K a l = true) : KTup K a l := by
  intro H
  unfold tupB at h
  cases q : K.lookup a with
  | none =>
    rw [q] at h
    cases h
  | some o =>
    obtain ⟨oc, od, dt, osl⟩ := o
    rw [q] at h
    cases oc with
    | type c =>
      cases dt with
      | seq its n =>
        have h2 : (decide (c = "tuple") && (decide (its.size ≤ 100) && He.relAll (l.map V.str) its.toList)) = true := h
        rw [Bool.and_eq_true, Bool.and_eq_true] at h2
        obtain ⟨h3, h4, h5⟩ := h2
        refine .inr ⟨_, its, n, q, congrArg Value.type (of_decide_eq_true h3), rfl, Nat.le_trans (of_decide_eq_true h4) (by decide), He.relAll_ok h5⟩
      | _ => cases h
    | _ => cases dt <;> cases h
def strV : V → Bool
  | .str a => wordB a
  | _ => false
theorem all_strV : ∀ ws : List Str, (ws.map V.str).all strV = ws.all wordB := by
  intro ws
  induction ws with
  | nil => rfl
  | cons a r ih =>
    rw [List.map_cons, List.all_cons, List.all_cons, ih]
    rfl
/-! ### the program's rows -/
section
variable {P : Program} {w : World} {K : PySem.W.Frag} {mg : Str → Option Value} {base : Heap}
theorem scIsNumber : FnScope ["kind", "number"] ["kind", "number"] (defScope sIsNumber) := ⟨rfl, rfl, rfl, by decide +kernel, rfl, by decide +kernel, by decide +kernel⟩
theorem scRowWords : FnScope ["words", "word"] ["words"] (defScope sRowWords) := ⟨rfl, rfl, rfl, by decide +kernel, rfl, by decide +kernel, by decide +kernel⟩
theorem scIsRow : FnScope ["row", "kind", "number", "words"] ["row"] (defScope sIsRow) := ⟨rfl, rfl, rfl, by decide +kernel, rfl, by decide +kernel, by decide +kernel⟩
theorem scCheckRows : FnScope ["rows", "at", "row"] ["rows"] (defScope sCheckRows) := ⟨rfl, rfl, rfl, by decide +kernel, rfl, by decide +kernel, by decide +kernel⟩
def spIsNumber : Sp := fun vs H Q _ => ∃ (k : Str) (n : Int), vs = [.str k, .int n] ∧ Q (.bl (numB k n)) H
theorem ok_is_number {aB f : Addr} {fd : FuncData} (F : FnP K "is_number" sIsNumber f fd) (mI : mg "isinstance" = none) (mN : mg "int" = none) (mO : mg "bool" = none) (mB : mg "BLOCK_KINDS" = some (.ref aB)) (kB : KTup K aB blockK) {tL : Tok} (mL : mg "LAST_BLOCK" = some (.int 999999999 tL)) :
    FnOk P w K mg base (L2.CX P w) 1 f fd ["kind", "number"] spIsNumber := by
  refine F.ok scIsNumber (fun vs H Q E h => ?_) (fun cdv A outer s H vs Q E hr h => ?_)
  · obtain ⟨k, n, rfl, _⟩ := h
    rfl
  · obtain ⟨k, n, rfl, q⟩ := h
    refine ⟨_, pss_cons (ps_if (PW.pt (pw_or (pt_not (pt_val (pe_callB call_isi (by rfl) mI (by decide +kernel) (pa_cons (pv 1) (pa_cons (pe_bltn (v := .ty "int") (by rfl) mN (by decide +kernel) rfl) pa_nil)))))
        (pw_or1 (pt_val (pe_callB call_isi (by rfl) mI (by decide +kernel) (pa_cons (pv 1) (pa_cons (pe_bltn (v := .ty "bool") (by rfl) mO (by decide +kernel) rfl) pa_nil))))))) (pss_one (ps_ret pe_bl)) pss_nil)
      (pss_cons (ps_if (pt_cmpR op_in_seq (pv 0) (pe_glob (v := .ref aB) (by rfl) mB rfl) (by rfl)) (pss_one (ps_ret (pe_chain op_le op_le pe_int (pv 1) (pe_glob (v := .int 999999999) (by rfl) mL ⟨_, rfl⟩)))) pss_nil)
      (pss_one (ps_ret (pe_cmpR op_eq (pv 1) pe_int (nomark _))))), ?_⟩
    refine ⟨_, rfl, .int n, .ty "int", _, _, true, rfl, .ty _, .base (.int n), kit_ty (by decide +kernel), true, rfl, iteF ?_⟩
    refine ⟨_, rfl, .int n, .ty "bool", _, _, false, rfl, .ty _, .base (.int n), kit_ty (by decide +kernel), false, rfl, iteF ?_⟩
    refine ⟨_, rfl, aB, blockK.map V.str, rfl, .inr (kB H), rfl, flat_strs _, _, rfl, ?_⟩
    unfold numB at q
    show if inV (.str k) (blockK.map V.str) = true then _ else _
    cases e : inV (.str k) (blockK.map V.str) with
    | true =>
      rw [e, if_pos rfl] at q
      refine iteT ⟨_, rfl, _, _, rfl, rfl, _, rfl, ?_⟩
      by_cases h1 : 1 ≤ n
      · rw [decide_eq_true h1] at q ⊢
        exact iteT ⟨_, _, rfl, rfl, q⟩
      · rw [decide_eq_false h1] at q ⊢
        exact iteF q
    | false =>
      rw [e, if_neg Bool.false_ne_true] at q
      exact iteF ⟨_, rfl, rfl, q⟩
def spRowWords (K : PySem.W.Frag) (Ps : List Addr) : Sp := fun vs H Q _ => ∃ (W : Addr) (ws : List Str), vs = [.ref W] ∧ SqT K H W (ws.map V.str) ∧ ws ≠ [] ∧ (∀ a ∈ ws, a.length ≤ sizeLine) ∧ Tb Ps H ∧ ∀ H', Kp Ps H H' → Q (.bl (ws.all wordB)) H'
theorem ok_row_words {Ps : List Addr} {f fW Pr : Addr} {fd fdW : FuncData} (F : FnP K "is_row_of_words" sRowWords f fd) (hf : f = He.fAd K ("is_row_of_words", none)) (hPr : Pr ∈ Ps) (TB : GxR.TabB base mg (He.codeOf K ("is_row_of_words", none)) Pr)
    (GW : FnOk P w K mg base (L2.CX P w) 3 fW fdW ["word"] (spIsWord Ps)) (kW : PySem.W.keepIn K (.ref fW) = true) (bW : Binds K fdW ["word"] []) (gW : mg "is_word" = some (.ref fW))
    (mI : mg "isinstance" = none) (mT : mg "tuple" = none) (mL : mg "len" = none) (mA : mg "all" = none) : FnOk P w K mg base (L2.CX P w) 5 f fd ["words"] (spRowWords K Ps) := by
  refine okC F hf scRowWords (fun vs H Q E h => ?_) (fun A outer s H vs Q E hr h => ?_)
  · obtain ⟨W, ws, rfl, _⟩ := h
    rfl
  · obtain ⟨W, ws, rfl, hS, hne, hz, ht, q⟩ := h
    refine ⟨_, pss_cons (ps_if (PW.pt (pw_or (pt_not (pt_val (pe_callB call_isi (by rfl) mI (by decide +kernel) (pa_cons (pv 0) (pa_cons (pe_bltn (v := .ty "tuple") (by rfl) mT (by decide +kernel) rfl) pa_nil)))))
        (pw_or1 (pt_cmpR op_eq (pe_callB call_len_seq (by rfl) mL PySem.boot_len (pa_cons (pv 0) pa_nil)) pe_int (nomark _))))) (pss_one (ps_ret pe_bl)) pss_nil)
      (pss_one (ps_ret (pe_allG (own := [("word", 1)]) (gt := gName 1) (tt := tYes) (P := Pr) hr scRowWords.nd (by rfl) mA (by decide +kernel) TB rfl ⟨rfl, by decide +kernel, rfl, blkOk_by (N := ["words", "word"]) (sc := defScope sRowWords) (by decide +kernel)⟩ (pi_tup (pv 0))
          (fun _ _ _ _ _ _ _ _ _ => pg_name (i := 1) scRowWords.nd rfl (Or.inl rfl)) (fun _ _ _ _ _ _ _ _ _ _ => pts_nil) (fun _ _ _ _ _ _ _ _ _ hb => pe_call GW hb (by rfl) gW kW bW .nil passL (pa_cons (pv 1) pa_nil))))), ?_⟩
    refine ⟨_, rfl, .ref W, .ty "tuple", _, _, true, rfl, .ty _, tyT hS, kit_ty (by decide +kernel), true, rfl, iteF ?_⟩
    refine ⟨_, rfl, W, _, rfl, .inr hS, rfl, _, rfl, ?_⟩
    have e0 : decide (V.int ((ws.map V.str).length : Int) = V.int 0) = false := decide_eq_false fun z => by
      have z2 := V.int.inj z
      rw [List.length_map] at z2
      exact hne (List.length_eq_zero_iff.mp (by omega))
    rw [e0]
    refine iteF ⟨_, rfl, W, rfl, ⟨_, hS⟩, ht Pr hPr, fun H2 hT => ?_⟩
    have k2 := Kp.tab ht hPr hT
    refine read_all_tup (xs := ws.map V.str) (pb := strV) (Pv := fun H3 => Kp Ps H H3) k2 (fun H3 p => p.seqT ht hS) (fun i v H3 R hx p hR => ?_) (fun H3 p => ?_)
    · rw [List.getElem?_map] at hx
      obtain ⟨a, ha, rfl⟩ := Option.map_eq_some_iff.mp hx
      exact ⟨rfl, _, rfl, a, rfl, hz a (List.mem_of_getElem? ha), p.1, fun H4 k4 => hR H4 (p.trans k4)⟩
    · rw [all_strV]
      exact q H3 p
def spIsRow (K : PySem.W.Frag) (Ps : List Addr) : Sp := fun vs H Q _ => ∃ (v : V) (r : RowD), vs = [v] ∧ RowAt K H v r ∧ RowOk r ∧ Tb Ps H ∧ ∀ H', Kp Ps H H' → Q (.bl true) H'
theorem ok_is_row {Ps : List Addr} {aP aB f fN fW : Addr} {fd fdN fdW : FuncData} (F : FnP K "is_row" sIsRow f fd)
    (GN : FnOk P w K mg base (L2.CX P w) 1 fN fdN ["kind", "number"] spIsNumber) (kN : PySem.W.keepIn K (.ref fN) = true) (bN : Binds K fdN ["kind", "number"] []) (gN : mg "is_number" = some (.ref fN))
    (GW : FnOk P w K mg base (L2.CX P w) 5 fW fdW ["words"] (spRowWords K Ps)) (kW : PySem.W.keepIn K (.ref fW) = true) (bW : Binds K fdW ["words"] []) (gW : mg "is_row_of_words" = some (.ref fW))
    (mI : mg "isinstance" = none) (mT : mg "tuple" = none) (mL : mg "len" = none) (mP : mg "PLAIN_KINDS" = some (.ref aP)) (kP : KTup K aP plainK) (mB : mg "BLOCK_KINDS" = some (.ref aB)) (kB : KTup K aB blockK) : FnOk P w K mg base (L2.CX P w) 6 f fd ["row"] (spIsRow K Ps) := by
  refine F.ok scIsRow (fun vs H Q E h => ?_) (fun cdv A outer s H vs Q E hr h => ?_)
  · obtain ⟨v, r, rfl, _⟩ := h
    rfl
  · obtain ⟨v, r, rfl, ⟨T, W, rfl, hT, hW⟩, ok, ht, q⟩ := h
    refine ⟨_, pss_cons (ps_if (PW.pt (pw_or (pt_not (pt_val (pe_callB call_isi (by rfl) mI (by decide +kernel) (pa_cons (pv 0) (pa_cons (pe_bltn (v := .ty "tuple") (by rfl) mT (by decide +kernel) rfl) pa_nil)))))
        (pw_or1 (pt_cmpR op_ne (pe_callB call_len_seq (by rfl) mL PySem.boot_len (pa_cons (pv 0) pa_nil)) pe_int (nomark _))))) (pss_one (ps_ret pe_bl)) pss_nil)
      (pss_cons (ps_asg (pv 0) (pg_tup (by rfl) (pgs_cons (pg_name (i := 1) scIsRow.nd rfl (.inl rfl)) (pgs_cons (pg_name (i := 2) scIsRow.nd rfl (.inl rfl)) (pgs_cons (pg_name (i := 3) scIsRow.nd rfl (.inl rfl)) pgs_nil)))))
      (pss_cons (ps_if (PW.pt (pw_and (pt_cmpR op_notIn_seq (pv 1) (pe_glob (v := .ref aP) (by rfl) mP rfl) (by rfl)) (pw_and1 (pt_cmpR op_notIn_seq (pv 1) (pe_glob (v := .ref aB) (by rfl) mB rfl) (by rfl))))) (pss_one (ps_ret pe_bl)) pss_nil)
      (pss_one (ps_ret (pe_and (pe_call GN (hr.mono (by decide)) (by rfl) gN kN bN .nil passL (pa_cons (pv 1) (pa_cons (pv 2) pa_nil))) (pe_one (pe_call GW hr (by rfl) gW kW bW .nil passL (pa_cons (pv 3) pa_nil)))))))), ?_⟩
    refine ⟨_, rfl, .ref T, .ty "tuple", _, _, true, rfl, .ty _, tyT hT, kit_ty (by decide +kernel), true, rfl, iteF ?_⟩
    refine ⟨_, rfl, T, _, rfl, .inr hT, rfl, _, rfl, iteF ?_⟩
    refine ⟨_, rfl, T, _, rfl, hT, rfl, _, _, rfl, _, _, rfl, _, _, rfl, rfl, ?_⟩
    refine ⟨_, rfl, aP, plainK.map V.str, rfl, .inr (kP H), rfl, flat_strs _, _, rfl, ?_⟩
    have rest : ∀ b : Bool, b = (!inV (.str r.kind) (blockK.map V.str)) → b = false ∨ (!inV (.str r.kind) (plainK.map V.str)) = false := fun b hb => by
      rw [inV_strs] at hb
      rw [inV_strs]
      rcases List.mem_append.mp ok.kind with h | h
      · exact .inr (by rw [decide_eq_true h]; rfl)
      · exact .inl (by rw [hb, decide_eq_true h]; rfl)
    have fin : ∀ H1, H1 = H → ((FnOk P w K mg base (L2.CX P w) 1 fN fdN ["kind", "number"] spIsNumber) → tAndV (tCall spIsNumber [] E0 (tCons (tVar 1) (tCons (tVar 2) tNil))) (tCall (spRowWords K Ps) [] E0 (tCons (tVar 3) tNil)) [some (.ref T), some (.str r.kind), some (.int r.num), some (.ref W)] H1 Q) := fun H1 e _ => by
      subst e
      refine ⟨_, rfl, _, rfl, r.kind, r.num, rfl, _, rfl, ?_⟩
      rw [ok.num]
      refine iteT ⟨_, rfl, W, r.ws, rfl, hW, ok.some, fun a ha => small_line (by have := wordB_len (ok.words a ha); omega), ht, fun H' k => ?_⟩
      rw [List.all_eq_true.mpr ok.words]
      exact q H' k
    cases e : inV (.str r.kind) (plainK.map V.str) with
    | true => exact iteF (iteF (fin H rfl GN))
    | false =>
      refine iteT ⟨_, rfl, aB, blockK.map V.str, rfl, .inr (kB H), rfl, flat_strs _, _, rfl, ?_⟩
      rcases rest _ rfl with h | h
      · show if (!inV (.str r.kind) (blockK.map V.str)) = true then _ else _
        rw [h]
        exact iteF (fin H rfl GN)
      · rw [e] at h
        cases h
def spCheckRows (K : PySem.W.Frag) (Ps : List Addr) : Sp := fun vs H Q _ => ∃ (p : Addr) (xs : List V) (rs : List RowD), vs = [.ref p] ∧ SqL K H p xs ∧ RowsAt K H xs rs ∧ (∀ r ∈ rs, RowOk r) ∧ Tb Ps H ∧ ∀ H', Kp Ps H H' → Q .non H'
theorem ok_check_rows {Ps : List Addr} {f fR : Addr} {fd fdR : FuncData} (F : FnP K "check_rows" sCheckRows f fd) (GR : FnOk P w K mg base (L2.CX P w) 6 fR fdR ["row"] (spIsRow K Ps)) (kR : PySem.W.keepIn K (.ref fR) = true) (bR : Binds K fdR ["row"] []) (gR : mg "is_row" = some (.ref fR))
    (mI : mg "isinstance" = none) (mT : mg "list" = none) (mE : mg "enumerate" = none) : FnOk P w K mg base (L2.CX P w) 7 f fd ["rows"] (spCheckRows K Ps) := by
  refine F.ok scCheckRows (fun vs H Q E h => ?_) (fun cdv A outer s H vs Q E hr h => ?_)
  · obtain ⟨p, xs, rs, rfl, _⟩ := h
    rfl
  · obtain ⟨p, xs, rs, rfl, hS, hR, hok, ht, q⟩ := h
    refine ⟨_, pss_cons (ps_if (pt_not (pt_val (pe_callB call_isi (by rfl) mI (by decide +kernel) (pa_cons (pv 0) (pa_cons (pe_bltn (v := .ty "list") (by rfl) mT (by decide +kernel) rfl) pa_nil))))) pss_never pss_nil)
      (pss_one (ps_for (passes_of rfl) rfl (pi_enum (by rfl) mE (pa_cons (pv 0) pa_nil)) (pg_tup rfl (pgs_cons (pg_name (i := 1) scCheckRows.nd rfl (.inl rfl)) (pgs_cons (pg_name (i := 2) scCheckRows.nd rfl (.inl rfl)) pgs_nil)))
        (pss_one (ps_if (pt_not (pt_val (pe_call GR hr (by rfl) gR kR bR .nil passL (pa_cons (pv 2) pa_nil)))) pss_never pss_nil)))), ?_⟩
    refine ⟨_, rfl, .ref p, .ty "list", _, _, true, rfl, .ty _, tyL hS, kit_ty (by decide +kernel), true, rfl, iteF ?_⟩
    refine ⟨_, rfl, p, _, rfl, hS, for_enum (xs := xs) (fun i σ' H' => Kp Ps H H' ∧ ∃ y1 y2, σ' = [some (.ref p), y1, y2]) ⟨Kp.refl ht, none, none, rfl⟩ (fun i σ' H' _ hp => hp.1.seq ht hS) (fun i x T σ' H' hx nT hp => ?_) (fun σ' H' hp => q H' hp.1)⟩
    obtain ⟨k, y1, y2, rfl⟩ := hp
    obtain ⟨r, hr1, hr2⟩ := hR.2 i x hx
    have k2 : Kp Ps H (upd H' T (.tup [.int (i : Nat), x])) := k.trans (Kp.new k.1 nT)
    refine ⟨T, _, rfl, .inl (.inl upd_same), rfl, _, _, rfl, _, _, rfl, rfl, ?_⟩
    exact ⟨_, rfl, x, r, rfl, hr2.kp ht k2, hok r (List.mem_of_getElem? hr1), k2.1, fun H3 k3 => ⟨_, rfl, iteF ⟨k2.trans k3, _, _, rfl⟩⟩⟩
end
/-! ### the way back, the cost -/
def wayB (k : Str) : Str := if k = "cut" then "put" else if k = "put" then "cut" else if k = "take" then "lay" else if k = "lay" then "take" else "keep"
def cutPut : List Str := ["cut", "put"]
def turnR (r : RowD) : RowD := { r with kind := wayB r.kind }
def rowCost (r : RowD) : Int := if inV (.str r.kind) (cutPut.map V.str) = true then (r.ws.length : Int) else if r.kind = "take" then 3 else 0
def costOf (rs : List RowD) : Int := (rs.map rowCost).sum
theorem RowAt.set {K : PySem.W.Frag} {H : Hp} {D : Addr} {o : HO} {v : V} {r : RowD} (hD : ∀ xs, ¬ Rd H D (.tup xs)) (h : RowAt K H v r) : RowAt K (upd H D o) v r := by
  obtain ⟨T, W, e, h1, h2⟩ := h
  have key : ∀ {a : Addr} {xs : List V}, SqT K H a xs → SqT K (upd H D o) a xs := fun {a xs} h => by
    rcases h with h | h
    · have ne : a ≠ D := fun z => hD xs (by rw [← z]; exact h)
      rcases h with h | ⟨ob, h⟩
      · exact .inl (.inl (by rw [upd_ne ne]; exact h))
      · exact .inl (.inr ⟨ob, by rw [upd_ne ne]; exact h⟩)
    · exact .inr h
  exact ⟨T, W, e, key h1, key h2⟩
theorem noTup {H : Hp} {D : Addr} {ys : List V} (h : H D = some (.lst ys)) : ∀ xs, ¬ Rd H D (.tup xs) := fun xs z => by
  rcases z with z | ⟨o, z⟩
  · rw [h] at z
    cases z
  · rw [h] at z
    cases z
section
variable {P : Program} {w : World} {K : PySem.W.Frag} {mg : Str → Option Value} {base : Heap}
theorem scTurned : FnScope ["rows", "kind", "number", "words"] ["rows"] (defScope sTurned) := ⟨rfl, rfl, rfl, by decide +kernel, rfl, by decide +kernel, by decide +kernel⟩
def spTurned (K : PySem.W.Frag) (Ps : List Addr) : Sp := fun vs H Q _ => ∃ (p : Addr) (xs : List V) (rs : List RowD), vs = [.ref p] ∧ SqL K H p xs ∧ RowsAt K H xs rs ∧ (∀ r ∈ rs, RowOk r) ∧ xs.length ≤ 1000 ∧ Tb Ps H ∧
  ∀ H' q ys, Kp Ps H H' → H q = none → H' q = some (.lst ys) → RowsAt K H' ys (rs.map turnR) → Q (.ref q) H'
theorem ok_turned {Ps : List Addr} {aW f fC : Addr} {fd fdC : FuncData} (F : FnP K "turned" sTurned f fd) (GC : FnOk P w K mg base (L2.CX P w) 7 fC fdC ["rows"] (spCheckRows K Ps)) (kC : PySem.W.keepIn K (.ref fC) = true) (bC : Binds K fdC ["rows"] []) (gC : mg "check_rows" = some (.ref fC))
    (mW : mg "WAY_BACK" = some (.ref aW)) (kW : ∀ k ∈ plainK ++ blockK, KDct K w aW k (.str (wayB k))) : FnOk P w K mg base (L2.CX P w) 8 f fd ["rows"] (spTurned K Ps) := by
  refine F.ok scTurned (fun vs H Q E h => ?_) (fun cdv A outer s H vs Q E hr h => ?_)
  · obtain ⟨p, xs, rs, rfl, _⟩ := h
    rfl
  · obtain ⟨p, xs, rs, rfl, hS, hR, hok, hl, ht, q⟩ := h
    refine ⟨_, pss_cons (ps_expr (pe_call GC hr (by rfl) gC kC bC .nil passL (pa_cons (pv 0) pa_nil)))
      (pss_one (ps_ret (pe_lc (own := [("kind", 1), ("number", 2), ("words", 3)]) (g := gTup K 3 (gCons (gName 1) (gCons (gName 2) (gCons (gName 3) gNil)))) (tt := tYes) rfl scTurned.nd (pi_list (pv 0)) (blkOk_by (N := ["rows", "kind", "number", "words"]) (sc := defScope sTurned) (by decide +kernel))
        (fun _ _ _ _ _ => pg_tup rfl (pgs_cons (pg_name (i := 1) scTurned.nd rfl (Or.inl rfl)) (pgs_cons (pg_name (i := 2) scTurned.nd rfl (Or.inl rfl)) (pgs_cons (pg_name (i := 3) scTurned.nd rfl (Or.inl rfl)) pgs_nil)))) (fun _ _ _ _ _ => pts_nil)
        (fun _ _ _ _ _ => pe_tup (pa_cons (pe_ix (r := rIxD K w) ix_kdict (pe_glob (v := .ref aW) (by rfl) mW rfl) (pv 1) (fun _ _ => rfl)) (pa_cons (pv 2) (pa_cons (pv 3) pa_nil))))))), ?_⟩
    refine ⟨_, rfl, p, xs, rs, rfl, hS, hR, hok, ht, fun H1 k1 => ?_⟩
    have hS1 := k1.seq ht hS
    refine ⟨_, rfl, p, rfl, ⟨_, hS1⟩, fun D nD => ?_⟩
    have nD0 := k1.free ht nD
    refine lc_list (xs := xs) (fun i H' => Kp Ps H H' ∧ ∃ ys, H' D = some (.lst ys) ∧ ys.length = i ∧ ∀ (j : Nat) (v : V), ys[j]? = some v → ∃ r, rs[j]? = some r ∧ RowAt K H' v (turnR r)) ⟨k1.set ht nD0, [], upd_same, rfl, fun j v e => by cases e⟩ (fun i H' _ hp => hp.1.seq ht hS) (fun i x H' hx hp => ?_) (fun H' hp => ?_)
    · obtain ⟨k, ys, hD, hly, hys⟩ := hp
      obtain ⟨r, hr1, hr2⟩ := hR.2 i x hx
      have hi : i < xs.length := (List.getElem?_eq_some_iff.mp hx).1
      have okr := hok r (List.mem_of_getElem? hr1)
      obtain ⟨T, W, rfl, hT, hW⟩ := hr2.kp ht k
      refine ⟨T, _, rfl, hT, rfl, _, _, rfl, _, _, rfl, _, _, rfl, rfl, rfl, yesT ?_⟩
      refine ⟨_, rfl, aW, r.kind, _, rfl, rfl, kW _ okr.kind, _, rfl, _, rfl, by show 3 ≤ sizeLine; decide, fun T2 nT2 => ?_⟩
      have hD2 : (upd H' T2 (.tup [.str (wayB r.kind), .int r.num, .ref W])) D = some (.lst ys) := by
        rw [upd_ne (ne_of_none hD nT2)]
        exact hD
      refine ⟨ys, hD2, ?_, ?_, ys ++ [.ref T2], upd_same, ?_, fun j v e => ?_⟩
      · rw [hly]
        exact Nat.lt_of_lt_of_le (show i < 1001 by omega) (by decide)
      · exact (k.trans (Kp.new k.1 nT2)).set ht nD0
      · rw [List.length_append, hly]
        rfl
      · have st : Kp Ps H' (upd H' T2 (.tup [.str (wayB r.kind), .int r.num, .ref W])) := Kp.new k.1 nT2
        by_cases hj : j < ys.length
        · rw [List.getElem?_append_left hj] at e
          obtain ⟨r', h1, h2⟩ := hys j v e
          exact ⟨r', h1, (h2.kp k.1 st).set (noTup hD2)⟩
        · rw [List.getElem?_append_right (by omega)] at e
          have ej : j - ys.length = 0 := by
            have := (List.getElem?_eq_some_iff.mp e).1
            have : j - ys.length < 1 := this
            omega
          rw [ej] at e
          cases e
          have e2 : j = i := by omega
          subst e2
          exact ⟨r, hr1, RowAt.set (noTup hD2) ⟨T2, W, rfl, .inl (.inl upd_same), st.seqT k.1 hW⟩⟩
    · obtain ⟨k, ys, hD, hly, hys⟩ := hp
      refine q H' D ys k nD0 hD ⟨by rw [List.length_map, hly, hR.1], fun j v e => ?_⟩
      obtain ⟨r, h1, h2⟩ := hys j v e
      exact ⟨turnR r, by rw [List.getElem?_map, h1]; rfl, h2⟩
end
section
variable {P : Program} {w : World} {K : PySem.W.Frag} {mg : Str → Option Value} {base : Heap}
theorem scCost : FnScope ["rows", "total", "kind", "_", "words"] ["rows"] (defScope sCost) := ⟨rfl, rfl, rfl, by decide +kernel, rfl, by decide +kernel, by decide +kernel⟩
def spCost (K : PySem.W.Frag) (Ps : List Addr) : Sp := fun vs H Q _ => ∃ (p : Addr) (xs : List V) (rs : List RowD), vs = [.ref p] ∧ SqL K H p xs ∧ RowsAt K H xs rs ∧ (∀ r ∈ rs, RowOk r) ∧ Tb Ps H ∧ ∀ H', Kp Ps H H' → Q (.int (costOf rs)) H'
theorem ok_cost {Ps : List Addr} {f fC : Addr} {fd fdC : FuncData} (F : FnP K "cost" sCost f fd) (GC : FnOk P w K mg base (L2.CX P w) 7 fC fdC ["rows"] (spCheckRows K Ps)) (kC : PySem.W.keepIn K (.ref fC) = true) (bC : Binds K fdC ["rows"] []) (gC : mg "check_rows" = some (.ref fC))
    (mL : mg "len" = none) {tP : Tok} (mP : mg "PRICE" = some (.int 3 tP)) : FnOk P w K mg base (L2.CX P w) 8 f fd ["rows"] (spCost K Ps) := by
  refine F.ok scCost (fun vs H Q E h => ?_) (fun cdv A outer s H vs Q E hr h => ?_)
  · obtain ⟨p, xs, rs, rfl, _⟩ := h
    rfl
  · obtain ⟨p, xs, rs, rfl, hS, hR, hok, ht, q⟩ := h
    refine ⟨_, pss_cons (ps_expr (pe_call GC hr (by rfl) gC kC bC .nil passL (pa_cons (pv 0) pa_nil)))
      (pss_cons (ps_set (i := 1) scCost.nd rfl (.inl rfl) pe_int)
      (pss_cons (ps_for (passes_of rfl) rfl (pi_list (pv 0)) (pg_tup rfl (pgs_cons (pg_name (i := 2) scCost.nd rfl (.inl rfl)) (pgs_cons (pg_name (i := 3) scCost.nd rfl (.inl rfl)) (pgs_cons (pg_name (i := 4) scCost.nd rfl (.inl rfl)) pgs_nil))))
        (pss_one (ps_if (pt_cmpR op_in_seq (pv 2) (pe_tup (pa_cons pe_str (pa_cons pe_str pa_nil))) (by rfl)) (pss_one (ps_aug (i := 1) scCost.nd rfl (.inl rfl) (pe_callB call_len_seq (by rfl) mL PySem.boot_len (pa_cons (pv 4) pa_nil)) ip_add))
          (pss_one (ps_if (pt_cmpR op_eq (pv 2) pe_str (nomark _)) (pss_one (ps_aug (i := 1) scCost.nd rfl (.inl rfl) (pe_glob (v := .int 3) (by rfl) mP ⟨_, rfl⟩) ip_add)) pss_nil)))))
      (pss_one (ps_ret (pv 1))))), ?_⟩
    refine ⟨_, rfl, p, xs, rs, rfl, hS, hR, hok, ht, fun H1 k1 => ?_⟩
    have hS1 := k1.seq ht hS
    refine ⟨_, rfl, p, rfl, ⟨_, hS1⟩, for_list (xs := xs) (fun i σ' H' => Kp Ps H H' ∧ ∃ y2 y3 y4, σ' = [some (.ref p), some (.int (costOf (rs.take i))), y2, y3, y4]) ⟨k1, none, none, none, rfl⟩ (fun i σ' H' _ hp => hp.1.seq ht hS) (fun i x σ' H' hx hp => ?_) (fun σ' H' hp => ?_)⟩
    · obtain ⟨k, y2, y3, y4, rfl⟩ := hp
      obtain ⟨r, hr1, hr2⟩ := hR.2 i x hx
      obtain ⟨T, W, rfl, hT, hW⟩ := hr2.kp ht k
      have ec : costOf (rs.take (i + 1)) = costOf (rs.take i) + rowCost r := by
        unfold costOf
        rw [List.take_add_one, hr1, List.map_append, List.sum_append]
        show _ + (rowCost r + 0) = _
        omega
      refine ⟨T, _, rfl, hT, rfl, _, _, rfl, _, _, rfl, _, _, rfl, rfl, ?_⟩
      refine ⟨_, rfl, by show 2 ≤ sizeLine; decide, fun t nt => ?_⟩
      have k2 := k.trans (Kp.new (p := t) (o := .tup [.str "cut", .str "put"]) k.1 nt)
      refine ⟨t, cutPut.map V.str, rfl, .inr (.inl (.inl upd_same)), rfl, flat_strs _, _, rfl, ?_⟩
      show if inV (.str r.kind) (cutPut.map V.str) = true then _ else _
      cases e : inV (.str r.kind) (cutPut.map V.str) with
      | true =>
        have er : rowCost r = (r.ws.length : Int) := by
          unfold rowCost
          rw [e, if_pos rfl]
        refine iteT ⟨_, rfl, _, rfl, W, _, rfl, .inr ((Kp.new k.1 nt).seqT k.1 hW), _, _, rfl, rfl, ?_⟩
        refine ⟨k2, some (.str r.kind), some (.int r.num), some (.ref W), ?_⟩
        rw [ec, er, List.length_map]
        rfl
      | false =>
        refine iteF ⟨_, rfl, rfl, _, rfl, ite2 (fun e2 => ?_) (fun e2 => ?_)⟩
        · have e3 : r.kind = "take" := V.str.inj (of_decide_eq_true e2)
          have er : rowCost r = 3 := by
            unfold rowCost
            rw [e, if_neg Bool.false_ne_true, if_pos e3]
          refine ⟨_, rfl, _, _, rfl, rfl, k2, some (.str r.kind), some (.int r.num), some (.ref W), ?_⟩
          rw [ec, er]
          rfl
        · have e3 : r.kind ≠ "take" := fun z => e2 (decide_eq_true (congrArg V.str z))
          have er : rowCost r = 0 := by
            unfold rowCost
            rw [e, if_neg Bool.false_ne_true, if_neg e3]
          refine ⟨k2, some (.str r.kind), some (.int r.num), some (.ref W), ?_⟩
          rw [ec, er, Int.add_zero]
          rfl
    · obtain ⟨k, y2, y3, y4, rfl⟩ := hp
      have e : rs.take xs.length = rs := List.take_of_length_le (by rw [hR.1]; exact Nat.le_refl _)
      rw [e]
      exact ⟨_, rfl, q H' k⟩
end
/-! ### rows as data; what the laws say of rows -/
theorem signB_lt' {c : Nat} (h : signB c = true) : c < 127 := by
  unfold signB at h
  rw [Bool.or_eq_true, Bool.and_eq_true, Bool.and_eq_true, Bool.not_eq_true', Bool.not_eq_true', Bool.not_eq_true', Bool.not_eq_true'] at h
  rcases h with ⟨_, h⟩ | ⟨_, h⟩
  · have := of_decide_eq_false h
    omega
  · have := of_decide_eq_false h
    omega
theorem strOk_word {a : Str} (h : wordB a = true) : PyData.strOk a = true := by
  unfold PyData.strOk
  rw [Array.all_eq_true]
  intro i hi
  have h1 : a.cps[i] ∈ a.cps.toList := by simp
  have h2 := signB_lt' (wordB_signs h _ h1)
  exact decide_eq_true (by omega)
theorem dpStrs (H : Hp) (K : PySem.W.Frag) : ∀ ws : List Str, DpAll K H (ws.map V.str) (ws.map PyData.str)
  | [] => .nil
  | x :: r => .cons (.str x) (dpStrs H K r)
theorem lay_strs : ∀ ws : List Str, (∀ a ∈ ws, PyData.strOk a = true) → PyData.canLayAll0 (ws.map PyData.str) = true := fun ws => by
  induction ws with
  | nil => exact fun _ => rfl
  | cons x r ih =>
    intro h
    show (PyData.canLay0 (.str x) && PyData.canLayAll0 (r.map PyData.str)) = true
    rw [ih fun b hb => h b (List.mem_cons_of_mem _ hb), show PyData.canLay0 (.str x) = PyData.strOk x from rfl, h x List.mem_cons_self]
    rfl
theorem depth_strs : ∀ ws : List Str, PyData.depthAll (ws.map PyData.str) = 0 := fun ws => by
  induction ws with
  | nil => rfl
  | cons x r ih =>
    show max (PyData.depth (.str x)) (PyData.depthAll (r.map PyData.str)) = 0
    rw [ih]
    rfl
theorem shaped_words {ws : List Str} (h : ∀ a ∈ ws, PyData.strOk a = true) : SeqAt.shaped (.list (ws.map PyData.str)) = true := by
  show (PyData.canLayAll0 (ws.map PyData.str) && decide (PyData.depthAll (ws.map PyData.str) + 1 ≤ 64)) = true
  rw [lay_strs ws h, depth_strs]
  rfl
def rowData (r : RowD) : PyData := .tuple [.str r.kind, .int r.num, .tuple (r.ws.map PyData.str)]
theorem dpRow {K : PySem.W.Frag} {H : Hp} {v : V} {r : RowD} (h : RowAt K H v r) : Dp K H v (rowData r) := by
  obtain ⟨T, W, rfl, hT, hW⟩ := h
  exact .tup hT (.cons (.str _) (.cons (.int _) (.cons (.tup hW (dpStrs H K r.ws)) .nil)))
theorem dpRows {K : PySem.W.Frag} {H : Hp} : ∀ {xs : List V} {rs : List RowD}, RowsAt K H xs rs → DpAll K H xs (rs.map rowData)
  | [], [], _ => .nil
  | [], _ :: _, h => nomatch h.1
  | _ :: _, [], h => nomatch h.1
  | x :: xs, r :: rs, h => by
    obtain ⟨r', h1, h2⟩ := h.2 0 x rfl
    cases h1
    exact .cons (dpRow h2) (dpRows ⟨Nat.succ.inj h.1, fun i v e => h.2 (i + 1) v e⟩)
theorem kinds_strOk : ∀ k ∈ plainK ++ blockK, PyData.strOk k = true := by decide +kernel
theorem lay_rows : ∀ rs : List RowD, (∀ r ∈ rs, RowOk r) → PyData.canLayAll0 (rs.map rowData) = true := fun rs => by
  induction rs with
  | nil => exact fun _ => rfl
  | cons x r ih =>
    intro h
    have hx := h x List.mem_cons_self
    show (((PyData.strOk x.kind && (true && (PyData.canLayAll0 (x.ws.map PyData.str) && true)))) && PyData.canLayAll0 (r.map rowData)) = true
    rw [ih fun b hb => h b (List.mem_cons_of_mem _ hb), lay_strs x.ws fun a ha => strOk_word (hx.words a ha), kinds_strOk _ hx.kind]
    rfl
theorem depth_rows : ∀ rs : List RowD, PyData.depthAll (rs.map rowData) ≤ 2 := fun rs => by
  induction rs with
  | nil => exact Nat.zero_le _
  | cons x r ih =>
    show max (max (0 : Nat) (max (0 : Nat) (max (PyData.depthAll (x.ws.map PyData.str) + 1) 0)) + 1) (PyData.depthAll (r.map rowData)) ≤ 2
    rw [depth_strs]
    omega
theorem shaped_rows {rs : List RowD} (h : ∀ r ∈ rs, RowOk r) : SeqAt.shaped (.list (rs.map rowData)) = true := by
  show (PyData.canLayAll0 (rs.map rowData) && decide (PyData.depthAll (rs.map rowData) + 1 ≤ 64)) = true
  rw [lay_rows rs h, decide_eq_true (show PyData.depthAll (rs.map rowData) + 1 ≤ 64 by have := depth_rows rs; omega)]
  rfl
theorem noTb {H : Hp} : Tb [] H := fun _ h => by cases h
theorem RowAt.same {K : PySem.W.Frag} {H H' : Hp} {v : V} {r : RowD} (s : Same H H') (h : RowAt K H v r) : RowAt K H' v r := h.kp noTb (Kp.same noTb s)
theorem RowsAt.same {K : PySem.W.Frag} {H H' : Hp} {xs : List V} {rs : List RowD} (s : Same H H') (h : RowsAt K H xs rs) : RowsAt K H' xs rs := h.kp noTb (Kp.same noTb s)
theorem sameT {K : PySem.W.Frag} {H H' : Hp} {a : Addr} {xs : List V} (s : Same H H') (h : SqT K H a xs) : SqT K H' a xs := (Kp.same noTb s).seqT noTb h
theorem atM {α : Type} {l : List α} {c : Int} {n : Nat} {x : α} (hn : 0 < n) (h : l[(c % (n : Int)).toNat]? = some x) : atI l (c % (n : Int)) = some x := by
  have h1 : 0 ≤ c % (n : Int) := Int.emod_nonneg c (by omega)
  have e : c % (n : Int) = (((c % (n : Int)).toNat : Nat) : Int) := (Int.toNat_of_nonneg h1).symm
  rw [e]
  exact atI_nat h
theorem ltM {c : Int} {n : Nat} (hn : 0 < n) : (c % (n : Int)).toNat < n := by
  have h1 : 0 ≤ c % (n : Int) := Int.emod_nonneg c (by omega)
  have h2 : c % (n : Int) < (n : Int) := Int.emod_lt_of_pos c (by omega)
  omega
theorem lay_words {ws : List Str} (h : ∀ a ∈ ws, wordB a = true) : (PyData.tuple (ws.map PyData.str)).canLay0 = true := lay_strs ws fun a ha => strOk_word (h a ha)
theorem shaped_tup {ws : List Str} (h : ∀ a ∈ ws, wordB a = true) : SeqAt.shaped (.tuple (ws.map PyData.str)) = true := by
  show (PyData.canLayAll0 (ws.map PyData.str) && decide (PyData.depthAll (ws.map PyData.str) + 1 ≤ 64)) = true
  rw [lay_strs ws fun a ha => strOk_word (h a ha), depth_strs]
  rfl
theorem same_set {H H' : Hp} (m : Same H H') {D : Addr} {o : HO} (n : H D = none) : Same H (upd H' D o) := fun b u e => by
  rw [upd_ne (ne_of_none e n)]
  exact m b u e
/-! ### more of rows -/
theorem cut30 (xs : List V) : (cutV xs (some 4) (some 34)).length ≤ 30 := by
  unfold cutV
  have h1 : HT.sIx xs.length 0 (some 4) = min 4 xs.length := HT.sIx_nat _ _ 4
  have h2 : HT.sIx xs.length xs.length (some 34) = min 34 xs.length := HT.sIx_nat _ _ 34
  rw [h1, h2, List.length_take, List.length_drop]
  omega
theorem cut_mem {xs : List V} {lo hi : Option Int} {x : V} (h : x ∈ cutV xs lo hi) : x ∈ xs := List.mem_of_mem_drop (List.mem_of_mem_take h)
theorem RowsAt.snoc {K : PySem.W.Frag} {H : Hp} {xs : List V} {rs : List RowD} {v : V} {r : RowD} (h : RowsAt K H xs rs) (h2 : RowAt K H v r) : RowsAt K H (xs ++ [v]) (rs ++ [r]) := by
  refine ⟨by rw [List.length_append, List.length_append, h.1]; rfl, fun i x e => ?_⟩
  by_cases hi : i < xs.length
  · rw [List.getElem?_append_left hi] at e
    obtain ⟨r', h3, h4⟩ := h.2 i x e
    exact ⟨r', by rw [List.getElem?_append_left (by rw [← h.1]; exact hi)]; exact h3, h4⟩
  · have hl := (List.getElem?_eq_some_iff.mp e).1
    rw [List.length_append] at hl
    have hl : i < xs.length + 1 := hl
    have e2 : i = xs.length := by omega
    subst e2
    rw [List.getElem?_append_right (Nat.le_refl _), Nat.sub_self] at e
    cases e
    exact ⟨r, by rw [List.getElem?_append_right (by rw [← h.1]; exact Nat.le_refl _), h.1, Nat.sub_self]; rfl, h2⟩
theorem RowsAt.set {K : PySem.W.Frag} {H : Hp} {D : Addr} {o : HO} {xs : List V} {rs : List RowD} (hD : ∀ xs, ¬ Rd H D (.tup xs)) (h : RowsAt K H xs rs) : RowsAt K (upd H D o) xs rs :=
  ⟨h.1, fun i v e => let ⟨r, h1, h2⟩ := h.2 i v e; ⟨r, h1, h2.set hD⟩⟩
theorem turnR_ok {r : RowD} (h : RowOk r) : RowOk (turnR r) := by
  have key : ∀ k ∈ plainK ++ blockK, wayB k ∈ plainK ++ blockK ∧ (decide (k ∈ blockK) = decide (wayB k ∈ blockK)) := by decide +kernel
  obtain ⟨h1, h2⟩ := key _ h.kind
  refine ⟨h1, ?_, h.some, h.words⟩
  have h3 := h.num
  unfold numB at h3 ⊢
  rw [inV_strs] at h3 ⊢
  show (if decide (wayB r.kind ∈ blockK) = true then _ else _) = true
  rw [← h2]
  exact h3
theorem numB_block {k : Str} {n : Int} (hk : k = "take" ∨ k = "lay") (h1 : 1 ≤ n) (h2 : n ≤ 999999999) : numB k n = true := by
  unfold numB
  rw [inV_strs, decide_eq_true (show k ∈ blockK by rcases hk with rfl | rfl <;> decide +kernel), if_pos rfl, decide_eq_true h1, decide_eq_true h2]
  rfl
theorem numB_plain {k : Str} (h1 : k ≠ "take") (h2 : k ≠ "lay") : numB k 0 = true := by
  unfold numB
  rw [inV_strs, decide_eq_false (show ¬ k ∈ blockK from fun z => by
    rcases List.mem_cons.mp z with z | z
    · exact h1 z
    · rcases List.mem_cons.mp z with z | z
      · exact h2 z
      · cases z), if_neg Bool.false_ne_true]
  rfl
/-! ### the program's words, good or not -/
/-- a value that is no text -/
inductive NoStr (K : PySem.W.Frag) (H : Hp) : V → Prop
  | int (n : Int) : NoStr K H (.int n)
  | non : NoStr K H .non
  | bl (b : Bool) : NoStr K H (.bl b)
  | lst {a : Addr} {xs : List V} (h : SqL K H a xs) : NoStr K H (.ref a)
  | tup {a : Addr} {xs : List V} (h : SqT K H a xs) : NoStr K H (.ref a)
  | dic {a : Addr} {kvs : List (Key × V)} (h : H a = some (.dK kvs)) : NoStr K H (.ref a)
theorem NoStr.kp {K : PySem.W.Frag} {Ps : List Addr} {H H' : Hp} (t : Tb Ps H) (k : Kp Ps H H') {v : V} (h : NoStr K H v) : NoStr K H' v := by
  cases h with
  | int n => exact .int n
  | non => exact .non
  | bl b => exact .bl b
  | lst h => exact .lst (k.seq t h)
  | tup h => exact .tup (k.seqT t h)
  | dic h => exact .dic (k.at t h fun _ z => by cases z)
theorem NoStr.ty {K : PySem.W.Frag} {H : Hp} {v : V} (h : NoStr K H v) : ∃ T : String, TyX K H v (.type T) ∧ (T = "int" ∨ T = "NoneType" ∨ T = "bool" ∨ T = "list" ∨ T = "tuple" ∨ T = "dict") := by
  cases h with
  | int n => exact ⟨_, .base (.int n), .inl rfl⟩
  | non => exact ⟨_, .base .non, .inr (.inl rfl)⟩
  | bl b => exact ⟨_, .base (.bl b), .inr (.inr (.inl rfl))⟩
  | lst h => exact ⟨_, tyL h, .inr (.inr (.inr (.inl rfl)))⟩
  | tup h => exact ⟨_, tyT h, .inr (.inr (.inr (.inr (.inl rfl))))⟩
  | dic h => exact ⟨_, .base (.dK h), .inr (.inr (.inr (.inr (.inr rfl))))⟩
/-- a value that may stand among words -/
def WV (K : PySem.W.Frag) (H : Hp) (v : V) : Prop := (∃ a : Str, v = .str a ∧ a.length ≤ 1000000) ∨ NoStr K H v
theorem WV.kp {K : PySem.W.Frag} {Ps : List Addr} {H H' : Hp} (t : Tb Ps H) (k : Kp Ps H H') {v : V} (h : WV K H v) : WV K H' v := h.imp id (·.kp t k)
def isW : V → Bool
  | .str a => wordB a
  | _ => false
theorem isW_no {K : PySem.W.Frag} {H : Hp} {v : V} (h : NoStr K H v) : isW v = false := by
  cases h <;> rfl
theorem all_isW (ws : List Str) : (ws.map V.str).all isW = ws.all wordB := by
  induction ws with
  | nil => rfl
  | cons a r ih =>
    rw [List.map_cons, List.all_cons, List.all_cons, ih]
    rfl
theorem log_small {n : Nat} (h : n < 2 ^ 64) : n.log2 < 1920 := by
  by_cases h0 : n = 0
  · subst h0
    decide
  · exact (Nat.log2_lt h0).mpr (Nat.lt_of_lt_of_le h (Nat.pow_le_pow_right (by decide) (by decide)))
section
variable {P : Program} {w : World} {K : PySem.W.Frag} {mg : Str → Option Value} {base : Heap}
def spIsWordX (K : PySem.W.Frag) (Ps : List Addr) : Sp := fun vs H Q _ => ∃ v, vs = [v] ∧ WV K H v ∧ Tb Ps H ∧ ∀ H', Kp Ps H H' → Q (.bl (isW v)) H'
theorem ok_is_wordX {Ps : List Addr} {f fS Pw : Addr} {fd fdS : FuncData} (F : FnP K "is_word" sIsWord f fd) (hf : f = He.fAd K ("is_word", none)) (hPw : Pw ∈ Ps) (TB : GxR.TabB base mg (He.codeOf K ("is_word", none)) Pw)
    (FS : FnP K "is_sign" sIsSign fS fdS) (bS : Binds K fdS ["sign"] []) (gS : mg "is_sign" = some (.ref fS)) (mI : mg "isinstance" = none) (mS : mg "str" = none) (mL : mg "len" = none) (mA : mg "all" = none) {tL : Tok} (mN : mg "LONGEST" = some (.int 40 tL)) :
    FnOk P w K mg base (L2.CX P w) 3 f fd ["word"] (spIsWordX K Ps) := by
  have GS : FnOk P w K mg base (L2.CX P w) 1 fS fdS ["sign"] spIsSign := ok_is_sign FS
  refine okC F hf scIsWord (fun vs H Q E h => ?_) (fun A outer s H vs Q E hr h => ?_)
  · obtain ⟨v, rfl, _⟩ := h
    rfl
  · obtain ⟨v, rfl, hv, ht, q⟩ := h
    refine ⟨_, pss_cons (ps_if (pt_not (pt_val (pe_callB call_isi (by rfl) mI (by decide +kernel) (pa_cons (pv 0) (pa_cons (pe_bltn (v := .ty "str") (by rfl) mS (by decide +kernel) rfl) pa_nil))))) (pss_one (ps_ret pe_bl)) pss_nil)
      (pss_one (ps_ret (pe_and (pe_chain op_le op_le pe_int (pe_callB call_len_str (by rfl) mL PySem.boot_len (pa_cons (pv 0) pa_nil)) (pe_glob (v := .int 40) (by rfl) mN ⟨_, rfl⟩))
        (pe_one (pe_allG (own := [("sign", 1)]) (gt := gName 1) (tt := tYes) (P := Pw) hr scIsWord.nd (by rfl) mA (by decide +kernel) TB rfl ⟨rfl, by decide +kernel, rfl, blkOk_by (N := ["word", "sign"]) (sc := defScope sIsWord) (by decide +kernel)⟩ (pi_str (pv 0))
          (fun _ _ _ _ _ _ _ _ _ => pg_name (i := 1) scIsWord.nd rfl (Or.inl rfl)) (fun _ _ _ _ _ _ _ _ _ _ => pts_nil) (fun _ _ _ _ _ _ _ _ _ hb => pe_call GS hb (by rfl) gS FS.kp bS .nil passL (pa_cons (pv 1) pa_nil))))))), ?_⟩
    rcases hv with ⟨a, rfl, hz⟩ | hv
    · refine ⟨_, rfl, .str a, .ty "str", _, _, true, rfl, .ty _, .base (.str a), kit_ty (by decide +kernel), true, rfl, iteF ?_⟩
      refine ⟨_, rfl, a, rfl, small_line hz, 1, (a.length : Int), rfl, rfl, _, rfl, ?_⟩
      have eN : isW (.str a) = (decide ((1 : Int) ≤ (a.length : Int)) && (decide ((a.length : Int) ≤ 40) && a.cps.toList.all signB)) := rfl
      rw [eN] at q
      by_cases h1 : (1 : Int) ≤ (a.length : Int)
      · rw [decide_eq_true h1] at q ⊢
        refine iteT ⟨(a.length : Int), 40, rfl, rfl, _, rfl, ?_⟩
        by_cases h2 : (a.length : Int) ≤ 40
        · rw [decide_eq_true h2] at q ⊢
          refine iteT ⟨_, rfl, a, rfl, ht Pw hPw, fun H2 hT => ?_⟩
          have k2 := Kp.tab ht hPw hT
          refine read_all_str (pb := signB) (Pv := fun H3 => H3 = H2) rfl (fun i c H3 R _ p hR => ?_) (fun H3 p => ?_)
          · subst p
            refine ⟨rfl, _, rfl, c, rfl, hR _ rfl⟩
          · subst p
            exact q _ k2
        · rw [decide_eq_false h2] at q ⊢
          exact iteF (q H (Kp.refl ht))
      · rw [decide_eq_false h1] at q ⊢
        exact iteF ⟨_, rfl, iteF (q H (Kp.refl ht))⟩
    · obtain ⟨T, hT, hk⟩ := hv.ty
      rw [isW_no hv] at q
      have kk : kitB T "str" = some false := by
        rcases hk with rfl | rfl | rfl | rfl | rfl | rfl <;> decide +kernel
      exact ⟨_, rfl, v, .ty "str", _, _, false, rfl, .ty _, hT, kit_ty kk, false, rfl, iteT (q H (Kp.refl ht))⟩
/-- an own class of errors -/
structure ExcC (K : PySem.W.Frag) (mg : Str → Option Value) (x : Str) (c : Addr) : Prop where
  g : mg x = some (.ref c)
  ex : PySem.W.excIn K c He.veBase "ValueError.__new__" = true
  kp : PySem.W.keepIn K (.ref c) = true
  be : PySem.W.subIn K (.ref c) (.type "BaseException") = some true
  ty : PySem.W.typeIn K (.ref c) = some (.type "type")
/-- what is no list -/
inductive NoList (K : PySem.W.Frag) (H : Hp) : V → Prop
  | str (a : Str) : NoList K H (.str a)
  | int (n : Int) : NoList K H (.int n)
  | non : NoList K H .non
  | bl (b : Bool) : NoList K H (.bl b)
  | tup {a : Addr} {xs : List V} (h : SqT K H a xs) : NoList K H (.ref a)
  | dic {a : Addr} {kvs : List (Key × V)} (h : H a = some (.dK kvs)) : NoList K H (.ref a)
theorem NoList.kp {K : PySem.W.Frag} {Ps : List Addr} {H H' : Hp} (t : Tb Ps H) (k : Kp Ps H H') {v : V} (h : NoList K H v) : NoList K H' v := by
  cases h with
  | str a => exact .str a
  | int n => exact .int n
  | non => exact .non
  | bl b => exact .bl b
  | tup h => exact .tup (k.seqT t h)
  | dic h => exact .dic (k.at t h fun _ z => by cases z)
theorem NoList.ty {K : PySem.W.Frag} {H : Hp} {v : V} (h : NoList K H v) : ∃ T : String, TyX K H v (.type T) ∧ kitB T "list" = some false := by
  cases h with
  | str a => exact ⟨_, .base (.str a), by decide +kernel⟩
  | int n => exact ⟨_, .base (.int n), by decide +kernel⟩
  | non => exact ⟨_, .base .non, by decide +kernel⟩
  | bl b => exact ⟨_, .base (.bl b), by decide +kernel⟩
  | tup h => exact ⟨_, tyT h, by decide +kernel⟩
  | dic h => exact ⟨_, .base (.dK h), by decide +kernel⟩
/-- what is handed in where words are asked for: no list, or a list of such values -/
def TextV (K : PySem.W.Frag) (H : Hp) (v : V) (o : Option (List V)) : Prop := match o with
  | none => NoList K H v
  | some xs => ∃ p, v = .ref p ∧ SqL K H p xs ∧ (∀ x ∈ xs, WV K H x) ∧ xs.length ≤ 1000
theorem TextV.kp {K : PySem.W.Frag} {Ps : List Addr} {H H' : Hp} (t : Tb Ps H) (k : Kp Ps H H') {v : V} {o : Option (List V)} (h : TextV K H v o) : TextV K H' v o := by
  cases o with
  | none => exact NoList.kp t k h
  | some xs =>
    obtain ⟨p, e, h1, h2, h3⟩ := h
    exact ⟨p, e, k.seq t h1, fun x hx => (h2 x hx).kp t k, h3⟩
def wordsB (o : Option (List V)) : Bool := match o with
  | none => false
  | some xs => xs.all isW
def shortB (o : Option (List V)) : Bool := match o with
  | none => false
  | some xs => decide (xs.length ≤ 120)
end
/-! ### the program's checks of words -/
section
variable {P : Program} {w : World} {K : PySem.W.Frag} {mg : Str → Option Value} {base : Heap}
theorem scCheckWordsX : FnScope ["words", "at", "word"] ["words"] (defScope sCheckWords) := ⟨rfl, rfl, rfl, by decide +kernel, rfl, by decide +kernel, by decide +kernel⟩
theorem scCheckLengthX : FnScope ["words"] ["words"] (defScope sCheckLength) := ⟨rfl, rfl, rfl, by decide +kernel, rfl, by decide +kernel, by decide +kernel⟩
theorem scCheckTextX : FnScope ["words"] ["words"] (defScope sCheckText) := ⟨rfl, rfl, rfl, by decide +kernel, rfl, by decide +kernel, by decide +kernel⟩
def spCheckWordsX (K : PySem.W.Frag) (Ps : List Addr) (cW : Addr) : Sp := fun vs H Q E => ∃ v o, vs = [v] ∧ TextV K H v o ∧ Tb Ps H ∧ (wordsB o = true → ∀ H', Kp Ps H H' → Q .non H') ∧ (wordsB o = false → ∀ H', Kp Ps H H' → E (.ref cW) none H')
theorem ok_check_wordsX {Ps : List Addr} {cW f fW : Addr} {fd fdW : FuncData} (F : FnP K "check_words" sCheckWords f fd) (GW : FnOk P w K mg base (L2.CX P w) 3 fW fdW ["word"] (spIsWordX K Ps)) (kW : PySem.W.keepIn K (.ref fW) = true) (bW : Binds K fdW ["word"] []) (gW : mg "is_word" = some (.ref fW))
    (X : ExcC K mg "NoWord" cW) (mI : mg "isinstance" = none) (mT : mg "list" = none) (mE : mg "enumerate" = none) : FnOk P w K mg base (L2.CX P w) 4 f fd ["words"] (spCheckWordsX K Ps cW) := by
  refine F.ok scCheckWordsX (fun vs H Q E h => ?_) (fun cdv A outer s H vs Q E hr h => ?_)
  · obtain ⟨v, o, rfl, _⟩ := h
    rfl
  · obtain ⟨v, o, rfl, hv, ht, q, e⟩ := h
    refine ⟨_, pss_cons (ps_if (pt_not (pt_val (pe_callB call_isi (by rfl) mI (by decide +kernel) (pa_cons (pv 0) (pa_cons (pe_bltn (v := .ty "list") (by rfl) mT (by decide +kernel) rfl) pa_nil)))))
        (pss_one (ps_raise rfl (takes_of rfl rfl rfl rfl) (pmk_own PySem.F.excBase_ValueError X.ex X.g X.kp (raises_own X.be X.ty) (by rfl)))) pss_nil)
      (pss_one (ps_for (passes_of rfl) rfl (pi_enum (by rfl) mE (pa_cons (pv 0) pa_nil)) (pg_tup rfl (pgs_cons (pg_name (i := 1) scCheckWordsX.nd rfl (.inl rfl)) (pgs_cons (pg_name (i := 2) scCheckWordsX.nd rfl (.inl rfl)) pgs_nil)))
        (pss_one (ps_if (pt_not (pt_val (pe_call GW hr (by rfl) gW kW bW .nil passL (pa_cons (pv 2) pa_nil))))
          (pss_one (ps_raise rfl (takes_of rfl rfl rfl rfl) (SkE.pmk_own1 PySem.F.excBase_ValueError X.ex X.g X.kp (raises_own X.be X.ty) (by rfl) (pe_joined (.cons pe_str (.cons (pe_fmt (pv 1)) (.cons pe_str .nil))))))) pss_nil)))), ?_⟩
    cases o with
    | none =>
      obtain ⟨T, hT, hk⟩ := NoList.ty hv
      exact ⟨_, rfl, v, .ty "list", _, _, false, rfl, .ty _, hT, kit_ty hk, false, rfl, iteT (e rfl H (Kp.refl ht))⟩
    | some xs =>
      obtain ⟨p, rfl, hS, hw, hl⟩ := hv
      refine ⟨_, rfl, .ref p, .ty "list", _, _, true, rfl, .ty _, tyL hS, kit_ty (by decide +kernel), true, rfl, iteF ?_⟩
      refine ⟨_, rfl, p, _, rfl, hS, for_enum (xs := xs) (fun i σ' H' => Kp Ps H H' ∧ (xs.take i).all isW = true ∧ ∃ y1 y2, σ' = [some (.ref p), y1, y2]) ⟨Kp.refl ht, rfl, none, none, rfl⟩ (fun i σ' H' _ hp => hp.1.seq ht hS) (fun i x T σ' H' hx nT hp => ?_) (fun σ' H' hp => ?_)⟩
      · obtain ⟨k, hall, y1, y2, rfl⟩ := hp
        have hi : i < xs.length := (List.getElem?_eq_some_iff.mp hx).1
        have k2 : Kp Ps H (upd H' T (.tup [.int (i : Nat), x])) := k.trans (Kp.new k.1 nT)
        refine ⟨T, _, rfl, .inl (.inl upd_same), rfl, _, _, rfl, _, _, rfl, rfl, ?_⟩
        refine ⟨_, rfl, x, rfl, (hw x (List.mem_of_getElem? hx)).kp ht k2, k2.1, fun H3 k3 => ⟨_, rfl, ?_⟩⟩
        cases hb : isW x with
        | true => exact iteF ⟨k2.trans k3, by rw [take_all hx hall, hb], _, _, rfl⟩
        | false =>
          have hlog : ((i : Nat) : Int).natAbs.log2 < 1920 := log_small (by omega)
          have hnl := int_text_len_1921 hlog
          refine iteT ⟨_, rfl, small_line (by decide +kernel), _, rfl, .inr ⟨_, rfl, hlog, _, rfl, small_line ?_, _, rfl, small_line ?_, e (all_fail hx hb) H3 (k2.trans k3)⟩⟩
          · rw [Str.length_append, show (Str.empty ++ ("item " : Str)).length = 5 by decide +kernel]
            omega
          · rw [Str.length_append, Str.length_append, show (Str.empty ++ ("item " : Str)).length = 5 by decide +kernel, show (" of the list is no word" : Str).length = 23 by decide +kernel]
            omega
      · obtain ⟨k, hall, y1, y2, rfl⟩ := hp
        rw [List.take_of_length_le (Nat.le_refl _)] at hall
        exact q hall H' k
def spCheckLengthX (K : PySem.W.Frag) (cL : Addr) : Sp := fun vs H Q E => ∃ (p : Addr) (xs : List V), vs = [.ref p] ∧ SqL K H p xs ∧ xs.length ≤ 1000 ∧ (xs.length ≤ 120 → Q .non H) ∧ (¬ xs.length ≤ 120 → E (.ref cL) none H)
theorem ok_check_lengthX {cL f : Addr} {fd : FuncData} (F : FnP K "check_length" sCheckLength f fd) (X : ExcC K mg "TooLong" cL) (mL : mg "len" = none) {tM : Tok} (mM : mg "MOST" = some (.int 120 tM)) : FnOk P w K mg base (L2.CX P w) 1 f fd ["words"] (spCheckLengthX K cL) := by
  refine F.ok scCheckLengthX (fun vs H Q E h => ?_) (fun cdv A outer s H vs Q E hr h => ?_)
  · obtain ⟨p, xs, rfl, _⟩ := h
    rfl
  · obtain ⟨p, xs, rfl, hS, hl, q, e⟩ := h
    refine ⟨_, pss_one (ps_if (pt_cmpR op_gt (pe_callB call_len_seq (by rfl) mL PySem.boot_len (pa_cons (pv 0) pa_nil)) (pe_glob (v := .int 120) (by rfl) mM ⟨_, rfl⟩) (nomark _))
      (pss_one (ps_raise rfl (takes_of rfl rfl rfl rfl) (SkE.pmk_own1 PySem.F.excBase_ValueError X.ex X.g X.kp (raises_own X.be X.ty) (by rfl) (pe_joined (.cons pe_str (.cons (pe_fmt (pe_glob (v := .int 120) (by rfl) mM ⟨_, rfl⟩)) (.cons pe_str (.cons (pe_fmt (pe_callB call_len_seq (by rfl) mL PySem.boot_len (pa_cons (pv 0) pa_nil))) .nil)))))))) pss_nil), ?_⟩
    refine ⟨_, rfl, p, _, rfl, .inl hS, _, _, rfl, rfl, _, rfl, ?_⟩
    by_cases h : xs.length ≤ 120
    · have e1 : decide ((xs.length : Int) > 120) = false := decide_eq_false (by omega)
      show if decide ((xs.length : Int) > 120) = true then _ else _
      rw [e1]
      exact iteF (q h)
    · have e1 : decide ((xs.length : Int) > 120) = true := decide_eq_true (by omega)
      show if decide ((xs.length : Int) > 120) = true then _ else _
      rw [e1]
      have hlog : ((xs.length : Nat) : Int).natAbs.log2 < 1920 := log_small (by omega)
      have hnl := int_text_len_1921 hlog
      have e120 : (Str.ofString (toString (120 : Int))).length = 3 := by decide +kernel
      have e0 : (Str.empty ++ ("a text has at most " : Str)).length = 19 := by decide +kernel
      have e2 : (" words, not " : Str).length = 12 := by decide +kernel
      refine iteT ⟨_, rfl, small_line (by rw [e0]; decide), .inr ⟨_, rfl, by decide +kernel, _, rfl, small_line ?_, _, rfl, small_line ?_, _, rfl, p, _, rfl, .inl hS, .inr ⟨_, rfl, hlog, _, rfl, small_line ?_, e h⟩⟩⟩
      · rw [Str.length_append, e0, e120]
        decide
      · rw [Str.length_append, Str.length_append, e0, e120, e2]
        decide
      · rw [Str.length_append, Str.length_append, Str.length_append, e0, e120, e2]
        omega
def spCheckTextX (K : PySem.W.Frag) (Ps : List Addr) (cW cL : Addr) : Sp := fun vs H Q E => ∃ v o, vs = [v] ∧ TextV K H v o ∧ Tb Ps H ∧ (wordsB o = true → shortB o = true → ∀ H', Kp Ps H H' → Q .non H') ∧ (wordsB o = false → ∀ H', Kp Ps H H' → E (.ref cW) none H') ∧ (wordsB o = true → shortB o = false → ∀ H', Kp Ps H H' → E (.ref cL) none H')
theorem ok_check_textX {Ps : List Addr} {cW cL f fW fL : Addr} {fd fdW fdL : FuncData} (F : FnP K "check_text" sCheckText f fd) (GW : FnOk P w K mg base (L2.CX P w) 4 fW fdW ["words"] (spCheckWordsX K Ps cW)) (kW : PySem.W.keepIn K (.ref fW) = true) (bW : Binds K fdW ["words"] []) (gW : mg "check_words" = some (.ref fW))
    (GL : FnOk P w K mg base (L2.CX P w) 1 fL fdL ["words"] (spCheckLengthX K cL)) (kL : PySem.W.keepIn K (.ref fL) = true) (bL : Binds K fdL ["words"] []) (gL : mg "check_length" = some (.ref fL)) : FnOk P w K mg base (L2.CX P w) 5 f fd ["words"] (spCheckTextX K Ps cW cL) := by
  refine F.ok scCheckTextX (fun vs H Q E h => ?_) (fun cdv A outer s H vs Q E hr h => ?_)
  · obtain ⟨v, o, rfl, _⟩ := h
    rfl
  · obtain ⟨v, o, rfl, hv, ht, q, e1, e2⟩ := h
    refine ⟨_, pss_cons (ps_expr (pe_callS GW hr (by rfl) gW kW bW (fun σ => passAt (takes_of rfl rfl rfl rfl) σ) (pa_cons (pv 0) pa_nil))) (pss_one (ps_expr (pe_callS GL (hr.mono (by decide)) (by rfl) gL kL bL (fun σ => passAt (takes_of rfl rfl rfl rfl) σ) (pa_cons (pv 0) pa_nil)))), ?_⟩
    refine ⟨_, rfl, v, o, rfl, hv, ht, fun hb H1 k1 => ?_, fun hb H1 k1 => e1 hb H1 k1⟩
    cases o with
    | none => cases hb
    | some xs =>
      obtain ⟨p, rfl, hS, hw, hl⟩ := hv
      exact ⟨_, rfl, p, xs, rfl, k1.seq ht hS, hl, fun h => q hb (decide_eq_true h) H1 k1, fun h => e2 hb (decide_eq_false h) H1 k1⟩
end
/-! ### rows, good or not -/
/-- what is no tuple -/
inductive NoTup (K : PySem.W.Frag) (H : Hp) : V → Prop
  | str (a : Str) : NoTup K H (.str a)
  | int (n : Int) : NoTup K H (.int n)
  | non : NoTup K H .non
  | bl (b : Bool) : NoTup K H (.bl b)
  | lst {a : Addr} {xs : List V} (h : SqL K H a xs) : NoTup K H (.ref a)
  | dic {a : Addr} {kvs : List (Key × V)} (h : H a = some (.dK kvs)) : NoTup K H (.ref a)
theorem NoTup.kp {K : PySem.W.Frag} {Ps : List Addr} {H H' : Hp} (t : Tb Ps H) (k : Kp Ps H H') {v : V} (h : NoTup K H v) : NoTup K H' v := by
  cases h with
  | str a => exact .str a
  | int n => exact .int n
  | non => exact .non
  | bl b => exact .bl b
  | lst h => exact .lst (k.seq t h)
  | dic h => exact .dic (k.at t h fun _ z => by cases z)
theorem NoTup.ty {K : PySem.W.Frag} {H : Hp} {v : V} (h : NoTup K H v) : ∃ T : String, TyX K H v (.type T) ∧ kitB T "tuple" = some false := by
  cases h with
  | str a => exact ⟨_, .base (.str a), by decide +kernel⟩
  | int n => exact ⟨_, .base (.int n), by decide +kernel⟩
  | non => exact ⟨_, .base .non, by decide +kernel⟩
  | bl b => exact ⟨_, .base (.bl b), by decide +kernel⟩
  | lst h => exact ⟨_, tyL h, by decide +kernel⟩
  | dic h => exact ⟨_, .base (.dK h), by decide +kernel⟩
/-- a number, good or not, by a kind -/
inductive NumV (K : PySem.W.Frag) (H : Hp) (k : Str) : V → Bool → Prop
  | int (n : Int) : NumV K H k (.int n) (numB k n)
  | bl (b : Bool) : NumV K H k (.bl b) false
  | str (a : Str) : NumV K H k (.str a) false
  | non : NumV K H k .non false
  | lst {a : Addr} {xs : List V} (h : SqL K H a xs) : NumV K H k (.ref a) false
theorem NumV.kp {K : PySem.W.Frag} {Ps : List Addr} {H H' : Hp} (t : Tb Ps H) (k : Kp Ps H H') {q : Str} {v : V} {b : Bool} (h : NumV K H q v b) : NumV K H' q v b := by
  cases h with
  | int n => exact .int n
  | bl b => exact .bl b
  | str a => exact .str a
  | non => exact .non
  | lst h => exact .lst (k.seq t h)
/-- words of a row, good or not -/
inductive WsV (K : PySem.W.Frag) (H : Hp) : V → Bool → Prop
  | no {v : V} (h : NoTup K H v) : WsV K H v false
  | nil {a : Addr} (h : SqT K H a []) : WsV K H (.ref a) false
  | tup {a : Addr} {xs : List V} (h : SqT K H a xs) (ne : xs ≠ []) (hw : ∀ x ∈ xs, WV K H x) : WsV K H (.ref a) (xs.all isW)
theorem WsV.kp {K : PySem.W.Frag} {Ps : List Addr} {H H' : Hp} (t : Tb Ps H) (k : Kp Ps H H') {v : V} {b : Bool} (h : WsV K H v b) : WsV K H' v b := by
  cases h with
  | no h => exact .no (h.kp t k)
  | nil h => exact .nil (k.seqT t h)
  | tup h ne hw => exact .tup (k.seqT t h) ne fun x hx => (hw x hx).kp t k
def kindsD : List PyData := (plainK ++ blockK).map PyData.str
/-- a row, good or not -/
inductive RV (K : PySem.W.Frag) (H : Hp) : V → Bool → Prop
  | no {v : V} (h : NoTup K H v) : RV K H v false
  | len {a : Addr} {xs : List V} (h : SqT K H a xs) (hl : xs.length ≠ 3) : RV K H (.ref a) false
  | kind {a : Addr} {k n x : V} {d : PyData} (h : SqT K H a [k, n, x]) (hk : Dp K H k d) (hs : SeqAt.shaped d = true) (hn : ∀ z ∈ kindsD, z.eqv d = false) (st : ∀ H', (∀ b o, (∀ ps, o ≠ .tbl ps) → H b = some o → H' b = some o) → Dp K H' k d) : RV K H (.ref a) false
  | row {a : Addr} {k : Str} {n x : V} {b1 b2 : Bool} (h : SqT K H a [.str k, n, x]) (hk : k ∈ plainK ++ blockK) (hn : NumV K H k n b1) (hw : WsV K H x b2) : RV K H (.ref a) (b1 && b2)
theorem RV.kp {K : PySem.W.Frag} {Ps : List Addr} {H H' : Hp} (t : Tb Ps H) (k : Kp Ps H H') {v : V} {b : Bool} (h : RV K H v b) : RV K H' v b := by
  have kk : ∀ b o, (∀ ps, o ≠ .tbl ps) → H b = some o → H' b = some o := fun b o ho e => k.at t e ho
  cases h with
  | no h => exact .no (h.kp t k)
  | len h hl => exact .len (k.seqT t h) hl
  | kind h hk hs hn st => exact .kind (k.seqT t h) (st H' kk) hs hn fun H2 k2 => st H2 fun b o ho e => k2 b o ho (kk b o ho e)
  | row h hk hn hw => exact .row (k.seqT t h) hk (hn.kp t k) (hw.kp t k)
/-- a good row is such a row -/
theorem RV.of_row {K : PySem.W.Frag} {H : Hp} {v : V} {r : RowD} (h : RowAt K H v r) (ok : RowOk r) : RV K H v true := by
  obtain ⟨T, W, rfl, hT, hW⟩ := h
  have h1 := RV.row (b1 := numB r.kind r.num) (b2 := (r.ws.map V.str).all isW) hT ok.kind (.int r.num) (.tup hW (fun z => ok.some (List.map_eq_nil_iff.mp z)) fun x hx => by
    obtain ⟨a, ha, rfl⟩ := List.mem_map.mp hx
    have := wordB_len (ok.words a ha)
    exact .inl ⟨a, rfl, by omega⟩)
  rw [ok.num, all_isW, List.all_eq_true.mpr ok.words] at h1
  exact h1
section
variable {P : Program} {w : World} {K : PySem.W.Frag} {mg : Str → Option Value} {base : Heap}
theorem scRowWordsX : FnScope ["words", "word"] ["words"] (defScope sRowWords) := ⟨rfl, rfl, rfl, by decide +kernel, rfl, by decide +kernel, by decide +kernel⟩
def spRowWordsX (K : PySem.W.Frag) (Ps : List Addr) : Sp := fun vs H Q _ => ∃ (v : V) (b : Bool), vs = [v] ∧ WsV K H v b ∧ Tb Ps H ∧ ∀ H', Kp Ps H H' → Q (.bl b) H'
theorem ok_row_wordsX {Ps : List Addr} {f fW Pr : Addr} {fd fdW : FuncData} (F : FnP K "is_row_of_words" sRowWords f fd) (hf : f = He.fAd K ("is_row_of_words", none)) (hPr : Pr ∈ Ps) (TB : GxR.TabB base mg (He.codeOf K ("is_row_of_words", none)) Pr)
    (GW : FnOk P w K mg base (L2.CX P w) 3 fW fdW ["word"] (spIsWordX K Ps)) (kW : PySem.W.keepIn K (.ref fW) = true) (bW : Binds K fdW ["word"] []) (gW : mg "is_word" = some (.ref fW))
    (mI : mg "isinstance" = none) (mT : mg "tuple" = none) (mL : mg "len" = none) (mA : mg "all" = none) : FnOk P w K mg base (L2.CX P w) 5 f fd ["words"] (spRowWordsX K Ps) := by
  refine okC F hf scRowWordsX (fun vs H Q E h => ?_) (fun A outer s H vs Q E hr h => ?_)
  · obtain ⟨v, b, rfl, _⟩ := h
    rfl
  · obtain ⟨v, b, rfl, hv, ht, q⟩ := h
    refine ⟨_, pss_cons (ps_if (PW.pt (pw_or (pt_not (pt_val (pe_callB call_isi (by rfl) mI (by decide +kernel) (pa_cons (pv 0) (pa_cons (pe_bltn (v := .ty "tuple") (by rfl) mT (by decide +kernel) rfl) pa_nil)))))
        (pw_or1 (pt_cmpR op_eq (pe_callB call_len_seq (by rfl) mL PySem.boot_len (pa_cons (pv 0) pa_nil)) pe_int (nomark _))))) (pss_one (ps_ret pe_bl)) pss_nil)
      (pss_one (ps_ret (pe_allG (own := [("word", 1)]) (gt := gName 1) (tt := tYes) (P := Pr) hr scRowWordsX.nd (by rfl) mA (by decide +kernel) TB rfl ⟨rfl, by decide +kernel, rfl, blkOk_by (N := ["words", "word"]) (sc := defScope sRowWords) (by decide +kernel)⟩ (pi_tup (pv 0))
          (fun _ _ _ _ _ _ _ _ _ => pg_name (i := 1) scRowWordsX.nd rfl (Or.inl rfl)) (fun _ _ _ _ _ _ _ _ _ _ => pts_nil) (fun _ _ _ _ _ _ _ _ _ hb => pe_call GW hb (by rfl) gW kW bW .nil passL (pa_cons (pv 1) pa_nil))))), ?_⟩
    cases hv with
    | no h =>
      obtain ⟨T, hT, hk⟩ := h.ty
      exact ⟨_, rfl, v, .ty "tuple", _, _, false, rfl, .ty _, hT, kit_ty hk, false, rfl, iteT (q H (Kp.refl ht))⟩
    | nil h =>
      refine ⟨_, rfl, .ref _, .ty "tuple", _, _, true, rfl, .ty _, tyT h, kit_ty (by decide +kernel), true, rfl, iteF ?_⟩
      exact ⟨_, rfl, _, _, rfl, .inr h, rfl, _, rfl, iteT (q H (Kp.refl ht))⟩
    | tup h ne hw =>
      rename_i W xs
      refine ⟨_, rfl, .ref W, .ty "tuple", _, _, true, rfl, .ty _, tyT h, kit_ty (by decide +kernel), true, rfl, iteF ?_⟩
      refine ⟨_, rfl, W, _, rfl, .inr h, rfl, _, rfl, ?_⟩
      have e0 : decide (V.int (xs.length : Int) = V.int 0) = false := decide_eq_false fun z => by
        have z2 := V.int.inj z
        exact ne (List.length_eq_zero_iff.mp (by omega))
      rw [e0]
      refine iteF ⟨_, rfl, W, rfl, ⟨_, h⟩, ht Pr hPr, fun H2 hT => ?_⟩
      have k2 := Kp.tab ht hPr hT
      refine read_all_tup (xs := xs) (pb := isW) (Pv := fun H3 => Kp Ps H H3) k2 (fun H3 p => p.seqT ht h) (fun i v H3 R hx p hR => ?_) (fun H3 p => q H3 p)
      exact ⟨rfl, _, rfl, v, rfl, (hw v (List.mem_of_getElem? hx)).kp ht p, p.1, fun H4 k4 => hR H4 (p.trans k4)⟩
end
/-! ### rows, good or not: the rest -/
section
variable {P : Program} {w : World} {K : PySem.W.Frag} {mg : Str → Option Value} {base : Heap}
def spIsNumberX (K : PySem.W.Frag) : Sp := fun vs H Q _ => ∃ (k : Str) (v : V) (b : Bool), vs = [.str k, v] ∧ NumV K H k v b ∧ Q (.bl b) H
theorem ok_is_numberX {aB f : Addr} {fd : FuncData} (F : FnP K "is_number" sIsNumber f fd) (mI : mg "isinstance" = none) (mN : mg "int" = none) (mO : mg "bool" = none) (mB : mg "BLOCK_KINDS" = some (.ref aB)) (kB : KTup K aB blockK) {tL : Tok} (mL : mg "LAST_BLOCK" = some (.int 999999999 tL)) :
    FnOk P w K mg base (L2.CX P w) 1 f fd ["kind", "number"] (spIsNumberX K) := by
  refine F.ok scIsNumber (fun vs H Q E h => ?_) (fun cdv A outer s H vs Q E hr h => ?_)
  · obtain ⟨k, v, b, rfl, _⟩ := h
    rfl
  · obtain ⟨k, v, b, rfl, hv, q⟩ := h
    refine ⟨_, pss_cons (ps_if (PW.pt (pw_or (pt_not (pt_val (pe_callB call_isi (by rfl) mI (by decide +kernel) (pa_cons (pv 1) (pa_cons (pe_bltn (v := .ty "int") (by rfl) mN (by decide +kernel) rfl) pa_nil)))))
        (pw_or1 (pt_val (pe_callB call_isi (by rfl) mI (by decide +kernel) (pa_cons (pv 1) (pa_cons (pe_bltn (v := .ty "bool") (by rfl) mO (by decide +kernel) rfl) pa_nil))))))) (pss_one (ps_ret pe_bl)) pss_nil)
      (pss_cons (ps_if (pt_cmpR op_in_seq (pv 0) (pe_glob (v := .ref aB) (by rfl) mB rfl) (by rfl)) (pss_one (ps_ret (pe_chain op_le op_le pe_int (pv 1) (pe_glob (v := .int 999999999) (by rfl) mL ⟨_, rfl⟩)))) pss_nil)
      (pss_one (ps_ret (pe_cmpR op_eq (pv 1) pe_int (nomark _))))), ?_⟩
    cases hv with
    | int n =>
      refine ⟨_, rfl, .int n, .ty "int", _, _, true, rfl, .ty _, .base (.int n), kit_ty (by decide +kernel), true, rfl, iteF ?_⟩
      refine ⟨_, rfl, .int n, .ty "bool", _, _, false, rfl, .ty _, .base (.int n), kit_ty (by decide +kernel), false, rfl, iteF ?_⟩
      refine ⟨_, rfl, aB, blockK.map V.str, rfl, .inr (kB H), rfl, flat_strs _, _, rfl, ?_⟩
      unfold numB at q
      show if inV (.str k) (blockK.map V.str) = true then _ else _
      cases e : inV (.str k) (blockK.map V.str) with
      | true =>
        rw [e, if_pos rfl] at q
        refine iteT ⟨_, rfl, _, _, rfl, rfl, _, rfl, ?_⟩
        by_cases h1 : 1 ≤ n
        · rw [decide_eq_true h1] at q ⊢
          exact iteT ⟨_, _, rfl, rfl, q⟩
        · rw [decide_eq_false h1] at q ⊢
          exact iteF q
      | false =>
        rw [e, if_neg Bool.false_ne_true] at q
        exact iteF ⟨_, rfl, rfl, q⟩
    | bl b =>
      refine ⟨_, rfl, .bl b, .ty "int", _, _, true, rfl, .ty _, .base (.bl b), kit_ty (by decide +kernel), true, rfl, iteF ?_⟩
      exact ⟨_, rfl, .bl b, .ty "bool", _, _, true, rfl, .ty _, .base (.bl b), kit_ty (by decide +kernel), true, rfl, iteT q⟩
    | str a => exact ⟨_, rfl, .str a, .ty "int", _, _, false, rfl, .ty _, .base (.str a), kit_ty (by decide +kernel), false, rfl, iteT q⟩
    | non => exact ⟨_, rfl, .non, .ty "int", _, _, false, rfl, .ty _, .base .non, kit_ty (by decide +kernel), false, rfl, iteT q⟩
    | lst h => exact ⟨_, rfl, .ref _, .ty "int", _, _, false, rfl, .ty _, tyL h, kit_ty (by decide +kernel), false, rfl, iteT q⟩
theorem dpT {K : PySem.W.Frag} {a : Addr} {l : List Str} (h : KTup K a l) (H : Hp) : Dp K H (.ref a) (.tuple (l.map PyData.str)) := .tup (h H) (dpStrs H K l)
theorem any_kind {k : Str} (l : List Str) : ((l.map PyData.str).any fun z => z.eqv (.str k)) = decide (k ∈ l) := by
  induction l with
  | nil => rfl
  | cons a r ih =>
    rw [List.map_cons, List.any_cons, ih]
    have e : PyData.eqv (.str a) (.str k) = decide (k = a) := by
      show decide (a = k) = decide (k = a)
      by_cases h : a = k
      · rw [decide_eq_true h, decide_eq_true h.symm]
      · rw [decide_eq_false h, decide_eq_false (Ne.symm h)]
    rw [e]
    by_cases h : k = a
    · rw [decide_eq_true h, decide_eq_true (show k ∈ a :: r from h ▸ List.mem_cons_self)]
      rfl
    · rw [decide_eq_false h]
      by_cases h2 : k ∈ r
      · rw [decide_eq_true h2, decide_eq_true (List.mem_cons_of_mem _ h2)]
        rfl
      · rw [decide_eq_false h2, decide_eq_false (fun z => (List.mem_cons.mp z).elim h h2)]
        rfl
def spIsRowX (K : PySem.W.Frag) (Ps : List Addr) : Sp := fun vs H Q _ => ∃ (v : V) (b : Bool), vs = [v] ∧ RV K H v b ∧ Tb Ps H ∧ ∀ H', Kp Ps H H' → Q (.bl b) H'
theorem ok_is_rowX {Ps : List Addr} {aP aB f fN fW : Addr} {fd fdN fdW : FuncData} (F : FnP K "is_row" sIsRow f fd)
    (GN : FnOk P w K mg base (L2.CX P w) 1 fN fdN ["kind", "number"] (spIsNumberX K)) (kN : PySem.W.keepIn K (.ref fN) = true) (bN : Binds K fdN ["kind", "number"] []) (gN : mg "is_number" = some (.ref fN))
    (GW : FnOk P w K mg base (L2.CX P w) 5 fW fdW ["words"] (spRowWordsX K Ps)) (kW : PySem.W.keepIn K (.ref fW) = true) (bW : Binds K fdW ["words"] []) (gW : mg "is_row_of_words" = some (.ref fW))
    (mI : mg "isinstance" = none) (mT : mg "tuple" = none) (mL : mg "len" = none) (mP : mg "PLAIN_KINDS" = some (.ref aP)) (kP : KTup K aP plainK) (mB : mg "BLOCK_KINDS" = some (.ref aB)) (kB : KTup K aB blockK) : FnOk P w K mg base (L2.CX P w) 6 f fd ["row"] (spIsRowX K Ps) := by
  refine F.ok scIsRow (fun vs H Q E h => ?_) (fun cdv A outer s H vs Q E hr h => ?_)
  · obtain ⟨v, b, rfl, _⟩ := h
    rfl
  · obtain ⟨v, b, rfl, hv, ht, q⟩ := h
    have hu : (A.deeper (envOfC "is_row" (defScope sIsRow) s.heap.objs.size f cdv)).units + 65 < cLine := by
      have := hr.un
      omega
    refine ⟨_, pss_cons (ps_if (PW.pt (pw_or (pt_not (pt_val (pe_callB call_isi (by rfl) mI (by decide +kernel) (pa_cons (pv 0) (pa_cons (pe_bltn (v := .ty "tuple") (by rfl) mT (by decide +kernel) rfl) pa_nil)))))
        (pw_or1 (pt_cmpR op_ne (pe_callB call_len_seq (by rfl) mL PySem.boot_len (pa_cons (pv 0) pa_nil)) pe_int (nomark _))))) (pss_one (ps_ret pe_bl)) pss_nil)
      (pss_cons (ps_asg (pv 0) (pg_tup (by rfl) (pgs_cons (pg_name (i := 1) scIsRow.nd rfl (.inl rfl)) (pgs_cons (pg_name (i := 2) scIsRow.nd rfl (.inl rfl)) (pgs_cons (pg_name (i := 3) scIsRow.nd rfl (.inl rfl)) pgs_nil)))))
      (pss_cons (ps_if (PW.pt (pw_and (pt_cmpR (It2.op_notInTD hu) (pv 1) (pe_glob (v := .ref aP) (by rfl) mP rfl) (by rfl)) (pw_and1 (pt_cmpR (It2.op_notInTD hu) (pv 1) (pe_glob (v := .ref aB) (by rfl) mB rfl) (by rfl))))) (pss_one (ps_ret pe_bl)) pss_nil)
      (pss_one (ps_ret (pe_and (pe_call GN (hr.mono (by decide)) (by rfl) gN kN bN .nil passL (pa_cons (pv 1) (pa_cons (pv 2) pa_nil))) (pe_one (pe_call GW hr (by rfl) gW kW bW .nil passL (pa_cons (pv 3) pa_nil)))))))), ?_⟩
    have shP : SeqAt.shaped (.tuple (plainK.map PyData.str)) = true := by decide +kernel
    have shB : SeqAt.shaped (.tuple (blockK.map PyData.str)) = true := by decide +kernel
    cases hv with
    | no h =>
      obtain ⟨T, hT, hk⟩ := h.ty
      exact ⟨_, rfl, v, .ty "tuple", _, _, false, rfl, .ty _, hT, kit_ty hk, false, rfl, iteT (q H (Kp.refl ht))⟩
    | len h hl =>
      refine ⟨_, rfl, .ref _, .ty "tuple", _, _, true, rfl, .ty _, tyT h, kit_ty (by decide +kernel), true, rfl, iteF ?_⟩
      refine ⟨_, rfl, _, _, rfl, .inr h, rfl, _, rfl, ?_⟩
      rw [decide_eq_false (fun z => hl (by have z2 := V.int.inj z; omega))]
      exact iteT (q H (Kp.refl ht))
    | kind h hk hs hn st =>
      rename_i T k n x d
      refine ⟨_, rfl, .ref T, .ty "tuple", _, _, true, rfl, .ty _, tyT h, kit_ty (by decide +kernel), true, rfl, iteF ?_⟩
      refine ⟨_, rfl, T, _, rfl, .inr h, rfl, _, rfl, iteF ?_⟩
      refine ⟨_, rfl, T, _, rfl, h, rfl, _, _, rfl, _, _, rfl, _, _, rfl, rfl, ?_⟩
      have n1 : ((plainK.map PyData.str).any fun z => z.eqv d) = false := by
        rw [List.any_eq_false]
        exact fun z hz => by rw [hn z (by unfold kindsD; rw [List.map_append]; exact List.mem_append_left _ hz)]; exact Bool.false_ne_true
      have n2 : ((blockK.map PyData.str).any fun z => z.eqv d) = false := by
        rw [List.any_eq_false]
        exact fun z hz => by rw [hn z (by unfold kindsD; rw [List.map_append]; exact List.mem_append_right _ hz)]; exact Bool.false_ne_true
      refine ⟨_, rfl, _, _, hk, dpT kP H, hs, shP, _, rfl, ?_⟩
      rw [n1]
      refine iteT ⟨_, rfl, _, _, hk, dpT kB H, hs, shB, _, rfl, ?_⟩
      rw [n2]
      exact iteT (q H (Kp.refl ht))
    | row h hk hn hw =>
      rename_i T k n x b1 b2
      have sk : SeqAt.shaped (.str k) = true := by
        have key : ∀ k ∈ plainK ++ blockK, SeqAt.shaped (.str k) = true := by decide +kernel
        exact key k hk
      refine ⟨_, rfl, .ref T, .ty "tuple", _, _, true, rfl, .ty _, tyT h, kit_ty (by decide +kernel), true, rfl, iteF ?_⟩
      refine ⟨_, rfl, T, _, rfl, .inr h, rfl, _, rfl, iteF ?_⟩
      refine ⟨_, rfl, T, _, rfl, h, rfl, _, _, rfl, _, _, rfl, _, _, rfl, rfl, ?_⟩
      have fin : ∀ H1, H1 = H → tAndV (tCall (spIsNumberX K) [] E0 (tCons (tVar 1) (tCons (tVar 2) tNil))) (tCall (spRowWordsX K Ps) [] E0 (tCons (tVar 3) tNil)) [some (.ref T), some (.str k), some n, some x] H1 Q := fun H1 e => by
        subst e
        refine ⟨_, rfl, _, rfl, k, n, b1, rfl, hn, _, rfl, ?_⟩
        cases b1 with
        | false => exact iteF (q H1 (Kp.refl ht))
        | true => exact iteT ⟨_, rfl, x, b2, rfl, hw, ht, fun H' k' => q H' k'⟩
      refine ⟨_, rfl, _, _, .str k, dpT kP H, sk, shP, _, rfl, ?_⟩
      rw [any_kind]
      by_cases h1 : k ∈ plainK
      · rw [decide_eq_true h1]
        exact iteF (iteF (fin H rfl))
      · rw [decide_eq_false h1]
        refine iteT ⟨_, rfl, _, _, .str k, dpT kB H, sk, shB, _, rfl, ?_⟩
        rw [any_kind, decide_eq_true ((List.mem_append.mp hk).resolve_left h1)]
        exact iteF (fin H rfl)
/-- what is handed in where rows are asked for -/
def RowsV (K : PySem.W.Frag) (H : Hp) (v : V) (o : Option (List Bool)) : Prop := match o with
  | none => NoList K H v
  | some bs => ∃ p xs, v = .ref p ∧ SqL K H p xs ∧ xs.length = bs.length ∧ xs.length ≤ 1000 ∧ ∀ (i : Nat) (x : V), xs[i]? = some x → ∃ b, bs[i]? = some b ∧ RV K H x b
def rowsB (o : Option (List Bool)) : Bool := match o with
  | none => false
  | some bs => bs.all id
theorem RowsV.kp {K : PySem.W.Frag} {Ps : List Addr} {H H' : Hp} (t : Tb Ps H) (k : Kp Ps H H') {v : V} {o : Option (List Bool)} (h : RowsV K H v o) : RowsV K H' v o := by
  cases o with
  | none => exact NoList.kp t k h
  | some bs =>
    obtain ⟨p, xs, e, h1, h2, h3, h4⟩ := h
    exact ⟨p, xs, e, k.seq t h1, h2, h3, fun i x hx => let ⟨b, h5, h6⟩ := h4 i x hx; ⟨b, h5, h6.kp t k⟩⟩
def spCheckRowsX (K : PySem.W.Frag) (Ps : List Addr) (cR : Addr) : Sp := fun vs H Q E => ∃ (v : V) (o : Option (List Bool)), vs = [v] ∧ RowsV K H v o ∧ Tb Ps H ∧ (rowsB o = true → ∀ H', Kp Ps H H' → Q .non H') ∧ (rowsB o = false → ∀ H', Kp Ps H H' → E (.ref cR) none H')
theorem ok_check_rowsX {Ps : List Addr} {cR f fR : Addr} {fd fdR : FuncData} (F : FnP K "check_rows" sCheckRows f fd) (GR : FnOk P w K mg base (L2.CX P w) 6 fR fdR ["row"] (spIsRowX K Ps)) (kR : PySem.W.keepIn K (.ref fR) = true) (bR : Binds K fdR ["row"] []) (gR : mg "is_row" = some (.ref fR))
    (X : ExcC K mg "NoRow" cR) (mI : mg "isinstance" = none) (mT : mg "list" = none) (mE : mg "enumerate" = none) : FnOk P w K mg base (L2.CX P w) 7 f fd ["rows"] (spCheckRowsX K Ps cR) := by
  refine F.ok scCheckRows (fun vs H Q E h => ?_) (fun cdv A outer s H vs Q E hr h => ?_)
  · obtain ⟨v, o, rfl, _⟩ := h
    rfl
  · obtain ⟨v, o, rfl, hv, ht, q, e⟩ := h
    refine ⟨_, pss_cons (ps_if (pt_not (pt_val (pe_callB call_isi (by rfl) mI (by decide +kernel) (pa_cons (pv 0) (pa_cons (pe_bltn (v := .ty "list") (by rfl) mT (by decide +kernel) rfl) pa_nil)))))
        (pss_one (ps_raise rfl (takes_of rfl rfl rfl rfl) (pmk_own PySem.F.excBase_ValueError X.ex X.g X.kp (raises_own X.be X.ty) (by rfl)))) pss_nil)
      (pss_one (ps_for (passes_of rfl) rfl (pi_enum (by rfl) mE (pa_cons (pv 0) pa_nil)) (pg_tup rfl (pgs_cons (pg_name (i := 1) scCheckRows.nd rfl (.inl rfl)) (pgs_cons (pg_name (i := 2) scCheckRows.nd rfl (.inl rfl)) pgs_nil)))
        (pss_one (ps_if (pt_not (pt_val (pe_call GR hr (by rfl) gR kR bR .nil passL (pa_cons (pv 2) pa_nil))))
          (pss_one (ps_raise rfl (takes_of rfl rfl rfl rfl) (SkE.pmk_own1 PySem.F.excBase_ValueError X.ex X.g X.kp (raises_own X.be X.ty) (by rfl) (pe_joined (.cons pe_str (.cons (pe_fmt (pv 1)) (.cons pe_str .nil))))))) pss_nil)))), ?_⟩
    cases o with
    | none =>
      obtain ⟨T, hT, hk⟩ := NoList.ty hv
      exact ⟨_, rfl, v, .ty "list", _, _, false, rfl, .ty _, hT, kit_ty hk, false, rfl, iteT (e rfl H (Kp.refl ht))⟩
    | some bs =>
      obtain ⟨p, xs, rfl, hS, hlen, hl, hw⟩ := hv
      refine ⟨_, rfl, .ref p, .ty "list", _, _, true, rfl, .ty _, tyL hS, kit_ty (by decide +kernel), true, rfl, iteF ?_⟩
      refine ⟨_, rfl, p, _, rfl, hS, for_enum (xs := xs) (fun i σ' H' => Kp Ps H H' ∧ (bs.take i).all id = true ∧ ∃ y1 y2, σ' = [some (.ref p), y1, y2]) ⟨Kp.refl ht, rfl, none, none, rfl⟩ (fun i σ' H' _ hp => hp.1.seq ht hS) (fun i x T σ' H' hx nT hp => ?_) (fun σ' H' hp => ?_)⟩
      · obtain ⟨k, hall, y1, y2, rfl⟩ := hp
        have hi : i < xs.length := (List.getElem?_eq_some_iff.mp hx).1
        obtain ⟨b, hb, hv⟩ := hw i x hx
        have k2 : Kp Ps H (upd H' T (.tup [.int (i : Nat), x])) := k.trans (Kp.new k.1 nT)
        refine ⟨T, _, rfl, .inl (.inl upd_same), rfl, _, _, rfl, _, _, rfl, rfl, ?_⟩
        refine ⟨_, rfl, x, b, rfl, hv.kp ht k2, k2.1, fun H3 k3 => ⟨_, rfl, ?_⟩⟩
        cases b with
        | true => exact iteF ⟨k2.trans k3, by rw [take_all hb hall]; rfl, _, _, rfl⟩
        | false =>
          have hlog : ((i : Nat) : Int).natAbs.log2 < 1920 := log_small (by omega)
          have hnl := int_text_len_1921 hlog
          refine iteT ⟨_, rfl, small_line (by decide +kernel), _, rfl, .inr ⟨_, rfl, hlog, _, rfl, small_line ?_, _, rfl, small_line ?_, e (all_fail hb rfl) H3 (k2.trans k3)⟩⟩
          · rw [Str.length_append, show (Str.empty ++ ("item " : Str)).length = 5 by decide +kernel]
            omega
          · rw [Str.length_append, Str.length_append, show (Str.empty ++ ("item " : Str)).length = 5 by decide +kernel, show (" of the list is no row" : Str).length = 22 by decide +kernel]
            omega
      · obtain ⟨k, hall, y1, y2, rfl⟩ := hp
        rw [List.take_of_length_le (by rw [hlen]; exact Nat.le_refl _)] at hall
        exact q hall H' k
end
/-! ### rows whose words are tracked -/
def RowT (K : PySem.W.Frag) (H : Hp) (v : V) (r : RowD) : Prop := ∃ T W, v = .ref T ∧ SqT K H T [.str r.kind, .int r.num, .ref W] ∧ H W = some (.tup (r.ws.map V.str))
def RowsT (K : PySem.W.Frag) (H : Hp) (xs : List V) (rs : List RowD) : Prop := xs.length = rs.length ∧ ∀ (i : Nat) (v : V), xs[i]? = some v → ∃ r, rs[i]? = some r ∧ RowT K H v r
theorem RowT.at {K : PySem.W.Frag} {H : Hp} {v : V} {r : RowD} (h : RowT K H v r) : RowAt K H v r := let ⟨T, W, e, h1, h2⟩ := h; ⟨T, W, e, h1, .inl (.inl h2)⟩
theorem RowsT.at {K : PySem.W.Frag} {H : Hp} {xs : List V} {rs : List RowD} (h : RowsT K H xs rs) : RowsAt K H xs rs := ⟨h.1, fun i v e => let ⟨r, h1, h2⟩ := h.2 i v e; ⟨r, h1, h2.at⟩⟩
theorem RowT.same {K : PySem.W.Frag} {H H' : Hp} {v : V} {r : RowD} (s : Same H H') (h : RowT K H v r) : RowT K H' v r := let ⟨T, W, e, h1, h2⟩ := h; ⟨T, W, e, sameT s h1, s _ _ h2⟩
theorem RowsT.same {K : PySem.W.Frag} {H H' : Hp} {xs : List V} {rs : List RowD} (s : Same H H') (h : RowsT K H xs rs) : RowsT K H' xs rs := ⟨h.1, fun i v e => let ⟨r, h1, h2⟩ := h.2 i v e; ⟨r, h1, h2.same s⟩⟩
theorem RowT.kp {K : PySem.W.Frag} {Ps : List Addr} {H H' : Hp} {v : V} {r : RowD} (t : Tb Ps H) (k : Kp Ps H H') (h : RowT K H v r) : RowT K H' v r := let ⟨T, W, e, h1, h2⟩ := h; ⟨T, W, e, k.seqT t h1, k.at t h2 fun _ z => by cases z⟩
theorem RowsT.kp {K : PySem.W.Frag} {Ps : List Addr} {H H' : Hp} {xs : List V} {rs : List RowD} (t : Tb Ps H) (k : Kp Ps H H') (h : RowsT K H xs rs) : RowsT K H' xs rs := ⟨h.1, fun i v e => let ⟨r, h1, h2⟩ := h.2 i v e; ⟨r, h1, h2.kp t k⟩⟩
/-- a place that holds no tuple is written -/
theorem sqT_set {K : PySem.W.Frag} {H : Hp} {D T : Addr} {o : HO} {xs : List V} (hD : ∀ ys, ¬ Rd H D (.tup ys)) (h : SqT K H T xs) : SqT K (upd H D o) T xs := by
  rcases h with h | h
  · have ne : T ≠ D := fun z => hD _ (z ▸ h)
    refine .inl ?_
    rcases h with h | ⟨o2, h⟩
    · exact .inl (by rw [upd_ne ne]; exact h)
    · exact .inr ⟨o2, by rw [upd_ne ne]; exact h⟩
  · exact .inr h
theorem RowT.set {K : PySem.W.Frag} {H : Hp} {D : Addr} {o : HO} {v : V} {r : RowD} (hD : ∀ ys, ¬ Rd H D (.tup ys)) (h : RowT K H v r) : RowT K (upd H D o) v r := by
  obtain ⟨T, W, e, h1, h2⟩ := h
  refine ⟨T, W, e, sqT_set hD h1, ?_⟩
  rw [upd_ne fun z => hD _ (.inl (z ▸ h2))]
  exact h2
theorem RowsT.set {K : PySem.W.Frag} {H : Hp} {D : Addr} {o : HO} {xs : List V} {rs : List RowD} (hD : ∀ ys, ¬ Rd H D (.tup ys)) (h : RowsT K H xs rs) : RowsT K (upd H D o) xs rs :=
  ⟨h.1, fun i v e => let ⟨r, h1, h2⟩ := h.2 i v e; ⟨r, h1, h2.set hD⟩⟩
theorem RowsT.nil {K : PySem.W.Frag} {H : Hp} : RowsT K H [] [] := ⟨rfl, fun i v e => by cases e⟩
theorem RowsT.one {K : PySem.W.Frag} {H : Hp} {v : V} {r : RowD} (h : RowT K H v r) : RowsT K H [v] [r] := ⟨rfl, fun i v' e => by
  cases i with
  | zero => cases e; exact ⟨r, rfl, h⟩
  | succ i => cases e⟩
theorem RowsT.app {K : PySem.W.Frag} {H : Hp} {xs ys : List V} {rs ps : List RowD} (h : RowsT K H xs rs) (g : RowsT K H ys ps) : RowsT K H (xs ++ ys) (rs ++ ps) := by
  refine ⟨by rw [List.length_append, List.length_append, h.1, g.1], fun i v e => ?_⟩
  rcases Nat.lt_or_ge i xs.length with c | c
  · rw [List.getElem?_append_left c] at e
    obtain ⟨r, h1, h2⟩ := h.2 i v e
    exact ⟨r, by rw [List.getElem?_append_left (by rw [← h.1]; exact c)]; exact h1, h2⟩
  · rw [List.getElem?_append_right c] at e
    obtain ⟨r, h1, h2⟩ := g.2 _ v e
    exact ⟨r, by rw [List.getElem?_append_right (by rw [← h.1]; exact c), ← h.1]; exact h1, h2⟩
theorem RowsT.snoc {K : PySem.W.Frag} {H : Hp} {xs : List V} {rs : List RowD} {v : V} {r : RowD} (h : RowsT K H xs rs) (h2 : RowT K H v r) : RowsT K H (xs ++ [v]) (rs ++ [r]) := h.app (RowsT.one h2)
/-! ### the program's blocks: small defs -/
section
variable {P : Program} {w : World} {K : PySem.W.Frag} {mg : Str → Option Value} {base : Heap}
theorem scNoBlocks : FnScope ["rows", "at", "row"] ["rows"] (defScope sCheckNoBlocks) := ⟨rfl, rfl, rfl, by decide +kernel, rfl, by decide +kernel, by decide +kernel⟩
def spNoBlocks (K : PySem.W.Frag) (Ps : List Addr) (cR : Addr) : Sp := fun vs H Q E => ∃ (p : Addr) (xs : List V) (rs : List RowD), vs = [.ref p] ∧ SqL K H p xs ∧ RowsAt K H xs rs ∧ (∀ r ∈ rs, RowOk r ∧ r.ws.length ≤ 1000) ∧ rs.length ≤ 1000 ∧ Tb Ps H ∧
  ((∀ r ∈ rs, ¬ r.kind ∈ blockK) → ∀ H', Kp Ps H H' → Q .non H') ∧ ((∃ r ∈ rs, r.kind ∈ blockK) → ∀ H', Kp Ps H H' → E (.ref cR) none H')
theorem ok_no_blocks {Ps : List Addr} {aB cR f fC : Addr} {fd fdC : FuncData} (F : FnP K "check_no_blocks" sCheckNoBlocks f fd)
    (GC : FnOk P w K mg base (L2.CX P w) 7 fC fdC ["rows"] (spCheckRows K Ps)) (kC : PySem.W.keepIn K (.ref fC) = true) (bC : Binds K fdC ["rows"] []) (gC : mg "check_rows" = some (.ref fC))
    (X : ExcC K mg "NoRow" cR) (mE : mg "enumerate" = none) (mB : mg "BLOCK_KINDS" = some (.ref aB)) (kB : KTup K aB blockK) : FnOk P w K mg base (L2.CX P w) 8 f fd ["rows"] (spNoBlocks K Ps cR) := by
  refine F.ok scNoBlocks (fun vs H Q E h => ?_) (fun cdv A outer s H vs Q E hr h => ?_)
  · obtain ⟨p, xs, rs, rfl, _⟩ := h
    rfl
  · obtain ⟨p, xs, rs, rfl, hp, hR, hok, hl, ht, q, e⟩ := h
    refine ⟨_, pss_cons (ps_expr (pe_call GC hr (by rfl) gC kC bC .nil passL (pa_cons (pv 0) pa_nil)))
      (pss_one (ps_for (passes_of rfl) rfl (pi_enum (by rfl) mE (pa_cons (pv 0) pa_nil)) (pg_tup rfl (pgs_cons (pg_name (i := 1) scNoBlocks.nd rfl (.inl rfl)) (pgs_cons (pg_name (i := 2) scNoBlocks.nd rfl (.inl rfl)) pgs_nil)))
        (pss_one (ps_if (pt_cmpR op_in_seq (pe_ix ix_tup (pv 2) pe_int (fun _ _ => rfl)) (pe_glob (v := .ref aB) (by rfl) mB rfl) (by rfl))
          (pss_one (ps_raise rfl (takes_of rfl rfl rfl rfl) (SkE.pmk_own1 PySem.F.excBase_ValueError X.ex X.g X.kp (raises_own X.be X.ty) (by rfl) (pe_joined (.cons pe_str (.cons (pe_fmt (pv 1)) (.cons pe_str .nil))))))) pss_nil)))), ?_⟩
    refine ⟨_, rfl, p, xs, rs, rfl, hp, hR, fun r hr => (hok r hr).1, ht, fun H1 k1 => ?_⟩
    have hp1 := k1.seq ht hp
    have hlen := hR.1
    refine ⟨_, rfl, p, _, rfl, hp1, for_enum (xs := xs) (fun i σ' H' => Kp Ps H H' ∧ (∀ r ∈ rs.take i, ¬ r.kind ∈ blockK) ∧ ∃ y1 y2, σ' = [some (.ref p), y1, y2]) ⟨k1, (fun r hr => by rw [List.take_zero] at hr; cases hr), none, none, rfl⟩ (fun i σ' H' _ hp' => hp'.1.seq ht hp) (fun i x T σ' H' hx nT hp' => ?_) (fun σ' H' hp' => ?_)⟩
    · obtain ⟨k, hall, y1, y2, rfl⟩ := hp'
      have hi : i < xs.length := (List.getElem?_eq_some_iff.mp hx).1
      obtain ⟨r, hr1, hr2⟩ := hR.2 i x hx
      have k2 : Kp Ps H (upd H' T (.tup [.int (i : Nat), x])) := k.trans (Kp.new k.1 nT)
      obtain ⟨T2, W2, rfl, hT2, hW2⟩ := hr2.kp ht k2
      refine ⟨T, _, rfl, .inl (.inl upd_same), rfl, _, _, rfl, _, _, rfl, rfl, ?_⟩
      refine ⟨_, rfl, T2, _, _, _, rfl, rfl, hT2, at_of (j := 0) rfl rfl, aB, blockK.map V.str, rfl, .inr (kB _), rfl, flat_strs _, _, rfl, ?_⟩
      show if inV (.str r.kind) (blockK.map V.str) = true then _ else _
      rw [inV_strs]
      by_cases hb : r.kind ∈ blockK
      · rw [decide_eq_true hb]
        have hlog : ((i : Nat) : Int).natAbs.log2 < 1920 := log_small (by omega)
        have hnl := int_text_len_1921 hlog
        refine iteT ⟨_, rfl, small_line (by decide +kernel), _, rfl, .inr ⟨_, rfl, hlog, _, rfl, small_line ?_, _, rfl, small_line ?_, e ⟨r, List.mem_of_getElem? hr1, hb⟩ _ k2⟩⟩
        · rw [Str.length_append, show (Str.empty ++ ("row " : Str)).length = 4 by decide +kernel]
          omega
        · rw [Str.length_append, Str.length_append, show (Str.empty ++ ("row " : Str)).length = 4 by decide +kernel, show (" is part of a block already" : Str).length = 27 by decide +kernel]
          omega
      · rw [decide_eq_false hb]
        refine iteF ⟨k2, fun r' hr' => ?_, _, _, rfl⟩
        rw [take_snoc hr1] at hr'
        rcases List.mem_append.mp hr' with h | h
        · exact hall r' h
        · rw [List.mem_singleton.mp h]
          exact hb
    · obtain ⟨k, hall, y1, y2, rfl⟩ := hp'
      rw [List.take_of_length_le (by rw [hlen]; exact Nat.le_refl _)] at hall
      exact q hall H' k
end
/-! ### the places of runs -/
def plOf (k : Str) (L i : Nat) (r : RowD) : List (Nat × Nat) := if r.kind = k then (List.range (r.ws.length + 1 - L)).map fun b => (i, b) else []
def plD (k : Str) (L : Nat) (rs : List RowD) (n : Nat) : List (Nat × Nat) := (List.range n).flatMap fun i => match rs[i]? with
  | some r => plOf k L i r
  | none => []
def PairsAt (K : PySem.W.Frag) (H : Hp) (ys : List V) (ps : List (Nat × Nat)) : Prop := ys.length = ps.length ∧ ∀ (i : Nat) (v : V), ys[i]? = some v → ∃ p T, ps[i]? = some p ∧ v = .ref T ∧ SqT K H T [.int (p.1 : Int), .int (p.2 : Int)]
theorem PairsAt.same {K : PySem.W.Frag} {H H' : Hp} {ys : List V} {ps : List (Nat × Nat)} (s : Same H H') (h : PairsAt K H ys ps) : PairsAt K H' ys ps :=
  ⟨h.1, fun i v e => let ⟨p, T, h1, h2, h3⟩ := h.2 i v e; ⟨p, T, h1, h2, sameT s h3⟩⟩
theorem PairsAt.app {K : PySem.W.Frag} {H : Hp} {ys zs : List V} {ps qs : List (Nat × Nat)} (h : PairsAt K H ys ps) (g : PairsAt K H zs qs) : PairsAt K H (ys ++ zs) (ps ++ qs) := by
  refine ⟨by rw [List.length_append, List.length_append, h.1, g.1], fun i v e => ?_⟩
  rcases Nat.lt_or_ge i ys.length with c | c
  · rw [List.getElem?_append_left c] at e
    obtain ⟨p, T, h1, h2⟩ := h.2 i v e
    exact ⟨p, T, by rw [List.getElem?_append_left (by rw [← h.1]; exact c)]; exact h1, h2⟩
  · rw [List.getElem?_append_right c] at e
    obtain ⟨p, T, h1, h2⟩ := g.2 _ v e
    exact ⟨p, T, by rw [List.getElem?_append_right (by rw [← h.1]; exact c), ← h.1]; exact h1, h2⟩
theorem PairsAt.one {K : PySem.W.Frag} {H : Hp} {T : Addr} {a b : Nat} (h : SqT K H T [.int (a : Int), .int (b : Int)]) : PairsAt K H [.ref T] [(a, b)] :=
  ⟨rfl, fun i v e => by
    cases i with
    | zero => cases e; exact ⟨_, T, rfl, rfl, h⟩
    | succ i => cases e⟩
theorem PairsAt.set {K : PySem.W.Frag} {H : Hp} {D : Addr} {o : HO} {ys : List V} {ps : List (Nat × Nat)} (hD : ∀ xs, ¬ Rd H D (.tup xs)) (h : PairsAt K H ys ps) : PairsAt K (upd H D o) ys ps :=
  ⟨h.1, fun i v e => by
    obtain ⟨p, T, h1, h2, h3⟩ := h.2 i v e
    refine ⟨p, T, h1, h2, ?_⟩
    rcases h3 with h3 | h3
    · have ne : T ≠ D := fun z => hD _ (z ▸ h3)
      refine .inl ?_
      rcases h3 with h3 | ⟨o2, h3⟩
      · exact .inl (by rw [upd_ne ne]; exact h3)
      · exact .inr ⟨o2, by rw [upd_ne ne]; exact h3⟩
    · exact .inr h3⟩
theorem plOf_len {k : Str} {L i : Nat} {r : RowD} : (plOf k L i r).length ≤ r.ws.length + 1 := by
  unfold plOf
  split
  · rw [List.length_map, List.length_range]
    omega
  · exact Nat.zero_le _
theorem plD_succ {k : Str} {L : Nat} {rs : List RowD} {n : Nat} {r : RowD} (h : rs[n]? = some r) : plD k L rs (n + 1) = plD k L rs n ++ plOf k L n r := by
  unfold plD
  rw [List.range_succ, List.flatMap_append]
  simp [h]
section
variable {P : Program} {w : World} {K : PySem.W.Frag} {mg : Str → Option Value} {base : Heap}
abbrev placesN : List Str := ["rows", "kind", "length", "places", "at", "row_kind", "_", "words", "begin"]
theorem scPlaces : FnScope placesN ["rows", "kind", "length"] (defScope sPlacesIn) := ⟨rfl, rfl, rfl, by decide +kernel, rfl, by decide +kernel, by decide +kernel⟩
def spPlaces (K : PySem.W.Frag) : Sp := fun vs H Q _ => ∃ (p : Addr) (xs : List V) (rs : List RowD) (k : Str) (L : Nat), vs = [.ref p, .str k, .int (L : Int)] ∧ SqL K H p xs ∧ RowsAt K H xs rs ∧ (∀ r ∈ rs, r.ws.length ≤ 1000) ∧ rs.length ≤ 1000 ∧ 1 ≤ L ∧ L ≤ 5000 ∧
  ∀ (H' : Hp) (D : Addr) (ys : List V), Same H H' → H D = none → H' D = some (.lst ys) → PairsAt K H' ys (plD k L rs rs.length) → Q (.ref D) H'
theorem ok_places {f : Addr} {fd : FuncData} (F : FnP K "places_in" sPlacesIn f fd) (mE : mg "enumerate" = none) (mR : mg "range" = none) (mL : mg "len" = none) : FnOk P w K mg base (L2.CX P w) 1 f fd ["rows", "kind", "length"] (spPlaces K) := by
  refine F.ok scPlaces (fun vs H Q E h => ?_) (fun cdv A outer s H vs Q E hr h => ?_)
  · obtain ⟨p, xs, rs, k, L, rfl, _⟩ := h
    rfl
  · obtain ⟨p, xs, rs, k, L, rfl, hp, hR, hw, hl, hL, hL2, q⟩ := h
    refine ⟨_, pss_cons (ps_set (i := 3) scPlaces.nd rfl (.inl rfl) (pe_lst pa_nil))
      (pss_cons (ps_for (passes_of rfl) rfl (pi_enum (by rfl) mE (pa_cons (pv 0) pa_nil)) (pg_tup rfl (pgs_cons (pg_name (i := 4) scPlaces.nd rfl (.inr rfl)) (pgs_cons (pg_tup rfl (pgs_cons (pg_name (i := 5) scPlaces.nd rfl (.inl rfl)) (pgs_cons (pg_name (i := 6) scPlaces.nd rfl (.inl rfl)) (pgs_cons (pg_name (i := 7) scPlaces.nd rfl (.inl rfl)) pgs_nil)))) pgs_nil)))
        (pss_one (ps_if (pt_cmpR op_eq (pv 5) (pv 1) (nomark _))
          (pss_one (ps_expr (pe_bm PySem.F.plainAttrs_list PySem.F.slot_list_extend PySem.F.type_list_extend mt_extend (pv 3) (pa_cons (pe_lc (own := [("begin", 8)]) (g := gName 8) (tt := tYes) rfl scPlaces.nd (pi_range1 (by rfl) mR (pa_cons (pe_op op_add (pe_op op_sub (pe_callB call_len_seq (by rfl) mL PySem.boot_len (pa_cons (pv 7) pa_nil)) (pv 2)) pe_int) pa_nil)) (blkOk_by (N := placesN) (sc := defScope sPlacesIn) (by decide +kernel))
            (fun _ _ _ _ _ => pg_name (i := 8) scPlaces.nd rfl (Or.inl rfl)) (fun _ _ _ _ _ => pts_nil) (fun _ _ _ _ _ => pe_tup (pa_cons (pv 4) (pa_cons (pv 8) pa_nil)))) pa_nil)))) pss_nil)))
      (pss_one (ps_ret (pv 3)))), ?_⟩
    refine ⟨by show 0 ≤ sizeLine; decide, fun D nD => ?_⟩
    have s0 : Same H (upd H D (.lst [])) := same_upd nD
    refine ⟨_, rfl, p, _, rfl, s0.seq hp, for_enum (xs := xs) (fun i σ' H' => Same H H' ∧ ∃ ys y4 y5 y6 y7, σ' = [some (.ref p), some (.str k), some (.int (L : Int)), some (.ref D), y4, y5, y6, y7, none] ∧ H' D = some (.lst ys) ∧ ys.length ≤ 1001 * i ∧ PairsAt K H' ys (plD k L rs i)) ⟨s0, [], none, none, none, none, rfl, upd_same, Nat.zero_le _, rfl, fun i v e => by cases e⟩ (fun i σ' H' _ hp' => hp'.1.seq hp) (fun i x T σ' H' hx nT hp' => ?_) (fun σ' H' hp' => ?_)⟩
    · obtain ⟨sm, ys, y4, y5, y6, y7, rfl, hD, hy, hP⟩ := hp'
      obtain ⟨r, hr1, hr2⟩ := hR.2 i x hx
      have hi : i < xs.length := (List.getElem?_eq_some_iff.mp hx).1
      have hwr := hw r (List.mem_of_getElem? hr1)
      have sT : Same H' (upd H' T (.tup [.int (i : Nat), x])) := same_upd nT
      obtain ⟨T2, W2, rfl, hT2, hW2⟩ := hr2.same (sm.trans sT)
      refine ⟨T, _, rfl, .inl (.inl upd_same), rfl, _, _, rfl, _, _, rfl, ?_⟩
      have hDT := sT _ _ hD
      have hPT := hP.same sT
      have smT := sm.trans sT
      have e1 := plD_succ (k := k) (L := L) hr1
      generalize upd H' T (.tup [.int (i : Nat), .ref T2]) = HT at sT hT2 hW2 hDT hPT smT ⊢
      refine ⟨T2, _, rfl, hT2, rfl, _, _, rfl, _, _, rfl, _, _, rfl, rfl, rfl, ?_⟩
      refine ⟨_, rfl, _, rfl, rfl, _, rfl, ite2 (fun e => ?_) (fun e => ?_)⟩
      · have ek : r.kind = k := V.str.inj (of_decide_eq_true e)
        have eo : plOf k L i r = (List.range (r.ws.length + 1 - L)).map fun b => (i, b) := if_pos ek
        refine ⟨_, rfl, .inl ⟨rfl, _, .inl (.inl hDT)⟩, _, rfl, W2, _, rfl, .inr hW2, _, rfl, _, _, rfl, rfl, _, _, rfl, rfl, _, rfl, ?_, ?_, fun B nB => ?_⟩
        · rw [List.length_map]
          omega
        · rw [List.length_map]
          omega
        have en : ((((r.ws.map V.str).length : Nat) : Int) - (L : Int) + 1).toNat = r.ws.length + 1 - L := by
          rw [List.length_map]
          omega
        refine lc_range (lo := 0) (n := ((((r.ws.map V.str).length : Nat) : Int) - (L : Int) + 1).toNat) (fun t H3 => Same HT H3 ∧ ∃ zs, H3 B = some (.lst zs) ∧ PairsAt K H3 zs ((List.range t).map fun b => (i, b))) ⟨same_upd nB, [], upd_same, rfl, fun i v e => by cases e⟩ (fun t H3 ht hp3 => ?_) (fun H3 hp3 => ?_)
        · obtain ⟨s3, zs, hB, hZ⟩ := hp3
          rw [en] at ht
          refine ⟨rfl, yesT ⟨_, rfl, _, rfl, by show 2 ≤ sizeLine; decide, fun T3 nT3 => ?_⟩⟩
          have s4 : Same H3 (upd H3 T3 (.tup [.int (i : Int), .int (0 + (t : Int))])) := same_upd nT3
          have h3 : SqT K (upd H3 T3 (.tup [.int (i : Int), .int (0 + (t : Int))])) T3 [.int (i : Int), .int (t : Int)] := by
            refine .inl (.inl ?_)
            rw [upd_same, show (0 + (t : Int)) = (t : Int) by omega]
          have hB4 := s4 _ _ hB
          have hzl := hZ.1
          rw [List.length_map, List.length_range] at hzl
          generalize upd H3 T3 (.tup [.int (i : Int), .int (0 + (t : Int))]) = H4 at s4 h3 hB4 ⊢
          have hZ4 := (hZ.same s4).app (PairsAt.one h3)
          refine ⟨_, hB4, ?_, same_set (s3.trans s4) nB, zs ++ [.ref T3], upd_same, ?_⟩
          · exact Nat.lt_of_le_of_lt (show zs.length ≤ 1000 by omega) (by decide)
          · rw [List.range_succ, List.map_append]
            exact PairsAt.set (noTup hB4) hZ4
        · obtain ⟨s3, zs, hB, hZ⟩ := hp3
          rw [en, ← eo] at hZ
          have hzl := hZ.1
          have hol := plOf_len (k := k) (L := L) (i := i) (r := r)
          have hD3 := s3 _ _ hDT
          refine ⟨D, B, ys, zs, rfl, rfl, hD3, hB, ?_, same_set (smT.trans s3) nD, ys ++ zs, some (.int (i : Int)), some (.str r.kind), some (.int r.num), some (.ref W2), rfl, upd_same, ?_, ?_⟩
          · have hRl := hR.1
            exact Nat.le_trans (show ys.length + zs.length ≤ 2000000 by omega) (by decide)
          · rw [List.length_append]
            omega
          · rw [e1]
            exact PairsAt.set (noTup hD3) ((hPT.same s3).app hZ)
      · have ek : ¬ r.kind = k := fun z => e (decide_eq_true (congrArg V.str z))
        have eo : plOf k L i r = [] := if_neg ek
        rw [eo, List.append_nil] at e1
        refine ⟨smT, ys, some (.int (i : Int)), some (.str r.kind), some (.int r.num), some (.ref W2), rfl, hDT, by omega, ?_⟩
        rw [e1]
        exact hPT
    · obtain ⟨sm, ys, y4, y5, y6, y7, rfl, hD, hy, hP⟩ := hp'
      rw [hR.1] at hP
      exact ⟨_, rfl, q H' D ys sm nD hD hP⟩
end
/-! ### the run at a place -/
theorem cut_runs (xs : List V) (a b : Nat) (h : a + b ≤ xs.length) : cutV xs (some (a : Int)) (some ((a + b : Nat) : Int)) = (xs.drop a).take b := by
  unfold cutV
  rw [HT.sIx_nat, HT.sIx_nat, Nat.min_eq_left h, Nat.min_eq_left (show a ≤ xs.length by omega), Nat.add_sub_cancel_left]
section
variable {P : Program} {w : World} {K : PySem.W.Frag} {mg : Str → Option Value} {base : Heap}
theorem scRunAt : FnScope ["rows", "place", "length", "at", "begin", "words"] ["rows", "place", "length"] (defScope sRunAt) := ⟨rfl, rfl, rfl, by decide +kernel, rfl, by decide +kernel, by decide +kernel⟩
def spRunAt (K : PySem.W.Frag) : Sp := fun vs H Q _ => ∃ (p T : Addr) (xs : List V) (rs : List RowD) (a b L : Nat) (r : RowD), vs = [.ref p, .ref T, .int (L : Int)] ∧ SqL K H p xs ∧ RowsT K H xs rs ∧ SqT K H T [.int (a : Int), .int (b : Int)] ∧ rs[a]? = some r ∧ b + L ≤ r.ws.length ∧
  ∀ (H' : Hp) (W : Addr), Same H H' → H' W = some (.tup (((r.ws.drop b).take L).map V.str)) → Q (.ref W) H'
theorem ok_run_at {f : Addr} {fd : FuncData} (F : FnP K "run_at" sRunAt f fd) : FnOk P w K mg base (L2.CX P w) 1 f fd ["rows", "place", "length"] (spRunAt K) := by
  refine F.ok scRunAt (fun vs H Q E h => ?_) (fun cdv A outer s H vs Q E hr h => ?_)
  · obtain ⟨p, T, xs, rs, a, b, L, r, rfl, _⟩ := h
    rfl
  · obtain ⟨p, T, xs, rs, a, b, L, r, rfl, hp, hR, hT, ha, hb, q⟩ := h
    refine ⟨_, pss_cons (ps_asg (pv 1) (pg_tup (by rfl) (pgs_cons (pg_name (i := 3) scRunAt.nd rfl (.inl rfl)) (pgs_cons (pg_name (i := 4) scRunAt.nd rfl (.inl rfl)) pgs_nil))))
      (pss_cons (ps_set (i := 5) scRunAt.nd rfl (.inl rfl) (pe_ix ix_tup (pe_ix ix_list (pv 0) (pv 3) (fun _ _ => rfl)) pe_int (fun _ _ => rfl)))
      (pss_one (ps_ret (pe_slice sl_tupA (pv 5) (po_some (pv 4)) (po_some (pe_op op_add (pv 4) (pv 2))))))), ?_⟩
    have hax : a < xs.length := by
      rw [hR.1]
      exact (List.getElem?_eq_some_iff.mp ha).1
    have hx := List.getElem?_eq_getElem hax
    obtain ⟨r', h1, T2, W2, e2, hT2, hW2⟩ := hR.2 a _ hx
    have er : r' = r := Option.some.inj (h1.symm.trans ha)
    subst er
    rw [e2] at hx
    refine ⟨_, rfl, T, _, rfl, hT, rfl, _, _, rfl, _, _, rfl, rfl, ?_⟩
    refine ⟨_, rfl, _, rfl, p, _, _, _, rfl, rfl, hp, atI_nat hx, T2, _, _, _, rfl, rfl, hT2, at_of (j := 2) rfl rfl, ?_⟩
    refine ⟨_, rfl, _, rfl, _, rfl, _, rfl, _, rfl, _, _, rfl, rfl, _, rfl, W2, _, rfl, .inl (.inl hW2), fun hw => ?_, fun hw V0 nV => ?_⟩
    · rw [show ((b : Int) + (L : Int)) = ((b + L : Nat) : Int) by omega, HT.sIx_nat, HT.sIx_nat, List.length_map] at hw
      have e0 : b = 0 ∨ r'.ws.length = 0 := by omega
      have e3 : (r'.ws.drop b).take L = r'.ws := by
        rcases e0 with e0 | e0
        · subst e0
          rw [List.drop_zero, List.take_of_length_le (by omega)]
        · have e4 := List.length_eq_zero_iff.mp e0
          rw [e4]
          simp
      exact q _ W2 (Same.refl _) (by rw [e3]; exact hW2)
    · refine q _ V0 (same_upd nV) ?_
      rw [upd_same, show ((b : Int) + (L : Int)) = ((b + L : Nat) : Int) by omega, cut_runs _ _ _ (by rw [List.length_map]; exact hb), List.map_take, List.map_drop]
end
/-! ### the places that are used -/
abbrev plK (a b : Nat) : List L2.Key := [.inl (a : Int), .inl (b : Int)]
abbrev UsedD := List (List L2.Key × V)
def usedB (kvs : UsedD) (a b : Nat) : Bool := (valV kvs (plK a b)).isSome
section
variable {P : Program} {w : World} {K : PySem.W.Frag} {mg : Str → Option Value} {base : Heap}
theorem scIsFree : FnScope ["used", "place", "length", "at", "begin"] ["used", "place", "length"] (defScope sIsFree) := ⟨rfl, rfl, rfl, by decide +kernel, rfl, by decide +kernel, by decide +kernel⟩
def spIsFree (K : PySem.W.Frag) : Sp := fun vs H Q _ => ∃ (d T : Addr) (kvs : UsedD) (a b L : Nat), vs = [.ref d, .ref T, .int (L : Int)] ∧ H d = some (.dT kvs) ∧ SqT K H T [.int (a : Int), .int (b : Int)] ∧ 1 ≤ L ∧ ∀ H', Same H H' → Q (.bl (!usedB kvs a b && !usedB kvs a (b + L - 1))) H'
theorem ok_is_free {f : Addr} {fd : FuncData} (F : FnP K "is_free" sIsFree f fd) : FnOk P w K mg base (L2.CX P w) 1 f fd ["used", "place", "length"] (spIsFree K) := by
  refine F.ok scIsFree (fun vs H Q E h => ?_) (fun cdv A outer s H vs Q E hr h => ?_)
  · obtain ⟨d, T, kvs, a, b, L, rfl, _⟩ := h
    rfl
  · obtain ⟨d, T, kvs, a, b, L, rfl, hd, hT, hL, q⟩ := h
    refine ⟨_, pss_cons (ps_asg (pv 1) (pg_tup (by rfl) (pgs_cons (pg_name (i := 3) scIsFree.nd rfl (.inl rfl)) (pgs_cons (pg_name (i := 4) scIsFree.nd rfl (.inl rfl)) pgs_nil))))
      (pss_one (ps_ret (pe_and (pe_cmp (pc_dnotin (hu_of hr) (pe_tup (pa_cons (pv 3) (pa_cons (pv 4) pa_nil))) (pv 0)) (by rfl))
        (pe_one (pe_cmp (pc_dnotin (hu_of hr) (pe_tup (pa_cons (pv 3) (pa_cons (pe_op op_sub (pe_op op_add (pv 4) (pv 2)) pe_int) pa_nil))) (pv 0)) (by rfl)))))), ?_⟩
    refine ⟨_, rfl, T, _, rfl, hT, rfl, _, _, rfl, _, _, rfl, rfl, ?_⟩
    refine ⟨_, rfl, _, rfl, by show 2 ≤ sizeLine; decide, fun T1 n1 => ?_⟩
    have s1 : Same H (upd H T1 (.tup ((plK a b).map kV))) := same_upd n1
    refine ⟨_, rfl, d, _, rfl, DGet.t (s1 _ _ hd) (k := plK a b) upd_same, _, rfl, ?_⟩
    have e1 : usedB kvs a b = (valV kvs (plK a b)).isSome := rfl
    rw [← e1]
    cases h1 : usedB kvs a b with
    | true =>
      rw [h1] at q
      exact iteF (q _ s1)
    | false =>
      rw [h1] at q
      refine iteT ⟨_, rfl, _, rfl, _, rfl, _, _, rfl, rfl, _, _, rfl, rfl, by show 2 ≤ sizeLine; decide, fun T2 n2 => ?_⟩
      have ek : (b : Int) + (L : Int) - 1 = ((b + L - 1 : Nat) : Int) := by omega
      dsimp only
      rw [ek]
      have s2 := s1.trans (same_upd n2 (o := .tup ((plK a (b + L - 1)).map kV)))
      exact ⟨_, rfl, d, _, rfl, DGet.t (s2 _ _ hd) (k := plK a (b + L - 1)) upd_same, q _ s2⟩
end
def useD (kvs : UsedD) (a b : Nat) : Nat → UsedD
  | 0 => kvs
  | n + 1 => putK (useD kvs a b n) (plK a (b + n)) (.bl true)
theorem useD_len (kvs : UsedD) (a b : Nat) : ∀ n, (useD kvs a b n).length ≤ kvs.length + n
  | 0 => Nat.le_refl _
  | n + 1 => by
    have h1 := useD_len kvs a b n
    have h2 := length_putK (useD kvs a b n) (plK a (b + n)) (.bl true)
    unfold useD
    omega
/-- the same but at d -/
def SameB (d : Addr) (H H' : Hp) : Prop := ∀ c o, c ≠ d → H c = some o → H' c = some o
section
variable {P : Program} {w : World} {K : PySem.W.Frag} {mg : Str → Option Value} {base : Heap}
theorem scUse : FnScope ["used", "place", "length", "at", "begin", "k"] ["used", "place", "length"] (defScope sUse) := ⟨rfl, rfl, rfl, by decide +kernel, rfl, by decide +kernel, by decide +kernel⟩
def spUse (K : PySem.W.Frag) : Sp := fun vs H Q _ => ∃ (d T : Addr) (kvs : UsedD) (a b L : Nat), vs = [.ref d, .ref T, .int (L : Int)] ∧ H d = some (.dT kvs) ∧ SqT K H T [.int (a : Int), .int (b : Int)] ∧ kvs.length + L ≤ 10000000 ∧ b + L ≤ 10000000 ∧ ∀ H', SameB d H H' → H' d = some (.dT (useD kvs a b L)) → Q .non H'
theorem ok_use {f : Addr} {fd : FuncData} (F : FnP K "use" sUse f fd) (mR : mg "range" = none) : FnOk P w K mg base (L2.CX P w) 1 f fd ["used", "place", "length"] (spUse K) := by
  refine F.ok scUse (fun vs H Q E h => ?_) (fun cdv A outer s H vs Q E hr h => ?_)
  · obtain ⟨d, T, kvs, a, b, L, rfl, _⟩ := h
    rfl
  · obtain ⟨d, T, kvs, a, b, L, rfl, hd, hT, hl, hb, q⟩ := h
    refine ⟨_, pss_cons (ps_asg (pv 1) (pg_tup (by rfl) (pgs_cons (pg_name (i := 3) scUse.nd rfl (.inl rfl)) (pgs_cons (pg_name (i := 4) scUse.nd rfl (.inl rfl)) pgs_nil))))
      (pss_one (ps_for (passes_of rfl) rfl (pi_range2 (by rfl) mR (pa_cons (pv 4) (pa_cons (pe_op op_add (pv 4) (pv 2)) pa_nil))) (pg_name (i := 5) scUse.nd rfl (.inl rfl))
        (pss_one (ps_dput (hu_of hr) (pv 0) (pe_tup (pa_cons (pv 3) (pa_cons (pv 5) pa_nil))) pe_bl (by rfl))))), ?_⟩
    refine ⟨_, rfl, T, _, rfl, hT, rfl, _, _, rfl, _, _, rfl, rfl, ?_⟩
    refine ⟨_, rfl, _, rfl, _, rfl, _, _, rfl, rfl, _, _, rfl, ⟨by omega, by omega, by omega, by omega⟩, for_range (lo := (b : Int)) (n := ((b : Int) + (L : Int) - (b : Int)).toNat) (fun i σ' H' => SameB d H H' ∧ H' d = some (.dT (useD kvs a b i)) ∧ ∃ y, σ' = [some (.ref d), some (.ref T), some (.int (L : Int)), some (.int (a : Int)), some (.int (b : Int)), y]) ⟨fun c o _ e => e, hd, none, rfl⟩ (fun i σ' H' hi hp => ?_) (fun σ' H' hp => ?_)⟩
    · obtain ⟨sm, hd', y, rfl⟩ := hp
      refine ⟨_, rfl, _, rfl, _, rfl, by show 2 ≤ sizeLine; decide, fun T1 n1 => ?_⟩
      have s1 : Same H' (upd H' T1 (.tup [.int (a : Int), .int ((b : Int) + (i : Int))])) := same_upd n1
      have hT1 : (upd H' T1 (.tup [.int (a : Int), .int ((b : Int) + (i : Int))])) T1 = some (.tup ((plK a (b + i)).map kV)) := by
        rw [upd_same]
        rfl
      have hl2 := useD_len kvs a b i
      generalize upd H' T1 (.tup [.int (a : Int), .int ((b : Int) + (i : Int))]) = H1 at s1 hT1 ⊢
      refine ⟨d, _, rfl, DPut.t (s1 _ _ hd') hT1 (Nat.lt_of_le_of_lt (show (useD kvs a b i).length ≤ 10000000 by omega) (by decide)), fun c o hc e => ?_, upd_same, _, rfl⟩
      rw [upd_ne hc]
      exact s1 _ _ (sm c o hc e)
    · obtain ⟨sm, hd', y, rfl⟩ := hp
      rw [show ((b : Int) + (L : Int) - (b : Int)).toNat = L by omega] at hd'
      exact q H' sm hd'
end
/-! ### is there a run of a length both cut and put -/
def runD (rs : List RowD) (L : Nat) (p : Nat × Nat) : List Str := match rs[p.1]? with
  | some r => (r.ws.drop p.2).take L
  | none => []
theorem runD_at {rs : List RowD} {L a b : Nat} {r : RowD} (h : rs[a]? = some r) : runD rs L (a, b) = (r.ws.drop b).take L := by
  unfold runD
  dsimp only
  rw [h]
def hasD (rs : List RowD) (L : Nat) : Bool := (plD "cut" L rs rs.length).any fun c => (plD "put" L rs rs.length).any fun p => decide (runD rs L p = runD rs L c)
/-- a text as a key of a dict or set of tuples -/
def txK (l : List Str) : Sx.Ky := l.map Sum.inr
theorem txK_V (l : List Str) : (txK l).map kV = l.map V.str := by
  unfold txK
  rw [List.map_map]
  rfl
theorem txK_inj {l m : List Str} (h : txK l = txK m) : l = m := by
  unfold txK at h
  exact List.map_inj_right (fun a b e => Sum.inr.inj e) |>.1 h
theorem mem_plD {k : Str} {L : Nat} {rs : List RowD} {a b : Nat} : (a, b) ∈ plD k L rs rs.length ↔ ∃ r, rs[a]? = some r ∧ r.kind = k ∧ b + L ≤ r.ws.length := by
  unfold plD plOf
  simp only [List.mem_flatMap, List.mem_range]
  constructor
  · rintro ⟨i, hi, h⟩
    rw [List.getElem?_eq_getElem hi] at h
    dsimp only at h
    split at h
    · obtain ⟨b', hb, e⟩ := List.mem_map.mp h
      cases e
      have := List.mem_range.mp hb
      exact ⟨_, List.getElem?_eq_getElem hi, by assumption, by omega⟩
    · cases h
  · rintro ⟨r, hr, hk, hb⟩
    refine ⟨a, (List.getElem?_eq_some_iff.mp hr).1, ?_⟩
    rw [hr]
    dsimp only
    rw [if_pos hk]
    exact List.mem_map.mpr ⟨b, List.mem_range.mpr (by omega), rfl⟩
theorem noTupX {P : Program} {w : World} {H : Hp} {D : Addr} {M : Sx.Mem} (h : H D = some (Sx.SetO P w D M)) : ∀ ys, ¬ Rd H D (.tup ys) := by
  unfold Sx.SetO at h
  rintro ys (z | ⟨o, z⟩)
  · rw [h] at z
    cases z
  · rw [h] at z
    cases z
theorem put_len {M M' : Sx.Mem} {T : Addr} {k : Sx.Ky} (h : Sx.Put M T k M') : M'.length ≤ M.length + 1 := by
  rcases h with ⟨_, e⟩ | ⟨_, e⟩
  · rw [e]
    exact Nat.le_succ _
  · rw [e.length_eq]
    exact Nat.le_refl _
theorem put_mem {M M' : Sx.Mem} {T : Addr} {k j : Sx.Ky} (h : Sx.Put M T k M') : j ∈ Sx.ksOf M' ↔ j = k ∨ j ∈ Sx.ksOf M := by
  rcases h with ⟨m, e⟩ | ⟨_, e⟩
  · rw [e]
    exact ⟨.inr, fun z => z.elim (fun z => z ▸ m) id⟩
  · have q := (e.map fun p => p.2).mem_iff (a := j)
    exact q.trans (by simp)
theorem put_all {K : PySem.W.Frag} {H : Hp} {M M' : Sx.Mem} {T : Addr} {k : Sx.Ky} (h : Sx.Put M T k M') (hM : Sx.MemT K H M) (hT : SqT K H T (k.map kV)) : Sx.MemT K H M' := by
  rcases h with ⟨m, e⟩ | ⟨_, e⟩
  · rw [e]
    exact hM
  · intro p hp
    rcases List.mem_cons.mp (e.mem_iff.mp hp) with z | z
    · rw [z]
      exact hT
    · exact hM p z
theorem PairsAt.get {K : PySem.W.Frag} {H : Hp} {ys : List V} {ps : List (Nat × Nat)} (h : PairsAt K H ys ps) {i : Nat} {v : V} (e : ys[i]? = some v) : ∃ a b T, ps[i]? = some (a, b) ∧ v = .ref T ∧ SqT K H T [.int (a : Int), .int (b : Int)] := by
  obtain ⟨⟨a, b⟩, T, h1, h2, h3⟩ := h.2 i v e
  exact ⟨a, b, T, h1, h2, h3⟩
section
variable {P : Program} {w : World} {K : PySem.W.Frag} {mg : Str → Option Value} {base : Heap}
theorem scHasRun : FnScope ["rows", "length", "place", "put_runs"] ["rows", "length"] (defScope sHasRun) := ⟨rfl, rfl, rfl, by decide +kernel, rfl, by decide +kernel, by decide +kernel⟩
/-- rows that are small -/
def Small (rs : List RowD) : Prop := (∀ r ∈ rs, r.ws.length ≤ 1000) ∧ rs.length ≤ 1000
def spHasRun (K : PySem.W.Frag) : Sp := fun vs H Q _ => ∃ (p : Addr) (xs : List V) (rs : List RowD) (L : Nat), vs = [.ref p, .int (L : Int)] ∧ SqL K H p xs ∧ RowsT K H xs rs ∧ Small rs ∧ (plD "put" L rs rs.length).length ≤ 299 ∧ 1 ≤ L ∧ L ≤ 5000 ∧
  ∀ H', Same H H' → Q (.bl (hasD rs L)) H'
theorem ok_has_run {f fP fR : Addr} {fd fdP fdR : FuncData} (F : FnP K "has_run" sHasRun f fd)
    (GP : FnOk P w K mg base (L2.CX P w) 1 fP fdP ["rows", "kind", "length"] (spPlaces K)) (kP : PySem.W.keepIn K (.ref fP) = true) (bP : Binds K fdP ["rows", "kind", "length"] []) (gP : mg "places_in" = some (.ref fP))
    (GR : FnOk P w K mg base (L2.CX P w) 1 fR fdR ["rows", "place", "length"] (spRunAt K)) (kR : PySem.W.keepIn K (.ref fR) = true) (bR : Binds K fdR ["rows", "place", "length"] []) (gR : mg "run_at" = some (.ref fR)) :
    FnOk P w K mg base (L2.CX P w) 2 f fd ["rows", "length"] (spHasRun K) := by
  refine F.ok scHasRun (fun vs H Q E h => ?_) (fun cdv A outer s H vs Q E hr h => ?_)
  · obtain ⟨p, xs, rs, L, rfl, _⟩ := h
    rfl
  · obtain ⟨p, xs, rs, L, rfl, hp, hR, hs, few, hL, hL2, q⟩ := h
    refine ⟨_, pss_cons (Sx.ps_setX (i := 3) (own := [("place", 2)]) (g := gName 2) (tt := tYes) hr.units rfl scHasRun.nd rfl rfl (Sx.sw_set rfl rfl rfl (by decide +kernel))
        (pi_list (pe_call GP hr (by rfl) gP kP bP .nil passL (pa_cons (pv 0) (pa_cons pe_str (pa_cons (pv 1) pa_nil))))) (blkOk_by (N := ["rows", "length", "place", "put_runs"]) (sc := defScope sHasRun) (by decide +kernel))
        (fun _ _ _ _ _ => pg_name (i := 2) scHasRun.nd rfl (Or.inl rfl)) (fun _ _ _ _ _ => pts_nil) (fun _ _ _ _ _ => pe_call GR hr (by rfl) gR kR bR .nil passL (pa_cons (pv 0) (pa_cons (pv 2) (pa_cons (pv 1) pa_nil)))))
      (pss_cons (ps_for (passes_of rfl) rfl (pi_list (pe_call GP hr (by rfl) gP kP bP .nil passL (pa_cons (pv 0) (pa_cons pe_str (pa_cons (pv 1) pa_nil))))) (pg_name (i := 2) scHasRun.nd rfl (.inl rfl))
        (pss_one (ps_if (pt_cmpR (Sx.op_inX hr.units) (pe_call GR hr (by rfl) gR kR bR .nil passL (pa_cons (pv 0) (pa_cons (pv 2) (pa_cons (pv 1) pa_nil)))) (pv 3) (by rfl)) (pss_one (ps_ret pe_bl)) pss_nil)))
      (pss_one (ps_ret pe_bl))), ?_⟩
    refine ⟨_, rfl, _, rfl, p, xs, rs, "put", L, rfl, hp, hR.at, hs.1, hs.2, hL, hL2, fun H1 D1 ys s1 n1 hD1 hP1 => ?_⟩
    refine ⟨D1, rfl, ⟨_, .inl (.inl hD1)⟩, fun D nD => ?_⟩
    have yl := hP1.1
    refine Sx.sx_lst (xs := ys) (fun i H' => ∃ M, Same H1 H' ∧ H' D = some (Sx.SetO P w D M) ∧ Sx.MemT K H' M ∧ M.length ≤ i ∧ ∀ k, k ∈ Sx.ksOf M ↔ ∃ pl ∈ (plD "put" L rs rs.length).take i, txK (runD rs L pl) = k) ⟨[], same_upd nD, upd_same, (fun p hp => by cases hp), Nat.le_refl _, fun k => ⟨fun z => (by cases z), fun ⟨pl, z, _⟩ => (by cases z)⟩⟩ (fun i H' hi hp' => ?_) (fun i x H' hx hp' => ?_) (fun H' hp' => ?_)
    · obtain ⟨M, sm, _⟩ := hp'
      exact sm.seq (.inl (.inl hD1))
    · obtain ⟨M, sm, hD, hM, hl, hk⟩ := hp'
      obtain ⟨a, b, T, e1, rfl, hT⟩ := hP1.get hx
      have hi : i < ys.length := (List.getElem?_eq_some_iff.mp hx).1
      obtain ⟨r, hr1, hr2, hr3⟩ := mem_plD.1 (List.mem_of_getElem? e1)
      have sH := s1.trans sm
      refine ⟨rfl, yesT ⟨_, rfl, _, rfl, _, rfl, p, T, xs, rs, a, b, L, r, rfl, sH.seq hp, hR.same sH, sameT sm hT, hr1, hr3, fun H2 W s2 hW => ?_⟩⟩
      have hD2 := s2 _ _ hD
      have hM2 : Sx.MemT K H2 M := fun p hp => sameT s2 (hM p hp)
      have hW2 : SqT K H2 W ((txK ((r.ws.drop b).take L)).map kV) := by
        rw [txK_V]
        exact .inl (.inl hW)
      refine ⟨W, txK ((r.ws.drop b).take L), M, rfl, hW2, hD2, hM2, by omega, fun M' pu => ⟨M', same_set (sm.trans s2) nD, upd_same, fun p hp => sqT_set (noTupX hD2) (put_all pu hM2 hW2 p hp), ?_, fun k => ?_⟩⟩
      · have := put_len pu
        omega
      · rw [put_mem pu, hk, take_snoc e1]
        simp only [List.mem_append, List.mem_singleton]
        constructor
        · rintro (z | ⟨pl, z1, z2⟩)
          · exact ⟨(a, b), .inr rfl, by rw [runD_at hr1, z]⟩
          · exact ⟨pl, .inl z1, z2⟩
        · rintro ⟨pl, z1 | z1, z2⟩
          · exact .inr ⟨pl, z1, z2⟩
          · subst z1
            rw [runD_at hr1] at z2
            exact .inl z2.symm
    · obtain ⟨M, sm, hD, hM, hl, hk⟩ := hp'
      rw [List.take_of_length_le (by rw [yl]; exact Nat.le_refl _)] at hk
      have has : ∀ l, Sx.hasK M (txK l) = (plD "put" L rs rs.length).any fun pl => decide (runD rs L pl = l) := fun l => by
        rw [Bool.eq_iff_iff, Sx.hasK_iff, hk, List.any_eq_true]
        exact ⟨fun ⟨pl, z1, z2⟩ => ⟨pl, z1, decide_eq_true (txK_inj z2)⟩, fun ⟨pl, z1, z2⟩ => ⟨pl, z1, by rw [of_decide_eq_true z2]⟩⟩
      have sH := s1.trans sm
      refine ⟨_, rfl, _, rfl, p, xs, rs, "cut", L, rfl, sH.seq hp, (hR.same sH).at, hs.1, hs.2, hL, hL2, fun H2 D2 zs s2 n2 hD2 hP2 => ?_⟩
      refine ⟨D2, rfl, ⟨_, .inl (.inl hD2)⟩, for_list (xs := zs) (fun i σ' H' => Same H2 H' ∧ (∀ c ∈ (plD "cut" L rs rs.length).take i, ((plD "put" L rs rs.length).any fun pl => decide (runD rs L pl = runD rs L c)) = false) ∧ ∃ y, σ' = [some (.ref p), some (.int (L : Int)), y, some (.ref D)]) ⟨Same.refl _, (fun c hc => by cases hc), none, rfl⟩ (fun i σ' H' _ hp' => hp'.1.seq (.inl (.inl hD2))) (fun i x σ' H' hx hp' => ?_) (fun σ' H' hp' => ?_)⟩
      · obtain ⟨s3, hn, y, rfl⟩ := hp'
        obtain ⟨a, b, T, e1, rfl, hT⟩ := hP2.get hx
        obtain ⟨r, hr1, hr2, hr3⟩ := mem_plD.1 (List.mem_of_getElem? e1)
        have sH3 := (sH.trans s2).trans s3
        refine ⟨_, rfl, _, rfl, _, rfl, p, T, xs, rs, a, b, L, r, rfl, sH3.seq hp, hR.same sH3, sameT s3 hT, hr1, hr3, fun H4 W s4 hW => ?_⟩
        have s24 := s2.trans (s3.trans s4)
        refine ⟨_, rfl, W, D, txK ((r.ws.drop b).take L), M, rfl, rfl, by rw [txK_V]; exact .inl (.inl hW), s24 _ _ hD, fun p hp => sameT s24 (hM p hp), _, rfl, ?_⟩
        rw [has]
        have e2 : (r.ws.drop b).take L = runD rs L (a, b) := (runD_at hr1).symm
        rw [e2]
        have whole : hasD rs L = true → Q (.bl true) H4 := fun e => by
          have := q H4 (sH3.trans s4)
          rwa [e] at this
        cases hb : ((plD "put" L rs rs.length).any fun pl => decide (runD rs L pl = runD rs L (a, b))) with
        | true => exact iteT (whole (List.any_eq_true.mpr ⟨(a, b), List.mem_of_getElem? e1, hb⟩))
        | false =>
          refine iteF ⟨s3.trans s4, fun c hc => ?_, _, rfl⟩
          rw [take_snoc e1] at hc
          rcases List.mem_append.mp hc with z | z
          · exact hn c z
          · rw [List.mem_singleton.mp z]
            exact hb
      · obtain ⟨s3, hn, y, rfl⟩ := hp'
        rw [List.take_of_length_le (by rw [hP2.1]; exact Nat.le_refl _)] at hn
        have e : hasD rs L = false := by
          unfold hasD
          rw [List.any_eq_false]
          intro c hc
          rw [hn c hc]
          exact Bool.false_ne_true
        have := q H' ((sH.trans s2).trans s3)
        rw [e] at this
        exact this
end
/-! ### the longest run -/
theorem hasD_iff {rs : List RowD} {L : Nat} : hasD rs L = true ↔ ∃ (a b a' b' : Nat) (r r' : RowD), rs[a]? = some r ∧ r.kind = "cut" ∧ b + L ≤ r.ws.length ∧ rs[a']? = some r' ∧ r'.kind = "put" ∧ b' + L ≤ r'.ws.length ∧ (r'.ws.drop b').take L = (r.ws.drop b).take L := by
  unfold hasD
  simp only [List.any_eq_true, decide_eq_true_eq]
  constructor
  · rintro ⟨⟨a, b⟩, hc, ⟨a', b'⟩, hp, e⟩
    obtain ⟨r, h1, h2, h3⟩ := mem_plD.1 hc
    obtain ⟨r', g1, g2, g3⟩ := mem_plD.1 hp
    rw [runD_at h1, runD_at g1] at e
    exact ⟨a, b, a', b', r, r', h1, h2, h3, g1, g2, g3, e⟩
  · rintro ⟨a, b, a', b', r, r', h1, h2, h3, g1, g2, g3, e⟩
    refine ⟨(a, b), mem_plD.2 ⟨r, h1, h2, h3⟩, (a', b'), mem_plD.2 ⟨r', g1, g2, g3⟩, ?_⟩
    rw [runD_at h1, runD_at g1]
    exact e
theorem hasD_mono {rs : List RowD} {L M : Nat} (hLM : L ≤ M) (h : hasD rs M = true) : hasD rs L = true := by
  obtain ⟨a, b, a', b', r, r', h1, h2, h3, g1, g2, g3, e⟩ := hasD_iff.1 h
  refine hasD_iff.2 ⟨a, b, a', b', r, r', h1, h2, by omega, g1, g2, by omega, ?_⟩
  have q := congrArg (List.take L) e
  rwa [List.take_take, List.take_take, Nat.min_eq_left hLM] at q
theorem hasD_small {rs : List RowD} {L : Nat} (hs : Small rs) (h : hasD rs L = true) : L ≤ 1000 := by
  obtain ⟨a, b, _, _, r, _, h1, _, h3, _⟩ := hasD_iff.1 h
  have := hs.1 r (List.mem_of_getElem? h1)
  omega
section
variable {P : Program} {w : World} {K : PySem.W.Frag} {mg : Str → Option Value} {base : Heap}
theorem scLongest : FnScope ["rows", "lower", "upper", "middle"] ["rows"] (defScope sLongestRun) := ⟨rfl, rfl, rfl, by decide +kernel, rfl, by decide +kernel, by decide +kernel⟩
def spLongest (K : PySem.W.Frag) : Sp := fun vs H Q _ => ∃ (p : Addr) (xs : List V) (rs : List RowD), vs = [.ref p] ∧ SqL K H p xs ∧ RowsT K H xs rs ∧ Small rs ∧ (∀ L, 1 ≤ L → (plD "put" L rs rs.length).length ≤ 299) ∧
  ∀ (H' : Hp) (n : Nat), Same H H' → 1 ≤ n → (n = 1 ∨ hasD rs n = true) → hasD rs (n + 1) = false → Q (.int (n : Int)) H'
theorem ok_longest {f fH : Addr} {fd fdH : FuncData} (F : FnP K "longest_run" sLongestRun f fd)
    (GH : FnOk P w K mg base (L2.CX P w) 2 fH fdH ["rows", "length"] (spHasRun K)) (kH : PySem.W.keepIn K (.ref fH) = true) (bH : Binds K fdH ["rows", "length"] []) (gH : mg "has_run" = some (.ref fH)) :
    FnOk P w K mg base (L2.CX P w) 3 f fd ["rows"] (spLongest K) := by
  refine F.ok scLongest (fun vs H Q E h => ?_) (fun cdv A outer s H vs Q E hr h => ?_)
  · obtain ⟨p, xs, rs, rfl, _⟩ := h
    rfl
  · obtain ⟨p, xs, rs, rfl, hp, hR, hs, few, q⟩ := h
    refine ⟨_, pss_cons (ps_set (i := 1) scLongest.nd rfl (.inl rfl) pe_int)
      (pss_cons (ps_set (i := 2) scLongest.nd rfl (.inl rfl) pe_int)
      (pss_cons (ps_while (passes_of rfl) (pt_val (pe_call GH hr (by rfl) gH kH bH .nil passL (pa_cons (pv 0) (pa_cons (pv 2) pa_nil))))
        (pss_cons (ps_set (i := 1) scLongest.nd rfl (.inl rfl) (pv 2))
        (pss_one (ps_set (i := 2) scLongest.nd rfl (.inl rfl) (pe_op op_mul pe_int (pv 2))))))
      (pss_cons (ps_while (passes_of rfl) (pt_cmpR op_gt (pe_op op_sub (pv 2) (pv 1)) pe_int (nomark _))
        (pss_cons (ps_set (i := 3) scLongest.nd rfl (.inl rfl) (pe_op op_fdiv (pe_op op_add (pv 1) (pv 2)) pe_int))
        (pss_one (ps_if (pt_val (pe_call GH hr (by rfl) gH kH bH .nil passL (pa_cons (pv 0) (pa_cons (pv 3) pa_nil))))
          (pss_one (ps_set (i := 1) scLongest.nd rfl (.inl rfl) (pv 3))) (pss_one (ps_set (i := 2) scLongest.nd rfl (.inl rfl) (pv 3)))))))
      (pss_one (ps_ret (pv 1)))))), ?_⟩
    refine ⟨fun m σ' H' => ∃ l : Nat, m = 2000 - l ∧ Same H H' ∧ 1 ≤ l ∧ l ≤ 1000 ∧ (l = 1 ∨ hasD rs l = true) ∧ σ' = [some (.ref p), some (.int (l : Int)), some (.int ((2 * l : Nat) : Int)), none], ⟨_, 1, rfl, Same.refl _, Nat.le_refl _, by decide, .inl rfl, rfl⟩, fun m σ' H' hM => ?_⟩
    obtain ⟨l, rfl, sm, l1, l2, hl, rfl⟩ := hM
    refine ⟨_, rfl, _, rfl, p, xs, rs, 2 * l, rfl, sm.seq hp, hR.same sm, hs, few _ (by omega), by omega, by omega, fun H1 s1 => ⟨_, rfl, ?_⟩⟩
    have sm1 := sm.trans s1
    by_cases hu : hasD rs (2 * l) = true
    · rw [hu]
      have lu := hasD_small hs hu
      refine iteT ⟨_, fun _ _ h => h, _, rfl, _, rfl, _, _, rfl, rfl, .inl ⟨by decide, by decide⟩, 2000 - 2 * l, by omega, 2 * l, rfl, sm1, by omega, by omega, .inr hu, ?_⟩
      show _ = [_, _, _, _]
      have e : (2 : Int) * ((2 * l : Nat) : Int) = ((2 * (2 * l) : Nat) : Int) := by omega
      simp only [e]
      rfl
    · have hu : hasD rs (2 * l) = false := by simpa using hu
      rw [hu]
      refine iteF ⟨fun m σ' H' => ∃ l u : Nat, m = u - l ∧ Same H H' ∧ 1 ≤ l ∧ l < u ∧ u ≤ 2000 ∧ (l = 1 ∨ hasD rs l = true) ∧ hasD rs u = false ∧ ∃ y, σ' = [some (.ref p), some (.int (l : Int)), some (.int (u : Int)), y], ⟨_, l, 2 * l, rfl, sm1, l1, by omega, by omega, hl, hu, none, rfl⟩, fun m σ' H' hM => ?_⟩
      obtain ⟨l, u, rfl, s2, a1, a2, a3, a4, a5, y, rfl⟩ := hM
      refine ⟨_, rfl, _, rfl, _, _, rfl, rfl, _, _, rfl, rfl, _, rfl, ite2 (fun e => ?_) (fun e => ?_)⟩
      · have e := of_decide_eq_true e
        have em : ((l : Int) + (u : Int)) / 2 = (((l + u) / 2 : Nat) : Int) := by omega
        refine ⟨_, fun _ _ h => h, _, rfl, _, rfl, _, _, rfl, rfl, _, _, rfl, rfl, ⟨by decide, by decide⟩, ?_⟩
        dsimp only
        rw [em]
        refine ⟨_, rfl, _, rfl, p, xs, rs, (l + u) / 2, rfl, s2.seq hp, hR.same s2, hs, few _ (by omega), by omega, by omega, fun H3 s3 => ⟨_, rfl, ?_⟩⟩
        by_cases hm : hasD rs ((l + u) / 2) = true
        · rw [hm]
          exact iteT ⟨_, rfl, u - (l + u) / 2, by omega, (l + u) / 2, u, rfl, s2.trans s3, by omega, by omega, a3, .inr hm, a5, _, rfl⟩
        · have hm : hasD rs ((l + u) / 2) = false := by simpa using hm
          rw [hm]
          exact iteF ⟨_, rfl, (l + u) / 2 - l, by omega, l, (l + u) / 2, rfl, s2.trans s3, a1, by omega, by omega, a4, hm, _, rfl⟩
      · have e : ¬ ((1 : Int) < (u : Int) - (l : Int)) := fun z => e (decide_eq_true z)
        have eu : u = l + 1 := by omega
        subst eu
        exact ⟨_, rfl, q H' l s2 a1 a4 a5⟩
end
/-! ### the next free place -/
def freeB (kvs : UsedD) (L : Nat) (p : Nat × Nat) : Bool := !usedB kvs p.1 p.2 && !usedB kvs p.1 (p.2 + L - 1)
def nextD (kvs : UsedD) (L : Nat) : List (Nat × Nat) → Option (Nat × Nat) × List (Nat × Nat)
  | [] => (none, [])
  | c :: q => if freeB kvs L c = true then (some c, q) else nextD kvs L q
theorem SameB.refl {d : Addr} {H : Hp} : SameB d H H := fun _ _ _ e => e
theorem SameB.trans {d : Addr} {H H1 H2 : Hp} (a : SameB d H H1) (b : SameB d H1 H2) : SameB d H H2 := fun c o hc e => b c o hc (a c o hc e)
theorem same_b {d : Addr} {H H' : Hp} (s : Same H H') : SameB d H H' := fun c o _ e => s c o e
theorem sameB_upd {d : Addr} {H : Hp} {o : HO} : SameB d H (upd H d o) := fun c o hc e => by
  rw [upd_ne hc]
  exact e
theorem SameB.sqT {K : PySem.W.Frag} {d T : Addr} {H H' : Hp} {xs : List V} (s : SameB d H H') (hd : ∀ ys, ¬ Rd H d (.tup ys)) (h : SqT K H T xs) : SqT K H' T xs := by
  rcases h with h | h
  · have ne : T ≠ d := fun z => hd _ (z ▸ h)
    refine .inl ?_
    rcases h with h | ⟨o2, h⟩
    · exact .inl (s _ _ ne h)
    · exact .inr ⟨o2, s _ _ ne h⟩
  · exact .inr h
theorem SameB.pairs {K : PySem.W.Frag} {d : Addr} {H H' : Hp} {ys : List V} {ps : List (Nat × Nat)} (s : SameB d H H') (hd : ∀ ys, ¬ Rd H d (.tup ys)) (h : PairsAt K H ys ps) : PairsAt K H' ys ps :=
  ⟨h.1, fun i v e => let ⟨p, T, h1, h2, h3⟩ := h.2 i v e; ⟨p, T, h1, h2, s.sqT hd h3⟩⟩
theorem PairsAt.init {K : PySem.W.Frag} {H : Hp} {ys : List V} {ps : List (Nat × Nat)} {c : Nat × Nat} (h : PairsAt K H ys (ps ++ [c])) : PairsAt K H ys.dropLast ps ∧ ∃ T, ys[ys.length - 1]? = some (.ref T) ∧ SqT K H T [.int (c.1 : Int), .int (c.2 : Int)] := by
  have hl := h.1
  rw [List.length_append] at hl
  have hl : ys.length = ps.length + 1 := hl
  constructor
  · refine ⟨by rw [List.length_dropLast]; omega, fun i v e => ?_⟩
    rw [List.getElem?_dropLast] at e
    split at e
    · obtain ⟨p, T, h1, h2⟩ := h.2 i v e
      rw [List.getElem?_append_left (by omega)] at h1
      exact ⟨p, T, h1, h2⟩
    · cases e
  · obtain ⟨v, hv⟩ : ∃ v, ys[ys.length - 1]? = some v := ⟨_, List.getElem?_eq_getElem (by omega)⟩
    obtain ⟨p, T, h1, h2, h3⟩ := h.2 _ v hv
    have e : ys.length - 1 = ps.length := by omega
    rw [e, List.getElem?_append_right (Nat.le_refl _), Nat.sub_self] at h1
    cases h1
    exact ⟨T, by rw [hv, h2], h3⟩
section
variable {P : Program} {w : World} {K : PySem.W.Frag} {mg : Str → Option Value} {base : Heap}
theorem scNextFree : FnScope ["places", "used", "length", "place"] ["places", "used", "length"] (defScope sNextFree) := ⟨rfl, rfl, rfl, by decide +kernel, rfl, by decide +kernel, by decide +kernel⟩
def spNextFree (K : PySem.W.Frag) : Sp := fun vs H Q _ => ∃ (D d : Addr) (ys : List V) (q : List (Nat × Nat)) (kvs : UsedD) (L : Nat), vs = [.ref D, .ref d, .int (L : Int)] ∧ H D = some (.lst ys) ∧ PairsAt K H ys q.reverse ∧ H d = some (.dT kvs) ∧ 1 ≤ L ∧
  ∀ (H' : Hp) (zs : List V), SameB D H H' → H' D = some (.lst zs) → PairsAt K H' zs (nextD kvs L q).2.reverse → ((nextD kvs L q).1 = none → Q .non H') ∧ (∀ c T, (nextD kvs L q).1 = some c → SqT K H' T [.int (c.1 : Int), .int (c.2 : Int)] → Q (.ref T) H')
theorem ok_next_free {f fI : Addr} {fd fdI : FuncData} (F : FnP K "next_free" sNextFree f fd)
    (GI : FnOk P w K mg base (L2.CX P w) 1 fI fdI ["used", "place", "length"] (spIsFree K)) (kI : PySem.W.keepIn K (.ref fI) = true) (bI : Binds K fdI ["used", "place", "length"] []) (gI : mg "is_free" = some (.ref fI)) (mL : mg "len" = none) :
    FnOk P w K mg base (L2.CX P w) 2 f fd ["places", "used", "length"] (spNextFree K) := by
  refine F.ok scNextFree (fun vs H Q E h => ?_) (fun cdv A outer s H vs Q E hr h => ?_)
  · obtain ⟨D, d, ys, q, kvs, L, rfl, _⟩ := h
    rfl
  · obtain ⟨D, d, ys, q, kvs, L, rfl, hD, hP, hd, hL, fin⟩ := h
    refine ⟨_, pss_cons (ps_while (passes_of rfl) (pt_cmpR op_gt (pe_callB call_len_seq (by rfl) mL PySem.boot_len (pa_cons (pv 0) pa_nil)) pe_int (nomark _))
        (pss_cons (ps_set (i := 3) scNextFree.nd rfl (.inl rfl) (pe_bm0 PySem.F.plainAttrs_list PySem.F.slot_list_pop PySem.F.type_list_pop mt_pop (pv 0)))
        (pss_one (ps_if (pt_val (pe_call GI hr (by rfl) gI kI bI .nil passL (pa_cons (pv 1) (pa_cons (pv 3) (pa_cons (pv 2) pa_nil)))))
          (pss_one (ps_ret (pv 3))) pss_nil))))
      (pss_one (ps_ret pe_non)), ?_⟩
    have Dd : D ≠ d := ne_of hD hd (by intro z; cases z)
    refine ⟨fun m σ' H' => ∃ (q' : List (Nat × Nat)) (zs : List V) (y : Option V), m = q'.length ∧ SameB D H H' ∧ H' D = some (.lst zs) ∧ PairsAt K H' zs q'.reverse ∧ nextD kvs L q' = nextD kvs L q ∧ σ' = [some (.ref D), some (.ref d), some (.int (L : Int)), y], ⟨_, q, ys, none, rfl, SameB.refl, hD, hP, rfl, rfl⟩, fun m σ' H' hM => ?_⟩
    obtain ⟨q', zs, y, rfl, sb, hD', hP', hq, rfl⟩ := hM
    have hl := hP'.1
    rw [List.length_reverse] at hl
    refine ⟨_, rfl, D, zs, rfl, .inl (.inl (.inl hD')), _, _, rfl, rfl, _, rfl, ?_⟩
    cases q' with
    | nil =>
      have hl : zs.length = 0 := hl
      refine ite2 (fun e => ?_) (fun _ => ?_)
      · have e := of_decide_eq_true e
        omega
      · rw [← hq] at fin
        exact (fin H' zs sb hD' hP').1 rfl
    | cons c q2 =>
      have hl : zs.length = q2.length + 1 := hl
      refine ite2 (fun _ => ?_) (fun e => absurd (decide_eq_true (by omega)) e)
      rw [List.reverse_cons] at hP'
      obtain ⟨hPi, T, hT1, hT2⟩ := hP'.init
      have s1 : SameB D H' (upd H' D (.lst zs.dropLast)) := sameB_upd
      have nT := noTup hD'
      refine ⟨_, fun _ _ h => h, _, rfl, .inl ⟨rfl, _, .inl (.inl hD')⟩, D, zs, _, rfl, rfl, hD', hT1, ?_⟩
      have hd2 : (upd H' D (.lst zs.dropLast)) d = some (.dT kvs) := by
        rw [upd_ne (Ne.symm Dd)]
        exact sb _ _ (Ne.symm Dd) hd
      have hT3 := sqT_set (o := .lst zs.dropLast) nT hT2
      have hP3 := PairsAt.set (o := .lst zs.dropLast) nT hPi
      have hD3 : (upd H' D (.lst zs.dropLast)) D = some (.lst zs.dropLast) := upd_same
      generalize upd H' D (.lst zs.dropLast) = H2 at s1 hd2 hT3 hP3 hD3 ⊢
      refine ⟨_, rfl, _, rfl, _, rfl, d, T, kvs, c.1, c.2, L, rfl, hd2, hT3, hL, fun H3 s3 => ⟨_, rfl, ?_⟩⟩
      have sb3 := (sb.trans s1).trans (same_b s3)
      have hD4 := s3 _ _ hD3
      have hP4 := hP3.same s3
      have hT4 := sameT s3 hT3
      have ef : nextD kvs L (c :: q2) = if freeB kvs L c = true then (some c, q2) else nextD kvs L q2 := rfl
      cases hf : freeB kvs L c with
      | true =>
        rw [hf] at ef
        have ef : nextD kvs L (c :: q2) = (some c, q2) := ef
        rw [← hq, ef] at fin
        have hf : (!usedB kvs c.1 c.2 && !usedB kvs c.1 (c.2 + L - 1)) = true := hf
        rw [hf]
        exact iteT ⟨_, rfl, (fin H3 _ sb3 hD4 hP4).2 c T rfl hT4⟩
      | false =>
        rw [hf] at ef
        have ef : nextD kvs L (c :: q2) = nextD kvs L q2 := ef
        have hf : (!usedB kvs c.1 c.2 && !usedB kvs c.1 (c.2 + L - 1)) = false := hf
        rw [hf]
        exact iteF ⟨q2.length, Nat.lt_succ_self _, q2, _, _, rfl, sb3, hD4, hP4, by rw [← hq, ef], rfl⟩
end
/-! ### the places of each put run -/
/-- d: for each run the list of its places m, the first one last -/
structure PPl (K : PySem.W.Frag) (H0 H : Hp) (d : Addr) (kvs : UsedD) (m : List Str → List (Nat × Nat)) : Prop where
  dic : H d = some (.dT kvs)
  lsts : ∀ l v, valV kvs (txK l) = some v → ∃ D ys, v = .ref D ∧ H D = some (.lst ys) ∧ PairsAt K H ys (m l).reverse ∧ H0 D = none
  nil : ∀ l, valV kvs (txK l) = none → m l = []
  inj : ∀ l l' D, valV kvs (txK l) = some (.ref D) → valV kvs (txK l') = some (.ref D) → l = l'
theorem PPl.same {K : PySem.W.Frag} {H0 H H' : Hp} {d : Addr} {kvs : UsedD} {m : List Str → List (Nat × Nat)} (s : Same H H') (h : PPl K H0 H d kvs m) : PPl K H0 H' d kvs m :=
  ⟨s _ _ h.dic, fun l v e => let ⟨D, ys, h1, h2, h3, h4⟩ := h.lsts l v e; ⟨D, ys, h1, s _ _ h2, h3.same s, h4⟩, h.nil, h.inj⟩
/-- one of the lists is written -/
theorem PPl.set {K : PySem.W.Frag} {H0 H H' : Hp} {d D : Addr} {kvs : UsedD} {m : List Str → List (Nat × Nat)} {l : List Str} {ys zs : List V} {q : List (Nat × Nat)} (h : PPl K H0 H d kvs m) (e : valV kvs (txK l) = some (.ref D)) (hD : H D = some (.lst ys)) (sb : SameB D H H') (hz : H' D = some (.lst zs)) (hP : PairsAt K H' zs q.reverse) :
    PPl K H0 H' d kvs (fun l' => if l' = l then q else m l') := by
  have nT := noTup hD
  refine ⟨sb _ _ (fun z => ?_) h.dic, fun l' v e' => ?_, fun l' e' => ?_, h.inj⟩
  · subst z
    have := h.dic
    rw [hD] at this
    cases this
  · obtain ⟨D', ys', rfl, h2, h3, h4⟩ := h.lsts l' v e'
    by_cases c : l' = l
    · subst c
      rw [e] at e'
      cases e'
      exact ⟨_, zs, rfl, hz, by rw [if_pos rfl]; exact hP, h4⟩
    · refine ⟨D', ys', rfl, sb _ _ (fun z => ?_) h2, by rw [if_neg c]; exact sb.pairs nT h3, h4⟩
      subst z
      exact c (h.inj _ _ _ e' e)
  · rw [if_neg (fun z => by subst z; rw [e] at e'; cases e')]
    exact h.nil l' e'
/-- one more list -/
theorem PPl.new {K : PySem.W.Frag} {H0 H : Hp} {d D : Addr} {kvs : UsedD} {m : List Str → List (Nat × Nat)} {l : List Str} {ys : List V} (h : PPl K H0 H d kvs m) (e : valV kvs (txK l) = none) (hD : H D = some (.lst ys)) (hP : PairsAt K H ys []) (fr : H0 D = none) (far : ∀ l', valV kvs (txK l') ≠ some (.ref D)) :
    PPl K H0 (upd H d (.dT (putK kvs (txK l) (.ref D)))) d (putK kvs (txK l) (.ref D)) m := by
  have nT : ∀ ys, ¬ Rd H d (.tup ys) := by
    rintro ys (z | ⟨o, z⟩)
    · rw [h.dic] at z
      cases z
    · rw [h.dic] at z
      cases z
  have off : ∀ D' ys, H D' = some (.lst ys) → D' ≠ d := fun D' ys e z => by
    subst z
    rw [h.dic] at e
    cases e
  refine ⟨upd_same, fun l' v e' => ?_, fun l' e' => ?_, fun a b D' ea eb => ?_⟩
  · rw [valV_put] at e'
    by_cases c : l' = l
    · subst c
      rw [if_pos rfl] at e'
      cases e'
      exact ⟨D, ys, rfl, by rw [upd_ne (off _ _ hD)]; exact hD, by rw [h.nil _ e]; exact PairsAt.set nT hP, fr⟩
    · rw [if_neg fun z => c (txK_inj z)] at e'
      obtain ⟨D', ys', rfl, h2, h3, h4⟩ := h.lsts l' v e'
      exact ⟨D', ys', rfl, by rw [upd_ne (off _ _ h2)]; exact h2, PairsAt.set nT h3, h4⟩
  · rw [valV_put] at e'
    by_cases c : l' = l
    · subst c
      rw [if_pos rfl] at e'
      cases e'
    · rw [if_neg fun z => c (txK_inj z)] at e'
      exact h.nil l' e'
  · rw [valV_put] at ea eb
    by_cases c : a = l
    · by_cases c' : b = l
      · rw [c, c']
      · rw [if_neg fun z => c' (txK_inj z)] at eb
        rw [c, if_pos rfl] at ea
        cases ea
        exact absurd eb (far b)
    · rw [if_neg fun z => c (txK_inj z)] at ea
      by_cases c' : b = l
      · rw [c', if_pos rfl] at eb
        cases eb
        exact absurd ea (far a)
      · rw [if_neg fun z => c' (txK_inj z)] at eb
        exact h.inj a b D' ea eb
theorem PPl.congr {K : PySem.W.Frag} {H0 H : Hp} {d : Addr} {kvs : UsedD} {m m' : List Str → List (Nat × Nat)} (h : PPl K H0 H d kvs m) (e : ∀ l, m' l = m l) : PPl K H0 H d kvs m' := by
  have : m' = m := funext e
  rw [this]
  exact h
theorem PPl.weak {K : PySem.W.Frag} {H0 H1 H : Hp} {d : Addr} {kvs : UsedD} {m : List Str → List (Nat × Nat)} (w : ∀ D, H1 D = none → H0 D = none) (h : PPl K H1 H d kvs m) : PPl K H0 H d kvs m :=
  ⟨h.dic, fun l v e => let ⟨D, ys, h1, h2, h3, h4⟩ := h.lsts l v e; ⟨D, ys, h1, h2, h3, w D h4⟩, h.nil, h.inj⟩
theorem same_none {H H' : Hp} (s : Same H H') {D : Addr} (e : H' D = none) : H D = none := by
  cases q : H D with
  | none => rfl
  | some o =>
    rw [s _ _ q] at e
    cases e
def runsAt (rs : List RowD) (L : Nat) (ps : List (Nat × Nat)) (l : List Str) : List (Nat × Nat) := ps.filter fun p => decide (runD rs L p = l)
theorem runsAt_cons {rs : List RowD} {L : Nat} {ps : List (Nat × Nat)} {c : Nat × Nat} (l : List Str) : runsAt rs L (c :: ps) l = if l = runD rs L c then c :: runsAt rs L ps l else runsAt rs L ps l := by
  unfold runsAt
  rw [List.filter_cons]
  by_cases e : l = runD rs L c
  · subst e
    rw [if_pos (decide_eq_true rfl), if_pos rfl]
  · rw [if_neg (fun z => e (of_decide_eq_true z).symm), if_neg e]
section
variable {P : Program} {w : World} {K : PySem.W.Frag} {mg : Str → Option Value} {base : Heap}
theorem scPutPlaces : FnScope ["rows", "length", "put_places", "place", "run"] ["rows", "length"] (defScope sPutPlacesOf) := ⟨rfl, rfl, rfl, by decide +kernel, rfl, by decide +kernel, by decide +kernel⟩
def spPutPlaces (K : PySem.W.Frag) : Sp := fun vs H Q _ => ∃ (p : Addr) (xs : List V) (rs : List RowD) (L : Nat), vs = [.ref p, .int (L : Int)] ∧ SqL K H p xs ∧ RowsT K H xs rs ∧ Small rs ∧ (plD "put" L rs rs.length).length ≤ 299 ∧ 1 ≤ L ∧ L ≤ 5000 ∧
  ∀ (H' : Hp) (d : Addr) (kvs : UsedD), Same H H' → H d = none → PPl K H H' d kvs (runsAt rs L (plD "put" L rs rs.length)) → Q (.ref d) H'
theorem ok_put_places {f fP fR : Addr} {fd fdP fdR : FuncData} (F : FnP K "put_places_of" sPutPlacesOf f fd)
    (GP : FnOk P w K mg base (L2.CX P w) 1 fP fdP ["rows", "kind", "length"] (spPlaces K)) (kP : PySem.W.keepIn K (.ref fP) = true) (bP : Binds K fdP ["rows", "kind", "length"] []) (gP : mg "places_in" = some (.ref fP))
    (GR : FnOk P w K mg base (L2.CX P w) 1 fR fdR ["rows", "place", "length"] (spRunAt K)) (kR : PySem.W.keepIn K (.ref fR) = true) (bR : Binds K fdR ["rows", "place", "length"] []) (gR : mg "run_at" = some (.ref fR)) (mV : mg "reversed" = none) :
    FnOk P w K mg base (L2.CX P w) 2 f fd ["rows", "length"] (spPutPlaces K) := by
  refine F.ok scPutPlaces (fun vs H Q E h => ?_) (fun cdv A outer s H vs Q E hr h => ?_)
  · obtain ⟨p, xs, rs, L, rfl, _⟩ := h
    rfl
  · obtain ⟨p, xs, rs, L, rfl, hp, hR, hs, few, hL, hL2, q⟩ := h
    refine ⟨_, pss_cons (ps_set (i := 2) scPutPlaces.nd rfl (.inl rfl) pe_dnewT)
      (pss_cons (ps_for (passes_of rfl) rfl (RT.pi_revA (by rfl) mV (pe_call GP hr (by rfl) gP kP bP .nil passL (pa_cons (pv 0) (pa_cons pe_str (pa_cons (pv 1) pa_nil))))) (pg_name (i := 3) scPutPlaces.nd rfl (.inl rfl))
        (pss_cons (ps_set (i := 4) scPutPlaces.nd rfl (.inl rfl) (pe_call GR hr (by rfl) gR kR bR .nil passL (pa_cons (pv 0) (pa_cons (pv 3) (pa_cons (pv 1) pa_nil)))))
        (pss_one (ps_expr (pe_bm PySem.F.plainAttrs_list PySem.F.slot_list_append PySem.F.type_list_append mt_append (St.pe_dsetT (hu_of hr) (pv 2) (pv 4) (pe_lst pa_nil) ⟨rfl, rfl, rfl, rfl⟩) (pa_cons (pv 3) pa_nil))))))
      (pss_one (ps_ret (pv 2)))), ?_⟩
    intro d nd
    have s0 := same_upd nd (o := .dT [])
    refine ⟨_, rfl, _, rfl, p, xs, rs, "put", L, rfl, s0.seq hp, (hR.same s0).at, hs.1, hs.2, hL, hL2, fun H1 D1 ys s1 n1 hD1 hP1 => ?_⟩
    have sH1 := s0.trans s1
    have yl := hP1.1
    have hd1 : H1 d = some (.dT []) := s1 _ _ upd_same
    have D1d : D1 ≠ d := ne_of hD1 hd1 (by intro z; cases z)
    refine ⟨D1, ys, rfl, .inl ⟨.inl (.inl hD1), RT.for_Itv (xs := ys) (fun i σ' H' => SameB d H1 H' ∧ ∃ kvs y3 y4, PPl K H1 H' d kvs (runsAt rs L ((plD "put" L rs rs.length).drop (ys.length - i))) ∧ kvs.length ≤ i ∧ i ≤ ys.length ∧ σ' = [some (.ref p), some (.int (L : Int)), some (.ref d), y3, y4]) ?_ (fun i σ' H' hp' => ?_) (fun i x σ' H' hi hx hp' => ?_) (fun σ' H' hp' => ?_)⟩⟩
    · refine ⟨SameB.refl, [], none, none, ⟨hd1, (fun l v e => by cases e), (fun l _ => ?_), fun l l' D e => by cases e⟩, Nat.le_refl _, Nat.zero_le _, rfl⟩
      rw [Nat.sub_zero, List.drop_of_length_le (by rw [yl]; exact Nat.le_refl _)]
      rfl
    · exact .inl (.inl (hp'.1 _ _ D1d hD1))
    · obtain ⟨sb, kvs, y3, y4, hm, hl, hi2, rfl⟩ := hp'
      obtain ⟨a, b, T, e1, rfl, hT⟩ := hP1.get hx
      obtain ⟨r, hr1, hr2, hr3⟩ := mem_plD.1 (List.mem_of_getElem? e1)
      have ndT : ∀ ys, ¬ Rd H1 d (.tup ys) := by
        rintro ys (z | ⟨o, z⟩)
        · rw [hd1] at z
          cases z
        · rw [hd1] at z
          cases z
      have sH : Same H H' := fun c o e => sb c o (fun z => by subst z; rw [nd] at e; cases e) (sH1 c o e)
      refine ⟨_, rfl, _, rfl, _, rfl, p, T, xs, rs, a, b, L, r, rfl, sH.seq hp, hR.same sH, sb.sqT ndT hT, hr1, hr3, fun H2 W s2 hW => ?_⟩
      have sb2 := sb.trans (same_b s2)
      have hm2 := hm.same s2
      refine ⟨_, rfl, d, rfl, .inr ⟨kvs, .inl hm2.dic⟩, _, rfl, by show 0 ≤ sizeLine; decide, fun D nD => ?_⟩
      have s3 : Same H2 (upd H2 D (.lst [])) := same_upd nD
      have hm3 := hm2.same s3
      have hW3 : (upd H2 D (.lst [])) W = some (.tup ((txK ((r.ws.drop b).take L)).map kV)) := by
        rw [txK_V]
        exact s3 _ _ hW
      have hD3 : (upd H2 D (.lst [])) D = some (.lst []) := upd_same
      have sb3 := sb2.trans (same_b s3)
      have nD1 : H1 D = none := by
        cases q1 : H1 D with
        | none => rfl
        | some o =>
          by_cases z : D = d
          · subst z
            rw [hm2.dic] at nD
            cases nD
          · rw [sb2 _ _ z q1] at nD
            cases nD
      have far : ∀ l', valV kvs (txK l') ≠ some (.ref D) := fun l' e => by
        obtain ⟨D', ys', e1, h2, _⟩ := hm2.lsts l' _ e
        cases e1
        rw [nD] at h2
        cases h2
      have Dd : D ≠ d := ne_of hD3 hm3.dic (by intro z; cases z)
      generalize upd H2 D (.lst []) = H3 at s3 hm3 hW3 hD3 sb3
      have e2 : (r.ws.drop b).take L = runD rs L (a, b) := (runD_at hr1).symm
      have ed : (plD "put" L rs rs.length).drop (ys.length - (i + 1)) = (a, b) :: (plD "put" L rs rs.length).drop (ys.length - i) := by
        have e3 : ys.length - (i + 1) = ys.length - 1 - i := by omega
        have e4 : ys.length - i = ys.length - 1 - i + 1 := by omega
        rw [e3, e4]
        exact (List.drop_eq_getElem?_toList_append ..).trans (by rw [e1]; rfl)
      rw [e2] at hW3
      -- what stands behind the append at a list of the dict
      have tail : ∀ (kvs' : UsedD) (H4 : Hp) (D' : Addr) (zs : List V), PPl K H1 H4 d kvs' (runsAt rs L ((plD "put" L rs rs.length).drop (ys.length - i))) → kvs'.length ≤ i + 1 → SameB d H1 H4 → valV kvs' (txK (runD rs L (a, b))) = some (.ref D') → H4 D' = some (.lst zs) → PairsAt K H4 zs (runsAt rs L ((plD "put" L rs rs.length).drop (ys.length - i)) (runD rs L (a, b))).reverse → H1 D' = none →
          zs.length < sizeLine ∧ (SameB d H1 (upd H4 D' (.lst (zs ++ [.ref T]))) ∧ PPl K H1 (upd H4 D' (.lst (zs ++ [.ref T]))) d kvs' (runsAt rs L ((plD "put" L rs rs.length).drop (ys.length - (i + 1))))) := fun kvs' H4 D' zs m4 l4 b4 v4 d4 p4 f4 => by
        have nT := noTup d4
        have zl := p4.1
        rw [List.length_reverse] at zl
        have fl : (runsAt rs L ((plD "put" L rs rs.length).drop (ys.length - i)) (runD rs L (a, b))).length ≤ 299 := by
          unfold runsAt
          refine Nat.le_trans (List.length_filter_le ..) ?_
          rw [List.length_drop]
          omega
        refine ⟨Nat.lt_of_le_of_lt (show zs.length ≤ 299 by omega) (by decide), fun c o hc e => ?_, ?_⟩
        · rw [upd_ne fun z => by subst z; rw [f4] at e; cases e]
          exact b4 c o hc e
        · have hT4 : SqT K H4 T [.int (a : Int), .int (b : Int)] := b4.sqT ndT hT
          have hT5 := sqT_set (o := .lst (zs ++ [.ref T])) nT hT4
          have := m4.set (q := (a, b) :: runsAt rs L ((plD "put" L rs rs.length).drop (ys.length - i)) (runD rs L (a, b))) v4 d4 sameB_upd (upd_same (o := .lst (zs ++ [.ref T]))) (by
            rw [List.reverse_cons]
            exact (PairsAt.set nT p4).app (PairsAt.one hT5))
          refine this.congr fun l' => ?_
          rw [ed, runsAt_cons]
          by_cases z : l' = runD rs L (a, b)
          · rw [if_pos z, if_pos z, z]
          · rw [if_neg z, if_neg z]
      refine ⟨kvs, txK (runD rs L (a, b)), W, hm3.dic, rfl, hW3, Nat.lt_of_le_of_lt (show kvs.length ≤ 299 by omega) (by decide), fun v hv => ?_, fun hn => ?_⟩
      · obtain ⟨D', zs, rfl, d4, p4, f4⟩ := hm3.lsts _ _ hv
        obtain ⟨t1, t2, t3⟩ := tail kvs H3 D' zs hm3 (by omega) sb3 hv d4 p4 f4
        exact ⟨.inl ⟨rfl, _, .inl (.inl d4)⟩, _, rfl, D', zs, _, rfl, rfl, d4, t1, t2, kvs, _, _, t3, by omega, by omega, rfl⟩
      · have m4 := hm3.new hn hD3 ⟨rfl, fun i v e => by cases e⟩ nD1 far
        have hl2 := length_putK kvs (txK (runD rs L (a, b))) (.ref D)
        have d4 : (upd H3 d (.dT (putK kvs (txK (runD rs L (a, b))) (.ref D)))) D = some (.lst []) := by
          rw [upd_ne Dd]
          exact hD3
        have hnil := hm3.nil _ hn
        obtain ⟨t1, t2, t3⟩ := tail (putK kvs (txK (runD rs L (a, b))) (.ref D)) _ D [] m4 (by omega) (sb3.trans sameB_upd) (by rw [valV_put, if_pos rfl]) d4 (by rw [hnil]; exact ⟨rfl, fun i v e => by cases e⟩) nD1
        exact ⟨.inl ⟨rfl, _, .inl (.inl d4)⟩, _, rfl, D, [], _, rfl, rfl, d4, t1, t2, _, _, _, t3, by omega, by omega, rfl⟩
    · obtain ⟨sb, kvs, y3, y4, hm, hl, hi2, rfl⟩ := hp'
      rw [Nat.sub_self, List.drop_zero] at hm
      refine ⟨_, rfl, q H' d kvs (fun c o e => sb c o (fun z => by subst z; rw [nd] at e; cases e) (sH1 c o e)) nd (hm.weak fun D e => same_none sH1 e)⟩
end
/-! ### places, free ones, pairs -/
abbrev Pl := Nat × Nat
def Lt (p q : Pl) : Prop := p.1 < q.1 ∨ p.1 = q.1 ∧ p.2 < q.2
theorem Lt.trans {p q r : Pl} (a : Lt p q) (b : Lt q r) : Lt p r := by
  rcases a with a | ⟨a, a'⟩ <;> rcases b with b | ⟨b, b'⟩
  · exact .inl (by omega)
  · exact .inl (by omega)
  · exact .inl (by omega)
  · exact .inr ⟨by omega, by omega⟩
theorem Lt.irr {p : Pl} (a : Lt p p) : False := by
  rcases a with a | ⟨_, a⟩ <;> omega
theorem Lt.asymm {p q : Pl} (a : Lt p q) (b : Lt q p) : False := (a.trans b).irr
theorem lt_or {p q : Pl} (h : p ≠ q) : Lt p q ∨ Lt q p := by
  rcases Nat.lt_trichotomy p.1 q.1 with c | c | c
  · exact .inl (.inl c)
  · rcases Nat.lt_trichotomy p.2 q.2 with d | d | d
    · exact .inl (.inr ⟨c, d⟩)
    · exact absurd (Prod.ext c d) h
    · exact .inr (.inr ⟨c.symm, d⟩)
  · exact .inr (.inl c)
theorem plD_sorted (k : Str) (L : Nat) (rs : List RowD) : ∀ n, (plD k L rs n).Pairwise Lt ∧ ∀ p ∈ plD k L rs n, p.1 < n := by
  intro n
  induction n with
  | zero => exact ⟨List.Pairwise.nil, fun p hp => by cases hp⟩
  | succ n ih =>
    have e : plD k L rs (n + 1) = plD k L rs n ++ (match rs[n]? with | some r => plOf k L n r | none => []) := by
      unfold plD
      rw [List.range_succ, List.flatMap_append]
      cases h : rs[n]? <;> simp [h]
    rw [e]
    have one : ∀ p ∈ (match rs[n]? with | some r => plOf k L n r | none => []), p.1 = n := fun p hp => by
      split at hp
      · unfold plOf at hp
        split at hp
        · obtain ⟨b, _, rfl⟩ := List.mem_map.mp hp
          rfl
        · cases hp
      · cases hp
    refine ⟨List.pairwise_append.mpr ⟨ih.1, ?_, fun p hp q hq => .inl ?_⟩, fun p hp => ?_⟩
    · split
      · unfold plOf
        split
        · rw [List.pairwise_map]
          exact List.Pairwise.imp (fun h => .inr ⟨rfl, h⟩) List.pairwise_lt_range
        · exact List.Pairwise.nil
      · exact List.Pairwise.nil
    · rw [one q hq]
      exact ih.2 p hp
    · rcases List.mem_append.mp hp with z | z
      · exact Nat.lt_succ_of_lt (ih.2 p z)
      · rw [one p z]
        exact Nat.lt_succ_self n
/-- in a sorted list what is less stands ahead -/
theorem sorted_take {l : List Pl} (s : l.Pairwise Lt) {i : Nat} {c q : Pl} (h : l[i]? = some c) (hq : q ∈ l) (lt : Lt q c) : q ∈ l.take i := by
  obtain ⟨j, hj⟩ := List.mem_iff_getElem?.mp hq
  obtain ⟨i1, i2⟩ := List.getElem?_eq_some_iff.mp h
  obtain ⟨j1, j2⟩ := List.getElem?_eq_some_iff.mp hj
  have ji : j < i := by
    rcases Nat.lt_trichotomy j i with z | z | z
    · exact z
    · subst z
      rw [h] at hj
      cases hj
      exact lt.irr.elim
    · have := List.pairwise_iff_getElem.mp s i j i1 j1 z
      rw [i2, j2] at this
      exact (this.asymm lt).elim
  exact List.mem_of_getElem? (i := j) (by rw [List.getElem?_take, if_pos ji]; exact hj)
/-- the words of blocks of the length L -/
def UsedP (L : Nat) (bl : List Pl) (a x : Nat) : Prop := ∃ p ∈ bl, p.1 = a ∧ p.2 ≤ x ∧ x < p.2 + L
def FreeP (L : Nat) (bl : List Pl) (p : Pl) : Prop := ∀ x, p.2 ≤ x → x < p.2 + L → ¬ UsedP L bl p.1 x
theorem UsedP.mono {L : Nat} {bl bl' : List Pl} {a x : Nat} (s : ∀ p ∈ bl, p ∈ bl') (h : UsedP L bl a x) : UsedP L bl' a x := let ⟨p, h1, h2⟩ := h; ⟨p, s p h1, h2⟩
theorem FreeP.mono {L : Nat} {bl bl' : List Pl} {p : Pl} (s : ∀ p ∈ bl, p ∈ bl') (h : FreeP L bl' p) : FreeP L bl p := fun x h1 h2 u => h x h1 h2 (u.mono s)
/-- the ends tell it -/
theorem free_ends {L : Nat} {bl : List Pl} {p : Pl} (hL : 1 ≤ L) (h1 : ¬ UsedP L bl p.1 p.2) (h2 : ¬ UsedP L bl p.1 (p.2 + L - 1)) : FreeP L bl p := by
  rintro x a b ⟨q, q1, q2, q3, q4⟩
  rcases Nat.lt_or_ge p.2 q.2 with c | c
  · exact h2 ⟨q, q1, q2, by omega, by omega⟩
  · exact h1 ⟨q, q1, q2, c, by omega⟩
/-- what used holds -/
def UsedOk (L : Nat) (bl : List Pl) (kvs : UsedD) : Prop := ∀ a x, usedB kvs a x = true ↔ UsedP L bl a x
theorem free_iff {L : Nat} {bl : List Pl} {kvs : UsedD} (hL : 1 ≤ L) (U : UsedOk L bl kvs) {p : Pl} : freeB kvs L p = true ↔ FreeP L bl p := by
  unfold freeB
  rw [Bool.and_eq_true, Bool.not_eq_true', Bool.not_eq_true']
  constructor
  · rintro ⟨h1, h2⟩
    refine free_ends hL (fun z => ?_) fun z => ?_
    · rw [(U _ _).2 z] at h1
      cases h1
    · rw [(U _ _).2 z] at h2
      cases h2
  · intro h
    constructor
    · cases e : usedB kvs p.1 p.2 with
      | false => rfl
      | true => exact absurd ((U _ _).1 e) (h _ (Nat.le_refl _) (by omega))
    · cases e : usedB kvs p.1 (p.2 + L - 1) with
      | false => rfl
      | true => exact absurd ((U _ _).1 e) (h _ (by omega) (by omega))
theorem plK_inj {a b a' b' : Nat} (h : plK a b = plK a' b') : a = a' ∧ b = b' := by
  have h1 := List.cons.inj h
  have h2 := List.cons.inj h1.2
  exact ⟨Int.ofNat.inj (Sum.inl.inj h1.1), Int.ofNat.inj (Sum.inl.inj h2.1)⟩
theorem usedB_useD (kvs : UsedD) (a b a' x : Nat) : ∀ n, usedB (useD kvs a b n) a' x = true ↔ usedB kvs a' x = true ∨ a' = a ∧ b ≤ x ∧ x < b + n
  | 0 => ⟨.inl, fun h => h.elim id fun z => by omega⟩
  | n + 1 => by
    have ih := usedB_useD kvs a b a' x n
    have e : usedB (useD kvs a b (n + 1)) a' x = true ↔ (a' = a ∧ x = b + n) ∨ usedB (useD kvs a b n) a' x = true := by
      show (valV (putK (useD kvs a b n) (plK a (b + n)) (.bl true)) (plK a' x)).isSome = true ↔ _
      rw [valV_put]
      by_cases c : plK a' x = plK a (b + n)
      · rw [if_pos c]
        exact ⟨fun _ => .inl (plK_inj c), fun _ => rfl⟩
      · rw [if_neg c]
        exact ⟨.inr, fun h => h.elim (fun z => absurd (by rw [z.1, z.2]) c) id⟩
    rw [e, ih]
    constructor
    · rintro (⟨z1, z2⟩ | z | ⟨z1, z2, z3⟩)
      · exact .inr ⟨z1, by omega, by omega⟩
      · exact .inl z
      · exact .inr ⟨z1, z2, by omega⟩
    · rintro (z | ⟨z1, z2, z3⟩)
      · exact .inr (.inl z)
      · by_cases c : x = b + n
        · exact .inl ⟨z1, c⟩
        · exact .inr (.inr ⟨z1, z2, by omega⟩)
theorem UsedOk.put {L : Nat} {bl : List Pl} {kvs : UsedD} (U : UsedOk L bl kvs) (p : Pl) : UsedOk L (bl ++ [p]) (useD kvs p.1 p.2 L) := fun a x => by
  rw [usedB_useD, U a x]
  constructor
  · rintro (⟨q, h1, h2⟩ | ⟨h1, h2, h3⟩)
    · exact ⟨q, List.mem_append_left _ h1, h2⟩
    · exact ⟨p, List.mem_append_right _ (List.mem_singleton.mpr rfl), h1.symm, h2, h3⟩
  · rintro ⟨q, h1, h2, h3, h4⟩
    rcases List.mem_append.mp h1 with z | z
    · exact .inl ⟨q, z, h2, h3, h4⟩
    · rw [List.mem_singleton.mp z] at h2 h3 h4
      exact .inr ⟨h2.symm, h3, h4⟩
theorem nextD_spec (kvs : UsedD) (L : Nat) : ∀ q : List Pl, (∃ pre c q', nextD kvs L q = (some c, q') ∧ q = pre ++ c :: q' ∧ (∀ p ∈ pre, freeB kvs L p = false) ∧ freeB kvs L c = true) ∨ (nextD kvs L q = (none, []) ∧ ∀ p ∈ q, freeB kvs L p = false)
  | [] => .inr ⟨rfl, fun p hp => by cases hp⟩
  | c :: q => by
    have e : nextD kvs L (c :: q) = if freeB kvs L c = true then (some c, q) else nextD kvs L q := rfl
    cases h : freeB kvs L c with
    | true =>
      rw [h] at e
      exact .inl ⟨[], c, q, e, rfl, (fun p hp => by cases hp), h⟩
    | false =>
      rw [h] at e
      have e : nextD kvs L (c :: q) = nextD kvs L q := e
      rcases nextD_spec kvs L q with ⟨pre, c', q', h1, h2, h3, h4⟩ | ⟨h1, h2⟩
      · refine .inl ⟨c :: pre, c', q', e.trans h1, by rw [h2]; rfl, fun p hp => ?_, h4⟩
        rcases List.mem_cons.mp hp with z | z
        · rw [z]
          exact h
        · exact h3 p z
      · refine .inr ⟨e.trans h1, fun p hp => ?_⟩
        rcases List.mem_cons.mp hp with z | z
        · rw [z]
          exact h
        · exact h2 p z
abbrev Pr := Pl × Pl
def blkOf (ps : List Pr) : List Pl := ps.flatMap fun p => [p.1, p.2]
theorem blkOf_snoc (ps : List Pr) (p : Pr) : blkOf (ps ++ [p]) = blkOf ps ++ [p.1] ++ [p.2] := by
  unfold blkOf
  simp
theorem blkOf_mem {ps : List Pr} {p : Pr} (h : p ∈ ps) : p.1 ∈ blkOf ps ∧ p.2 ∈ blkOf ps := by
  unfold blkOf
  exact ⟨List.mem_flatMap.mpr ⟨p, h, by simp⟩, List.mem_flatMap.mpr ⟨p, h, by simp⟩⟩
abbrev cutP (rs : List RowD) (L : Nat) : List Pl := plD "cut" L rs rs.length
abbrev putP (rs : List RowD) (L : Nat) : List Pl := plD "put" L rs rs.length
/-- the first pair that is free -/
structure First (rs : List RowD) (L : Nat) (bl : List Pl) (c p : Pl) : Prop where
  cin : c ∈ cutP rs L
  pin : p ∈ putP rs L
  cfr : FreeP L bl c
  pfr : FreeP L bl p
  eq : runD rs L p = runD rs L c
  cut1 : ∀ c' ∈ cutP rs L, Lt c' c → FreeP L bl c' → ∀ p' ∈ putP rs L, FreeP L bl p' → runD rs L p' ≠ runD rs L c'
  put1 : ∀ p' ∈ putP rs L, Lt p' p → FreeP L bl p' → runD rs L p' ≠ runD rs L c
def Greedy (rs : List RowD) (L : Nat) (ps : List Pr) : Prop := ∀ (j : Nat) (c p : Pl), ps[j]? = some (c, p) → First rs L (blkOf (ps.take j)) c p
def NoMore (rs : List RowD) (L : Nat) (bl : List Pl) (cs : List Pl) : Prop := ∀ c ∈ cs, FreeP L bl c → ∀ p ∈ putP rs L, FreeP L bl p → runD rs L p ≠ runD rs L c
theorem Greedy.snoc {rs : List RowD} {L : Nat} {ps : List Pr} {c p : Pl} (g : Greedy rs L ps) (f : First rs L (blkOf ps) c p) : Greedy rs L (ps ++ [(c, p)]) := fun j c' p' e => by
  rcases Nat.lt_trichotomy j ps.length with z | z | z
  · rw [List.getElem?_append_left z] at e
    have q := g j c' p' e
    rw [List.take_append_of_le_length (Nat.le_of_lt z)]
    exact q
  · subst z
    rw [List.getElem?_append_right (Nat.le_refl _), Nat.sub_self] at e
    cases e
    rw [List.take_append_of_le_length (Nat.le_refl _), List.take_length]
    exact f
  · rw [List.getElem?_eq_none (by rw [List.length_append]; show ps.length + 1 ≤ j; omega)] at e
    cases e
theorem NoMore.mono {rs : List RowD} {L : Nat} {bl bl' : List Pl} {cs : List Pl} (s : ∀ p ∈ bl, p ∈ bl') (h : NoMore rs L bl cs) : NoMore rs L bl' cs := fun c hc f p hp f' => h c hc (f.mono s) p hp (f'.mono s)
theorem NoMore.snoc {rs : List RowD} {L : Nat} {bl : List Pl} {cs : List Pl} {c : Pl} (h : NoMore rs L bl cs) (q : FreeP L bl c → ∀ p ∈ putP rs L, FreeP L bl p → runD rs L p ≠ runD rs L c) : NoMore rs L bl (cs ++ [c]) := fun c' hc' => by
  rcases List.mem_append.mp hc' with z | z
  · exact h c' z
  · rw [List.mem_singleton.mp z]
    exact q
theorem mem_runsAt {rs : List RowD} {L : Nat} {ps : List Pl} {l : List Str} {p : Pl} : p ∈ runsAt rs L ps l ↔ p ∈ ps ∧ runD rs L p = l := by
  unfold runsAt
  rw [List.mem_filter, decide_eq_true_eq]
theorem runsAt_sorted (rs : List RowD) (L : Nat) (l : List Str) : (runsAt rs L (putP rs L) l).Pairwise Lt := List.Pairwise.filter _ (plD_sorted _ _ _ _).1
/-- what is left of the lists of places -/
def Left (rs : List RowD) (L : Nat) (bl : List Pl) (m : List Str → List Pl) : Prop := ∀ l, ∃ pre, runsAt rs L (putP rs L) l = pre ++ m l ∧ ∀ p ∈ pre, ¬ FreeP L bl p
theorem Left.mono {rs : List RowD} {L : Nat} {bl bl' : List Pl} {m : List Str → List Pl} (s : ∀ p ∈ bl, p ∈ bl') (h : Left rs L bl m) : Left rs L bl' m := fun l => let ⟨pre, h1, h2⟩ := h l; ⟨pre, h1, fun p hp f => h2 p hp (f.mono s)⟩
theorem FreeP.not {L : Nat} (hL : 1 ≤ L) {bl : List Pl} {p : Pl} (h : p ∈ bl) : ¬ FreeP L bl p := fun f => f p.2 (Nat.le_refl _) (by omega) ⟨p, h, rfl, Nat.le_refl _, by omega⟩
/-! ### the pairs of a pass -/
def PrAt (K : PySem.W.Frag) (H : Hp) (zs : List V) (ps : List Pr) : Prop := zs.length = ps.length ∧ ∀ (i : Nat) (v : V), zs[i]? = some v → ∃ c p T C D, ps[i]? = some (c, p) ∧ v = .ref T ∧ SqT K H T [.ref C, .ref D] ∧ SqT K H C [.int (c.1 : Int), .int (c.2 : Int)] ∧ SqT K H D [.int (p.1 : Int), .int (p.2 : Int)]
theorem PrAt.same {K : PySem.W.Frag} {H H' : Hp} {zs : List V} {ps : List Pr} (s : Same H H') (h : PrAt K H zs ps) : PrAt K H' zs ps :=
  ⟨h.1, fun i v e => let ⟨c, p, T, C, D, h1, h2, h3, h4, h5⟩ := h.2 i v e; ⟨c, p, T, C, D, h1, h2, sameT s h3, sameT s h4, sameT s h5⟩⟩
theorem SameB.pr {K : PySem.W.Frag} {d : Addr} {H H' : Hp} {zs : List V} {ps : List Pr} (s : SameB d H H') (hd : ∀ ys, ¬ Rd H d (.tup ys)) (h : PrAt K H zs ps) : PrAt K H' zs ps :=
  ⟨h.1, fun i v e => let ⟨c, p, T, C, D, h1, h2, h3, h4, h5⟩ := h.2 i v e; ⟨c, p, T, C, D, h1, h2, s.sqT hd h3, s.sqT hd h4, s.sqT hd h5⟩⟩
theorem PrAt.snoc {K : PySem.W.Frag} {H : Hp} {zs : List V} {ps : List Pr} {c p : Pl} {T C D : Addr} (h : PrAt K H zs ps) (h3 : SqT K H T [.ref C, .ref D]) (h4 : SqT K H C [.int (c.1 : Int), .int (c.2 : Int)]) (h5 : SqT K H D [.int (p.1 : Int), .int (p.2 : Int)]) : PrAt K H (zs ++ [.ref T]) (ps ++ [(c, p)]) := by
  refine ⟨by rw [List.length_append, List.length_append, h.1]; rfl, fun i v e => ?_⟩
  rcases Nat.lt_or_ge i zs.length with z | z
  · rw [List.getElem?_append_left z] at e
    obtain ⟨c, p, T, C, D, h1, h2⟩ := h.2 i v e
    exact ⟨c, p, T, C, D, by rw [List.getElem?_append_left (by rw [← h.1]; exact z)]; exact h1, h2⟩
  · rw [List.getElem?_append_right z] at e
    have hi : i = zs.length := by
      have := (List.getElem?_eq_some_iff.mp e).1
      have : i - zs.length < 1 := this
      omega
    subst hi
    rw [Nat.sub_self] at e
    cases e
    exact ⟨c, p, T, C, D, by rw [h.1, List.getElem?_append_right (Nat.le_refl _), Nat.sub_self]; rfl, rfl, h3, h4, h5⟩
theorem same_new {H H1 H2 : Hp} {x : Addr} (s : Same H H1) (b : SameB x H1 H2) (n : H x = none) : Same H H2 := fun c o e => b c o (fun z => by subst z; rw [n] at e; cases e) (s c o e)
theorem noTupD {H : Hp} {d : Addr} {kvs : UsedD} (h : H d = some (.dT kvs)) : ∀ ys, ¬ Rd H d (.tup ys) := by
  rintro ys (z | ⟨o, z⟩)
  · rw [h] at z
    cases z
  · rw [h] at z
    cases z
theorem PPl.far {K : PySem.W.Frag} {H0 H H' : Hp} {d x : Addr} {kvs : UsedD} {m : List Str → List Pl} (h : PPl K H0 H d kvs m) (sb : SameB x H H') (hx : ∀ ys, ¬ Rd H x (.tup ys)) (n1 : d ≠ x) (n2 : ∀ l D, valV kvs (txK l) = some (.ref D) → D ≠ x) : PPl K H0 H' d kvs m :=
  ⟨sb _ _ n1 h.dic, fun l v e => by
    obtain ⟨D, ys, rfl, h2, h3, h4⟩ := h.lsts l v e
    exact ⟨D, ys, rfl, sb _ _ (n2 l D e) h2, sb.pairs hx h3, h4⟩, h.nil, h.inj⟩
/-- a pass under way: i cut places looked at -/
structure Pass (K : PySem.W.Frag) (H H' : Hp) (rs : List RowD) (L : Nat) (d d2 D3 D4 : Addr) (kvs1 : UsedD) (ys : List V) (i : Nat) (kvs2 : UsedD) (zs : List V) (ps : List Pr) (m : List Str → List Pl) : Prop where
  sm : Same H H'
  pl : PPl K H H' d kvs1 m
  us : H' d2 = some (.dT kvs2)
  ok : UsedOk L (blkOf ps) kvs2
  ul : kvs2.length ≤ 2000 * ps.length
  d3 : H' D3 = some (.lst zs)
  pr : PrAt K H' zs ps
  d4 : H' D4 = some (.lst ys)
  le : ps.length ≤ i
  gr : Greedy rs L ps
  nm : NoMore rs L (blkOf ps) ((cutP rs L).take i)
  lf : Left rs L (blkOf ps) m
section
variable {P : Program} {w : World} {K : PySem.W.Frag} {mg : Str → Option Value} {base : Heap}
theorem scPairsOf : FnScope ["rows", "length", "put_places", "used", "pairs", "cut_place", "run", "put_place"] ["rows", "length"] (defScope sPairsOf) := ⟨rfl, rfl, rfl, by decide +kernel, rfl, by decide +kernel, by decide +kernel⟩
def spPairsOf (K : PySem.W.Frag) : Sp := fun vs H Q _ => ∃ (p : Addr) (xs : List V) (rs : List RowD) (L : Nat), vs = [.ref p, .int (L : Int)] ∧ SqL K H p xs ∧ RowsT K H xs rs ∧ Small rs ∧ (putP rs L).length ≤ 299 ∧ (cutP rs L).length ≤ 1000 ∧ 1 ≤ L ∧ L ≤ 5000 ∧
  ∀ (H' : Hp) (D : Addr) (zs : List V) (ps : List Pr), Same H H' → H D = none → H' D = some (.lst zs) → PrAt K H' zs ps → ps.length ≤ 1000 → Greedy rs L ps → NoMore rs L (blkOf ps) (cutP rs L) → Q (.ref D) H'
theorem ok_pairs_of {f fP fR fA fI fN fU : Addr} {fd fdP fdR fdA fdI fdN fdU : FuncData} (F : FnP K "pairs_of" sPairsOf f fd)
    (GP : FnOk P w K mg base (L2.CX P w) 1 fP fdP ["rows", "kind", "length"] (spPlaces K)) (kP : PySem.W.keepIn K (.ref fP) = true) (bP : Binds K fdP ["rows", "kind", "length"] []) (gP : mg "places_in" = some (.ref fP))
    (GR : FnOk P w K mg base (L2.CX P w) 1 fR fdR ["rows", "place", "length"] (spRunAt K)) (kR : PySem.W.keepIn K (.ref fR) = true) (bR : Binds K fdR ["rows", "place", "length"] []) (gR : mg "run_at" = some (.ref fR))
    (GA : FnOk P w K mg base (L2.CX P w) 2 fA fdA ["rows", "length"] (spPutPlaces K)) (kA : PySem.W.keepIn K (.ref fA) = true) (bA : Binds K fdA ["rows", "length"] []) (gA : mg "put_places_of" = some (.ref fA))
    (GI : FnOk P w K mg base (L2.CX P w) 1 fI fdI ["used", "place", "length"] (spIsFree K)) (kI : PySem.W.keepIn K (.ref fI) = true) (bI : Binds K fdI ["used", "place", "length"] []) (gI : mg "is_free" = some (.ref fI))
    (GN : FnOk P w K mg base (L2.CX P w) 2 fN fdN ["places", "used", "length"] (spNextFree K)) (kN : PySem.W.keepIn K (.ref fN) = true) (bN : Binds K fdN ["places", "used", "length"] []) (gN : mg "next_free" = some (.ref fN))
    (GU : FnOk P w K mg base (L2.CX P w) 1 fU fdU ["used", "place", "length"] (spUse K)) (kU : PySem.W.keepIn K (.ref fU) = true) (bU : Binds K fdU ["used", "place", "length"] []) (gU : mg "use" = some (.ref fU)) :
    FnOk P w K mg base (L2.CX P w) 3 f fd ["rows", "length"] (spPairsOf K) := by
  refine F.ok scPairsOf (fun vs H Q E h => ?_) (fun cdv A outer s H vs Q E hr h => ?_)
  · obtain ⟨p, xs, rs, L, rfl, _⟩ := h
    rfl
  · obtain ⟨p, xs, rs, L, rfl, hp, hR, hs, few, few2, hL, hL2, q⟩ := h
    have r1 : Room 1 (A.deeper (envOfC "pairs_of" (defScope sPairsOf) s.heap.objs.size f cdv)) := hr.mono (by decide)
    refine ⟨_, pss_cons (ps_set (i := 2) scPairsOf.nd rfl (.inl rfl) (pe_call GA hr (by rfl) gA kA bA .nil passL (pa_cons (pv 0) (pa_cons (pv 1) pa_nil))))
      (pss_cons (ps_set (i := 3) scPairsOf.nd rfl (.inl rfl) pe_dnewT)
      (pss_cons (ps_set (i := 4) scPairsOf.nd rfl (.inl rfl) (pe_lst pa_nil))
      (pss_cons (ps_for (passes_of rfl) rfl (pi_list (pe_call GP r1 (by rfl) gP kP bP .nil passL (pa_cons (pv 0) (pa_cons pe_str (pa_cons (pv 1) pa_nil))))) (pg_name (i := 5) scPairsOf.nd rfl (.inl rfl))
        (pss_cons (ps_set (i := 6) scPairsOf.nd rfl (.inl rfl) (pe_call GR r1 (by rfl) gR kR bR .nil passL (pa_cons (pv 0) (pa_cons (pv 5) (pa_cons (pv 1) pa_nil)))))
        (pss_one (ps_if (PW.pt (pw_and (pt_cmp (pc_din (hu_of hr) (pv 6) (pv 2)) (by rfl)) (pw_and1 (pt_val (pe_call GI r1 (by rfl) gI kI bI .nil passL (pa_cons (pv 3) (pa_cons (pv 5) (pa_cons (pv 1) pa_nil))))))))
          (pss_cons (ps_set (i := 7) scPairsOf.nd rfl (.inl rfl) (pe_call GN hr (by rfl) gN kN bN .nil passL (pa_cons (pe_dget (hu_of hr) (pv 2) (pv 6) (fun _ _ => rfl)) (pa_cons (pv 3) (pa_cons (pv 1) pa_nil)))))
          (pss_one (ps_if (pt_cmp (pc_notN (pv 7)) (by rfl))
            (pss_cons (ps_expr (pe_call GU r1 (by rfl) gU kU bU .nil passL (pa_cons (pv 3) (pa_cons (pv 5) (pa_cons (pv 1) pa_nil)))))
            (pss_cons (ps_expr (pe_call GU r1 (by rfl) gU kU bU .nil passL (pa_cons (pv 3) (pa_cons (pv 7) (pa_cons (pv 1) pa_nil)))))
            (pss_one (ps_expr (pe_bm PySem.F.plainAttrs_list PySem.F.slot_list_append PySem.F.type_list_append mt_append (pv 4) (pa_cons (pe_tup (pa_cons (pv 5) (pa_cons (pv 7) pa_nil))) pa_nil)))))) pss_nil)))
          pss_nil))))
      (pss_one (ps_ret (pv 4)))))), ?_⟩
    refine ⟨_, rfl, _, rfl, p, xs, rs, L, rfl, hp, hR, hs, few, hL, hL2, fun H1 d kvs1 s1 nd hm1 => ?_⟩
    intro d2 nd2
    have dd2 : d ≠ d2 := ne_of_none hm1.dic nd2
    have u1 := same_upd nd2 (o := .dT [])
    refine ⟨by show 0 ≤ sizeLine; decide, fun D3 nD3 => ?_⟩
    have u2 := same_upd nD3 (o := .lst [])
    have u12 := u1.trans u2
    have hd2 : (upd (upd H1 d2 (.dT [])) D3 (.lst [])) d2 = some (.dT []) := u2 _ _ upd_same
    have hD3 : (upd (upd H1 d2 (.dT [])) D3 (.lst [])) D3 = some (.lst []) := upd_same
    have nD3' : H1 D3 = none := same_none u1 nD3
    generalize upd (upd H1 d2 (.dT [])) D3 (.lst []) = H2 at u12 hd2 hD3
    have s2 := s1.trans u12
    refine ⟨_, rfl, _, rfl, p, xs, rs, "cut", L, rfl, s2.seq hp, (hR.same s2).at, hs.1, hs.2, hL, hL2, fun H3 D4 ys s3 nD4 hD4 hP4 => ?_⟩
    have s13 := u12.trans s3
    have nD4' : H1 D4 = none := same_none u12 nD4
    have s03 := s1.trans s13
    have far : ∀ l D, valV kvs1 (txK l) = some (.ref D) → D ≠ D3 ∧ D ≠ D4 ∧ D ≠ d2 := fun l D e => by
      obtain ⟨D', ys', e1, h2, _⟩ := hm1.lsts l _ e
      cases e1
      exact ⟨ne_of_none h2 nD3', ne_of_none h2 nD4', ne_of_none h2 nd2⟩
    have D34 : D3 ≠ D4 := ne_of_none hD3 nD4
    have yl : ys.length = (cutP rs L).length := hP4.1
    have n2 : H d2 = none := same_none s1 nd2
    have n3 : H D3 = none := same_none s1 nD3'
    refine ⟨D4, rfl, ⟨_, .inl (.inl hD4)⟩, for_list (xs := ys) (fun i σ' H' => PairsAt K H' ys (cutP rs L) ∧ ∃ kvs2 zs ps m y5 y6 y7, Pass K H H' rs L d d2 D3 D4 kvs1 ys i kvs2 zs ps m ∧ σ' = [some (.ref p), some (.int (L : Int)), some (.ref d), some (.ref d2), some (.ref D3), y5, y6, y7]) ?_ (fun i σ' H' _ hp' => ?_) (fun i x σ' H' hx hp' => ?_) (fun σ' H' hp' => ?_)⟩
    · refine ⟨hP4, [], [], [], _, none, none, none, ⟨s03, hm1.same s13, s3 _ _ hd2, (fun a x => ⟨fun z => (by cases z), fun ⟨p, z, _⟩ => (by cases z)⟩), Nat.zero_le _, s3 _ _ hD3, ⟨rfl, fun i v e => by cases e⟩, hD4, Nat.le_refl _, fun j c p e => (by cases e), fun c hc => (by cases hc), fun l => ⟨[], rfl, fun p hp => by cases hp⟩⟩, rfl⟩
    · obtain ⟨_, kvs2, zs, ps, m, y5, y6, y7, I, _⟩ := hp'
      exact .inl (.inl I.d4)
    · obtain ⟨hP, kvs2, zs, ps, m, y5, y6, y7, I, rfl⟩ := hp'
      obtain ⟨a, b, T, e1, rfl, hT⟩ := hP.get hx
      have hi : i < ys.length := (List.getElem?_eq_some_iff.mp hx).1
      have cin := List.mem_of_getElem? e1
      obtain ⟨r, hr1, hr2, hr3⟩ := mem_plD.1 cin
      have rl := hs.1 r (List.mem_of_getElem? hr1)
      have e2 : (r.ws.drop b).take L = runD rs L (a, b) := (runD_at hr1).symm
      refine ⟨_, rfl, _, rfl, _, rfl, p, T, xs, rs, a, b, L, r, rfl, I.sm.seq hp, hR.same I.sm, hT, hr1, hr3, fun H4 W s4 hW => ?_⟩
      rw [e2, ← txK_V] at hW
      have I4 : Pass K H H4 rs L d d2 D3 D4 kvs1 ys i kvs2 zs ps m := ⟨I.sm.trans s4, I.pl.same s4, s4 _ _ I.us, I.ok, I.ul, s4 _ _ I.d3, I.pr.same s4, s4 _ _ I.d4, I.le, I.gr, I.nm, I.lf⟩
      have hP4 := hP.same s4
      have hT4 := sameT s4 hT
      clear I hP hT
      -- nothing is found at this place
      have skip : ∀ (H5 : Hp) (m' : List Str → List Pl) (y : Option V), Pass K H H5 rs L d d2 D3 D4 kvs1 ys i kvs2 zs ps m' → PairsAt K H5 ys (cutP rs L) → (FreeP L (blkOf ps) (a, b) → ∀ p' ∈ putP rs L, FreeP L (blkOf ps) p' → runD rs L p' ≠ runD rs L (a, b)) →
          PairsAt K H5 ys (cutP rs L) ∧ ∃ kvs2 zs ps m y5 y6 y7, Pass K H H5 rs L d d2 D3 D4 kvs1 ys (i + 1) kvs2 zs ps m ∧ ([some (.ref p), some (.int (L : Int)), some (.ref d), some (.ref d2), some (.ref D3), some (.ref T), some (.ref W), y] : L2.St) = [some (.ref p), some (.int (L : Int)), some (.ref d), some (.ref d2), some (.ref D3), y5, y6, y7] := fun H5 m' y J hP5 no => by
        refine ⟨hP5, kvs2, zs, ps, m', some (.ref T), some (.ref W), y, ⟨J.sm, J.pl, J.us, J.ok, J.ul, J.d3, J.pr, J.d4, Nat.le_succ_of_le J.le, J.gr, ?_, J.lf⟩, rfl⟩
        rw [take_snoc e1]
        exact J.nm.snoc no
      refine ⟨_, rfl, _, rfl, d, _, rfl, DGet.t I4.pl.dic hW, _, rfl, ?_⟩
      cases hv : valV kvs1 (txK (runD rs L (a, b))) with
      | none =>
        refine iteF (iteF (skip H4 m _ I4 hP4 fun _ p' hp1 hp2 e => ?_))
        have z := I4.pl.nil _ hv
        obtain ⟨pre, h1, h2⟩ := I4.lf (runD rs L (a, b))
        rw [z, List.append_nil] at h1
        exact h2 p' (by rw [← h1]; exact mem_runsAt.2 ⟨hp1, e⟩) hp2
      | some v =>
        refine iteT ⟨_, rfl, _, rfl, _, rfl, d2, T, kvs2, a, b, L, rfl, I4.us, hT4, hL, fun H5 s5 => ⟨_, rfl, ?_⟩⟩
        have I5 : Pass K H H5 rs L d d2 D3 D4 kvs1 ys i kvs2 zs ps m := ⟨I4.sm.trans s5, I4.pl.same s5, s5 _ _ I4.us, I4.ok, I4.ul, s5 _ _ I4.d3, I4.pr.same s5, s5 _ _ I4.d4, I4.le, I4.gr, I4.nm, I4.lf⟩
        have hP5 := hP4.same s5
        have hT5 := sameT s5 hT4
        have hW5 := s5 _ _ hW
        clear I4 hP4 hT4 hW
        have cf := free_iff hL I5.ok (p := (a, b))
        have ef : (!usedB kvs2 a b && !usedB kvs2 a (b + L - 1)) = freeB kvs2 L (a, b) := rfl
        rw [ef]
        cases hf : freeB kvs2 L (a, b) with
        | false =>
          refine iteF (skip H5 m _ I5 hP5 fun z => ?_)
          rw [cf.2 z] at hf
          cases hf
        | true =>
          have cfr := cf.1 hf
          obtain ⟨D', ls, rfl, hD', hPl, nHD⟩ := I5.pl.lsts _ _ hv
          obtain ⟨f3, f4, f2⟩ := far _ _ hv
          have nT := noTup hD'
          refine iteT ⟨_, rfl, _, rfl, d, _, rfl, by rw [← hv]; exact DGet.t I5.pl.dic hW5, ?_⟩
          refine ⟨_, rfl, _, rfl, D', d2, ls, m (runD rs L (a, b)), kvs2, L, rfl, hD', hPl, I5.us, hL, fun H6 ws sb hD6 hP6 => ?_⟩
          have I6 : ∀ q', PairsAt K H6 ws q'.reverse → (∃ pre, m (runD rs L (a, b)) = pre ++ q' ∧ ∀ p ∈ pre, ¬ FreeP L (blkOf ps) p) → Pass K H H6 rs L d d2 D3 D4 kvs1 ys i kvs2 zs ps (fun l' => if l' = runD rs L (a, b) then q' else m l') := fun q' hq ⟨pre, g1, g2⟩ =>
            ⟨same_new I5.sm sb nHD, I5.pl.set hv hD' sb hD6 hq, sb _ _ (Ne.symm f2) I5.us, I5.ok, I5.ul, sb _ _ (Ne.symm f3) I5.d3, sb.pr nT I5.pr, sb _ _ (Ne.symm f4) I5.d4, I5.le, I5.gr, I5.nm, fun l => by
              obtain ⟨pre0, h1, h2⟩ := I5.lf l
              by_cases z : l = runD rs L (a, b)
              · subst z
                rw [if_pos rfl]
                refine ⟨pre0 ++ pre, by rw [h1, g1, List.append_assoc], fun p hp => ?_⟩
                rcases List.mem_append.mp hp with z | z
                · exact h2 p z
                · exact g2 p z
              · rw [if_neg z]
                exact ⟨pre0, h1, h2⟩⟩
          have hP7 := sb.pairs nT hP5
          have hT6 := sb.sqT nT hT5
          obtain ⟨pre0, h1, h2⟩ := I5.lf (runD rs L (a, b))
          rcases nextD_spec kvs2 L (m (runD rs L (a, b))) with ⟨pre, c', q', g1, g2, g3, g4⟩ | ⟨g1, g2⟩
          · have g3' : ∀ p ∈ pre, ¬ FreeP L (blkOf ps) p := fun p hp f => by
              have := g3 p hp
              rw [(free_iff hL I5.ok).2 f] at this
              cases this
            have pfr := (free_iff hL I5.ok).1 g4
            refine ⟨fun z => (by rw [g1] at z; cases z), fun c'' T' z hT' => ?_⟩
            rw [g1] at z hP6
            cases z
            obtain ⟨a2, b2⟩ := c'
            have cm : (a2, b2) ∈ runsAt rs L (putP rs L) (runD rs L (a, b)) := by
              rw [h1, g2]
              exact List.mem_append_right _ (List.mem_append_right _ List.mem_cons_self)
            obtain ⟨pin, peq⟩ := mem_runsAt.1 cm
            obtain ⟨r', k1, k2, k3⟩ := mem_plD.1 pin
            have rl' := hs.1 r' (List.mem_of_getElem? k1)
            have fst : First rs L (blkOf ps) (a, b) (a2, b2) := ⟨cin, pin, cfr, pfr, peq, fun c' hc' lt fr => I5.nm c' (sorted_take (plD_sorted _ _ _ _).1 e1 hc' lt) fr, fun p' hp1 lt hp2 e => by
              have hm : p' ∈ runsAt rs L (putP rs L) (runD rs L (a, b)) := mem_runsAt.2 ⟨hp1, e⟩
              have so := runsAt_sorted rs L (runD rs L (a, b))
              rw [h1, g2] at hm so
              rcases List.mem_append.mp hm with z | z
              · exact h2 p' z hp2
              · rcases List.mem_append.mp z with z | z
                · exact g3' p' z hp2
                · rcases List.mem_cons.mp z with z | z
                  · subst z
                    exact lt.irr
                  · have so := (List.pairwise_append.mp so).2.1
                    have so := (List.pairwise_append.mp so).2.1
                    exact (List.rel_of_pairwise_cons so z).asymm lt⟩
            have bl3 := blkOf_snoc ps ((a, b), (a2, b2))
            have sub : ∀ p ∈ blkOf ps, p ∈ blkOf (ps ++ [((a, b), (a2, b2))]) := fun p hp => by
              rw [bl3]
              exact List.mem_append_left _ (List.mem_append_left _ hp)
            have inn := blkOf_mem (ps := ps ++ [((a, b), (a2, b2))]) (p := ((a, b), (a2, b2))) (by simp)
            have lf' : Left rs L (blkOf (ps ++ [((a, b), (a2, b2))])) (fun l' => if l' = runD rs L (a, b) then q' else m l') := fun l => by
              obtain ⟨pre1, h3, h4⟩ := I5.lf l
              by_cases z : l = runD rs L (a, b)
              · subst z
                dsimp only
                rw [if_pos rfl]
                refine ⟨pre1 ++ (pre ++ [(a2, b2)]), by rw [h3, g2]; simp, fun p hp f => ?_⟩
                rcases List.mem_append.mp hp with z | z
                · exact h4 p z (f.mono sub)
                · rcases List.mem_append.mp z with z | z
                  · exact g3' p z (f.mono sub)
                  · rw [List.mem_singleton.mp z] at f
                    exact FreeP.not hL inn.2 f
              · dsimp only
                rw [if_neg z]
                exact ⟨pre1, h3, fun p hp f => h4 p hp (f.mono sub)⟩
            have ul := I5.ul
            have pl := I5.le
            have pl2 : ps.length ≤ 1000 := by omega
            have len1 := useD_len kvs2 a b L
            have len2 := useD_len (useD kvs2 a b L) a2 b2 L
            have sm6 := same_new I5.sm sb nHD
            have pl6 := I5.pl.set hv hD' sb hD6 hP6
            have us6 := sb _ _ (Ne.symm f2) I5.us
            have d36 := sb _ _ (Ne.symm f3) I5.d3
            have pr6 := sb.pr nT I5.pr
            have d46 := sb _ _ (Ne.symm f4) I5.d4
            have n2T := noTupD us6
            have D32 : D3 ≠ d2 := ne_of d36 us6 (by intro z; cases z)
            have D42 : D4 ≠ d2 := ne_of d46 us6 (by intro z; cases z)
            refine ⟨_, rfl, true, rfl, iteT ⟨_, rfl, _, rfl, _, rfl, d2, T, kvs2, a, b, L, rfl, us6, hT6, by omega, by omega, fun H7 sb7 us7 => ?_⟩⟩
            have n2T7 := noTupD us7
            refine ⟨_, rfl, _, rfl, _, rfl, d2, T', useD kvs2 a b L, a2, b2, L, rfl, us7, sb7.sqT n2T hT', by omega, by omega, fun H8 sb8 us8 => ?_⟩
            have sb78 := sb7.trans sb8
            have sm8 := same_new sm6 sb78 n2
            have pl8 := pl6.far sb78 n2T dd2 fun l D e => (far l D e).2.2
            have d38 := sb78 _ _ D32 d36
            have pr8 := sb78.pr n2T pr6
            have d48 := sb78 _ _ D42 d46
            have hP8 := sb78.pairs n2T hP7
            have hT8 := sb78.sqT n2T hT6
            have hT8' := sb78.sqT n2T hT'
            refine ⟨_, rfl, .inl ⟨rfl, _, .inl (.inl d38)⟩, _, rfl, _, rfl, by show 2 ≤ sizeLine; decide, fun Z nZ => ?_⟩
            have s9 : Same H8 (upd H8 Z (.tup [.ref T, .ref T'])) := same_upd nZ
            have hZ : SqT K (upd H8 Z (.tup [.ref T, .ref T'])) Z [.ref T, .ref T'] := .inl (.inl upd_same)
            generalize upd H8 Z (.tup [.ref T, .ref T']) = H9 at s9 hZ
            have d39 := s9 _ _ d38
            have zl := (pr8.same s9).1
            have n3T := noTup d39
            have sbD : SameB D3 H9 (upd H9 D3 (.lst (zs ++ [.ref Z]))) := sameB_upd
            refine ⟨D3, zs, _, rfl, rfl, d39, Nat.lt_of_le_of_lt (show zs.length ≤ 1000 by omega) (by decide), sbD.pairs n3T (hP8.same s9), useD (useD kvs2 a b L) a2 b2 L, zs ++ [.ref Z], ps ++ [((a, b), (a2, b2))], _, some (.ref T), some (.ref W), some (.ref T'), ⟨same_new (sm8.trans s9) sbD n3, (pl8.same s9).far sbD n3T (ne_of (s9 _ _ pl8.dic) d39 (by intro z; cases z)) fun l D e => (far l D e).1, sbD _ _ (Ne.symm D32) (s9 _ _ us8), ?_, ?_, upd_same, ?_, sbD _ _ (Ne.symm D34) (s9 _ _ d48), ?_, I5.gr.snoc fst, ?_, lf'⟩, rfl⟩
            · rw [bl3]
              exact (I5.ok.put (a, b)).put (a2, b2)
            · rw [List.length_append]
              show _ ≤ 2000 * (ps.length + 1)
              omega
            · exact (sbD.pr n3T (pr8.same s9)).snoc (sqT_set n3T hZ) (sqT_set n3T (sameT s9 hT8)) (sqT_set n3T (sameT s9 hT8'))
            · rw [List.length_append]
              exact Nat.succ_le_succ pl
            · rw [take_snoc e1]
              exact (I5.nm.mono sub).snoc fun f => absurd f (FreeP.not hL inn.1)
          · refine ⟨fun _ => ?_, fun c T' z => (by rw [g1] at z; cases z)⟩
            rw [g1] at hP6
            refine ⟨_, rfl, false, rfl, iteF (skip H6 _ _ (I6 [] hP6 ⟨_, (List.append_nil _).symm, fun p hp f => ?_⟩) hP7 fun _ p' hp1 hp2 e => ?_)⟩
            · have := g2 p hp
              rw [(free_iff hL I5.ok).2 f] at this
              cases this
            · have hm : p' ∈ runsAt rs L (putP rs L) (runD rs L (a, b)) := mem_runsAt.2 ⟨hp1, e⟩
              rw [h1] at hm
              rcases List.mem_append.mp hm with z | z
              · exact h2 p' z hp2
              · have := g2 p' z
                rw [(free_iff hL I5.ok).2 hp2] at this
                cases this
    · obtain ⟨_, kvs2, zs, ps, m, y5, y6, y7, I, rfl⟩ := hp'
      have nm := I.nm
      rw [List.take_of_length_le (by rw [yl]; exact Nat.le_refl _)] at nm
      have le := I.le
      exact ⟨_, rfl, q H' D3 zs ps I.sm n3 I.d3 I.pr (by omega) I.gr nm⟩
end
/-! ### a row in parts -/
abbrev rLenB (K : PySem.W.Frag) : List V → Hp → (V → Hp → Prop) → Prop := fun xs H Q => ∃ p ys, xs = [V.ref p] ∧ (SqL K H p ys ∨ SqT K H p ys) ∧ Q (.int ys.length) H
def BnAt (H : Hp) (ys : List V) (bs : List (Nat × Nat)) : Prop := ys.length = bs.length ∧ ∀ (i : Nat) (v : V), ys[i]? = some v → ∃ b n T, bs[i]? = some (b, n) ∧ v = .ref T ∧ H T = some (.tup [.int ((b : Nat) : Int), .int ((n : Nat) : Int)])
theorem BnAt.same {H H' : Hp} {ys : List V} {bs : List (Nat × Nat)} (s : Same H H') (h : BnAt H ys bs) : BnAt H' ys bs :=
  ⟨h.1, fun i v e => let ⟨b, n, T, h1, h2, h3⟩ := h.2 i v e; ⟨b, n, T, h1, h2, s _ _ h3⟩⟩
theorem BnAt.snoc {H : Hp} {ys : List V} {bs : List (Nat × Nat)} {b n : Nat} {T : Addr} (h : BnAt H ys bs) (h3 : H T = some (.tup [.int (b : Int), .int (n : Int)])) : BnAt H (ys ++ [.ref T]) (bs ++ [(b, n)]) := by
  refine ⟨by rw [List.length_append, List.length_append, h.1]; rfl, fun i v e => ?_⟩
  rcases Nat.lt_or_ge i ys.length with z | z
  · rw [List.getElem?_append_left z] at e
    obtain ⟨b, n, T, h1, h2⟩ := h.2 i v e
    exact ⟨b, n, T, by rw [List.getElem?_append_left (by rw [← h.1]; exact z)]; exact h1, h2⟩
  · rw [List.getElem?_append_right z] at e
    have hi : i = ys.length := by
      have := (List.getElem?_eq_some_iff.mp e).1
      have : i - ys.length < 1 := this
      omega
    subst hi
    rw [Nat.sub_self] at e
    cases e
    exact ⟨b, n, T, by rw [h.1, List.getElem?_append_right (Nat.le_refl _), Nat.sub_self]; rfl, rfl, h3⟩
/-- the two ints of a tracked pair -/
def intsV (H : Hp) : V → Int × Int
  | .ref t => match H t with
    | some (.tup [.int x, .int y]) => (x, y)
    | _ => (0, 0)
  | _ => (0, 0)
theorem intsV_of {H : Hp} {T : Addr} {x y : Int} (h : H T = some (.tup [.int x, .int y])) : intsV H (.ref T) = (x, y) := by
  unfold intsV
  dsimp only
  rw [h]
theorem SameB.bn {d : Addr} {H H' : Hp} {ys : List V} {bs : List (Nat × Nat)} (s : SameB d H H') (hd : ∀ ys, ¬ Rd H d (.tup ys)) (h : BnAt H ys bs) : BnAt H' ys bs :=
  ⟨h.1, fun i v e => let ⟨b, n, T, h1, h2, h3⟩ := h.2 i v e; ⟨b, n, T, h1, h2, s _ _ (fun z => hd _ (.inl (z ▸ h3))) h3⟩⟩
theorem SameB.rowT {K : PySem.W.Frag} {d : Addr} {H H' : Hp} {v : V} {r : RowD} (s : SameB d H H') (hd : ∀ ys, ¬ Rd H d (.tup ys)) (h : RowT K H v r) : RowT K H' v r :=
  let ⟨T, W, e, h1, h2⟩ := h; ⟨T, W, e, s.sqT hd h1, s _ _ (fun z => hd _ (.inl (z ▸ h2))) h2⟩
theorem SameB.rows {K : PySem.W.Frag} {d : Addr} {H H' : Hp} {xs : List V} {rs : List RowD} (s : SameB d H H') (hd : ∀ ys, ¬ Rd H d (.tup ys)) (h : RowsT K H xs rs) : RowsT K H' xs rs :=
  ⟨h.1, fun i v e => let ⟨r, h1, h2⟩ := h.2 i v e; ⟨r, h1, s.rowT hd h2⟩⟩
def natsV (H : Hp) (v : V) : Nat × Nat := ((intsV H v).1.toNat, (intsV H v).2.toNat)
theorem BnAt.map {H : Hp} {ys : List V} {bs : List (Nat × Nat)} (h : BnAt H ys bs) : ys.map (natsV H) = bs := by
  refine List.ext_getElem? fun i => ?_
  rw [List.getElem?_map]
  cases e : ys[i]? with
  | none =>
    have := List.getElem?_eq_none_iff.mp e
    rw [List.getElem?_eq_none (by rw [← h.1]; exact this)]
    rfl
  | some v =>
    obtain ⟨b, n, T, h1, rfl, h3⟩ := h.2 i v e
    rw [h1]
    show some (natsV H (.ref T)) = _
    unfold natsV
    rw [intsV_of h3]
    rfl
/-- another order -/
theorem BnAt.perm {H : Hp} {ys zs : List V} {bs : List (Nat × Nat)} (h : BnAt H ys bs) (p : zs.Perm ys) : BnAt H zs (zs.map (natsV H)) ∧ (zs.map (natsV H)).Perm bs := by
  refine ⟨⟨by rw [List.length_map], fun i v e => ?_⟩, by rw [← h.map]; exact p.map _⟩
  have hm : v ∈ ys := p.mem_iff.mp (List.mem_of_getElem? e)
  obtain ⟨j, hj⟩ := List.mem_iff_getElem?.mp hm
  obtain ⟨b, n, T, _, rfl, h3⟩ := h.2 j v hj
  refine ⟨b, n, T, ?_, rfl, h3⟩
  rw [List.getElem?_map, e]
  show some (natsV H (.ref T)) = _
  unfold natsV
  rw [intsV_of h3]
  rfl
/-- a row's parts, plainly -/
def partD (k bk : Str) (ws : List Str) (L : Nat) : Nat → List (Nat × Nat) → List RowD
  | e, [] => [⟨k, 0, ws.drop e⟩]
  | e, (b, n) :: bs => ⟨k, 0, (ws.drop e).take (b - e)⟩ :: ⟨bk, (n : Int), (ws.drop b).take L⟩ :: partD k bk ws L (b + L) bs
def someB (r : RowD) : Bool := decide (0 < r.ws.length)
theorem partD_len (k bk : Str) (ws : List Str) (L : Nat) : ∀ (bs : List (Nat × Nat)) (e : Nat), (partD k bk ws L e bs).length = 2 * bs.length + 1
  | [], _ => rfl
  | (b, n) :: bs, e => by
    show (partD k bk ws L (b + L) bs).length + 1 + 1 = _
    rw [partD_len k bk ws L bs, List.length_cons]
    omega
/-- the parts ahead of the rest -/
def partsTo (k bk : Str) (ws : List Str) (L : Nat) : Nat → List (Nat × Nat) → List RowD
  | _, [] => []
  | e, (b, n) :: bs => ⟨k, 0, (ws.drop e).take (b - e)⟩ :: ⟨bk, (n : Int), (ws.drop b).take L⟩ :: partsTo k bk ws L (b + L) bs
def endTo (L : Nat) : Nat → List (Nat × Nat) → Nat
  | e, [] => e
  | _, (b, _) :: bs => endTo L (b + L) bs
theorem partsTo_end (k bk : Str) (ws : List Str) (L : Nat) : ∀ (bs : List (Nat × Nat)) (e : Nat), partD k bk ws L e bs = partsTo k bk ws L e bs ++ [⟨k, 0, ws.drop (endTo L e bs)⟩]
  | [], _ => rfl
  | (b, n) :: bs, e => by
    show _ :: _ :: partD k bk ws L (b + L) bs = _ :: _ :: (partsTo k bk ws L (b + L) bs ++ _)
    rw [partsTo_end k bk ws L bs]
    rfl
theorem partsTo_snoc (k bk : Str) (ws : List Str) (L : Nat) (b n : Nat) : ∀ (bs : List (Nat × Nat)) (e : Nat), partsTo k bk ws L e (bs ++ [(b, n)]) = partsTo k bk ws L e bs ++ [⟨k, 0, (ws.drop (endTo L e bs)).take (b - endTo L e bs)⟩, ⟨bk, (n : Int), (ws.drop b).take L⟩]
  | [], _ => rfl
  | (b', n') :: bs, e => by
    show _ :: _ :: partsTo k bk ws L (b' + L) (bs ++ [(b, n)]) = _
    rw [partsTo_snoc k bk ws L b n bs]
    rfl
theorem endTo_snoc (L b n : Nat) : ∀ (bs : List (Nat × Nat)) (e : Nat), endTo L e (bs ++ [(b, n)]) = b + L
  | [], _ => rfl
  | (b', n') :: bs, e => endTo_snoc L b n bs (b' + L)
theorem endTo_le {L m : Nat} : ∀ (bs : List (Nat × Nat)) (e : Nat), e ≤ m → (∀ p ∈ bs, p.1 + L ≤ m) → endTo L e bs ≤ m
  | [], _, h, _ => h
  | p :: bs, _, _, h => endTo_le bs _ (h p List.mem_cons_self) fun q hq => h q (List.mem_cons_of_mem _ hq)
theorem cut_mm (xs : List Str) (a b : Nat) (ha : a ≤ xs.length) (hb : b ≤ xs.length) : cutV (xs.map V.str) (some (a : Int)) (some (b : Int)) = ((xs.drop a).take (b - a)).map V.str := by
  unfold cutV
  rw [HT.sIx_nat, HT.sIx_nat, List.length_map, Nat.min_eq_left ha, Nat.min_eq_left hb, List.map_take, List.map_drop]
theorem cut_mn (xs : List Str) (a : Nat) (ha : a ≤ xs.length) : cutV (xs.map V.str) (some (a : Int)) none = (xs.drop a).map V.str := by
  unfold cutV
  rw [HT.sIx_nat, HT.sIx_none, List.length_map, Nat.min_eq_left ha, List.map_drop]
  exact List.take_of_length_le (by rw [List.length_drop, List.length_map]; exact Nat.le_refl _)
/-- a slice of a tracked tuple of words -/
theorem sl_mm {K : PySem.W.Frag} {H : Hp} {W : Addr} {ws : List Str} {a b : Nat} {Q : VK} (hW : H W = some (.tup (ws.map V.str))) (ha : a ≤ ws.length) (hb : b ≤ ws.length) (q : ∀ H' W', Same H H' → H' W' = some (.tup (((ws.drop a).take (b - a)).map V.str)) → Q (.ref W') H') :
    rSlA K (.ref W) (some (a : Int)) (some (b : Int)) H Q := by
  refine ⟨W, _, rfl, .inl (.inl hW), fun hw => q H W (Same.refl _) ?_, fun hw p np => q _ p (same_upd np) ?_⟩
  · rw [HT.sIx_nat, HT.sIx_nat, List.length_map, Nat.min_eq_left ha, Nat.min_eq_left hb] at hw
    obtain ⟨e1, e2⟩ := hw
    subst e1 e2
    rw [List.drop_zero, Nat.sub_zero, List.take_length]
    exact hW
  · rw [upd_same, cut_mm ws a b ha hb]
theorem sl_mn {K : PySem.W.Frag} {H : Hp} {W : Addr} {ws : List Str} {a : Nat} {Q : VK} (hW : H W = some (.tup (ws.map V.str))) (ha : a ≤ ws.length) (q : ∀ H' W', Same H H' → H' W' = some (.tup ((ws.drop a).map V.str)) → Q (.ref W') H') :
    rSlA K (.ref W) (some (a : Int)) none H Q := by
  refine ⟨W, _, rfl, .inl (.inl hW), fun hw => q H W (Same.refl _) ?_, fun hw p np => q _ p (same_upd np) ?_⟩
  · rw [HT.sIx_nat, List.length_map, Nat.min_eq_left ha] at hw
    obtain ⟨e1, _⟩ := hw
    subst e1
    rw [List.drop_zero]
    exact hW
  · rw [upd_same, cut_mn ws a ha]
/-- a new row put behind a list of rows -/
theorem app_row {K : PySem.W.Frag} {H : Hp} {D T W : Addr} {zs : List V} {rs : List RowD} {k : Str} {n : Int} {ws : List Str} (hD : H D = some (.lst zs)) (hZ : RowsT K H zs rs) (hW : H W = some (.tup (ws.map V.str))) (nT : H T = none) :
    (upd H T (.tup [.str k, .int n, .ref W])) D = some (.lst zs) ∧ SameB D H (upd (upd H T (.tup [.str k, .int n, .ref W])) D (.lst (zs ++ [.ref T]))) ∧ RowsT K (upd (upd H T (.tup [.str k, .int n, .ref W])) D (.lst (zs ++ [.ref T]))) (zs ++ [.ref T]) (rs ++ [⟨k, n, ws⟩]) := by
  have s1 : Same H (upd H T (.tup [.str k, .int n, .ref W])) := same_upd nT
  have hD1 := s1 _ _ hD
  have hT1 : (upd H T (.tup [.str k, .int n, .ref W])) T = some (.tup [.str k, .int n, .ref W]) := upd_same
  have hZ1 := hZ.same s1
  have hW1 := s1 _ _ hW
  generalize upd H T (.tup [.str k, .int n, .ref W]) = H1 at s1 hD1 hT1 hZ1 hW1 ⊢
  refine ⟨hD1, (same_b s1).trans sameB_upd, RowsT.set (noTup hD1) (hZ1.app (RowsT.one (r := ⟨k, n, ws⟩) ⟨T, W, rfl, .inl (.inl hT1), hW1⟩))⟩
theorem nat_add_int (a b : Nat) : (a : Int) + (b : Int) = ((a + b : Nat) : Int) := by omega
section
variable {P : Program} {w : World} {K : PySem.W.Frag} {mg : Str → Option Value} {base : Heap}
abbrev partedN : List Str := ["row", "block_kind", "blocks", "length", "kind", "_", "words", "parts", "end", "begin", "number", "part"]
theorem scRowParted : FnScope partedN ["row", "block_kind", "blocks", "length"] (defScope sRowParted) := ⟨rfl, rfl, rfl, by decide +kernel, rfl, by decide +kernel, by decide +kernel⟩
def spRowParted (K : PySem.W.Frag) : Sp := fun vs H Q _ => ∃ (R B : Addr) (r : RowD) (bk : Str) (ys : List V) (bs : List (Nat × Nat)) (L : Nat), vs = [.ref R, .str bk, .ref B, .int (L : Int)] ∧ RowT K H (.ref R) r ∧ r.num = 0 ∧ SqL K H B ys ∧ BnAt H ys bs ∧ (∀ p ∈ bs, p.1 + L ≤ r.ws.length) ∧ bs.length ≤ 2000 ∧
  ∀ (H' : Hp) (D : Addr) (zs : List V) (bs' : List (Nat × Nat)), Same H H' → H D = none → H' D = some (.lst zs) → bs'.Perm bs → bs'.Pairwise (fun p q => p.1 ≤ q.1) → RowsT K H' zs ((partD r.kind bk r.ws L 0 bs').filter someB) → Q (.ref D) H'
theorem ok_row_parted {f : Addr} {fd : FuncData} (F : FnP K "row_parted" sRowParted f fd) (mS : mg "sorted" = none) (mL : mg "len" = none) : FnOk P w K mg base (L2.CX P w) 1 f fd ["row", "block_kind", "blocks", "length"] (spRowParted K) := by
  refine F.ok scRowParted (fun vs H Q E h => ?_) (fun cdv A outer s H vs Q E hr h => ?_)
  · obtain ⟨R, B, r, bk, ys, bs, L, rfl, _⟩ := h
    rfl
  · obtain ⟨R, B, r, bk, ys, bs, L, rfl, hR, hnum, hB, hbs, hin, hbl, q⟩ := h
    refine ⟨_, pss_cons (ps_asg (pv 0) (pg_tup (by rfl) (pgs_cons (pg_name (i := 4) scRowParted.nd rfl (.inl rfl)) (pgs_cons (pg_name (i := 5) scRowParted.nd rfl (.inl rfl)) (pgs_cons (pg_name (i := 6) scRowParted.nd rfl (.inl rfl)) pgs_nil)))))
      (pss_cons (ps_set (i := 7) scRowParted.nd rfl (.inl rfl) (pe_lst pa_nil))
      (pss_cons (ps_set (i := 8) scRowParted.nd rfl (.inl rfl) pe_int)
      (pss_cons (ps_for (passes_of rfl) rfl (pi_list (pe_callB cr_sortedPO (by rfl) mS PyProof.Rows.boot_sorted (pa_cons (pv 2) pa_nil))) (pg_tup (by rfl) (pgs_cons (pg_name (i := 9) scRowParted.nd rfl (.inl rfl)) (pgs_cons (pg_name (i := 10) scRowParted.nd rfl (.inl rfl)) pgs_nil)))
        (pss_cons (ps_expr (pe_bm PySem.F.plainAttrs_list PySem.F.slot_list_append PySem.F.type_list_append mt_append (pv 7) (pa_cons (pe_tup (pa_cons (pv 4) (pa_cons pe_int (pa_cons (pe_slice sl_tupA (pv 6) (po_some (pv 8)) (po_some (pv 9))) pa_nil)))) pa_nil)))
        (pss_cons (ps_set (i := 8) scRowParted.nd rfl (.inl rfl) (pe_op op_add (pv 9) (pv 3)))
        (pss_one (ps_expr (pe_bm PySem.F.plainAttrs_list PySem.F.slot_list_append PySem.F.type_list_append mt_append (pv 7) (pa_cons (pe_tup (pa_cons (pv 1) (pa_cons (pv 10) (pa_cons (pe_slice sl_tupA (pv 6) (po_some (pv 9)) (po_some (pv 8))) pa_nil)))) pa_nil)))))))
      (pss_cons (ps_expr (pe_bm PySem.F.plainAttrs_list PySem.F.slot_list_append PySem.F.type_list_append mt_append (pv 7) (pa_cons (pe_tup (pa_cons (pv 4) (pa_cons pe_int (pa_cons (pe_slice sl_tupA (pv 6) (po_some (pv 8)) po_none) pa_nil)))) pa_nil)))
      (pss_one (ps_ret (pe_lc (own := [("part", 11)]) (g := gName 11) rfl scRowParted.nd (pi_list (pv 7)) (blkOk_by (N := partedN) (sc := defScope sRowParted) (by decide +kernel))
        (fun _ _ _ _ _ => pg_name (i := 11) scRowParted.nd rfl (Or.inl rfl)) (fun _ _ _ _ _ => pts_one (pt_cmpR op_gt (pe_callB (r := rLenB K) call_len_seq (by rfl) mL PySem.boot_len (pa_cons (pe_ix (r := rIxT K) ix_tup (pv 11) pe_int (fun _ _ => rfl)) pa_nil)) pe_int (nomark _))) (fun _ _ _ _ _ => pv 11)))))))), ?_⟩
    obtain ⟨T, W, eR, hT, hW⟩ := hR
    cases eR
    refine ⟨_, rfl, R, _, rfl, hT, rfl, _, _, rfl, _, _, rfl, _, _, rfl, rfl, ?_⟩
    refine ⟨by show 0 ≤ sizeLine; decide, fun D nD => ?_⟩
    have s0 := same_upd nD (o := .lst [])
    have hD0 : (upd H D (.lst [])) D = some (.lst []) := upd_same
    generalize upd H D (.lst []) = H1 at s0 hD0
    have hb1 := hbs.same s0
    have keyOf : ∀ x ∈ ys, ∃ t, x = V.ref t ∧ H1 t = some (.tup [.int (intsV H1 x).1, .int (intsV H1 x).2]) := fun x hx => by
      obtain ⟨i, hi⟩ := List.mem_iff_getElem?.mp hx
      obtain ⟨b, n, T, _, rfl, h3⟩ := hb1.2 i x hi
      exact ⟨T, rfl, by rw [intsV_of h3]; exact h3⟩
    refine ⟨_, rfl, B, ys, intsV H1, rfl, s0.seq hB, keyOf, fun ys' p srt stb np => ?_⟩
    obtain ⟨hbn, hperm⟩ := hb1.perm stb.perm
    have hsort : (ys'.map (natsV H1)).Pairwise (fun p q => p.1 ≤ q.1) := by
      rw [List.pairwise_map]
      refine List.Pairwise.imp (fun {x y} h => ?_) srt
      have h := SrtO.lexB_no.mp h
      show (intsV H1 x).1.toNat ≤ (intsV H1 y).1.toNat
      omega
    generalize ys'.map (natsV H1) = bs' at hbn hperm hsort
    have s1 : Same H1 (upd H1 p (.lst ys')) := same_upd np
    have hp2 : (upd H1 p (.lst ys')) p = some (.lst ys') := upd_same
    have hb2 := hbn.same s1
    have hD2 := s1 _ _ hD0
    have s02 := s0.trans s1
    have hW2 := s02 _ _ hW
    generalize upd H1 p (.lst ys') = H2 at s1 hp2 hb2 hD2 s02 hW2
    have pD : p ≠ D := fun z => by
      subst z
      rw [hD0] at np
      cases np
    have nT := noTup hD2
    have yl := hb2.1
    have inb : ∀ p ∈ bs', p.1 + L ≤ r.ws.length := fun p hp => hin p (hperm.mem_iff.mp hp)
    have bl : bs'.length ≤ 2000 := by rw [hperm.length_eq]; exact hbl
    refine ⟨p, rfl, ⟨_, .inl (.inl hp2)⟩, for_list (xs := ys') (fun i σ' H' => SameB D H2 H' ∧ ∃ zs y9 y10, H' D = some (.lst zs) ∧ RowsT K H' zs (partsTo r.kind bk r.ws L 0 (bs'.take i)) ∧ zs.length ≤ 2 * i ∧ σ' = [some (.ref R), some (.str bk), some (.ref B), some (.int (L : Int)), some (.str r.kind), some (.int r.num), some (.ref W), some (.ref D), some (.int ((endTo L 0 (bs'.take i) : Nat) : Int)), y9, y10, none]) ⟨SameB.refl, [], none, none, hD2, ⟨rfl, fun i v e => by cases e⟩, Nat.le_refl _, rfl⟩ (fun i σ' H' _ hp' => .inl (.inl (hp'.1 _ _ pD hp2))) (fun i x σ' H' hx hp' => ?_) (fun σ' H' hp' => ?_)⟩
    · obtain ⟨sb, zs, y9, y10, hD, hZ, zl, rfl⟩ := hp'
      obtain ⟨b, n, T, e1, rfl, hT⟩ := (sb.bn nT hb2).2 i x hx
      have hi := (List.getElem?_eq_some_iff.mp hx).1
      have ib := inb _ (List.mem_of_getElem? e1)
      have ib : b + L ≤ r.ws.length := ib
      have ee := endTo_le (L := L) (m := r.ws.length) (bs'.take i) 0 (Nat.zero_le _) fun p hp => inb p (List.mem_of_mem_take hp)
      have hW' := sb _ _ (fun z => nT _ (.inl (z ▸ hW2))) hW2
      refine ⟨T, _, rfl, .inl (.inl hT), rfl, _, _, rfl, _, _, rfl, rfl, ?_⟩
      refine ⟨_, rfl, .inl ⟨rfl, _, .inl (.inl hD)⟩, _, rfl, _, rfl, _, rfl, _, rfl, _, rfl, _, rfl, sl_mm hW' ee (by omega) fun H3 W3 s3 hW3 => ⟨by show 3 ≤ sizeLine; decide, fun T3 nT3 => ?_⟩⟩
      have sb3 := sb.trans (same_b s3)
      obtain ⟨g1, g2, g3⟩ := app_row (k := r.kind) (n := 0) (s3 _ _ hD) (hZ.same s3) hW3 nT3
      refine ⟨D, zs, _, rfl, rfl, g1, Nat.lt_of_le_of_lt (show zs.length ≤ 4000 by omega) (by decide), ?_⟩
      have sb4 := sb3.trans g2
      have hW4 := sb4 _ _ (fun z => nT _ (.inl (z ▸ hW2))) hW2
      have d4 : (upd (upd H3 T3 (.tup [.str r.kind, .int 0, .ref W3])) D (.lst (zs ++ [.ref T3]))) D = some (.lst (zs ++ [.ref T3])) := upd_same
      generalize upd (upd H3 T3 (.tup [.str r.kind, .int 0, .ref W3])) D (.lst (zs ++ [.ref T3])) = H4 at g3 sb4 hW4 d4 ⊢
      refine ⟨_, rfl, _, rfl, _, _, rfl, rfl, ?_⟩
      dsimp only
      rw [nat_add_int]
      refine ⟨_, rfl, .inl ⟨rfl, _, .inl (.inl d4)⟩, _, rfl, _, rfl, _, rfl, _, rfl, _, rfl, _, rfl, _, rfl, sl_mm hW4 (by omega) ib fun H5 W5 s5 hW5 => ⟨by show 3 ≤ sizeLine; decide, fun T5 nT5 => ?_⟩⟩
      have eL : (r.ws.drop b).take (b + L - b) = (r.ws.drop b).take L := by rw [Nat.add_sub_cancel_left]
      rw [eL] at hW5
      obtain ⟨k1, k2, k3⟩ := app_row (k := bk) (n := ((n : Nat) : Int)) (s5 _ _ d4) (g3.same s5) hW5 nT5
      refine ⟨D, _, _, rfl, rfl, k1, Nat.lt_of_le_of_lt (show (zs ++ [V.ref T3]).length ≤ 4001 by rw [List.length_append]; show zs.length + 1 ≤ 4001; omega) (by decide), (sb4.trans (same_b s5)).trans k2, _, some (.int (b : Int)), some (.int (n : Int)), upd_same, ?_, ?_, ?_⟩
      · rw [take_snoc e1, partsTo_snoc]
        rw [List.append_assoc (partsTo r.kind bk r.ws L 0 (bs'.take i))] at k3
        exact k3
      · simp only [List.length_append, List.length_singleton]
        omega
      · rw [take_snoc e1, endTo_snoc]
        rfl
    · obtain ⟨sb, zs, y9, y10, hD, hZ, zl, rfl⟩ := hp'
      rw [List.take_of_length_le (by rw [yl]; exact Nat.le_refl _)] at hZ
      rw [List.take_of_length_le (by rw [yl]; exact Nat.le_refl _)]
      have ee := endTo_le (L := L) (m := r.ws.length) bs' 0 (Nat.zero_le _) inb
      have hW' := sb _ _ (fun z => nT _ (.inl (z ▸ hW2))) hW2
      refine ⟨_, rfl, .inl ⟨rfl, _, .inl (.inl hD)⟩, _, rfl, _, rfl, _, rfl, _, rfl, ?_⟩
      dsimp only [tNoPart]
      refine sl_mn hW' ee fun H3 W3 s3 hW3 => ⟨by show 3 ≤ sizeLine; decide, fun T3 nT3 => ?_⟩
      have sb3 := sb.trans (same_b s3)
      obtain ⟨g1, g2, g3⟩ := app_row (k := r.kind) (n := 0) (s3 _ _ hD) (hZ.same s3) hW3 nT3
      refine ⟨D, zs, _, rfl, rfl, g1, Nat.lt_of_le_of_lt (show zs.length ≤ 4000 by omega) (by decide), ?_⟩
      have sb4 := sb3.trans g2
      rw [← partsTo_end] at g3
      have nDH : H D = none := nD
      have sH4 : Same H (upd (upd H3 T3 (.tup [.str r.kind, .int 0, .ref W3])) D (.lst (zs ++ [.ref T3]))) := same_new s02 sb4 nD
      have d4 : (upd (upd H3 T3 (.tup [.str r.kind, .int 0, .ref W3])) D (.lst (zs ++ [.ref T3]))) D = some (.lst (zs ++ [.ref T3])) := upd_same
      have gl := g3.1
      generalize upd (upd H3 T3 (.tup [.str r.kind, .int 0, .ref W3])) D (.lst (zs ++ [.ref T3])) = H4 at g3 sH4 d4 ⊢
      generalize zs ++ [V.ref T3] = ws at g3 d4 gl
      rw [partD_len] at gl
      refine ⟨_, rfl, D, rfl, ⟨_, .inl (.inl d4)⟩, fun E' nE => ?_⟩
      refine lc_list (xs := ws) (fun i H5 => Same H4 H5 ∧ ∃ us, H5 E' = some (.lst us) ∧ us.length ≤ i ∧ RowsT K H5 us (((partD r.kind bk r.ws L 0 bs').take i).filter someB)) ⟨same_upd nE, [], upd_same, Nat.le_refl _, ⟨rfl, fun i v e => by cases e⟩⟩ (fun i H5 _ hp5 => hp5.1.seq (.inl (.inl d4))) (fun i x H5 hx hp5 => ?_) (fun H5 hp5 => ?_)
      · obtain ⟨s5, us, hE, ul, hU⟩ := hp5
        obtain ⟨r5, h1, T5, W5, rfl, h2, h3⟩ := g3.2 i x hx
        have hi := (List.getElem?_eq_some_iff.mp hx).1
        have h2' := sameT s5 h2
        have h3' := s5 _ _ h3
        refine ⟨rfl, ?_⟩
        refine ⟨_, rfl, T5, _, _, _, rfl, rfl, h2', at_of (j := 2) rfl rfl, W5, _, rfl, .inr (.inl (.inl h3')), _, _, rfl, rfl, _, rfl, ?_⟩
        have es : someB r5 = decide ((0 : Int) < (((r5.ws.map V.str).length : Nat) : Int)) := by
          unfold someB
          rw [List.length_map]
          by_cases z : 0 < r5.ws.length
          · rw [decide_eq_true z, decide_eq_true (by omega)]
          · rw [decide_eq_false z, decide_eq_false (by omega)]
        rw [take_snoc h1, List.filter_append]
        refine ite2 (fun e => ?_) (fun e => ?_)
        · refine ⟨_, rfl, us, hE, Nat.lt_of_le_of_lt (show us.length ≤ 5000 by omega) (by decide), same_set s5 nE, us ++ [.ref T5], upd_same, ?_, ?_⟩
          · rw [List.length_append]
            exact Nat.succ_le_succ ul
          · have e5 : [r5].filter someB = [r5] := by
              rw [List.filter_cons, if_pos (by rw [es]; exact e)]
              rfl
            rw [e5]
            exact RowsT.set (noTup hE) (hU.app (RowsT.one ⟨T5, W5, rfl, h2', h3'⟩))
        · have e5 : [r5].filter someB = [] := by
            rw [List.filter_cons, if_neg (by rw [es]; exact e)]
            rfl
          rw [e5, List.append_nil]
          exact ⟨s5, us, hE, by omega, hU⟩
      · obtain ⟨s5, us, hE, ul, hU⟩ := hp5
        rw [List.take_of_length_le (by rw [g3.1]; exact Nat.le_refl _)] at hU
        exact q H5 E' us bs' (sH4.trans s5) (same_none sH4 nE) hE hperm hsort hU
end
/-! ### the pairs made blocks -/
abbrev DkD := List (L2.Key × V)
/-- d: for each row the list of its blocks -/
structure BBl (H0 H : Hp) (d : Addr) (kvs : DkD) (m : Nat → List (Nat × Nat)) : Prop where
  dic : H d = some (.dK kvs)
  lsts : ∀ (i : Nat) v, valV kvs (.inl (i : Int)) = some v → ∃ D ys, v = .ref D ∧ H D = some (.lst ys) ∧ BnAt H ys (m i) ∧ H0 D = none ∧ m i ≠ []
  nil : ∀ (i : Nat), valV kvs (.inl (i : Int)) = none → m i = []
  inj : ∀ (i j : Nat) D, valV kvs (.inl (i : Int)) = some (.ref D) → valV kvs (.inl (j : Int)) = some (.ref D) → i = j
theorem BBl.same {H0 H H' : Hp} {d : Addr} {kvs : DkD} {m : Nat → List (Nat × Nat)} (s : Same H H') (h : BBl H0 H d kvs m) : BBl H0 H' d kvs m :=
  ⟨s _ _ h.dic, fun i v e => let ⟨D, ys, h1, h2, h3, h4⟩ := h.lsts i v e; ⟨D, ys, h1, s _ _ h2, h3.same s, h4⟩, h.nil, h.inj⟩
theorem key_inl {i j : Nat} (h : (Sum.inl (i : Int) : L2.Key) = Sum.inl (j : Int)) : i = j := Int.ofNat.inj (Sum.inl.inj h)
theorem noTupK {H : Hp} {d : Addr} {kvs : DkD} (h : H d = some (.dK kvs)) : ∀ ys, ¬ Rd H d (.tup ys) := by
  rintro ys (z | ⟨o, z⟩)
  · rw [h] at z
    cases z
  · rw [h] at z
    cases z
/-- one more block for a row: what stands at D, the row's list, has it -/
theorem BBl.put {H0 H H' : Hp} {d D : Addr} {kvs : DkD} {m : Nat → List (Nat × Nat)} {i : Nat} {ys zs : List V} {q : List (Nat × Nat)} (dic : H d = some (.dK kvs)) (old : ∀ (j : Nat) v, j ≠ i → valV kvs (.inl (j : Int)) = some v → ∃ D' ys, v = .ref D' ∧ D' ≠ D ∧ H D' = some (.lst ys) ∧ BnAt H ys (m j) ∧ H0 D' = none ∧ m j ≠ [])
    (nl : ∀ (j : Nat), valV kvs (.inl (j : Int)) = none → m j = []) (inj : ∀ (i j : Nat) D, valV kvs (.inl (i : Int)) = some (.ref D) → valV kvs (.inl (j : Int)) = some (.ref D) → i = j)
    (e : valV kvs (.inl (i : Int)) = some (.ref D)) (hD : H D = some (.lst ys)) (sb : SameB D H H') (hz : H' D = some (.lst zs)) (hP : BnAt H' zs q) (fr : H0 D = none) (ne : q ≠ []) :
    BBl H0 H' d kvs (fun j => if j = i then q else m j) := by
  have nT := noTup hD
  refine ⟨sb _ _ (fun z => ?_) dic, fun j v e' => ?_, fun j e' => ?_, inj⟩
  · subst z
    rw [hD] at dic
    cases dic
  · by_cases c : j = i
    · subst c
      rw [e] at e'
      cases e'
      exact ⟨D, zs, rfl, hz, by rw [if_pos rfl]; exact hP, fr, by rw [if_pos rfl]; exact ne⟩
    · obtain ⟨D', ys', rfl, h1, h2, h3, h4, h5⟩ := old j v c e'
      exact ⟨D', ys', rfl, sb _ _ h1 h2, by rw [if_neg c]; exact sb.bn nT h3, h4, by rw [if_neg c]; exact h5⟩
  · rw [if_neg (fun z => by subst z; rw [e] at e'; cases e')]
    exact nl j e'
theorem BBl.far {H0 H H' : Hp} {d x : Addr} {kvs : DkD} {m : Nat → List (Nat × Nat)} (h : BBl H0 H d kvs m) (sb : SameB x H H') (hx : ∀ ys, ¬ Rd H x (.tup ys)) (n1 : d ≠ x) (n2 : H0 x ≠ none ∨ ∀ (i : Nat) D, valV kvs (.inl (i : Int)) = some (.ref D) → D ≠ x) : BBl H0 H' d kvs m :=
  ⟨sb _ _ n1 h.dic, fun i v e => by
    obtain ⟨D, ys, rfl, h2, h3, h4, h5⟩ := h.lsts i v e
    refine ⟨D, ys, rfl, sb _ _ ?_ h2, sb.bn hx h3, h4, h5⟩
    rcases n2 with n2 | n2
    · exact fun z => n2 (z ▸ h4)
    · exact n2 i D e, h.nil, h.inj⟩
theorem BBl.congr {H0 H : Hp} {d : Addr} {kvs : DkD} {m m' : Nat → List (Nat × Nat)} (h : BBl H0 H d kvs m) (e : ∀ l, m' l = m l) : BBl H0 H d kvs m' := by
  have : m' = m := funext e
  rw [this]
  exact h
/-- the blocks, one after the other, with their numbers -/
def itB : Nat → List Pr → List (Pl × Nat)
  | _, [] => []
  | n, cp :: ps => (cp.1, n) :: (cp.2, n) :: itB (n + 1) ps
theorem itB_snoc (cp : Pr) : ∀ (ps : List Pr) (n : Nat), itB n (ps ++ [cp]) = itB n ps ++ [(cp.1, n + ps.length), (cp.2, n + ps.length)]
  | [], n => rfl
  | x :: ps, n => by
    show _ :: _ :: itB (n + 1) (ps ++ [cp]) = _ :: _ :: (itB (n + 1) ps ++ _)
    rw [itB_snoc cp ps, List.length_cons, show n + 1 + ps.length = n + (ps.length + 1) by omega]
theorem itB_len : ∀ (ps : List Pr) (n : Nat), (itB n ps).length = 2 * ps.length
  | [], _ => rfl
  | x :: ps, n => by
    show (itB (n + 1) ps).length + 1 + 1 = 2 * (ps.length + 1)
    rw [itB_len ps]
    omega
theorem itB_blk : ∀ (ps : List Pr) (n : Nat), (itB n ps).map (·.1) = blkOf ps
  | [], _ => rfl
  | x :: ps, n => by
    show x.1 :: x.2 :: (itB (n + 1) ps).map (·.1) = _
    rw [itB_blk ps]
    rfl
def bnAt (i : Nat) (l : List (Pl × Nat)) : List (Nat × Nat) := (l.filter fun x => decide (x.1.1 = i)).map fun x => (x.1.2, x.2)
theorem bnAt_snoc (i : Nat) (l : List (Pl × Nat)) (a b n : Nat) : bnAt i (l ++ [((a, b), n)]) = if i = a then bnAt i l ++ [(b, n)] else bnAt i l := by
  unfold bnAt
  rw [List.filter_append, List.map_append]
  by_cases c : i = a
  · subst c
    rw [if_pos rfl, List.filter_cons, if_pos (decide_eq_true rfl)]
    rfl
  · rw [if_neg c, List.filter_cons, if_neg (fun z => c (of_decide_eq_true z).symm)]
    show bnAt i l ++ [] = _
    rw [List.append_nil]
    rfl
theorem bnAt_mem {i : Nat} {l : List (Pl × Nat)} {b n : Nat} : (b, n) ∈ bnAt i l ↔ ((i, b), n) ∈ l := by
  unfold bnAt
  rw [List.mem_map]
  constructor
  · rintro ⟨⟨⟨a, b'⟩, n'⟩, h1, h2⟩
    obtain ⟨h3, h4⟩ := List.mem_filter.mp h1
    have h4 : a = i := of_decide_eq_true h4
    cases h2
    subst h4
    exact h3
  · intro h
    exact ⟨_, List.mem_filter.mpr ⟨h, decide_eq_true rfl⟩, rfl⟩
theorem bnAt_len (i : Nat) (l : List (Pl × Nat)) : (bnAt i l).length ≤ l.length := by
  unfold bnAt
  rw [List.length_map]
  exact List.length_filter_le ..
def bkOf (k : Str) : Str := if k = "cut" then "take" else "lay"
/-- a row of the new telling -/
def partR (r : RowD) (bs : List (Nat × Nat)) (L : Nat) : List RowD := if bs = [] then [r] else (partD r.kind (bkOf r.kind) r.ws L 0 bs).filter someB
def withD (rs : List RowD) (srt : Nat → List (Nat × Nat)) (L n : Nat) : List RowD := (List.range n).flatMap fun i => match rs[i]? with
  | some r => partR r (srt i) L
  | none => []
theorem withD_succ {rs : List RowD} {srt : Nat → List (Nat × Nat)} {L n : Nat} {r : RowD} (h : rs[n]? = some r) : withD rs srt L (n + 1) = withD rs srt L n ++ partR r (srt n) L := by
  unfold withD
  rw [List.range_succ, List.flatMap_append]
  simp [h]
theorem withD_congr {rs : List RowD} {srt srt' : Nat → List (Nat × Nat)} {L : Nat} : ∀ {n : Nat}, (∀ i, i < n → srt' i = srt i) → withD rs srt' L n = withD rs srt L n := fun {n} h => by
  unfold withD
  rw [List.flatMap_def, List.flatMap_def]
  refine congrArg List.flatten (List.map_congr_left fun i hi => ?_)
  rw [h i (List.mem_range.mp hi)]
theorem partR_len (r : RowD) (bs : List (Nat × Nat)) (L : Nat) : (partR r bs L).length ≤ 2 * bs.length + 1 := by
  unfold partR
  split
  · show 1 ≤ _
    omega
  · refine Nat.le_trans (List.length_filter_le ..) ?_
    rw [partD_len]
    exact Nat.le_refl _
section
variable {P : Program} {w : World} {K : PySem.W.Frag} {mg : Str → Option Value} {base : Heap}
abbrev pairsN : List Str := ["rows", "pairs", "length", "first_number", "blocks", "number", "pair", "at", "begin", "parted_rows", "row", "block_kind"]
theorem scWithPairs : FnScope pairsN ["rows", "pairs", "length", "first_number"] (defScope sWithPairs) := ⟨rfl, rfl, rfl, by decide +kernel, rfl, by decide +kernel, by decide +kernel⟩
def spWithPairs (K : PySem.W.Frag) : Sp := fun vs H Q _ => ∃ (p D : Addr) (xs zs : List V) (rs : List RowD) (ps : List Pr) (L n : Nat), vs = [.ref p, .ref D, .int (L : Int), .int (n : Int)] ∧ SqL K H p xs ∧ RowsT K H xs rs ∧ Small rs ∧ SqL K H D zs ∧ PrAt K H zs ps ∧ ps.length ≤ 1000 ∧ n ≤ 10000000 ∧
  (∀ c ∈ blkOf ps, ∃ r, rs[c.1]? = some r ∧ r.num = 0 ∧ c.2 + L ≤ r.ws.length) ∧
  ∀ (H' : Hp) (E : Addr) (us : List V) (srt : Nat → List (Nat × Nat)), Same H H' → H E = none → H' E = some (.lst us) → (∀ i, i < rs.length → (srt i).Perm (bnAt i (itB n ps)) ∧ (srt i).Pairwise (fun p q => p.1 ≤ q.1)) → RowsT K H' us (withD rs srt L rs.length) → Q (.ref E) H'
theorem ok_with_pairs {f fR : Addr} {fd fdR : FuncData} (F : FnP K "with_pairs" sWithPairs f fd)
    (GR : FnOk P w K mg base (L2.CX P w) 1 fR fdR ["row", "block_kind", "blocks", "length"] (spRowParted K)) (kR : PySem.W.keepIn K (.ref fR) = true) (bR : Binds K fdR ["row", "block_kind", "blocks", "length"] []) (gR : mg "row_parted" = some (.ref fR)) (mE : mg "enumerate" = none) :
    FnOk P w K mg base (L2.CX P w) 2 f fd ["rows", "pairs", "length", "first_number"] (spWithPairs K) := by
  refine F.ok scWithPairs (fun vs H Q E h => ?_) (fun cdv A outer s H vs Q E hr h => ?_)
  · obtain ⟨p, D, xs, zs, rs, ps, L, n, rfl, _⟩ := h
    rfl
  · obtain ⟨p, D, xs, zs, rs, ps, L, n, rfl, hp, hR, hs, hD, hP, hpl, hn, hin, q⟩ := h
    refine ⟨_, pss_cons (ps_set (i := 4) scWithPairs.nd rfl (.inl rfl) pe_dnewK)
      (pss_cons (ps_for (passes_of rfl) rfl (Ef.pi_enumF (by rfl) mE (pa_cons (pv 1) (pa_cons (pv 3) pa_nil))) (pg_tup rfl (pgs_cons (pg_name (i := 5) scWithPairs.nd rfl (.inl rfl)) (pgs_cons (pg_name (i := 6) scWithPairs.nd rfl (.inl rfl)) pgs_nil)))
        (pss_one (ps_for (passes_of rfl) rfl (pi_tup (pv 6)) (pg_tup (by rfl) (pgs_cons (pg_name (i := 7) scWithPairs.nd rfl (.inl rfl)) (pgs_cons (pg_name (i := 8) scWithPairs.nd rfl (.inl rfl)) pgs_nil)))
          (pss_one (ps_expr (pe_bm PySem.F.plainAttrs_list PySem.F.slot_list_append PySem.F.type_list_append mt_append (pe_dsetd (pv 4) (pv 7) (pe_lst pa_nil) ⟨rfl, rfl, rfl, rfl⟩) (pa_cons (pe_tup (pa_cons (pv 8) (pa_cons (pv 5) pa_nil))) pa_nil)))))))
      (pss_cons (ps_set (i := 9) scWithPairs.nd rfl (.inl rfl) (pe_lst pa_nil))
      (pss_cons (ps_for (passes_of rfl) rfl (pi_enum (by rfl) mE (pa_cons (pv 0) pa_nil)) (pg_tup rfl (pgs_cons (pg_name (i := 7) scWithPairs.nd rfl (.inl rfl)) (pgs_cons (pg_name (i := 10) scWithPairs.nd rfl (.inl rfl)) pgs_nil)))
        (pss_one (ps_if (pt_cmp (pc_din (hu_of hr) (pv 7) (pv 4)) (by rfl))
          (pss_cons (ps_set (i := 11) scWithPairs.nd rfl (.inl rfl) (pe_ifExp (pt_cmpR op_eq (pe_ix ix_tup (pv 10) pe_int (fun _ _ => rfl)) pe_str (nomark _)) pe_str pe_str))
          (pss_one (ps_expr (pe_bm PySem.F.plainAttrs_list PySem.F.slot_list_extend PySem.F.type_list_extend mt_extend (pv 9) (pa_cons (pe_call GR hr (by rfl) gR kR bR .nil passL (pa_cons (pv 10) (pa_cons (pv 11) (pa_cons (pe_dget (hu_of hr) (pv 4) (pv 7) (fun _ _ => rfl)) (pa_cons (pv 2) pa_nil))))) pa_nil)))))
          (pss_one (ps_expr (pe_bm PySem.F.plainAttrs_list PySem.F.slot_list_append PySem.F.type_list_append mt_append (pv 9) (pa_cons (pv 10) pa_nil)))))))
      (pss_one (ps_ret (pv 9)))))), ?_⟩
    intro d nd
    have s0 := same_upd nd (o := .dK [])
    have zl := hP.1
    refine ⟨_, rfl, _, rfl, D, zs, (n : Int), rfl, s0.seq hD, by omega, by omega, Ef.for_enumF (xs := zs) (fun i σ' H' => Same H H' ∧ ∃ kvs y5 y6 y7 y8, BBl H H' d kvs (fun j => bnAt j (itB n (ps.take i))) ∧ kvs.length ≤ 2 * i ∧ σ' = [some (.ref p), some (.ref D), some (.int (L : Int)), some (.int (n : Int)), some (.ref d), y5, y6, y7, y8, none, none, none]) ⟨s0, [], none, none, none, none, ⟨upd_same, (fun i v e => by cases e), (fun i _ => rfl), fun i j D e => by cases e⟩, Nat.le_refl _, rfl⟩ (fun i σ' H' _ hp' => hp'.1.seq hD) (fun i x T' σ' H' hx nT' hp' => ?_) (fun σ' H' hp' => ?_)⟩
    · obtain ⟨sm, kvs, y5, y6, y7, y8, hB, kl, rfl⟩ := hp'
      obtain ⟨c, c', T, C, C', e1, rfl, hT, hC, hC'⟩ := hP.2 i x hx
      have hi : i < zs.length := (List.getElem?_eq_some_iff.mp hx).1
      have sT : Same H' (upd H' T' (.tup [.int ((n : Int) + ((i : Nat) : Int)), .ref T])) := same_upd nT'
      refine ⟨T', _, rfl, .inl (.inl upd_same), rfl, _, _, rfl, _, _, rfl, rfl, ?_⟩
      have sm2 := sm.trans sT
      have hB2 := hB.same sT
      generalize upd H' T' (.tup [.int ((n : Int) + ((i : Nat) : Int)), .ref T]) = H2 at sT sm2 hB2 ⊢
      refine ⟨_, rfl, T, rfl, ⟨_, sameT sm2 hT⟩, for_tup (xs := [V.ref C, V.ref C']) (fun t σ'' H'' => Same H H'' ∧ ∃ kvs y7 y8, BBl H H'' d kvs (fun j => bnAt j (itB n (ps.take i) ++ [(c, n + i), (c', n + i)].take t)) ∧ kvs.length ≤ 2 * i + t ∧ σ'' = [some (.ref p), some (.ref D), some (.int (L : Int)), some (.int (n : Int)), some (.ref d), some (.int ((n : Int) + ((i : Nat) : Int))), some (.ref T), y7, y8, none, none, none]) ?_ (fun t σ'' H'' _ hp2 => sameT hp2.1 hT) (fun t x σ'' H'' hx2 hp2 => ?_) (fun σ'' H'' hp2 => ?_)⟩
      · refine ⟨sm2, kvs, y7, y8, ?_, by omega, rfl⟩
        rw [List.take_zero, List.append_nil]
        exact hB2
      · obtain ⟨sm3, kvs, y7, y8, hB3, kl3, rfl⟩ := hp2
        obtain ⟨pl, C2, rfl, hC2, ht, et⟩ : ∃ pl C2, x = .ref C2 ∧ SqT K H C2 [.int (pl.1 : Int), .int (pl.2 : Int)] ∧ [(c, n + i), (c', n + i)][t]? = some (pl, n + i) ∧ t < 2 := by
          match t, hx2 with
          | 0, hx2 =>
            cases hx2
            exact ⟨c, C, rfl, hC, rfl, by decide⟩
          | 1, hx2 =>
            cases hx2
            exact ⟨c', C', rfl, hC', rfl, by decide⟩
          | t + 2, hx2 => cases hx2
        obtain ⟨a, b⟩ := pl
        refine ⟨C2, _, rfl, sameT sm3 hC2, rfl, _, _, rfl, _, _, rfl, rfl, ?_⟩
        refine ⟨_, rfl, d, rfl, .inl ⟨kvs, .inl hB3.dic⟩, _, rfl, by show 0 ≤ sizeLine; decide, fun E nE => ?_⟩
        have s4 : Same H'' (upd H'' E (.lst [])) := same_upd nE
        have hE4 : (upd H'' E (.lst [])) E = some (.lst []) := upd_same
        have sm4 := sm3.trans s4
        have hB4 := hB3.same s4
        have nEH : H E = none := same_none sm3 nE
        have farE : ∀ (j : Nat), valV kvs (.inl (j : Int)) ≠ some (.ref E) := fun j e => by
          obtain ⟨D', ys, e1, h2, _⟩ := hB3.lsts j _ e
          cases e1
          rw [nE] at h2
          cases h2
        have dE : d ≠ E := ne_of_none hB3.dic nE
        generalize upd H'' E (.lst []) = H4 at s4 hE4 sm4 hB4 ⊢
        have em : ∀ j, bnAt j (itB n (ps.take i) ++ [(c, n + i), (c', n + i)].take (t + 1)) = if j = a then bnAt a (itB n (ps.take i) ++ [(c, n + i), (c', n + i)].take t) ++ [(b, n + i)] else bnAt j (itB n (ps.take i) ++ [(c, n + i), (c', n + i)].take t) := fun j => by
          rw [take_snoc ht, ← List.append_assoc, bnAt_snoc]
          by_cases z : j = a
          · rw [if_pos z, if_pos z, z]
          · rw [if_neg z, if_neg z]
        -- what stands behind the append at a list of the dict
        have tail : ∀ (kvs' : DkD) (H5 : Hp) (F' : Addr) (us : List V), H5 d = some (.dK kvs') → (∀ (j : Nat) v, j ≠ a → valV kvs' (.inl (j : Int)) = some v → ∃ D' ys, v = .ref D' ∧ D' ≠ F' ∧ H5 D' = some (.lst ys) ∧ BnAt H5 ys (bnAt j (itB n (ps.take i) ++ [(c, n + i), (c', n + i)].take t)) ∧ H D' = none ∧ bnAt j (itB n (ps.take i) ++ [(c, n + i), (c', n + i)].take t) ≠ []) →
            (∀ (j : Nat), valV kvs' (.inl (j : Int)) = none → bnAt j (itB n (ps.take i) ++ [(c, n + i), (c', n + i)].take t) = []) → (∀ (i j : Nat) D, valV kvs' (.inl (i : Int)) = some (.ref D) → valV kvs' (.inl (j : Int)) = some (.ref D) → i = j) →
            Same H H5 → valV kvs' (.inl (a : Int)) = some (.ref F') → H5 F' = some (.lst us) → BnAt H5 us (bnAt a (itB n (ps.take i) ++ [(c, n + i), (c', n + i)].take t)) → H F' = none → ∀ U, H5 U = none →
            (upd H5 U (.tup [.int (b : Int), .int ((n : Int) + ((i : Nat) : Int))])) F' = some (.lst us) ∧ us.length < sizeLine ∧ Same H (upd (upd H5 U (.tup [.int (b : Int), .int ((n : Int) + ((i : Nat) : Int))])) F' (.lst (us ++ [.ref U]))) ∧
              BBl H (upd (upd H5 U (.tup [.int (b : Int), .int ((n : Int) + ((i : Nat) : Int))])) F' (.lst (us ++ [.ref U]))) d kvs' (fun j => bnAt j (itB n (ps.take i) ++ [(c, n + i), (c', n + i)].take (t + 1))) := fun kvs' H5 F' us dic old nl inj sm5 v5 f5 b5 fr U nU => by
          have s6 : Same H5 (upd H5 U (.tup [.int (b : Int), .int ((n : Int) + ((i : Nat) : Int))])) := same_upd nU
          have hU : (upd H5 U (.tup [.int (b : Int), .int ((n : Int) + ((i : Nat) : Int))])) U = some (.tup [.int (b : Int), .int ((n + i : Nat) : Int)]) := by
            rw [upd_same, nat_add_int]
          generalize upd H5 U (.tup [.int (b : Int), .int ((n : Int) + ((i : Nat) : Int))]) = H6 at s6 hU ⊢
          have f6 := s6 _ _ f5
          have nT := noTup f6
          have sbF : SameB F' H6 (upd H6 F' (.lst (us ++ [.ref U]))) := sameB_upd
          have ul := b5.1
          have bl := bnAt_len a (itB n (ps.take i) ++ [(c, n + i), (c', n + i)].take t)
          rw [List.length_append, itB_len, List.length_take, List.length_take] at bl
          refine ⟨f6, Nat.lt_of_le_of_lt (show us.length ≤ 3000 by omega) (by decide), same_new (sm5.trans s6) sbF fr, ?_⟩
          refine (BBl.put (s6 _ _ dic) (fun j v hj e => ?_) nl inj v5 f6 sbF upd_same (sbF.bn nT ((b5.same s6).snoc hU)) fr (by simp)).congr em
          obtain ⟨D', ys, h1, h2, h3, h4, h5, h6⟩ := old j v hj e
          exact ⟨D', ys, h1, h2, s6 _ _ h3, h4.same s6, h5, h6⟩
        refine ⟨kvs, .inl (a : Int), hB4.dic, rfl, Nat.lt_of_le_of_lt (show kvs.length ≤ 3000 by omega) (by decide), fun v hv => ?_, fun hn => ?_⟩
        · obtain ⟨F', us, rfl, f5, b5, fr, _⟩ := hB4.lsts a _ hv
          refine ⟨.inl ⟨rfl, _, .inl (.inl f5)⟩, _, rfl, _, rfl, by show 2 ≤ sizeLine; decide, fun U nU => ?_⟩
          obtain ⟨t1, t2, t3, t4⟩ := tail kvs H4 F' us hB4.dic (fun j v hj e => by
            obtain ⟨D', ys, rfl, h2, h3, h4, h5⟩ := hB4.lsts j v e
            exact ⟨D', ys, rfl, fun z => hj (by subst z; exact hB4.inj _ _ _ e hv), h2, h3, h4, h5⟩) hB4.nil hB4.inj sm4 hv f5 b5 fr U nU
          exact ⟨F', us, _, rfl, rfl, t1, t2, t3, kvs, _, _, t4, by omega, rfl⟩
        · refine ⟨.inl ⟨rfl, _, .inl (.inl (by rw [upd_ne (Ne.symm dE)]; exact hE4))⟩, _, rfl, _, rfl, by show 2 ≤ sizeLine; decide, fun U nU => ?_⟩
          have hl2 := length_putK kvs (Sum.inl (a : Int)) (V.ref E)
          have sb5 : SameB d H4 (upd H4 d (.dK (putK kvs (.inl (a : Int)) (.ref E)))) := sameB_upd
          have nTd := noTupK hB4.dic
          obtain ⟨t1, t2, t3, t4⟩ := tail (putK kvs (.inl (a : Int)) (.ref E)) (upd H4 d (.dK (putK kvs (.inl (a : Int)) (.ref E)))) E [] upd_same (fun j v hj e => by
              rw [valV_put, if_neg fun z => hj (key_inl z)] at e
              obtain ⟨D', ys, rfl, h2, h3, h4, h5⟩ := hB4.lsts j v e
              exact ⟨D', ys, rfl, fun z => farE j (by rw [e, z]), sb5 _ _ (ne_of h2 hB4.dic (by intro z; cases z)) h2, sb5.bn nTd h3, h4, h5⟩)
            (fun j e => by
              rw [valV_put] at e
              by_cases z : j = a
              · subst z
                rw [if_pos rfl] at e
                cases e
              · rw [if_neg fun y => z (key_inl y)] at e
                exact hB4.nil j e)
            (fun j k D' ej ek => by
              rw [valV_put] at ej ek
              by_cases z : j = a
              · by_cases y : k = a
                · rw [z, y]
                · rw [if_neg fun x => y (key_inl x)] at ek
                  subst z
                  rw [if_pos rfl] at ej
                  cases ej
                  exact absurd ek (farE k)
              · rw [if_neg fun x => z (key_inl x)] at ej
                by_cases y : k = a
                · subst y
                  rw [if_pos rfl] at ek
                  cases ek
                  exact absurd ej (farE j)
                · rw [if_neg fun x => y (key_inl x)] at ek
                  exact hB4.inj j k D' ej ek)
            (same_new sm4 sb5 nd) (by rw [valV_put, if_pos rfl]) (by rw [upd_ne (Ne.symm dE)]; exact hE4) (by rw [hB4.nil a hn]; exact ⟨rfl, fun i v e => by cases e⟩) nEH U nU
          exact ⟨E, [], _, rfl, rfl, t1, t2, t3, _, _, _, t4, by omega, rfl⟩
      · obtain ⟨sm3, kvs, y7, y8, hB3, kl3, rfl⟩ := hp2
        refine ⟨sm3, kvs, _, _, _, _, hB3.congr fun j => ?_, by show kvs.length ≤ 2 * (i + 1); have kl3 : kvs.length ≤ 2 * i + 2 := kl3; omega, rfl⟩
        rw [take_snoc e1, itB_snoc, List.length_take, Nat.min_eq_left (by omega)]
        rfl
    · obtain ⟨sm, kvs, y5, y6, y7, y8, hB, kl, rfl⟩ := hp'
      rw [List.take_of_length_le (by rw [zl]; exact Nat.le_refl _)] at hB
      refine ⟨by show 0 ≤ sizeLine; decide, fun G nG => ?_⟩
      have s1 : Same H' (upd H' G (.lst [])) := same_upd nG
      have hG1 : (upd H' G (.lst [])) G = some (.lst []) := upd_same
      have farG : ∀ (j : Nat) D, valV kvs (.inl (j : Int)) = some (.ref D) → D ≠ G := fun j D e => by
        obtain ⟨D', ys, e1, h2, _⟩ := hB.lsts j _ e
        cases e1
        exact ne_of_none h2 nG
      have dG : d ≠ G := ne_of_none hB.dic nG
      have nGH : H G = none := same_none sm nG
      have sm1 := sm.trans s1
      have hB1 := hB.same s1
      generalize upd H' G (.lst []) = H1 at s1 hG1 sm1 hB1
      refine ⟨_, rfl, p, _, rfl, sm1.seq hp, for_enum (xs := xs) (fun i σ' H2 => Same H H2 ∧ ∃ us srt y5 y6 y7 y8 y10 y11, H2 G = some (.lst us) ∧ (∀ j, j < i → (srt j).Perm (bnAt j (itB n ps)) ∧ (srt j).Pairwise (fun p q => p.1 ≤ q.1)) ∧ RowsT K H2 us (withD rs srt L i) ∧ us.length ≤ 4001 * i ∧ BBl H H2 d kvs (fun j => bnAt j (itB n ps)) ∧ σ' = [some (.ref p), some (.ref D), some (.int (L : Int)), some (.int (n : Int)), some (.ref d), y5, y6, y7, y8, some (.ref G), y10, y11]) ⟨sm1, [], fun _ => [], y5, y6, y7, y8, none, none, hG1, fun j hj => absurd hj (Nat.not_lt_zero _), ⟨rfl, fun i v e => by cases e⟩, Nat.le_refl _, hB1, rfl⟩ (fun i σ' H2 _ hp2 => hp2.1.seq hp) (fun i x T' σ' H2 hx nT' hp2 => ?_) (fun σ' H2 hp2 => ?_)⟩
      · obtain ⟨sm2, us, srt, y5, y6, y7, y8, y10, y11, hG, hsrt, hU, ul, hB2, rfl⟩ := hp2
        obtain ⟨r, hr1, hr2⟩ := hR.2 i x hx
        have hi : i < xs.length := (List.getElem?_eq_some_iff.mp hx).1
        have hi2 : i < rs.length := (List.getElem?_eq_some_iff.mp hr1).1
        have rsl := hs.2
        have sT : Same H2 (upd H2 T' (.tup [.int (i : Nat), x])) := same_upd nT'
        have sm3 := sm2.trans sT
        have hr3 := hr2.same sm3
        obtain ⟨T2, W2, ex, hT2, hW2⟩ := id hr3
        subst ex
        refine ⟨T', _, rfl, .inl (.inl upd_same), rfl, _, _, rfl, _, _, rfl, rfl, ?_⟩
        have hG3 := sT _ _ hG
        have hU3 := hU.same sT
        have hB3 := hB2.same sT
        generalize upd H2 T' (.tup [.int (i : Nat), .ref T2]) = H3 at sT sm3 hr3 hT2 hW2 hG3 hU3 hB3 ⊢
        have nT := noTup hG3
        have sbG : ∀ us', SameB G H3 (upd H3 G (.lst us')) := fun us' => sameB_upd
        have upto : ∀ bs', withD rs (fun j => if j = i then bs' else srt j) L (i + 1) = withD rs srt L i ++ partR r bs' L := fun bs' => by
          rw [withD_succ hr1, if_pos rfl, withD_congr fun j hj => if_neg (Nat.ne_of_lt hj)]
        have srt2 : ∀ bs', bs'.Perm (bnAt i (itB n ps)) → bs'.Pairwise (fun p q => p.1 ≤ q.1) → ∀ j, j < i + 1 → (if j = i then bs' else srt j).Perm (bnAt j (itB n ps)) ∧ (if j = i then bs' else srt j).Pairwise (fun p q => p.1 ≤ q.1) := fun bs' h1 h2 j hj => by
          by_cases z : j = i
          · rw [if_pos z, z]
            exact ⟨h1, h2⟩
          · rw [if_neg z]
            exact hsrt j (by omega)
        refine ⟨_, rfl, _, rfl, d, _, rfl, DGet.k (k := Sum.inl (i : Int)) hB3.dic, _, rfl, ?_⟩
        cases hv : valV kvs (Sum.inl (i : Int)) with
        | none =>
          have hnil := hB3.nil i hv
          refine iteF ⟨_, rfl, .inl ⟨rfl, _, .inl (.inl hG3)⟩, _, rfl, G, us, _, rfl, rfl, hG3, Nat.lt_of_le_of_lt (show us.length ≤ 5000000 by omega) (by decide), same_new sm3 (sbG _) nGH, us ++ [.ref T2], fun j => if j = i then [] else srt j, y5, y6, _, y8, _, y11, upd_same, srt2 [] (by rw [show bnAt i (itB n ps) = [] from hnil]) List.Pairwise.nil, ?_, ?_, hB3.far (sbG _) nT dG (.inr farG), rfl⟩
          · rw [upto]
            exact RowsT.set nT (hU3.app (RowsT.one hr3))
          · rw [List.length_append]
            show us.length + 1 ≤ _
            omega
        | some v =>
          obtain ⟨D', ys, rfl, hD', hBn, nD', hne⟩ := hB3.lsts i v hv
          obtain ⟨⟨b0, n0⟩, hb0⟩ := List.exists_mem_of_ne_nil _ hne
          have inB : ∀ p ∈ bnAt i (itB n ps), (i, p.1) ∈ blkOf ps := fun p hp => by
            rw [← itB_blk ps n]
            exact List.mem_map.mpr ⟨((i, p.1), p.2), bnAt_mem.1 hp, rfl⟩
          have rn : r.num = 0 := by
            obtain ⟨r', h1, h2, _⟩ := hin _ (inB _ hb0)
            have h1 : rs[i]? = some r' := h1
            rw [hr1] at h1
            cases h1
            exact h2
          have rin : ∀ p ∈ bnAt i (itB n ps), p.1 + L ≤ r.ws.length := fun p hp => by
            obtain ⟨r', h1, _, h3⟩ := hin _ (inB _ hp)
            have h1 : rs[i]? = some r' := h1
            rw [hr1] at h1
            cases h1
            exact h3
          have bl := bnAt_len i (itB n ps)
          rw [itB_len] at bl
          refine iteT ⟨_, rfl, T2, _, _, _, rfl, rfl, hT2, at_of (j := 0) rfl rfl, rfl, _, rfl, ?_⟩
          refine ite2 (fun e => ?g1) (fun e => ?g2)
          case' g1 =>
            have hbk : bkOf r.kind = "take" := if_pos (V.str.inj (of_decide_eq_true e))
          case' g2 =>
            have hbk : bkOf r.kind = "lay" := if_neg fun z => e (decide_eq_true (congrArg V.str z))
          all_goals
            rw [← hbk]
            clear e hbk
            refine ⟨_, rfl, .inl ⟨rfl, _, .inl (.inl hG3)⟩, _, rfl, _, rfl, _, rfl, _, rfl, d, _, rfl, by rw [← hv]; exact DGet.k (k := Sum.inl (i : Int)) hB3.dic, _, rfl, T2, D', r, bkOf r.kind, ys, bnAt i (itB n ps), L, rfl, hr3, rn, .inl (.inl hD'), hBn, rin, by omega, fun H4 F' vs bs' s4 nF hF perm sorted rows => ?_⟩
            have hG4 := s4 _ _ hG3
            have nT4 := noTup hG4
            have sb4 : SameB G H4 (upd H4 G (.lst (us ++ vs))) := sameB_upd
            have bl' := perm.length_eq
            have vl := rows.1
            have fl := List.length_filter_le someB (partD r.kind (bkOf r.kind) r.ws L 0 bs')
            rw [partD_len] at fl
            refine ⟨G, F', us, vs, rfl, rfl, hG4, hF, Nat.le_trans (show us.length + vs.length ≤ 5000000 by omega) (by decide), same_new (sm3.trans s4) sb4 nGH, us ++ vs, fun j => if j = i then bs' else srt j, y5, y6, _, y8, _, _, upd_same, srt2 bs' perm sorted, ?_, ?_, (hB3.same s4).far sb4 nT4 dG (.inr farG), rfl⟩
            · rw [upto]
              have ne : bs' ≠ [] := fun z => by
                rw [z] at bl'
                exact hne (List.eq_nil_of_length_eq_zero bl'.symm)
              have ep : partR r bs' L = (partD r.kind (bkOf r.kind) r.ws L 0 bs').filter someB := by
                unfold partR
                rw [if_neg ne]
              rw [ep]
              exact RowsT.set nT4 ((hU3.same s4).app rows)
            · rw [List.length_append]
              omega
      · obtain ⟨sm2, us, srt, y5, y6, y7, y8, y10, y11, hG, hsrt, hU, ul, hB2, rfl⟩ := hp2
        have xl := hR.1
        rw [xl] at hU hsrt
        exact ⟨_, rfl, q H2 G us srt sm2 nGH hG hsrt hU⟩
end
/-! ### one block after the other, plainly -/
def stepF (f : Nat → RowD → List RowD) : Nat → List RowD → List RowD
  | _, [] => []
  | k, r :: R => f k r ++ stepF f (k + 1) R
theorem stepF_app (f : Nat → RowD → List RowD) : ∀ (X Y : List RowD) (k : Nat), stepF f k (X ++ Y) = stepF f k X ++ stepF f (k + X.length) Y
  | [], Y, k => rfl
  | r :: X, Y, k => by
    show f k r ++ stepF f (k + 1) (X ++ Y) = f k r ++ stepF f (k + 1) X ++ _
    rw [stepF_app f X Y, List.append_assoc, List.length_cons, show k + 1 + X.length = k + (X.length + 1) by omega]
theorem stepF_id (f : Nat → RowD → List RowD) : ∀ (X : List RowD) (k : Nat), (∀ i r, k ≤ i → i < k + X.length → f i r = [r]) → stepF f k X = X
  | [], _, _ => rfl
  | r :: X, k, h => by
    show f k r ++ stepF f (k + 1) X = r :: X
    rw [h k r (Nat.le_refl _) (by rw [List.length_cons]; omega), stepF_id f X (k + 1) fun i r h1 h2 => h i r (by omega) (by rw [List.length_cons]; omega)]
    rfl
theorem stepF_congr {f g : Nat → RowD → List RowD} : ∀ (X : List RowD) (k : Nat), (∀ i r, k ≤ i → i < k + X.length → f i r = g i r) → stepF f k X = stepF g k X
  | [], _, _ => rfl
  | r :: X, k, h => by
    show f k r ++ stepF f (k + 1) X = g k r ++ stepF g (k + 1) X
    rw [h k r (Nat.le_refl _) (by rw [List.length_cons]; omega), stepF_congr X (k + 1) fun i r h1 h2 => h i r (by omega) (by rw [List.length_cons]; omega)]
theorem withD_step (rs : List RowD) (srt : Nat → List (Nat × Nat)) (L : Nat) : ∀ n, n ≤ rs.length → withD rs srt L n = stepF (fun i r => partR r (srt i) L) 0 (rs.take n)
  | 0, _ => rfl
  | n + 1, h => by
    have e := List.getElem?_eq_getElem (show n < rs.length from h)
    rw [withD_succ e, withD_step rs srt L n (by omega), take_snoc e, stepF_app, List.length_take, Nat.min_eq_left (by omega), Nat.zero_add]
    show _ = _ ++ (partR _ (srt n) L ++ [])
    rw [List.append_nil]
/-- a row parted once -/
def partL (r : RowD) (bk : Str) (n a L : Nat) : List RowD := [(⟨r.kind, 0, r.ws.take a⟩ : RowD), ⟨bk, (n : Int), (r.ws.drop a).take L⟩, ⟨r.kind, 0, r.ws.drop (a + L)⟩].filter someB
/-- one block: a run of L words in the rows h and t -/
def cutStep (R : List RowD) (h a t b L n : Nat) : List RowD := stepF (fun k r => if k = h then partL r "take" n a L else if k = t then partL r "lay" n b L else [r]) 0 R
theorem stepF_cons (f : Nat → RowD → List RowD) (k : Nat) (r : RowD) (R : List RowD) : stepF f k (r :: R) = f k r ++ stepF f (k + 1) R := rfl
theorem stepF_two {f : Nat → RowD → List RowD} {X Y Z : List RowD} {r1 r2 : RowD} {P1 P2 : List RowD} (f1 : f X.length r1 = P1) (f2 : f (X.length + 1 + Y.length) r2 = P2) (fid : ∀ i r, i ≠ X.length → i ≠ X.length + 1 + Y.length → f i r = [r]) :
    stepF f 0 (X ++ r1 :: (Y ++ r2 :: Z)) = X ++ P1 ++ Y ++ P2 ++ Z := by
  rw [stepF_app, stepF_id f X 0 fun i r _ h => fid i r (by omega) (by omega), stepF_cons, Nat.zero_add, f1, stepF_app, stepF_id f Y _ fun i r h1 h => fid i r (by omega) (by omega), stepF_cons, f2, stepF_id f Z _ fun i r h1 h => fid i r (by omega) (by omega)]
  simp only [List.append_assoc]
theorem cutStep_ht {X Y Z : List RowD} {r1 r2 : RowD} {a b L n : Nat} : cutStep (X ++ r1 :: (Y ++ r2 :: Z)) X.length a (X.length + 1 + Y.length) b L n = X ++ partL r1 "take" n a L ++ Y ++ partL r2 "lay" n b L ++ Z := by
  refine stepF_two (if_pos rfl) ?_ fun i r h1 h2 => ?_
  · exact (if_neg (by omega)).trans (if_pos rfl)
  · exact (if_neg h1).trans (if_neg h2)
theorem cutStep_th {X Y Z : List RowD} {r1 r2 : RowD} {a b L n : Nat} : cutStep (X ++ r2 :: (Y ++ r1 :: Z)) (X.length + 1 + Y.length) a X.length b L n = X ++ partL r2 "lay" n b L ++ Y ++ partL r1 "take" n a L ++ Z := by
  refine stepF_two ?_ (if_pos rfl) fun i r h1 h2 => ?_
  · exact (if_neg (by omega)).trans (if_pos rfl)
  · exact (if_neg h2).trans (if_neg h1)
/-- a run of m words in the cut row h at a and in the put row t at b -/
def Common (R : List RowD) (h a t b m : Nat) : Prop := ∃ r r', R[h]? = some r ∧ r.kind = "cut" ∧ a + m ≤ r.ws.length ∧ R[t]? = some r' ∧ r'.kind = "put" ∧ b + m ≤ r'.ws.length ∧ (r'.ws.drop b).take m = (r.ws.drop a).take m
theorem hasD_common {R : List RowD} {m : Nat} : hasD R m = true ↔ ∃ h a t b, Common R h a t b m := by
  rw [hasD_iff]
  constructor
  · rintro ⟨a, b, a', b', r, r', h⟩
    exact ⟨a, b, a', b', r, r', h⟩
  · rintro ⟨a, b, a', b', r, r', h⟩
    exact ⟨a, b, a', b', r, r', h⟩
structure IsBest (R : List RowD) (h a t b L : Nat) : Prop where
  com : Common R h a t b L
  max : ∀ h' a' t' b', ¬ Common R h' a' t' b' (L + 1)
  fst : ∀ h' a' t' b', Common R h' a' t' b' L → (h', a') = (h, a) ∧ ((t', b') = (t, b) ∨ Lt (t, b) (t', b')) ∨ Lt (h, a) (h', a')
inductive Told : List RowD → Nat → List RowD → Prop
  | done {R : List RowD} {n : Nat} : (∀ h a t b, ¬ Common R h a t b 2) → Told R n R
  | step {R R' : List RowD} {n h a t b L : Nat} : IsBest R h a t b L → 2 ≤ L → Told (cutStep R h a t b L n) (n + 1) R' → Told R n R'
/-! #### words and places -/
def wlen (X : List RowD) : Nat := (X.map fun r => r.ws.length).sum
theorem wlen_app (X Y : List RowD) : wlen (X ++ Y) = wlen X + wlen Y := by
  unfold wlen
  rw [List.map_append, List.sum_append]
theorem wlen_cons (r : RowD) (X : List RowD) : wlen (r :: X) = r.ws.length + wlen X := rfl
theorem wlen_some : ∀ X : List RowD, wlen (X.filter someB) = wlen X
  | [] => rfl
  | r :: X => by
    rw [List.filter_cons]
    by_cases h : someB r = true
    · rw [if_pos h, wlen_cons, wlen_cons, wlen_some X]
    · rw [if_neg h, wlen_cons, wlen_some X]
      have : ¬ 0 < r.ws.length := fun z => h (decide_eq_true z)
      omega
/-- where the word a of the row h stands among all words -/
def posR (R : List RowD) (p : Pl) : Nat := wlen (R.take p.1) + p.2
theorem posR_app {X Y : List RowD} {r : RowD} {a : Nat} : posR (X ++ r :: Y) (X.length, a) = wlen X + a := by
  unfold posR
  rw [List.take_left']
  rfl
theorem wlen_take {R : List RowD} {i : Nat} {r : RowD} (h : R[i]? = some r) : wlen (R.take (i + 1)) = wlen (R.take i) + r.ws.length := by
  rw [take_snoc h, wlen_app]
  rfl
theorem wlen_mono {R : List RowD} : ∀ {i j : Nat}, i ≤ j → wlen (R.take i) ≤ wlen (R.take j) := fun {i j} h => by
  have e : R.take j = R.take i ++ (R.take j).drop i := by
    have q := (List.take_append_drop i (R.take j)).symm
    rwa [List.take_take, Nat.min_eq_left h] at q
  rw [e, wlen_app]
  exact Nat.le_add_right _ _
theorem pos_lt {R : List RowD} {p q : Pl} {r : RowD} (hp : R[p.1]? = some r) (ha : p.2 < r.ws.length) (h : Lt p q) : posR R p < posR R q := by
  unfold posR
  rcases h with h | ⟨h1, h2⟩
  · have e := wlen_take hp
    have m := wlen_mono (R := R) (show p.1 + 1 ≤ q.1 by omega)
    omega
  · rw [h1]
    omega
theorem pos_inj {R : List RowD} {p q : Pl} {r r' : RowD} (hp : R[p.1]? = some r) (ha : p.2 < r.ws.length) (hq : R[q.1]? = some r') (hb : q.2 < r'.ws.length) (e : posR R p = posR R q) : p = q := by
  rcases Classical.em (p = q) with z | z
  · exact z
  · exfalso
    rcases lt_or z with c | c
    · have := pos_lt hp ha c
      omega
    · have := pos_lt hq hb c
      omega
/-! ### the parts of one row -/
def partF (k bk : Str) (ws : List Str) (L e : Nat) (bs : List (Nat × Nat)) : List RowD := (partD k bk ws L e bs).filter someB
/-- blocks in order, none over another, from e on -/
def Okb (L m : Nat) : Nat → List (Nat × Nat) → Prop
  | e, [] => e ≤ m
  | e, x :: bs => e ≤ x.1 ∧ Okb L m (x.1 + L) bs
theorem Okb.le {L m : Nat} : ∀ {bs : List (Nat × Nat)} {e : Nat}, Okb L m e bs → e ≤ m
  | [], _, h => h
  | x :: bs, _, h => Nat.le_trans (Nat.le_trans h.1 (Nat.le_add_right _ L)) (Okb.le h.2)
theorem Okb.all {L m : Nat} : ∀ {bs : List (Nat × Nat)} {e : Nat}, Okb L m e bs → ∀ y ∈ bs, e ≤ y.1 ∧ y.1 + L ≤ m
  | x :: bs, e, h, y, hy => by
    rcases List.mem_cons.mp hy with z | z
    · subst z
      exact ⟨h.1, h.2.le⟩
    · have q := Okb.all h.2 y z
      have := h.1
      exact ⟨by omega, q.2⟩
def oneF (r : RowD) : List RowD := [r].filter someB
theorem oneF_yes {r : RowD} (h : 0 < r.ws.length) : oneF r = [r] := by
  unfold oneF
  rw [List.filter_cons, if_pos (show someB r = true from decide_eq_true h)]
  rfl
theorem oneF_no {r : RowD} (h : r.ws.length = 0) : oneF r = [] := by
  unfold oneF
  rw [List.filter_cons, if_neg (show ¬ someB r = true from fun z => by have := of_decide_eq_true z; omega)]
  rfl
theorem oneF_wlen (r : RowD) : wlen (oneF r) = r.ws.length := by
  unfold oneF
  rw [wlen_some]
  show r.ws.length + 0 = _
  rw [Nat.add_zero]
theorem partF_nil (k bk : Str) (ws : List Str) (L e : Nat) : partF k bk ws L e [] = oneF ⟨k, 0, ws.drop e⟩ := rfl
theorem partF_cons (k bk : Str) (ws : List Str) (L e b n : Nat) (bs : List (Nat × Nat)) : partF k bk ws L e ((b, n) :: bs) = oneF ⟨k, 0, (ws.drop e).take (b - e)⟩ ++ oneF ⟨bk, (n : Int), (ws.drop b).take L⟩ ++ partF k bk ws L (b + L) bs := by
  unfold partF oneF
  rw [← List.filter_append, ← List.filter_append]
  rfl
theorem partL_eq (r : RowD) (bk : Str) (n a L : Nat) : partL r bk n a L = oneF ⟨r.kind, 0, r.ws.take a⟩ ++ oneF ⟨bk, (n : Int), (r.ws.drop a).take L⟩ ++ oneF ⟨r.kind, 0, r.ws.drop (a + L)⟩ := by
  unfold partL oneF
  rw [← List.filter_append, ← List.filter_append]
  rfl
theorem partF_wlen {k bk : Str} {ws : List Str} {L : Nat} : ∀ {bs : List (Nat × Nat)} {e : Nat}, Okb L ws.length e bs → wlen (partF k bk ws L e bs) = ws.length - e
  | [], e, h => by
    rw [partF_nil, oneF_wlen, List.length_drop]
  | (b, n) :: bs, e, h => by
    have h1 : e ≤ b := h.1
    have h2 : Okb L ws.length (b + L) bs := h.2
    have h3 := h2.le
    rw [partF_cons, wlen_app, wlen_app, oneF_wlen, oneF_wlen, partF_wlen h2, List.length_take, List.length_drop, List.length_take, List.length_drop]
    omega
def insB (x : Nat × Nat) : List (Nat × Nat) → List (Nat × Nat)
  | [] => [x]
  | y :: l => if x.1 < y.1 then x :: y :: l else y :: insB x l
theorem insB_perm (x : Nat × Nat) : ∀ l, (insB x l).Perm (x :: l)
  | [] => List.Perm.refl _
  | y :: l => by
    unfold insB
    split
    · exact List.Perm.refl _
    · exact ((insB_perm x l).cons y).trans (List.Perm.swap x y l)
/-- words of a row: from s on, c of them -/
theorem drop_parts (ws : List Str) (e s c : Nat) (h : e ≤ s) : (ws.drop e).take (s - e + c) = (ws.drop e).take (s - e) ++ (ws.drop s).take c := by
  rw [List.take_add, List.drop_drop, Nat.add_sub_cancel' h]
/-- one more block in a row's parts -/
theorem part_ins {k bk : Str} {ws : List Str} {L b n : Nat} (hL : 1 ≤ L) (hb : b + L ≤ ws.length) : ∀ {bs : List (Nat × Nat)} {e : Nat}, Okb L ws.length e bs → e ≤ b → (∀ y ∈ bs, b + L ≤ y.1 ∨ y.1 + L ≤ b) →
    ∃ A C a P, partF k bk ws L e bs = A ++ (⟨k, 0, P⟩ : RowD) :: C ∧ wlen A + a = b - e ∧ a + L ≤ P.length ∧ (P.drop a).take L = (ws.drop b).take L ∧ partF k bk ws L e (insB (b, n) bs) = A ++ partL ⟨k, 0, P⟩ bk n a L ++ C ∧ Okb L ws.length e (insB (b, n) bs)
  | [], e, h, he, _ => by
    have e1 : partF k bk ws L e [] = [(⟨k, 0, ws.drop e⟩ : RowD)] := by
      rw [partF_nil, oneF_yes]
      show 0 < (ws.drop e).length
      rw [List.length_drop]
      omega
    refine ⟨[], [], b - e, ws.drop e, e1, by show 0 + (b - e) = _; omega, by rw [List.length_drop]; omega, by rw [List.drop_drop, Nat.add_sub_cancel' he], ?_, he, hb⟩
    show partF k bk ws L e [(b, n)] = _
    rw [partF_cons, partF_nil, partL_eq, List.nil_append, List.append_nil]
    show _ = oneF ⟨k, 0, (ws.drop e).take (b - e)⟩ ++ oneF ⟨bk, (n : Int), ((ws.drop e).drop (b - e)).take L⟩ ++ oneF ⟨k, 0, (ws.drop e).drop (b - e + L)⟩
    rw [List.drop_drop, List.drop_drop, Nat.add_sub_cancel' he, show e + (b - e + L) = b + L by omega]
  | (b1, n1) :: bs, e, h, he, far => by
    have h1 : e ≤ b1 := h.1
    have h2 : Okb L ws.length (b1 + L) bs := h.2
    have h3 := h2.le
    have f1 := far (b1, n1) List.mem_cons_self
    have f1 : b + L ≤ b1 ∨ b1 + L ≤ b := f1
    by_cases c : b < b1
    · have g1 : b + L ≤ b1 := by omega
      have ei : insB (b, n) ((b1, n1) :: bs) = (b, n) :: (b1, n1) :: bs := if_pos c
      have ePl : ((ws.drop e).take (b1 - e)).length = b1 - e := by
        rw [List.length_take, List.length_drop]
        omega
      refine ⟨[], oneF ⟨bk, (n1 : Int), (ws.drop b1).take L⟩ ++ partF k bk ws L (b1 + L) bs, b - e, (ws.drop e).take (b1 - e), ?_, by show 0 + (b - e) = _; omega, by rw [ePl]; omega, ?_, ?_, by rw [ei]; exact ⟨he, g1, h2⟩⟩
      · rw [partF_cons, oneF_yes (r := ⟨k, 0, (ws.drop e).take (b1 - e)⟩) (by show 0 < ((ws.drop e).take (b1 - e)).length; rw [ePl]; omega), List.append_assoc]
        rfl
      · rw [List.drop_take, List.drop_drop, Nat.add_sub_cancel' he, List.take_take, Nat.min_eq_left (by omega)]
      · rw [ei, partF_cons, partF_cons, partL_eq, List.nil_append]
        show _ = oneF ⟨k, 0, ((ws.drop e).take (b1 - e)).take (b - e)⟩ ++ oneF ⟨bk, (n : Int), (((ws.drop e).take (b1 - e)).drop (b - e)).take L⟩ ++ oneF ⟨k, 0, ((ws.drop e).take (b1 - e)).drop (b - e + L)⟩ ++ _
        rw [List.take_take, Nat.min_eq_left (show b - e ≤ b1 - e by omega), List.drop_take, List.drop_drop, Nat.add_sub_cancel' he, List.take_take, Nat.min_eq_left (show L ≤ b1 - e - (b - e) by omega), List.drop_take, List.drop_drop, show e + (b - e + L) = b + L by omega, show b1 - e - (b - e + L) = b1 - (b + L) by omega]
        simp only [List.append_assoc]
    · have g1 : b1 + L ≤ b := by omega
      have ei : insB (b, n) ((b1, n1) :: bs) = (b1, n1) :: insB (b, n) bs := if_neg c
      obtain ⟨A, C, a, P, q1, q2, q3, q4, q5, q6⟩ := part_ins (k := k) (bk := bk) (n := n) hL hb h2 g1 fun y hy => far y (List.mem_cons_of_mem _ hy)
      refine ⟨oneF ⟨k, 0, (ws.drop e).take (b1 - e)⟩ ++ oneF ⟨bk, (n1 : Int), (ws.drop b1).take L⟩ ++ A, C, a, P, ?_, ?_, q3, q4, ?_, by rw [ei]; exact ⟨h1, q6⟩⟩
      · rw [partF_cons, q1, List.append_assoc _ A]
      · rw [wlen_app, wlen_app, oneF_wlen, oneF_wlen, List.length_take, List.length_drop, List.length_take, List.length_drop]
        omega
      · rw [ei, partF_cons, q5]
        simp only [List.append_assoc]
/-- where a plain part stands -/
theorem part_loc {k bk : Str} {ws : List Str} {L : Nat} (hkb : k ≠ bk) : ∀ {bs : List (Nat × Nat)} {e : Nat}, Okb L ws.length e bs → ∀ {A C : List RowD} {r : RowD}, partF k bk ws L e bs = A ++ r :: C → r.kind = k →
    ∃ s, s = e + wlen A ∧ s + r.ws.length ≤ ws.length ∧ r.ws = (ws.drop s).take r.ws.length ∧ ∀ y ∈ bs, y.1 + L ≤ s ∨ s + r.ws.length ≤ y.1
  | [], e, h, A, C, r, q, _ => by
    have h : e ≤ ws.length := h
    by_cases c : 0 < (ws.drop e).length
    · rw [partF_nil, oneF_yes (r := ⟨k, 0, ws.drop e⟩) c] at q
      cases A with
      | nil =>
        cases q
        refine ⟨e, rfl, ?_, ?_, fun y hy => by cases hy⟩
        · show e + (ws.drop e).length ≤ _
          rw [List.length_drop]
          omega
        · show ws.drop e = (ws.drop e).take (ws.drop e).length
          rw [List.take_length]
      | cons x A =>
        have := congrArg List.length q
        simp at this
    · rw [partF_nil, oneF_no (r := ⟨k, 0, ws.drop e⟩) (Nat.eq_zero_of_not_pos c)] at q
      cases A <;> cases q
  | (b, n) :: bs, e, h, A, C, r, q, hk => by
    have h1 : e ≤ b := h.1
    have h2 : Okb L ws.length (b + L) bs := h.2
    have h3 := h2.le
    rw [partF_cons] at q
    -- ahead of the block
    by_cases c0 : 0 < ((ws.drop e).take (b - e)).length ∧ A = []
    · obtain ⟨c, rfl⟩ := c0
      rw [oneF_yes (r := ⟨k, 0, (ws.drop e).take (b - e)⟩) c] at q
      cases q
      have el : ((ws.drop e).take (b - e)).length = b - e := by
        rw [List.length_take, List.length_drop]
        omega
      refine ⟨e, rfl, ?_, ?_, fun y hy => ?_⟩
      · show e + ((ws.drop e).take (b - e)).length ≤ _
        omega
      · show (ws.drop e).take (b - e) = (ws.drop e).take ((ws.drop e).take (b - e)).length
        rw [el]
      · show _ ∨ e + ((ws.drop e).take (b - e)).length ≤ _
        rcases List.mem_cons.mp hy with z | z
        · subst z
          exact .inr (by omega)
        · have := (Okb.all h2 y z).1
          exact .inr (by omega)
    · -- behind it
      have key : ∀ A', A = oneF ⟨k, 0, (ws.drop e).take (b - e)⟩ ++ oneF ⟨bk, (n : Int), (ws.drop b).take L⟩ ++ A' → partF k bk ws L (b + L) bs = A' ++ r :: C → ∃ s, s = e + wlen A ∧ s + r.ws.length ≤ ws.length ∧ r.ws = (ws.drop s).take r.ws.length ∧ ∀ y ∈ (b, n) :: bs, y.1 + L ≤ s ∨ s + r.ws.length ≤ y.1 := fun A' eA qA => by
        obtain ⟨s, g1, g2, g3, g4⟩ := part_loc hkb h2 qA hk
        refine ⟨s, ?_, g2, g3, fun y hy => ?_⟩
        · rw [eA, wlen_app, wlen_app, oneF_wlen, oneF_wlen, List.length_take, List.length_drop, List.length_take, List.length_drop]
          omega
        · rcases List.mem_cons.mp hy with z | z
          · subst z
            exact .inl (by show b + L ≤ s; omega)
          · exact g4 y z
      -- the block's part is no plain one
      have blk : ∀ X, oneF ⟨bk, (n : Int), (ws.drop b).take L⟩ ++ partF k bk ws L (b + L) bs = X ++ r :: C → ∃ A', X = oneF ⟨bk, (n : Int), (ws.drop b).take L⟩ ++ A' ∧ partF k bk ws L (b + L) bs = A' ++ r :: C := fun X qX => by
        by_cases c : 0 < ((ws.drop b).take L).length
        · rw [oneF_yes (r := ⟨bk, (n : Int), (ws.drop b).take L⟩) c] at qX ⊢
          cases X with
          | nil =>
            have e1 := (List.cons.inj qX).1
            rw [← e1] at hk
            exact absurd hk.symm hkb
          | cons x X =>
            have e1 := List.cons.inj qX
            exact ⟨X, by rw [← e1.1]; rfl, e1.2⟩
        · rw [oneF_no (r := ⟨bk, (n : Int), (ws.drop b).take L⟩) (Nat.eq_zero_of_not_pos c)] at qX ⊢
          exact ⟨X, rfl, qX⟩
      rw [List.append_assoc] at q
      by_cases c : 0 < ((ws.drop e).take (b - e)).length
      · rw [oneF_yes (r := ⟨k, 0, (ws.drop e).take (b - e)⟩) c] at q
        cases A with
        | nil => exact absurd ⟨c, rfl⟩ c0
        | cons x A =>
          have q1 := List.cons.inj q
          obtain ⟨A', e1, e2⟩ := blk A q1.2
          refine key A' ?_ e2
          rw [oneF_yes (r := ⟨k, 0, (ws.drop e).take (b - e)⟩) c, e1, ← q1.1]
          rfl
      · rw [oneF_no (r := ⟨k, 0, (ws.drop e).take (b - e)⟩) (Nat.eq_zero_of_not_pos c), List.nil_append] at q
        obtain ⟨A', e1, e2⟩ := blk A q
        refine key A' ?_ e2
        rw [oneF_no (r := ⟨k, 0, (ws.drop e).take (b - e)⟩) (Nat.eq_zero_of_not_pos c), e1]
        rfl
/-! ### a pass is one block after the other -/
theorem stepF_at {f : Nat → RowD → List RowD} : ∀ {X : List RowD} {k : Nat} {A C : List RowD} {r' : RowD}, stepF f k X = A ++ r' :: C → ∃ B1 r B2 A1 C1, X = B1 ++ r :: B2 ∧ f (k + B1.length) r = A1 ++ r' :: C1 ∧ A = stepF f k B1 ++ A1
  | [], k, A, C, r', h => by
    have h : ([] : List RowD) = A ++ r' :: C := h
    cases A <;> cases h
  | x :: X, k, A, C, r', h => by
    rw [stepF_cons] at h
    rcases List.append_eq_append_iff.mp h with ⟨D, h1, h2⟩ | ⟨D, h1, h2⟩
    · -- behind the first
      obtain ⟨B1, r, B2, A1, C1, g1, g2, g3⟩ := stepF_at h2
      refine ⟨x :: B1, r, B2, A1, C1, by rw [g1]; rfl, ?_, ?_⟩
      · rw [List.length_cons, show k + (B1.length + 1) = k + 1 + B1.length by omega]
        exact g2
      · rw [h1, g3, stepF_cons, List.append_assoc]
    · cases D with
      | nil =>
        rw [List.append_nil] at h1
        rw [List.nil_append] at h2
        obtain ⟨B1, r, B2, A1, C1, g1, g2, g3⟩ := stepF_at (A := []) h2.symm
        refine ⟨x :: B1, r, B2, A1, C1, by rw [g1]; rfl, ?_, ?_⟩
        · rw [List.length_cons, show k + (B1.length + 1) = k + 1 + B1.length by omega]
          exact g2
        · rw [stepF_cons, List.append_assoc, ← g3, List.append_nil]
          exact h1.symm
      | cons y D =>
        have e := List.cons.inj h2
        refine ⟨[], x, X, A, D, rfl, ?_, ?_⟩
        · show f (k + 0) x = _
          rw [Nat.add_zero, h1, e.1]
        · show A = [] ++ A
          rfl
theorem stepF_wlen {f : Nat → RowD → List RowD} : ∀ (X : List RowD) (k : Nat), (∀ (i : Nat) (r : RowD), X[i]? = some r → wlen (f (k + i) r) = r.ws.length) → wlen (stepF f k X) = wlen X
  | [], _, _ => rfl
  | r :: X, k, h => by
    have h0 : wlen (f k r) = r.ws.length := h 0 r rfl
    rw [stepF_cons, wlen_app, wlen_cons, h0, stepF_wlen X (k + 1) fun i r hi => by
      have := h (i + 1) r hi
      rwa [show k + (i + 1) = k + 1 + i by omega] at this]
theorem take_split {α : Type} {l : List α} {i : Nat} {x : α} (h : l[i]? = some x) : l = l.take i ++ x :: l.drop (i + 1) ∧ (l.take i).length = i := by
  obtain ⟨hi, e⟩ := List.getElem?_eq_some_iff.mp h
  refine ⟨?_, by rw [List.length_take]; omega⟩
  have q := (List.take_append_drop i l).symm
  rwa [List.drop_eq_getElem_cons hi, e] at q
theorem split_two {α : Type} {l : List α} {i j : Nat} {x y : α} (hi : l[i]? = some x) (hj : l[j]? = some y) (lt : i < j) : ∃ B1 B2 B3, l = B1 ++ x :: (B2 ++ y :: B3) ∧ B1.length = i ∧ i + 1 + B2.length = j := by
  obtain ⟨e1, e2⟩ := take_split hi
  have hj' : (l.drop (i + 1))[j - (i + 1)]? = some y := by
    rw [List.getElem?_drop, show i + 1 + (j - (i + 1)) = j by omega]
    exact hj
  obtain ⟨e3, e4⟩ := take_split hj'
  exact ⟨_, _, _, by rw [← e3]; exact e1, e2, by rw [e4]; omega⟩
def isCP (k : Str) : Prop := k = "cut" ∨ k = "put"
theorem bkOf_not (k k' : Str) (h : isCP k') : bkOf k ≠ k' := by
  unfold bkOf
  rcases h with h | h <;> subst h <;> (split <;> decide +kernel)
/-- rows that are told without blocks, or partly -/
structure Plain (rs : List RowD) : Prop where
  ne : ∀ r ∈ rs, r.ws ≠ []
  num : ∀ r ∈ rs, isCP r.kind → r.num = 0
def RK (rs : List RowD) (S : Nat → List (Nat × Nat)) (L : Nat) : List RowD := stepF (fun i r => partR r (S i) L) 0 rs
structure GoodS (rs : List RowD) (S : Nat → List (Nat × Nat)) (L : Nat) : Prop where
  ok : ∀ (i : Nat) (r : RowD), rs[i]? = some r → Okb L r.ws.length 0 (S i)
  cp : ∀ (i : Nat) (r : RowD), rs[i]? = some r → S i ≠ [] → isCP r.kind
theorem partR_F {r : RowD} {bs : List (Nat × Nat)} {L : Nat} (hn : r.num = 0) (ne : r.ws ≠ []) : partR r bs L = partF r.kind (bkOf r.kind) r.ws L 0 bs := by
  unfold partR
  split
  · next h =>
    subst h
    rw [partF_nil, List.drop_zero, oneF_yes (r := ⟨r.kind, 0, r.ws⟩) (List.length_pos_iff.mpr ne)]
    obtain ⟨k, n, ws⟩ := r
    have hn : n = 0 := hn
    rw [hn]
  · rfl
theorem partR_wlen {rs : List RowD} {S : Nat → List (Nat × Nat)} {L : Nat} (p : Plain rs) (g : GoodS rs S L) {i : Nat} {r : RowD} (h : rs[i]? = some r) : wlen (partR r (S i) L) = r.ws.length := by
  have hm := List.mem_of_getElem? h
  by_cases c : S i = []
  · unfold partR
    rw [if_pos c]
    show r.ws.length + 0 = _
    rw [Nat.add_zero]
  · rw [partR_F (p.num r hm (g.cp i r h c)) (p.ne r hm), partF_wlen (g.ok i r h), Nat.sub_zero]
theorem partD_kind (k bk : Str) (ws : List Str) (L : Nat) : ∀ (bs : List (Nat × Nat)) (e : Nat), ∀ r ∈ partD k bk ws L e bs, r.kind = k ∨ r.kind = bk
  | [], e, r, h => by
    rw [List.mem_singleton.mp h]
    exact .inl rfl
  | (b, n) :: bs, e, r, h => by
    have h : r ∈ (⟨k, 0, (ws.drop e).take (b - e)⟩ : RowD) :: ⟨bk, (n : Int), (ws.drop b).take L⟩ :: partD k bk ws L (b + L) bs := h
    rcases List.mem_cons.mp h with z | z
    · rw [z]
      exact .inl rfl
    · rcases List.mem_cons.mp z with z | z
      · rw [z]
        exact .inr rfl
      · exact partD_kind k bk ws L bs _ r z
/-- a plain row of the new telling comes out of a row of the old one -/
theorem loc_back {rs : List RowD} {S : Nat → List (Nat × Nat)} {L : Nat} (p : Plain rs) (g : GoodS rs S L) {A C : List RowD} {r' : RowD} (h : RK rs S L = A ++ r' :: C) (hk : isCP r'.kind) :
    ∃ i r s, rs[i]? = some r ∧ r.kind = r'.kind ∧ wlen A = wlen (rs.take i) + s ∧ s + r'.ws.length ≤ r.ws.length ∧ r'.ws = (r.ws.drop s).take r'.ws.length ∧ ∀ y ∈ S i, y.1 + L ≤ s ∨ s + r'.ws.length ≤ y.1 := by
  obtain ⟨B1, r, B2, A1, C1, h1, h2, h3⟩ := stepF_at h
  rw [Nat.zero_add] at h2
  have hi : rs[B1.length]? = some r := by
    rw [h1, List.getElem?_append_right (Nat.le_refl _), Nat.sub_self]
    rfl
  have hm := List.mem_of_getElem? hi
  have tk : rs.take B1.length = B1 := by rw [h1, List.take_left']; rfl
  have wB : wlen (stepF (fun i r => partR r (S i) L) 0 B1) = wlen B1 := stepF_wlen B1 0 fun i r hi => by
    rw [Nat.zero_add]
    refine partR_wlen p g ?_
    rw [h1, List.getElem?_append_left (List.getElem?_eq_some_iff.mp hi).1]
    exact hi
  have same : r.kind = r'.kind := by
    have hr' : r' ∈ partR r (S B1.length) L := by
      rw [h2]
      exact List.mem_append_right _ List.mem_cons_self
    unfold partR at hr'
    split at hr'
    · rw [List.mem_singleton.mp hr']
    · rcases partD_kind _ _ _ _ _ _ _ (List.mem_filter.mp hr').1 with z | z
      · exact z.symm
      · exact absurd z.symm (bkOf_not _ _ hk)
  have hk' : isCP r.kind := same ▸ hk
  have h2 : partR r (S B1.length) L = A1 ++ r' :: C1 := h2
  rw [partR_F (p.num r hm hk') (p.ne r hm)] at h2
  obtain ⟨s, s1, s2, s3, s4⟩ := part_loc (fun z => bkOf_not r.kind r.kind hk' z.symm) (g.ok _ _ hi) h2 same.symm
  refine ⟨B1.length, r, s, hi, same, ?_, s2, s3, s4⟩
  rw [h3, wlen_app, wB, tk, s1]
  omega
/-- the new lists of blocks -/
def insS (S : Nat → List (Nat × Nat)) (c p : Pl) (n : Nat) : Nat → List (Nat × Nat) := fun q => if q = c.1 then insB (c.2, n) (S q) else if q = p.1 then insB (p.2, n) (S q) else S q
theorem free_blk {S : Nat → List (Nat × Nat)} {L : Nat} {bl : List Pl} {i b : Nat} (hL : 1 ≤ L) (hS : ∀ y ∈ S i, (i, y.1) ∈ bl) (f : FreeP L bl (i, b)) : ∀ y ∈ S i, b + L ≤ y.1 ∨ y.1 + L ≤ b := fun y hy => by
  rcases Nat.lt_or_ge y.1 (b + L) with c | c
  · rcases Nat.lt_or_ge b (y.1 + L) with d | d
    · exfalso
      rcases Nat.lt_or_ge b y.1 with z | z
      · exact f y.1 (Nat.le_of_lt z) c ⟨(i, y.1), hS y hy, rfl, Nat.le_refl _, by show y.1 < y.1 + L; omega⟩
      · exact f b (Nat.le_refl _) (by show b < b + L; omega) ⟨(i, y.1), hS y hy, rfl, z, d⟩
    · exact .inr d
  · exact .inl c
theorem RK_two {rs B1 B2 B3 : List RowD} {x y : RowD} {S : Nat → List (Nat × Nat)} {L i j : Nat} (e : rs = B1 ++ x :: (B2 ++ y :: B3)) (l1 : B1.length = i) (l2 : i + 1 + B2.length = j) :
    RK rs S L = stepF (fun i r => partR r (S i) L) 0 B1 ++ (partR x (S i) L ++ (stepF (fun i r => partR r (S i) L) (i + 1) B2 ++ (partR y (S j) L ++ stepF (fun i r => partR r (S i) L) (j + 1) B3))) := by
  unfold RK
  rw [e, stepF_app, stepF_cons, stepF_app, stepF_cons, Nat.zero_add, l1, l2]
/-- one more pair is one more step -/
theorem step_two {rs : List RowD} {S : Nat → List (Nat × Nat)} {L n : Nat} (p : Plain rs) (g : GoodS rs S L) (hL : 1 ≤ L) {i b j b' : Nat} {ri rj : RowD} (hi : rs[i]? = some ri) (hj : rs[j]? = some rj) (ki : ri.kind = "cut") (kj : rj.kind = "put")
    (fi : b + L ≤ ri.ws.length) (fj : b' + L ≤ rj.ws.length) (di : ∀ y ∈ S i, b + L ≤ y.1 ∨ y.1 + L ≤ b) (dj : ∀ y ∈ S j, b' + L ≤ y.1 ∨ y.1 + L ≤ b') (eq : (rj.ws.drop b').take L = (ri.ws.drop b).take L) :
    ∃ h a t a' r1 r2, (RK rs S L)[h]? = some r1 ∧ a + L ≤ r1.ws.length ∧ (RK rs S L)[t]? = some r2 ∧ a' + L ≤ r2.ws.length ∧ Common (RK rs S L) h a t a' L ∧ posR (RK rs S L) (h, a) = posR rs (i, b) ∧ posR (RK rs S L) (t, a') = posR rs (j, b') ∧ RK rs (insS S (i, b) (j, b') n) L = cutStep (RK rs S L) h a t a' L n ∧ GoodS rs (insS S (i, b) (j, b') n) L := by
  have ij : i ≠ j := fun z => by
    subst z
    rw [hi] at hj
    cases hj
    rw [ki] at kj
    exact absurd kj (by decide +kernel)
  have mi := List.mem_of_getElem? hi
  have mj := List.mem_of_getElem? hj
  have pi := fun bs => partR_F (bs := bs) (L := L) (p.num ri mi (.inl ki)) (p.ne ri mi)
  have pj := fun bs => partR_F (bs := bs) (L := L) (p.num rj mj (.inr kj)) (p.ne rj mj)
  obtain ⟨A, C, a, P, q1, q2, q3, q4, q5, q6⟩ := part_ins (k := ri.kind) (bk := bkOf ri.kind) (n := n) hL fi (g.ok i ri hi) (Nat.zero_le _) di
  obtain ⟨A', C', a', P', w1, w2, w3, w4, w5, w6⟩ := part_ins (k := rj.kind) (bk := bkOf rj.kind) (n := n) hL fj (g.ok j rj hj) (Nat.zero_le _) dj
  rw [← pi] at q1 q5
  rw [← pj] at w1 w5
  have bi : bkOf ri.kind = "take" := if_pos ki
  have bj : bkOf rj.kind = "lay" := if_neg (by rw [kj]; decide +kernel)
  rw [bi] at q5
  rw [bj] at w5
  have si : insS S (i, b) (j, b') n i = insB (b, n) (S i) := if_pos rfl
  have sj : insS S (i, b) (j, b') n j = insB (b', n) (S j) := (if_neg (Ne.symm ij)).trans (if_pos rfl)
  have so : ∀ q, q ≠ i → q ≠ j → insS S (i, b) (j, b') n q = S q := fun q h1 h2 => (if_neg h1).trans (if_neg h2)
  have good : GoodS rs (insS S (i, b) (j, b') n) L := by
    constructor
    · intro q r hq
      by_cases z1 : q = i
      · subst z1
        rw [hi] at hq
        cases hq
        rw [si]
        exact q6
      · by_cases z2 : q = j
        · subst z2
          rw [hj] at hq
          cases hq
          rw [sj]
          exact w6
        · rw [so q z1 z2]
          exact g.ok q r hq
    · intro q r hq ne
      by_cases z1 : q = i
      · subst z1
        rw [hi] at hq
        cases hq
        exact .inl ki
      · by_cases z2 : q = j
        · subst z2
          rw [hj] at hq
          cases hq
          exact .inr kj
        · rw [so q z1 z2] at ne
          exact g.cp q r hq ne
  have cong : ∀ (B : List RowD) (k : Nat), (∀ q, k ≤ q → q < k + B.length → q ≠ i ∧ q ≠ j) → stepF (fun i' r => partR r (insS S (i, b) (j, b') n i') L) k B = stepF (fun i r => partR r (S i) L) k B := fun B k h => by
    refine stepF_congr B k fun q r h1 h2 => ?_
    have := h q h1 h2
    rw [so q this.1 this.2]
  rcases Nat.lt_or_gt_of_ne ij with lt | lt
  · obtain ⟨B1, B2, B3, e, l1, l2⟩ := split_two hi hj lt
    have e1 := RK_two (S := S) (L := L) e l1 l2
    have e2 := RK_two (S := insS S (i, b) (j, b') n) (L := L) e l1 l2
    rw [si, sj, q5, w5, cong B1 0 (fun q h1 h2 => by omega), cong B2 (i + 1) (fun q h1 h2 => by omega), cong B3 (j + 1) (fun q h1 h2 => by omega)] at e2
    have w1' : wlen (stepF (fun i r => partR r (S i) L) 0 B1) = wlen B1 := stepF_wlen B1 0 fun q r hq => by
      rw [Nat.zero_add]
      refine partR_wlen p g ?_
      rw [e, List.getElem?_append_left (List.getElem?_eq_some_iff.mp hq).1]
      exact hq
    have w2' : wlen (stepF (fun i r => partR r (S i) L) (i + 1) B2) = wlen B2 := stepF_wlen B2 (i + 1) fun q r hq => by
      refine partR_wlen p g ?_
      have lq := (List.getElem?_eq_some_iff.mp hq).1
      rw [e, List.getElem?_append_right (by omega), l1, show i + 1 + q - i = q + 1 by omega, List.getElem?_cons_succ, List.getElem?_append_left lq]
      exact hq
    have wi := partR_wlen p g hi
    have tk1 : wlen (rs.take i) = wlen B1 := by rw [e, List.take_left' l1]
    have tk2 : wlen (rs.take j) = wlen B1 + ri.ws.length + wlen B2 := by
      rw [e, show B1 ++ ri :: (B2 ++ rj :: B3) = (B1 ++ ri :: B2) ++ rj :: B3 by simp, List.take_left' (by simp; omega), wlen_app, wlen_cons]
      omega
    rw [q1, w1] at e1
    rw [q1, wlen_app, wlen_cons] at wi
    have wi : wlen A + (P.length + wlen C) = ri.ws.length := wi
    generalize stepF (fun i r => partR r (S i) L) 0 B1 = U1 at e1 e2 w1'
    generalize stepF (fun i r => partR r (S i) L) (i + 1) B2 = U2 at e1 e2 w2'
    generalize stepF (fun i r => partR r (S i) L) (j + 1) B3 = U3 at e1 e2
    have f1 : RK rs S L = (U1 ++ A) ++ (⟨ri.kind, 0, P⟩ : RowD) :: ((C ++ U2 ++ A') ++ (⟨rj.kind, 0, P'⟩ : RowD) :: (C' ++ U3)) := by
      rw [e1]
      simp only [List.append_assoc, List.cons_append]
    have f2 : RK rs (insS S (i, b) (j, b') n) L = (U1 ++ A) ++ partL ⟨ri.kind, 0, P⟩ "take" n a L ++ (C ++ U2 ++ A') ++ partL ⟨rj.kind, 0, P'⟩ "lay" n a' L ++ (C' ++ U3) := by
      rw [e2]
      simp only [List.append_assoc]
    have g1 : (RK rs S L)[(U1 ++ A).length]? = some ⟨ri.kind, 0, P⟩ := by
      rw [f1, List.getElem?_append_right (Nat.le_refl _), Nat.sub_self]
      rfl
    have g2 : (RK rs S L)[(U1 ++ A).length + 1 + (C ++ U2 ++ A').length]? = some ⟨rj.kind, 0, P'⟩ := by
      rw [f1, List.getElem?_append_right (by omega), show (U1 ++ A).length + 1 + (C ++ U2 ++ A').length - (U1 ++ A).length = (C ++ U2 ++ A').length + 1 by omega, List.getElem?_cons_succ, List.getElem?_append_right (Nat.le_refl _), Nat.sub_self]
      rfl
    refine ⟨_, a, _, a', _, _, g1, q3, g2, w3, ⟨_, _, g1, ki, q3, g2, kj, w3, by rw [q4]; show (P'.drop a').take L = _; rw [w4, eq]⟩, ?_, ?_, ?_, good⟩
    · rw [f1, posR_app, wlen_app]
      unfold posR
      show _ = wlen (rs.take i) + b
      omega
    · have f3 : RK rs S L = ((U1 ++ A) ++ (⟨ri.kind, 0, P⟩ : RowD) :: (C ++ U2 ++ A')) ++ (⟨rj.kind, 0, P'⟩ : RowD) :: (C' ++ U3) := by
        rw [f1]
        simp only [List.append_assoc, List.cons_append]
      have hl : (U1 ++ A).length + 1 + (C ++ U2 ++ A').length = ((U1 ++ A) ++ (⟨ri.kind, 0, P⟩ : RowD) :: (C ++ U2 ++ A')).length := by
        simp only [List.length_append, List.length_cons]
        omega
      rw [hl, f3, posR_app, wlen_app, wlen_cons, wlen_app, wlen_app, wlen_app]
      unfold posR
      show wlen U1 + wlen A + (P.length + (wlen C + wlen U2 + wlen A')) + a' = wlen (rs.take j) + b'
      omega
    · rw [f2, f1]
      exact cutStep_ht.symm
  · obtain ⟨B1, B2, B3, e, l1, l2⟩ := split_two hj hi lt
    have e1 := RK_two (S := S) (L := L) e l1 l2
    have e2 := RK_two (S := insS S (i, b) (j, b') n) (L := L) e l1 l2
    rw [si, sj, q5, w5, cong B1 0 (fun q h1 h2 => by omega), cong B2 (j + 1) (fun q h1 h2 => by omega), cong B3 (i + 1) (fun q h1 h2 => by omega)] at e2
    have w1' : wlen (stepF (fun i r => partR r (S i) L) 0 B1) = wlen B1 := stepF_wlen B1 0 fun q r hq => by
      rw [Nat.zero_add]
      refine partR_wlen p g ?_
      rw [e, List.getElem?_append_left (List.getElem?_eq_some_iff.mp hq).1]
      exact hq
    have w2' : wlen (stepF (fun i r => partR r (S i) L) (j + 1) B2) = wlen B2 := stepF_wlen B2 (j + 1) fun q r hq => by
      refine partR_wlen p g ?_
      have lq := (List.getElem?_eq_some_iff.mp hq).1
      rw [e, List.getElem?_append_right (by omega), l1, show j + 1 + q - j = q + 1 by omega, List.getElem?_cons_succ, List.getElem?_append_left lq]
      exact hq
    have wj := partR_wlen p g hj
    have tk1 : wlen (rs.take j) = wlen B1 := by rw [e, List.take_left' l1]
    have tk2 : wlen (rs.take i) = wlen B1 + rj.ws.length + wlen B2 := by
      rw [e, show B1 ++ rj :: (B2 ++ ri :: B3) = (B1 ++ rj :: B2) ++ ri :: B3 by simp, List.take_left' (by simp; omega), wlen_app, wlen_cons]
      omega
    rw [q1, w1] at e1
    rw [w1, wlen_app, wlen_cons] at wj
    have wj : wlen A' + (P'.length + wlen C') = rj.ws.length := wj
    generalize stepF (fun i r => partR r (S i) L) 0 B1 = U1 at e1 e2 w1'
    generalize stepF (fun i r => partR r (S i) L) (j + 1) B2 = U2 at e1 e2 w2'
    generalize stepF (fun i r => partR r (S i) L) (i + 1) B3 = U3 at e1 e2
    have f1 : RK rs S L = (U1 ++ A') ++ (⟨rj.kind, 0, P'⟩ : RowD) :: ((C' ++ U2 ++ A) ++ (⟨ri.kind, 0, P⟩ : RowD) :: (C ++ U3)) := by
      rw [e1]
      simp only [List.append_assoc, List.cons_append]
    have f2 : RK rs (insS S (i, b) (j, b') n) L = (U1 ++ A') ++ partL ⟨rj.kind, 0, P'⟩ "lay" n a' L ++ (C' ++ U2 ++ A) ++ partL ⟨ri.kind, 0, P⟩ "take" n a L ++ (C ++ U3) := by
      rw [e2]
      simp only [List.append_assoc]
    have g2 : (RK rs S L)[(U1 ++ A').length]? = some ⟨rj.kind, 0, P'⟩ := by
      rw [f1, List.getElem?_append_right (Nat.le_refl _), Nat.sub_self]
      rfl
    have g1 : (RK rs S L)[(U1 ++ A').length + 1 + (C' ++ U2 ++ A).length]? = some ⟨ri.kind, 0, P⟩ := by
      rw [f1, List.getElem?_append_right (by omega), show (U1 ++ A').length + 1 + (C' ++ U2 ++ A).length - (U1 ++ A').length = (C' ++ U2 ++ A).length + 1 by omega, List.getElem?_cons_succ, List.getElem?_append_right (Nat.le_refl _), Nat.sub_self]
      rfl
    refine ⟨_, a, _, a', _, _, g1, q3, g2, w3, ⟨_, _, g1, ki, q3, g2, kj, w3, by rw [q4]; show (P'.drop a').take L = _; rw [w4, eq]⟩, ?_, ?_, ?_, good⟩
    · have f3 : RK rs S L = ((U1 ++ A') ++ (⟨rj.kind, 0, P'⟩ : RowD) :: (C' ++ U2 ++ A)) ++ (⟨ri.kind, 0, P⟩ : RowD) :: (C ++ U3) := by
        rw [f1]
        simp only [List.append_assoc, List.cons_append]
      have hl : (U1 ++ A').length + 1 + (C' ++ U2 ++ A).length = ((U1 ++ A') ++ (⟨rj.kind, 0, P'⟩ : RowD) :: (C' ++ U2 ++ A)).length := by
        simp only [List.length_append, List.length_cons]
        omega
      rw [hl, f3, posR_app, wlen_app, wlen_cons, wlen_app, wlen_app, wlen_app]
      unfold posR
      show wlen U1 + wlen A' + (P'.length + (wlen C' + wlen U2 + wlen A)) + a = wlen (rs.take i) + b
      omega
    · rw [f1, posR_app, wlen_app]
      unfold posR
      show _ = wlen (rs.take j) + b'
      omega
    · rw [f2, f1]
      exact cutStep_th.symm
/-! ### the whole pass -/
theorem sub_run {xs ws : List Str} {s a l : Nat} (h : xs = (ws.drop s).take xs.length) (ha : a + l ≤ xs.length) : (xs.drop a).take l = (ws.drop (s + a)).take l := by
  rw [h, List.drop_take, List.drop_drop, List.take_take, Nat.min_eq_left (by omega)]
theorem lt_of_pos {R : List RowD} {p q : Pl} {r : RowD} (hq : R[q.1]? = some r) (hb : q.2 < r.ws.length) (h : posR R p < posR R q) : Lt p q := by
  rcases Classical.em (p = q) with z | z
  · subst z
    omega
  · rcases lt_or z with c | c
    · exact c
    · have := pos_lt hq hb c
      omega
/-- the blocks of S are those of bl -/
structure SBl (S : Nat → List (Nat × Nat)) (bl : List Pl) : Prop where
  sub : ∀ i, ∀ y ∈ S i, (i, y.1) ∈ bl
  all : ∀ q ∈ bl, ∃ n, (q.2, n) ∈ S q.1
theorem SBl.free {S : Nat → List (Nat × Nat)} {bl : List Pl} {L i s m a : Nat} (x : SBl S bl) (h : ∀ y ∈ S i, y.1 + L ≤ s ∨ s + m ≤ y.1) (ha : a + L ≤ m) : FreeP L bl (i, s + a) := by
  rintro x1 h1 h2 ⟨q, q1, q2, q3, q4⟩
  have q2 : q.1 = i := q2
  obtain ⟨n, hn⟩ := x.all q q1
  rw [q2] at hn
  have h1 : s + a ≤ x1 := h1
  have h2 : x1 < s + a + L := h2
  rcases h _ hn with z | z
  · have z : q.2 + L ≤ s := z
    omega
  · have z : s + m ≤ q.2 := z
    omega
/-- a plain place of the new telling is a free place of the old one -/
theorem place_back {rs : List RowD} {S : Nat → List (Nat × Nat)} {bl : List Pl} {L m : Nat} (p : Plain rs) (g : GoodS rs S L) (x : SBl S bl) {h a : Nat} {r' : RowD} (hr : (RK rs S L)[h]? = some r') (hk : isCP r'.kind) (ha : a + m ≤ r'.ws.length) :
    ∃ c r, rs[c.1]? = some r ∧ r.kind = r'.kind ∧ c.2 + m ≤ r.ws.length ∧ posR (RK rs S L) (h, a) = posR rs c ∧ (r.ws.drop c.2).take m = (r'.ws.drop a).take m ∧ (L ≤ m → FreeP L bl c) := by
  obtain ⟨e1, e2⟩ := take_split hr
  obtain ⟨i, r, s, h1, h2, h3, h4, h5, h6⟩ := loc_back p g e1 hk
  refine ⟨(i, s + a), r, h1, h2, by show s + a + m ≤ _; omega, ?_, (sub_run h5 ha).symm, fun hm => x.free h6 (by omega)⟩
  show wlen ((RK rs S L).take h) + a = wlen (rs.take i) + (s + a)
  omega
theorem best_of {rs : List RowD} {S : Nat → List (Nat × Nat)} {bl : List Pl} {L : Nat} (hL : 1 ≤ L) (pl : Plain rs) (g : GoodS rs S L) (x : SBl S bl) (no : hasD rs (L + 1) = false) {c p : Pl} (F : First rs L bl c p) {h a t b : Nat} {r1 r2 : RowD}
    (h1 : (RK rs S L)[h]? = some r1) (a1 : a + L ≤ r1.ws.length) (h2 : (RK rs S L)[t]? = some r2) (b1 : b + L ≤ r2.ws.length) (cm : Common (RK rs S L) h a t b L) (pc : posR (RK rs S L) (h, a) = posR rs c) (pp : posR (RK rs S L) (t, b) = posR rs p) : IsBest (RK rs S L) h a t b L := by
  refine ⟨cm, fun h' a' t' b' ⟨r, r', g1, g2, g3, g4, g5, g6, g7⟩ => ?_, fun h' a' t' b' ⟨r, r', g1, g2, g3, g4, g5, g6, g7⟩ => ?_⟩
  · obtain ⟨c', rc, k1, k2, k3, _, k4, _⟩ := place_back pl g x g1 (.inl g2) g3
    obtain ⟨p', rp, l1, l2, l3, _, l4, _⟩ := place_back pl g x g4 (.inr g5) g6
    have : hasD rs (L + 1) = true := hasD_common.2 ⟨c'.1, c'.2, p'.1, p'.2, rc, rp, k1, k2.trans g2, k3, l1, l2.trans g5, l3, by rw [l4, k4]; exact g7⟩
    rw [no] at this
    cases this
  · obtain ⟨c', rc, k1, k2, k3, k5, k4, k6⟩ := place_back pl g x g1 (.inl g2) g3
    obtain ⟨p', rp, l1, l2, l3, l5, l4, l6⟩ := place_back pl g x g4 (.inr g5) g6
    have cin : c' ∈ cutP rs L := mem_plD.2 ⟨rc, k1, k2.trans g2, k3⟩
    have pin : p' ∈ putP rs L := mem_plD.2 ⟨rp, l1, l2.trans g5, l3⟩
    have er : runD rs L p' = runD rs L c' := (runD_at l1).trans ((l4.trans (g7.trans k4.symm)).trans (runD_at k1).symm)
    have n1 : ¬ Lt c' c := fun z => F.cut1 c' cin z (k6 (Nat.le_refl _)) p' pin (l6 (Nat.le_refl _)) er
    obtain ⟨rc0, c1, c2, c3⟩ := mem_plD.1 F.cin
    obtain ⟨rp0, d1, d2, d3⟩ := mem_plD.1 F.pin
    rcases Classical.em (c' = c) with z | z
    · subst z
      have e1 : ((h', a') : Pl) = (h, a) := pos_inj g1 (by show a' < _; omega) h1 (by show a < _; omega) (by rw [k5, pc])
      refine .inl ⟨e1, ?_⟩
      have n2 : ¬ Lt p' p := fun z => F.put1 p' pin z (l6 (Nat.le_refl _)) er
      rcases Classical.em (p' = p) with y | y
      · subst y
        exact .inl (pos_inj g4 (by show b' < _; omega) h2 (by show b < _; omega) (by rw [l5, pp]))
      · refine .inr ?_
        rcases lt_or y with y | y
        · exact absurd y n2
        · refine lt_of_pos g4 (by show b' < _; omega) ?_
          rw [l5, pp]
          exact pos_lt d1 (by omega) y
    · rcases lt_or z with z | z
      · exact absurd z n1
      · refine .inr (lt_of_pos g1 (by show a' < _; omega) ?_)
        rw [k5, pc]
        exact pos_lt c1 (by omega) z
theorem RK_nil (rs : List RowD) (L : Nat) : RK rs (fun _ => []) L = rs := stepF_id _ rs 0 fun i r _ _ => if_pos rfl
theorem goodS_nil (rs : List RowD) (L : Nat) : GoodS rs (fun _ => []) L := ⟨fun i r _ => Nat.zero_le _, fun i r _ h => absurd rfl h⟩
theorem pass_chain {rs : List RowD} {L n : Nat} (hL : 2 ≤ L) (pl : Plain rs) (no : hasD rs (L + 1) = false) {ps : List Pr} (G : Greedy rs L ps) : ∀ k, k ≤ ps.length → ∃ S, (∀ i, (S i).Perm (bnAt i (itB n (ps.take k)))) ∧ GoodS rs S L ∧ SBl S (blkOf (ps.take k)) ∧ ∀ R', Told (RK rs S L) (n + k) R' → Told rs n R'
  | 0, _ => ⟨fun _ => [], fun i => List.Perm.refl _, goodS_nil rs L, ⟨(fun i y hy => by cases hy), (fun q hq => by cases hq)⟩, fun R' h => by rw [RK_nil] at h; exact h⟩
  | k + 1, hk => by
    obtain ⟨S, s1, s2, s3, s4⟩ := pass_chain (n := n) hL pl no G k (by omega)
    obtain ⟨⟨c, p⟩, hcp⟩ : ∃ cp, ps[k]? = some cp := ⟨_, List.getElem?_eq_getElem hk⟩
    have F := G k c p hcp
    obtain ⟨rc, c1, c2, c3⟩ := mem_plD.1 F.cin
    obtain ⟨rp, d1, d2, d3⟩ := mem_plD.1 F.pin
    have er := F.eq
    have er : (rp.ws.drop p.2).take L = (rc.ws.drop c.2).take L := (runD_at d1).symm.trans (er.trans (runD_at c1))
    obtain ⟨h, a, t, b, r1, r2, q1, q2, q3, q4, q5, q6, q7, q8, q9⟩ := step_two (n := n + k) pl s2 (by omega : 1 ≤ L) c1 d1 c2 d2 c3 d3 (free_blk (by omega) (s3.sub c.1) F.cfr) (free_blk (by omega) (s3.sub p.1) F.pfr) er
    have best := best_of (by omega : 1 ≤ L) pl s2 s3 no F q1 q2 q3 q4 q5 q6 q7
    have ij : c.1 ≠ p.1 := fun z => by
      rw [z] at c1
      rw [d1] at c1
      cases c1
      rw [c2] at d2
      exact absurd d2 (by decide +kernel)
    have kl : (ps.take k).length = k := by rw [List.length_take]; omega
    have eit : itB n (ps.take (k + 1)) = itB n (ps.take k) ++ [(c, n + k), (p, n + k)] := by
      rw [take_snoc hcp, itB_snoc, kl]
    have perm : ∀ i, (insS S c p (n + k) i).Perm (bnAt i (itB n (ps.take (k + 1)))) := fun i => by
      obtain ⟨ca, cb⟩ := c
      obtain ⟨pa, pb⟩ := p
      have ij : ca ≠ pa := ij
      rw [eit, show itB n (ps.take k) ++ [(((ca, cb) : Pl), n + k), ((pa, pb), n + k)] = (itB n (ps.take k) ++ [((ca, cb), n + k)]) ++ [((pa, pb), n + k)] by simp, bnAt_snoc, bnAt_snoc]
      have up : ∀ b, (insB (b, n + k) (S i)).Perm (bnAt i (itB n (ps.take k)) ++ [(b, n + k)]) := fun b => (insB_perm _ _).trans (((s1 i).cons _).trans (List.perm_append_singleton _ _).symm)
      by_cases z1 : i = ca
      · rw [if_neg (show ¬ i = pa from fun z => ij (z1.symm.trans z)), if_pos z1]
        show (if i = ca then insB (cb, n + k) (S i) else _).Perm _
        rw [if_pos z1]
        exact up cb
      · by_cases z2 : i = pa
        · rw [if_pos z2, if_neg z1]
          show (if i = ca then insB (cb, n + k) (S i) else if i = pa then insB (pb, n + k) (S i) else S i).Perm _
          rw [if_neg z1, if_pos z2]
          exact up pb
        · rw [if_neg z2, if_neg z1]
          show (if i = ca then insB (cb, n + k) (S i) else if i = pa then insB (pb, n + k) (S i) else S i).Perm _
          rw [if_neg z1, if_neg z2]
          exact s1 i
    refine ⟨insS S c p (n + k), perm, q9, ⟨fun i y hy => ?_, fun q hq => ?_⟩, fun R' hR => s4 R' (.step best hL ?_)⟩
    · rw [← itB_blk (ps.take (k + 1)) n]
      have := bnAt_mem.1 ((perm i).mem_iff.mp hy)
      exact List.mem_map.mpr ⟨_, this, rfl⟩
    · rw [← itB_blk (ps.take (k + 1)) n] at hq
      obtain ⟨⟨q', m⟩, h1, rfl⟩ := List.mem_map.mp hq
      exact ⟨m, (perm q'.1).mem_iff.mpr (bnAt_mem.2 h1)⟩
    · rw [← q8]
      exact hR
/-- two orders of the same blocks are one -/
theorem order_one {L m : Nat} (hL : 1 ≤ L) : ∀ {l l' : List (Nat × Nat)} {e : Nat}, Okb L m e l → l'.Perm l → l'.Pairwise (fun p q => p.1 ≤ q.1) → l' = l
  | [], l', e, _, h, _ => List.Perm.eq_nil h
  | x :: l, l', e, ok, h, s => by
    cases l' with
    | nil => exact absurd h.length_eq (by simp)
    | cons y l' =>
      have hs := List.pairwise_cons.mp s
      have e1 : y = x := by
        have hx : x ∈ y :: l' := h.mem_iff.mpr List.mem_cons_self
        have hy : y ∈ x :: l := h.mem_iff.mp List.mem_cons_self
        rcases List.mem_cons.mp hy with z | z
        · exact z
        · have h1 := (Okb.all ok.2 y z).1
          rcases List.mem_cons.mp hx with w | w
          · exact w.symm
          · have := hs.1 x w
            omega
      subst e1
      rw [order_one hL ok.2 h.cons_inv hs.2]
/-- a pass tells blocks in the document's order -/
theorem pass_told {rs : List RowD} {L n : Nat} (hL : 2 ≤ L) (pl : Plain rs) (no : hasD rs (L + 1) = false) {ps : List Pr} (G : Greedy rs L ps) {srt : Nat → List (Nat × Nat)} (hs : ∀ i, i < rs.length → (srt i).Perm (bnAt i (itB n ps)) ∧ (srt i).Pairwise (fun p q => p.1 ≤ q.1)) :
    ∃ S, withD rs srt L rs.length = RK rs S L ∧ GoodS rs S L ∧ SBl S (blkOf ps) ∧ ∀ R', Told (RK rs S L) (n + ps.length) R' → Told rs n R' := by
  obtain ⟨S, s1, s2, s3, s4⟩ := pass_chain (n := n) hL pl no G ps.length (Nat.le_refl _)
  rw [List.take_length] at s1 s3
  refine ⟨S, ?_, s2, s3, s4⟩
  rw [withD_step rs srt L _ (Nat.le_refl _), List.take_length]
  refine stepF_congr rs 0 fun i r _ hi => ?_
  have hi : i < rs.length := by omega
  obtain ⟨p1, p2⟩ := hs i hi
  rw [order_one (by omega : 1 ≤ L) (s2.ok i _ (List.getElem?_eq_getElem hi)) (p1.trans (s1 i).symm) p2]
/-! ### told with blocks -/
def kW (k : Str) (X : List RowD) : Nat := wlen (X.filter fun r => decide (r.kind = k))
theorem kW_app (k : Str) (X Y : List RowD) : kW k (X ++ Y) = kW k X + kW k Y := by
  unfold kW
  rw [List.filter_append, wlen_app]
theorem kW_le (k : Str) : ∀ X : List RowD, kW k X ≤ wlen X
  | [] => Nat.le_refl _
  | r :: X => by
    have ih := kW_le k X
    unfold kW at ih ⊢
    rw [List.filter_cons, wlen_cons]
    split
    · rw [wlen_cons]
      omega
    · omega
theorem kW_none {k : Str} {X : List RowD} (h : ∀ r ∈ X, r.kind ≠ k) : kW k X = 0 := by
  unfold kW
  rw [List.filter_eq_nil_iff.mpr fun r hr => by simpa using h r hr]
  rfl
theorem kW_cons (k : Str) (r : RowD) (X : List RowD) : kW k (r :: X) = (if r.kind = k then r.ws.length else 0) + kW k X := by
  unfold kW
  rw [List.filter_cons]
  by_cases h : r.kind = k
  · rw [if_pos (decide_eq_true h), if_pos h, wlen_cons]
  · rw [if_neg (fun z => h (of_decide_eq_true z)), if_neg h, Nat.zero_add]
theorem plOf_le {k : Str} {L i : Nat} {r : RowD} (hL : 1 ≤ L) : (plOf k L i r).length ≤ if r.kind = k then r.ws.length else 0 := by
  unfold plOf
  split
  · rw [List.length_map, List.length_range]
    omega
  · exact Nat.le_refl _
theorem plD_le {k : Str} {L : Nat} (hL : 1 ≤ L) (rs : List RowD) : ∀ n, n ≤ rs.length → (plD k L rs n).length ≤ kW k (rs.take n)
  | 0, _ => Nat.zero_le _
  | n + 1, h => by
    have e := List.getElem?_eq_getElem (show n < rs.length from h)
    have ih := plD_le hL rs n (by omega) (k := k)
    rw [plD_succ e, take_snoc e, kW_app, List.length_append, kW_cons]
    have := plOf_le (k := k) (i := n) (r := rs[n]) hL
    omega
theorem wlen_mem {r : RowD} : ∀ {X : List RowD}, r ∈ X → r.ws.length ≤ wlen X
  | x :: X, h => by
    rw [wlen_cons]
    rcases List.mem_cons.mp h with z | z
    · rw [z]
      omega
    · have := wlen_mem z
      omega
theorem len_wlen : ∀ {X : List RowD}, (∀ r ∈ X, r.ws ≠ []) → X.length ≤ wlen X
  | [], _ => Nat.le_refl _
  | r :: X, h => by
    have ih := len_wlen fun r hr => h r (List.mem_cons_of_mem _ hr)
    have := List.length_pos_iff.mpr (h r List.mem_cons_self)
    rw [wlen_cons, List.length_cons]
    omega
/-- rows that with_blocks can go through -/
structure Fine (rs : List RowD) : Prop where
  pl : Plain rs
  tot : wlen rs ≤ 1000
  put : kW "put" rs ≤ 299
theorem Fine.small {rs : List RowD} (f : Fine rs) : Small rs := ⟨fun r hr => Nat.le_trans (wlen_mem hr) f.tot, Nat.le_trans (len_wlen f.pl.ne) f.tot⟩
theorem Fine.few {rs : List RowD} (f : Fine rs) {L : Nat} (hL : 1 ≤ L) : (putP rs L).length ≤ 299 := by
  have := plD_le (k := "put") hL rs rs.length (Nat.le_refl _)
  rw [List.take_length] at this
  exact Nat.le_trans this f.put
theorem Fine.fewC {rs : List RowD} (f : Fine rs) {L : Nat} (hL : 1 ≤ L) : (cutP rs L).length ≤ 1000 := by
  have := plD_le (k := "cut") hL rs rs.length (Nat.le_refl _)
  rw [List.take_length] at this
  exact Nat.le_trans this (Nat.le_trans (kW_le _ _) f.tot)
theorem partR_mem {r r' : RowD} {bs : List (Nat × Nat)} {L : Nat} (h : r' ∈ partR r bs L) : r' = r ∨ ((r'.kind = r.kind ∧ r'.num = 0 ∨ r'.kind = bkOf r.kind) ∧ r'.ws ≠ []) := by
  unfold partR at h
  split at h
  · exact .inl (List.mem_singleton.mp h)
  · obtain ⟨h1, h2⟩ := List.mem_filter.mp h
    refine .inr ⟨?_, List.length_pos_iff.mp (of_decide_eq_true h2)⟩
    have key : ∀ (bs : List (Nat × Nat)) (e : Nat), r' ∈ partD r.kind (bkOf r.kind) r.ws L e bs → r'.kind = r.kind ∧ r'.num = 0 ∨ r'.kind = bkOf r.kind := by
      intro bs
      induction bs with
      | nil =>
        intro e h
        rw [List.mem_singleton.mp h]
        exact .inl ⟨rfl, rfl⟩
      | cons x bs ih =>
        intro e h
        have h : r' ∈ (⟨r.kind, 0, (r.ws.drop e).take (x.1 - e)⟩ : RowD) :: ⟨bkOf r.kind, (x.2 : Int), (r.ws.drop x.1).take L⟩ :: partD r.kind (bkOf r.kind) r.ws L (x.1 + L) bs := h
        rcases List.mem_cons.mp h with z | z
        · rw [z]
          exact .inl ⟨rfl, rfl⟩
        · rcases List.mem_cons.mp z with z | z
          · rw [z]
            exact .inr rfl
          · exact ih _ z
    exact key bs 0 h1
theorem stepF_mem {f : Nat → RowD → List RowD} {r' : RowD} : ∀ {X : List RowD} {k : Nat}, r' ∈ stepF f k X → ∃ i r, X[i]? = some r ∧ r' ∈ f (k + i) r
  | x :: X, k, h => by
    rw [stepF_cons] at h
    rcases List.mem_append.mp h with z | z
    · exact ⟨0, x, rfl, z⟩
    · obtain ⟨i, r, h1, h2⟩ := stepF_mem z
      exact ⟨i + 1, r, h1, by rw [show k + (i + 1) = k + 1 + i by omega]; exact h2⟩
theorem plain_RK {rs : List RowD} {S : Nat → List (Nat × Nat)} {L : Nat} (p : Plain rs) : Plain (RK rs S L) := by
  constructor
  · intro r' h
    obtain ⟨i, r, h1, h2⟩ := stepF_mem h
    rcases partR_mem h2 with z | ⟨_, z⟩
    · rw [z]
      exact p.ne r (List.mem_of_getElem? h1)
    · exact z
  · intro r' h hk
    obtain ⟨i, r, h1, h2⟩ := stepF_mem h
    rcases partR_mem h2 with z | ⟨⟨_, z⟩ | z, _⟩
    · rw [z] at hk ⊢
      exact p.num r (List.mem_of_getElem? h1) hk
    · exact z
    · exact absurd z.symm (bkOf_not _ _ hk)
theorem kW_RK {rs : List RowD} {S : Nat → List (Nat × Nat)} {L : Nat} {k : Str} (hk : isCP k) (p : Plain rs) (g : GoodS rs S L) : kW k (RK rs S L) ≤ kW k rs := by
  have key : ∀ (X : List RowD) (j : Nat), (∀ (i : Nat) (r : RowD), X[i]? = some r → rs[j + i]? = some r) → kW k (stepF (fun i r => partR r (S i) L) j X) ≤ kW k X := by
    intro X
    induction X with
    | nil => intro j _; exact Nat.le_refl _
    | cons r X ih =>
      intro j h
      have h0 : rs[j]? = some r := h 0 r rfl
      have ih := ih (j + 1) fun i r hi => by
        have := h (i + 1) r hi
        rwa [show j + (i + 1) = j + 1 + i by omega] at this
      rw [stepF_cons, kW_app, kW_cons]
      have w := partR_wlen p g h0
      have le : kW k (partR r (S j) L) ≤ if r.kind = k then r.ws.length else 0 := by
        by_cases c : r.kind = k
        · rw [if_pos c, ← w]
          exact kW_le _ _
        · rw [if_neg c, kW_none fun r' hr' e => ?_]
          · exact Nat.le_refl _
          · rcases partR_mem hr' with z | ⟨⟨z, _⟩ | z, _⟩
            · rw [z] at e
              exact c e
            · exact c (z.symm.trans e)
            · exact bkOf_not _ _ hk (z.symm.trans e)
      have le : kW k ((fun i r => partR r (S i) L) j r) ≤ if r.kind = k then r.ws.length else 0 := le
      omega
  exact key rs 0 fun i r hi => by rw [Nat.zero_add]; exact hi
theorem Fine.pass {rs : List RowD} {S : Nat → List (Nat × Nat)} {L : Nat} (f : Fine rs) (g : GoodS rs S L) : Fine (RK rs S L) := by
  refine ⟨plain_RK f.pl, ?_, Nat.le_trans (kW_RK (.inr rfl) f.pl g) f.put⟩
  have w : wlen (RK rs S L) = wlen rs := stepF_wlen rs 0 fun i r hi => by
    rw [Nat.zero_add]
    exact partR_wlen f.pl g hi
  rw [w]
  exact f.tot
/-- behind a pass there is no run of its length -/
theorem pass_none {rs : List RowD} {S : Nat → List (Nat × Nat)} {bl : List Pl} {L : Nat} (f : Fine rs) (g : GoodS rs S L) (x : SBl S bl) (no : NoMore rs L bl (cutP rs L)) : hasD (RK rs S L) L = false := by
  cases e : hasD (RK rs S L) L with
  | false => rfl
  | true =>
    exfalso
    obtain ⟨h, a, t, b, r, r', g1, g2, g3, g4, g5, g6, g7⟩ := hasD_common.1 e
    obtain ⟨c', rc, k1, k2, k3, _, k4, k6⟩ := place_back f.pl g x g1 (.inl g2) g3
    obtain ⟨p', rp, l1, l2, l3, _, l4, l6⟩ := place_back f.pl g x g4 (.inr g5) g6
    exact no c' (mem_plD.2 ⟨rc, k1, k2.trans g2, k3⟩) (k6 (Nat.le_refl _)) p' (mem_plD.2 ⟨rp, l1, l2.trans g5, l3⟩) (l6 (Nat.le_refl _)) ((runD_at l1).trans ((l4.trans (g7.trans k4.symm)).trans (runD_at k1).symm))
theorem blk_in {rs : List RowD} {L : Nat} {ps : List Pr} (f : Fine rs) (G : Greedy rs L ps) : ∀ c ∈ blkOf ps, ∃ r, rs[c.1]? = some r ∧ r.num = 0 ∧ c.2 + L ≤ r.ws.length := fun q hq => by
  unfold blkOf at hq
  obtain ⟨⟨c, p⟩, h1, h2⟩ := List.mem_flatMap.mp hq
  obtain ⟨j, hj⟩ := List.mem_iff_getElem?.mp h1
  have F := G j c p hj
  have h2 : q ∈ [c, p] := h2
  rcases List.mem_cons.mp h2 with z | z
  · subst z
    obtain ⟨r, k1, k2, k3⟩ := mem_plD.1 F.cin
    exact ⟨r, k1, f.pl.num r (List.mem_of_getElem? k1) (.inl k2), k3⟩
  · rw [List.mem_singleton.mp z]
    obtain ⟨r, k1, k2, k3⟩ := mem_plD.1 F.pin
    exact ⟨r, k1, f.pl.num r (List.mem_of_getElem? k1) (.inr k2), k3⟩
section
variable {P : Program} {w : World} {K : PySem.W.Frag} {mg : Str → Option Value} {base : Heap}
theorem scWithBlocks : FnScope ["rows", "block_rows", "number", "length", "pairs"] ["rows"] (defScope sWithBlocks) := ⟨rfl, rfl, rfl, by decide +kernel, rfl, by decide +kernel, by decide +kernel⟩
/-- rows that are handed in -/
structure Handed (rs : List RowD) : Prop where
  ok : ∀ r ∈ rs, RowOk r
  tot : wlen rs ≤ 1000
  put : kW "put" rs ≤ 299
theorem Handed.fine {rs : List RowD} (h : Handed rs) (no : ∀ r ∈ rs, ¬ r.kind ∈ blockK) : Fine rs := by
  refine ⟨⟨fun r hr => (h.ok r hr).some, fun r hr _ => ?_⟩, h.tot, h.put⟩
  have hn := (h.ok r hr).num
  unfold numB at hn
  rw [inV_strs, decide_eq_false (no r hr)] at hn
  exact V.int.inj (of_decide_eq_true hn)
theorem Handed.len {rs : List RowD} (h : Handed rs) : (∀ r ∈ rs, RowOk r ∧ r.ws.length ≤ 1000) ∧ rs.length ≤ 1000 :=
  ⟨fun r hr => ⟨h.ok r hr, Nat.le_trans (wlen_mem hr) h.tot⟩, Nat.le_trans (len_wlen fun r hr => (h.ok r hr).some) h.tot⟩
def spWithBlocks (K : PySem.W.Frag) (Ps : List Addr) (cR : Addr) : Sp := fun vs H Q E => ∃ (p : Addr) (xs : List V) (rs : List RowD), vs = [.ref p] ∧ SqL K H p xs ∧ RowsT K H xs rs ∧ Handed rs ∧ Tb Ps H ∧
  ((∀ r ∈ rs, ¬ r.kind ∈ blockK) → ∀ (H' : Hp) (D : Addr) (us : List V) (rs' : List RowD), Kp Ps H H' → H D = none → H' D = some (.lst us) → RowsT K H' us rs' → Told rs 1 rs' → Fine rs' → Q (.ref D) H') ∧
  ((∃ r ∈ rs, r.kind ∈ blockK) → ∀ H', Kp Ps H H' → E (.ref cR) none H')
theorem ok_with_blocks {Ps : List Addr} {cR f fN fL fP fW : Addr} {fd fdN fdL fdP fdW : FuncData} (F : FnP K "with_blocks" sWithBlocks f fd)
    (GN : FnOk P w K mg base (L2.CX P w) 8 fN fdN ["rows"] (spNoBlocks K Ps cR)) (kN : PySem.W.keepIn K (.ref fN) = true) (bN : Binds K fdN ["rows"] []) (gN : mg "check_no_blocks" = some (.ref fN))
    (GL : FnOk P w K mg base (L2.CX P w) 3 fL fdL ["rows"] (spLongest K)) (kL : PySem.W.keepIn K (.ref fL) = true) (bL : Binds K fdL ["rows"] []) (gL : mg "longest_run" = some (.ref fL))
    (GP : FnOk P w K mg base (L2.CX P w) 3 fP fdP ["rows", "length"] (spPairsOf K)) (kP : PySem.W.keepIn K (.ref fP) = true) (bP : Binds K fdP ["rows", "length"] []) (gP : mg "pairs_of" = some (.ref fP))
    (GW : FnOk P w K mg base (L2.CX P w) 2 fW fdW ["rows", "pairs", "length", "first_number"] (spWithPairs K)) (kW : PySem.W.keepIn K (.ref fW) = true) (bW : Binds K fdW ["rows", "pairs", "length", "first_number"] []) (gW : mg "with_pairs" = some (.ref fW))
    (mT : mg "list" = none) (mL : mg "len" = none) : FnOk P w K mg base (L2.CX P w) 9 f fd ["rows"] (spWithBlocks K Ps cR) := by
  refine F.ok scWithBlocks (fun vs H Q E h => ?_) (fun cdv A outer s H vs Q E hr h => ?_)
  · obtain ⟨p, xs, rs, rfl, _⟩ := h
    rfl
  · obtain ⟨p, xs, rs, rfl, hp, hR, hh, ht, q, e⟩ := h
    have r3 : Room 3 (A.deeper (envOfC "with_blocks" (defScope sWithBlocks) s.heap.objs.size f cdv)) := hr.mono (by decide)
    have r2 : Room 2 (A.deeper (envOfC "with_blocks" (defScope sWithBlocks) s.heap.objs.size f cdv)) := hr.mono (by decide)
    refine ⟨_, pss_cons (ps_expr (pe_callS GN hr (by rfl) gN kN bN (fun σ => passAt (takes_of rfl rfl rfl rfl) σ) (pa_cons (pv 0) pa_nil)))
      (pss_cons (ps_set (i := 1) scWithBlocks.nd rfl (.inl rfl) (pe_callTy call_list_of (by rfl) mT (by decide +kernel) (pa_cons (pv 0) pa_nil)))
      (pss_cons (ps_set (i := 2) scWithBlocks.nd rfl (.inl rfl) pe_int)
      (pss_cons (ps_set (i := 3) scWithBlocks.nd rfl (.inl rfl) (pe_call GL r3 (by rfl) gL kL bL .nil passL (pa_cons (pv 1) pa_nil)))
      (pss_cons (ps_while (passes_of rfl) (pt_cmpR op_gt (pv 3) pe_int (nomark _))
        (pss_cons (ps_set (i := 4) scWithBlocks.nd rfl (.inl rfl) (pe_call GP r3 (by rfl) gP kP bP .nil passL (pa_cons (pv 1) (pa_cons (pv 3) pa_nil))))
        (pss_cons (ps_set (i := 1) scWithBlocks.nd rfl (.inl rfl) (pe_call GW r2 (by rfl) gW kW bW .nil passL (pa_cons (pv 1) (pa_cons (pv 4) (pa_cons (pv 3) (pa_cons (pv 2) pa_nil))))))
        (pss_cons (ps_aug (i := 2) scWithBlocks.nd rfl (.inl rfl) (pe_callB call_len_seq (by rfl) mL PySem.boot_len (pa_cons (pv 4) pa_nil)) ip_add)
        (pss_one (ps_set (i := 3) scWithBlocks.nd rfl (.inl rfl) (pe_call GL r3 (by rfl) gL kL bL .nil passL (pa_cons (pv 1) pa_nil))))))))
      (pss_one (ps_ret (pv 1))))))), ?_⟩
    obtain ⟨l1, l2⟩ := hh.len
    refine ⟨_, rfl, p, xs, rs, rfl, hp, hR.at, l1, l2, ht, fun no H1 k1 => ?_, fun yes H1 k1 => e yes H1 k1⟩
    have q := q no
    have f0 := hh.fine no
    clear e
    refine ⟨_, rfl, p, xs, rfl, .inl (k1.seq ht hp), fun B nB => ?_⟩
    have s1 : Same H1 (upd H1 B (.lst xs)) := same_upd nB
    have hB1 : (upd H1 B (.lst xs)) B = some (.lst xs) := upd_same
    have hR1 := (hR.kp ht k1).same s1
    generalize upd H1 B (.lst xs) = H2 at s1 hB1 hR1 ⊢
    refine ⟨_, rfl, B, xs, rs, rfl, .inl (.inl hB1), hR1, f0.small, fun L hL => f0.few hL, fun H3 l0 s3 l1 l2 l3 => ?_⟩
    have le0 : l0 ≤ 1000 := by
      rcases l2 with z | z
      · omega
      · exact hasD_small f0.small z
    refine ⟨fun m σ' H' => ∃ (B : Addr) (xs : List V) (R : List RowD) (n l : Nat) (y : Option V), m = l ∧ Same H1 H' ∧ H1 B = none ∧ H' B = some (.lst xs) ∧ RowsT K H' xs R ∧ Fine R ∧ 1 ≤ l ∧ (l = 1 ∨ hasD R l = true) ∧ hasD R (l + 1) = false ∧ (∀ R', Told R n R' → Told rs 1 R') ∧ l ≤ 1000 ∧ n + 1000 * l ≤ 1001001 ∧ σ' = [some (.ref p), some (.ref B), some (.int (n : Int)), some (.int (l : Int)), y], ⟨_, B, xs, rs, 1, l0, none, rfl, s1.trans s3, nB, s3 _ _ hB1, hR1.same s3, f0, l1, l2, l3, fun R' h => h, le0, by omega, rfl⟩, fun m σ' H' hM => ?_⟩
    obtain ⟨B, xs, R, n, l, y, rfl, sm, nB, hB, hR, f, a1, a2, a3, tl, a4, a5, rfl⟩ := hM
    refine ⟨_, rfl, _, _, rfl, rfl, _, rfl, ite2 (fun e => ?_) (fun e => ?_)⟩
    · have e := of_decide_eq_true e
      have l2 : 2 ≤ m := by omega
      have hd : hasD R m = true := a2.resolve_left (by omega)
      refine ⟨_, fun _ _ h => h, _, rfl, _, rfl, B, xs, R, m, rfl, .inl (.inl hB), hR, f.small, f.few a1, f.fewC a1, a1, by omega, fun H4 Z zs ps s4 nZ hZ hP pl G no => ?_⟩
      have hB4 := s4 _ _ hB
      have hR4 := hR.same s4
      refine ⟨_, rfl, _, rfl, _, rfl, _, rfl, B, Z, xs, zs, R, ps, m, n, rfl, .inl (.inl hB4), hR4, f.small, .inl (.inl hZ), hP, pl, by omega, blk_in f G, fun H5 B5 us srt s5 nB5 hB5 hs hR5 => ?_⟩
      obtain ⟨S, w1, w2, w3, w4⟩ := pass_told (n := n) l2 f.pl a3 G hs
      rw [w1] at hR5
      have f5 := f.pass w2
      have no5 := pass_none f w2 w3 no
      have hZ5 := s5 _ _ hZ
      have zl := hP.1
      have s15 := sm.trans (s4.trans s5)
      refine ⟨_, rfl, _, rfl, Z, zs, rfl, .inl (.inl (.inl hZ5)), _, _, rfl, rfl, ?_⟩
      dsimp only
      rw [zl, nat_add_int]
      refine ⟨_, rfl, B5, us, RK R S m, rfl, .inl (.inl hB5), hR5, f5.small, fun L hL => f5.few hL, fun H6 l6 s6 b1 b2 b3 => ?_⟩
      have lt : l6 < m := by
        rcases b2 with z | z
        · omega
        · refine Nat.lt_of_not_le fun ge => ?_
          have := hasD_mono ge z
          rw [no5] at this
          cases this
      exact ⟨l6, lt, B5, us, RK R S m, n + ps.length, l6, _, rfl, s15.trans s6, same_none sm (same_none s4 nB5), s6 _ _ hB5, hR5.same s6, f5, b1, b2, b3, fun R' h => tl R' (w4 R' h), by omega, by omega, rfl⟩
    · have l1 : m = 1 := by
        have : ¬ ((1 : Int) < (m : Int)) := fun z => e (decide_eq_true z)
        omega
      subst l1
      refine ⟨_, rfl, q H' B xs R (k1.trans (Kp.same k1.1 sm)) (k1.free ht nB) hB hR (tl R (.done fun h a t b cm => ?_)) f⟩
      have : hasD R 2 = true := hasD_common.2 ⟨h, a, t, b, cm⟩
      rw [a3] at this
      cases this
end
/-! ### what one block does -/
theorem cut_form {R : List RowD} {h a t b L : Nat} (c : Common R h a t b L) : ∃ (X Y Z : List RowD) (r1 r2 : RowD), r1.kind = "cut" ∧ r2.kind = "put" ∧ a + L ≤ r1.ws.length ∧ b + L ≤ r2.ws.length ∧ (r2.ws.drop b).take L = (r1.ws.drop a).take L ∧
    ((R = X ++ r1 :: (Y ++ r2 :: Z) ∧ ∀ n, cutStep R h a t b L n = X ++ partL r1 "take" n a L ++ Y ++ partL r2 "lay" n b L ++ Z) ∨ (R = X ++ r2 :: (Y ++ r1 :: Z) ∧ ∀ n, cutStep R h a t b L n = X ++ partL r2 "lay" n b L ++ Y ++ partL r1 "take" n a L ++ Z)) := by
  obtain ⟨r1, r2, h1, h2, h3, h4, h5, h6, h7⟩ := c
  have ne : h ≠ t := fun z => by
    subst z
    rw [h1] at h4
    cases h4
    rw [h2] at h5
    exact absurd h5 (by decide +kernel)
  rcases Nat.lt_or_gt_of_ne ne with lt | lt
  · obtain ⟨X, Y, Z, e, l1, l2⟩ := split_two h1 h4 lt
    refine ⟨X, Y, Z, r1, r2, h2, h5, h3, h6, h7, .inl ⟨e, fun n => ?_⟩⟩
    rw [e, ← l2, ← l1]
    exact cutStep_ht
  · obtain ⟨X, Y, Z, e, l1, l2⟩ := split_two h4 h1 lt
    refine ⟨X, Y, Z, r1, r2, h2, h5, h3, h6, h7, .inr ⟨e, fun n => ?_⟩⟩
    rw [e, ← l2, ← l1]
    exact cutStep_th
theorem partL_wlen {r : RowD} {bk : Str} {n a L : Nat} (h : a + L ≤ r.ws.length) : wlen (partL r bk n a L) = r.ws.length := by
  rw [partL_eq, wlen_app, wlen_app, oneF_wlen, oneF_wlen, oneF_wlen, List.length_take, List.length_take, List.length_drop, List.length_drop]
  omega
theorem oneF_kW (k : Str) (r : RowD) : kW k (oneF r) = if r.kind = k then r.ws.length else 0 := by
  by_cases h : 0 < r.ws.length
  · rw [oneF_yes h, kW_cons]
    show _ + 0 = _
    rw [Nat.add_zero]
  · rw [oneF_no (Nat.eq_zero_of_not_pos h)]
    show 0 = _
    split
    · omega
    · rfl
theorem partL_kW {k : Str} {r : RowD} {bk : Str} {n a L : Nat} (h : a + L ≤ r.ws.length) (hk : bk ≠ k) : kW k (partL r bk n a L) = if r.kind = k then r.ws.length - L else 0 := by
  rw [partL_eq, kW_app, kW_app, oneF_kW, oneF_kW, oneF_kW, if_neg hk]
  show (if r.kind = k then (r.ws.take a).length else 0) + 0 + (if r.kind = k then (r.ws.drop (a + L)).length else 0) = _
  rw [List.length_take, List.length_drop]
  split
  · omega
  · rfl
theorem partL_ne {r r' : RowD} {bk : Str} {n a L : Nat} (h : r' ∈ partL r bk n a L) : r'.ws ≠ [] := List.length_pos_iff.mp (of_decide_eq_true (List.mem_filter.mp h).2)
theorem partL_mem {r r' : RowD} {bk : Str} {n a L : Nat} (h : r' ∈ partL r bk n a L) : ((r'.kind = r.kind ∧ r'.num = 0) ∨ (r'.kind = bk ∧ r'.num = (n : Int))) ∧ r'.ws ≠ [] ∧ ∀ x ∈ r'.ws, x ∈ r.ws := by
  have ne := partL_ne h
  obtain ⟨h1, _⟩ := List.mem_filter.mp h
  rcases List.mem_cons.mp h1 with z | z
  · subst z
    exact ⟨.inl ⟨rfl, rfl⟩, ne, fun x hx => List.mem_of_mem_take hx⟩
  · rcases List.mem_cons.mp z with z | z
    · subst z
      exact ⟨.inr ⟨rfl, rfl⟩, ne, fun x hx => List.mem_of_mem_drop (List.mem_of_mem_take hx)⟩
    · rw [List.mem_singleton.mp z] at ne ⊢
      exact ⟨.inl ⟨rfl, rfl⟩, ne, fun x hx => List.mem_of_mem_drop hx⟩
/-- what is true of all rows of the parts and of the old rows is true of the new ones -/
theorem step_mem {R : List RowD} {h a t b L n : Nat} (c : Common R h a t b L) {r' : RowD} (hr : r' ∈ cutStep R h a t b L n) : r' ∈ R ∨ ∃ (r : RowD) (bk : Str), r ∈ R ∧ (r.kind = "cut" ∧ bk = "take" ∨ r.kind = "put" ∧ bk = "lay") ∧ ∃ x, r' ∈ partL r bk n x L := by
  obtain ⟨X, Y, Z, r1, r2, k1, k2, _, _, _, ⟨e, f⟩ | ⟨e, f⟩⟩ := cut_form c
  · rw [f n] at hr
    rw [e]
    simp only [List.mem_append, List.mem_cons] at hr ⊢
    rcases hr with (((z | z) | z) | z) | z
    · exact .inl (.inl z)
    · exact .inr ⟨r1, "take", .inr (.inl rfl), .inl ⟨k1, rfl⟩, a, z⟩
    · exact .inl (.inr (.inr (.inl z)))
    · exact .inr ⟨r2, "lay", .inr (.inr (.inr (.inl rfl))), .inr ⟨k2, rfl⟩, b, z⟩
    · exact .inl (.inr (.inr (.inr (.inr z))))
  · rw [f n] at hr
    rw [e]
    simp only [List.mem_append, List.mem_cons] at hr ⊢
    rcases hr with (((z | z) | z) | z) | z
    · exact .inl (.inl z)
    · exact .inr ⟨r2, "lay", .inr (.inl rfl), .inr ⟨k2, rfl⟩, b, z⟩
    · exact .inl (.inr (.inr (.inl z)))
    · exact .inr ⟨r1, "take", .inr (.inr (.inr (.inl rfl))), .inl ⟨k1, rfl⟩, a, z⟩
    · exact .inl (.inr (.inr (.inr (.inr z))))
theorem step_wlen {R : List RowD} {h a t b L n : Nat} (c : Common R h a t b L) : wlen (cutStep R h a t b L n) = wlen R := by
  obtain ⟨X, Y, Z, r1, r2, k1, k2, g1, g2, _, ⟨e, f⟩ | ⟨e, f⟩⟩ := cut_form c
  · rw [f n, e]
    simp only [wlen_app, wlen_cons, partL_wlen g1, partL_wlen g2]
    omega
  · rw [f n, e]
    simp only [wlen_app, wlen_cons, partL_wlen g1, partL_wlen g2]
    omega
theorem step_kW {R : List RowD} {h a t b L n : Nat} (c : Common R h a t b L) : kW "cut" (cutStep R h a t b L n) + L = kW "cut" R ∧ kW "put" (cutStep R h a t b L n) + L = kW "put" R ∧ kW "keep" (cutStep R h a t b L n) = kW "keep" R := by
  have d : (("take" : Str) ≠ "cut" ∧ ("lay" : Str) ≠ "cut") ∧ (("take" : Str) ≠ "put" ∧ ("lay" : Str) ≠ "put") ∧ (("take" : Str) ≠ "keep" ∧ ("lay" : Str) ≠ "keep") ∧ (("put" : Str) ≠ "cut" ∧ ("cut" : Str) ≠ "put") ∧ (("put" : Str) ≠ "keep" ∧ ("cut" : Str) ≠ "keep") := by decide +kernel
  obtain ⟨⟨d1, d2⟩, ⟨d3, d4⟩, ⟨d5, d6⟩, ⟨d7, d8⟩, ⟨d9, d10⟩⟩ := d
  obtain ⟨X, Y, Z, r1, r2, k1, k2, g1, g2, _, ⟨e, f⟩ | ⟨e, f⟩⟩ := cut_form c
  · rw [f n, e]
    simp only [kW_app, kW_cons, partL_kW g1 d1, partL_kW g2 d2, partL_kW g1 d3, partL_kW g2 d4, partL_kW g1 d5, partL_kW g2 d6, k1, k2, if_neg d7, if_neg d8, if_neg d9, if_neg d10, if_true]
    omega
  · rw [f n, e]
    simp only [kW_app, kW_cons, partL_kW g1 d1, partL_kW g2 d2, partL_kW g1 d3, partL_kW g2 d4, partL_kW g1 d5, partL_kW g2 d6, k1, k2, if_neg d7, if_neg d8, if_neg d9, if_neg d10, if_true]
    omega
theorem step_ne {R : List RowD} {h a t b L n : Nat} (c : Common R h a t b L) (hR : ∀ r ∈ R, r.ws ≠ []) : ∀ r ∈ cutStep R h a t b L n, r.ws ≠ [] := fun r hr => by
  rcases step_mem c hr with z | ⟨_, _, _, _, _, z⟩
  · exact hR r z
  · exact partL_ne z
theorem blk_num {bk : Str} (h : bk = "take" ∨ bk = "lay") {n : Nat} (h1 : 1 ≤ n) (h2 : n ≤ 999999999) : numB bk (n : Int) = true := by
  unfold numB
  have e : inV (.str bk) (blockK.map V.str) = true := by
    rw [inV_strs]
    refine decide_eq_true ?_
    rcases h with h | h <;> subst h <;> decide +kernel
  rw [e, if_pos rfl, Bool.and_eq_true]
  exact ⟨decide_eq_true (by omega), decide_eq_true (by omega)⟩
theorem cp_num {k : Str} (h : isCP k) : numB k 0 = true := by
  unfold numB
  have e : inV (.str k) (blockK.map V.str) = false := by
    rw [inV_strs]
    refine decide_eq_false ?_
    rcases h with h | h <;> subst h <;> decide +kernel
  rw [e, if_neg Bool.false_ne_true]
  exact decide_eq_true rfl
theorem step_ok {R : List RowD} {h a t b L n : Nat} (c : Common R h a t b L) (h1 : 1 ≤ n) (h2 : n ≤ 999999999) (hR : ∀ r ∈ R, RowOk r) : ∀ r ∈ cutStep R h a t b L n, RowOk r := fun r' hr => by
  rcases step_mem c hr with z | ⟨r, bk, hm, hk, x, z⟩
  · exact hR r' z
  · obtain ⟨k, ne, sub⟩ := partL_mem z
    have ok := hR r hm
    have bkk : bk = "take" ∨ bk = "lay" := hk.elim (fun z => .inl z.2) fun z => .inr z.2
    have cp : isCP r.kind := hk.elim (fun z => .inl z.1) fun z => .inr z.1
    refine ⟨?_, ?_, ne, fun w hw => ok.words w (sub w hw)⟩
    · rcases k with ⟨k, _⟩ | ⟨k, _⟩
      · rw [k]
        exact ok.kind
      · rw [k]
        rcases bkk with z | z <;> subst z <;> decide +kernel
    · rcases k with ⟨k, e⟩ | ⟨k, e⟩
      · rw [k, e]
        exact cp_num cp
      · rw [k, e]
        exact blk_num bkk h1 h2
theorem told_rows_ok {R R' : List RowD} {n : Nat} (T : Told R n R') : (∀ r ∈ R, RowOk r) → 1 ≤ n → n + kW "cut" R ≤ 999999999 → ∀ r ∈ R', RowOk r := by
  induction T with
  | done _ => exact fun h _ _ => h
  | @step R R' n h a t b L B hL _ ih =>
    intro hR h1 h2
    have k := (step_kW (n := n) B.com).1
    exact ih (step_ok B.com h1 (by omega) hR) (by omega) (by omega)
theorem told_wlen {R R' : List RowD} {n : Nat} (T : Told R n R') : wlen R' = wlen R := by
  induction T with
  | done _ => rfl
  | step B hL _ ih => rw [ih, step_wlen B.com]
/-! ### the words of a telling -/
def wordsOf (ks : List Str) (rs : List RowD) : List Str := (rs.filter fun r => decide (r.kind ∈ ks)).flatMap (·.ws)
theorem wordsOf_snoc (ks : List Str) (rs : List RowD) (r : RowD) : wordsOf ks (rs ++ [r]) = if r.kind ∈ ks then wordsOf ks rs ++ r.ws else wordsOf ks rs := by
  unfold wordsOf
  rw [List.filter_append, List.flatMap_append]
  by_cases h : r.kind ∈ ks
  · rw [if_pos h, List.filter_cons_of_pos (p := fun r : RowD => decide (r.kind ∈ ks)) (decide_eq_true h)]
    simp
  · rw [if_neg h, List.filter_cons_of_neg (by simpa using h)]
    simp
theorem wordsOf_append (ks : List Str) (rs qs : List RowD) : wordsOf ks (rs ++ qs) = wordsOf ks rs ++ wordsOf ks qs := by
  unfold wordsOf
  rw [List.filter_append, List.flatMap_append]
theorem wordsOf_take_le (ks : List Str) (rs : List RowD) (i : Nat) : (wordsOf ks (rs.take i)).length ≤ (wordsOf ks rs).length := by
  have h := wordsOf_append ks (rs.take i) (rs.drop i)
  rw [List.take_append_drop] at h
  rw [h, List.length_append]
  omega
theorem wordsOf_ok {ks : List Str} {rs : List RowD} (h : ∀ r ∈ rs, RowOk r) : ∀ a ∈ wordsOf ks rs, wordB a = true := fun a ha => by
  unfold wordsOf at ha
  obtain ⟨r, h1, h2⟩ := List.mem_flatMap.mp ha
  exact (h r (List.mem_filter.mp h1).1).words a h2
/-! ### the law's own helpers -/
def sg (i : Nat) : Nat := if i < 4 then 33 + i else 34 + i
def sgnOf (c : Int) : Nat := sg (c % 93).toNat
theorem sg_ok {i : Nat} (h : i < 93) : signB (sg i) = true := by
  unfold signB sg
  by_cases h1 : i < 4
  · rw [if_pos h1, decide_eq_false (show ¬ 33 + i < 33 by omega), decide_eq_false (show ¬ 36 < 33 + i by omega)]
    rfl
  · rw [if_neg h1, decide_eq_false (show ¬ 34 + i < 38 by omega), decide_eq_false (show ¬ 126 < 34 + i by omega)]
    exact Bool.or_true _
theorem sgnOf_ok (c : Int) : signB (sgnOf c) = true := sg_ok (by
  have h1 : 0 ≤ c % 93 := Int.emod_nonneg c (by decide)
  have h2 : c % 93 < 93 := Int.emod_lt_of_pos c (by decide)
  omega)
def wMore (c : Int) : Int := (c + 5) * 48271 % 1000003
def wSize (c : Int) : Int := if wMore c / 3 % 3 = 1 then 1 + wMore c / 9 % 40 else 1 + wMore c % 3
def wSign (c : Int) (k : Nat) : Nat := sgnOf ((wMore c + 11 * (0 + (k : Int)) + 1) * (wMore c + 211 * (0 + (k : Int)) + 3) % 1000033)
def wCodes (c : Int) (n : Nat) : List Nat := (List.range n).map (wSign c)
def wordOf (c : Int) : Str := ⟨(wCodes c (wSize c).toNat).toArray⟩
theorem wMore_b (c : Int) : 0 ≤ wMore c ∧ wMore c < 1000003 := ⟨Int.emod_nonneg _ (by decide), Int.emod_lt_of_pos _ (by decide)⟩
theorem wSize_b (c : Int) : 1 ≤ wSize c ∧ wSize c ≤ 40 := by
  have h := wMore_b c
  unfold wSize
  by_cases h1 : wMore c / 3 % 3 = 1
  · rw [if_pos h1]
    omega
  · rw [if_neg h1]
    omega
theorem wordOf_len (c : Int) : (wordOf c).length = (wSize c).toNat := by
  show (wCodes c (wSize c).toNat).toArray.size = _
  rw [List.size_toArray]
  unfold wCodes
  rw [List.length_map, List.length_range]
theorem wordOf_ok (c : Int) : wordB (wordOf c) = true := by
  have h := wSize_b c
  have hl := wordOf_len c
  unfold wordB
  rw [Bool.and_eq_true, Bool.and_eq_true]
  refine ⟨decide_eq_true (by omega), decide_eq_true (by omega), List.all_eq_true.mpr fun x hx => ?_⟩
  have hx : x ∈ wCodes c (wSize c).toNat := hx
  obtain ⟨k, _, rfl⟩ := List.mem_map.mp hx
  exact sgnOf_ok _
/-- signs put together -/
theorem join_signs : ∀ l : List Nat, Txt.join ("" : Str) (l.map fun c => (⟨#[c]⟩ : Str)) = (⟨l.toArray⟩ : Str) := by
  intro l
  show Builtin.Str.glued ("" : Str) (l.map fun c => (⟨#[c]⟩ : Str)) = _
  rw [StrLaws.glued_eq_join]
  have e0 : ("" : Str) = ⟨#[]⟩ := by decide +kernel
  rw [e0]
  induction l with
  | nil => rfl
  | cons c r ih =>
    cases r with
    | nil => rfl
    | cons d r =>
      show (⟨#[c]⟩ : Str) ++ (⟨#[]⟩ : Str) ++ Str.join ⟨#[]⟩ ((d :: r).map fun c => (⟨#[c]⟩ : Str)) = _
      rw [ih]
      refine Str.ext' (Array.toList_inj.mp ?_)
      rw [Str.cps_append, Str.cps_append, Array.toList_append, Array.toList_append]
      simp
section
variable {P : Program} {w : World} {K : PySem.W.Frag} {mg : Str → Option Value} {base : Heap}
theorem scCellAt : FnScope ["_law_script", "_law_k"] ["_law_script", "_law_k"] (defScope sCellAt) := ⟨rfl, rfl, rfl, by decide +kernel, rfl, by decide +kernel, by decide +kernel⟩
theorem scSignBy : FnScope ["_law_cell", "_law_some"] ["_law_cell"] (defScope sSignBy) := ⟨rfl, rfl, rfl, by decide +kernel, rfl, by decide +kernel, by decide +kernel⟩
theorem scWordBy : FnScope ["_law_cell", "_law_more", "_law_size", "_law_k"] ["_law_cell"] (defScope sWordBy) := ⟨rfl, rfl, rfl, by decide +kernel, rfl, by decide +kernel, by decide +kernel⟩
theorem ok_cell_at {f : Addr} {fd : FuncData} (F : FnP K "_law_cell_at" sCellAt f fd) (mL : mg "len" = none) : FnOk P w K mg base (L2.CX P w) 1 f fd ["_law_script", "_law_k"] (spCell K) := by
  refine F.ok scCellAt (fun vs H Q E h => ?_) (fun cdv A outer s H vs Q E hr h => ?_)
  · obtain ⟨l, ns, j, rfl, _⟩ := h
    rfl
  · obtain ⟨l, ns, j, rfl, hS, q⟩ := h
    refine ⟨_, pss_cons (ps_if (pt_cmpR op_lt (pv 1) (pe_callB call_len_seq (by rfl) mL PySem.boot_len (pa_cons (pv 0) pa_nil)) (nomark _)) (pss_one (ps_ret (pe_ix ix_list (pv 0) (pv 1) (fun _ _ => rfl)))) pss_nil) (pss_one (ps_ret pe_int)), ?_⟩
    refine ⟨_, rfl, _, rfl, l, _, rfl, .inl hS, _, _, rfl, rfl, _, rfl, ite2 (fun e => ?_) (fun e => ?_)⟩
    · have e1 := of_decide_eq_true e
      rw [List.length_map] at e1
      exact ⟨_, rfl, _, rfl, l, _, _, _, rfl, rfl, hS, atI_cell (by omega), q⟩
    · have hj : ¬ j < ns.length := fun z => e (decide_eq_true (by rw [List.length_map]; omega))
      rw [cell_out hj] at q
      exact q
def spSignBy : Sp := fun vs H Q _ => ∃ c : Int, vs = [.int c] ∧ Q (.str ⟨#[sgnOf c]⟩) H
theorem ok_sign_by {f : Addr} {fd : FuncData} (F : FnP K "_law_sign_by" sSignBy f fd) : FnOk P w K mg base (L2.CX P w) 1 f fd ["_law_cell"] spSignBy := by
  refine F.ok scSignBy (fun vs H Q E h => ?_) (fun cdv A outer s H vs Q E hr h => ?_)
  · obtain ⟨c, rfl, _⟩ := h
    rfl
  · obtain ⟨c, rfl, q⟩ := h
    refine ⟨_, pss_cons (ps_set (i := 1) scSignBy.nd rfl (.inl rfl) pe_str) (pss_cons (ps_set (i := 1) scSignBy.nd rfl (.inl rfl) (pe_op op_add_str (pv 1) pe_str)) (pss_one (ps_ret (pe_ix ix_str (pv 1) (pe_op op_mod (pv 0) pe_int) (fun _ _ => rfl))))), ?_⟩
    refine ⟨_, rfl, _, _, rfl, rfl, by decide +kernel, ?_⟩
    refine ⟨_, rfl, _, rfl, _, _, rfl, rfl, (by show (0 : Int) < 93; decide), _, _, sgnOf c, rfl, rfl, by decide +kernel, ?_, q⟩
    have h1 : 0 ≤ c % 93 := Int.emod_nonneg c (by decide)
    have h2 : c % 93 < 93 := Int.emod_lt_of_pos c (by decide)
    have e : c % 93 = (((c % 93).toNat : Nat) : Int) := (Int.toNat_of_nonneg h1).symm
    have hn : (c % 93).toNat < 93 := by omega
    unfold sgnOf
    rw [e, Int.toNat_natCast]
    generalize (c % 93).toNat = i at hn
    refine atI_nat ?_
    have key : ∀ i, i < 93 → (("!\"#$&'()*+,-./0123456789:;<=>?@ABCDEFGHIJKLMNOPQRSTUVWXYZ[\\]^_`" : Str) ++ ("abcdefghijklmnopqrstuvwxyz{|}~" : Str)).cps.toList[i]? = some (sg i) := by decide +kernel
    exact key i hn
def spWordBy : Sp := fun vs H Q _ => ∃ c : Int, vs = [.int c] ∧ ∀ H', Same H H' → Q (.str (wordOf c)) H'
theorem ok_word_by {f fS : Addr} {fd fdS : FuncData} (F : FnP K "_law_word_by" sWordBy f fd) (FS : FnP K "_law_sign_by" sSignBy fS fdS) (bS : Binds K fdS ["_law_cell"] []) (gS : mg "_law_sign_by" = some (.ref fS)) (mR : mg "range" = none) :
    FnOk P w K mg base (L2.CX P w) 2 f fd ["_law_cell"] spWordBy := by
  have GS : FnOk P w K mg base (L2.CX P w) 1 fS fdS ["_law_cell"] spSignBy := ok_sign_by FS
  refine F.ok scWordBy (fun vs H Q E h => ?_) (fun cdv A outer s H vs Q E hr h => ?_)
  · obtain ⟨c, rfl, _⟩ := h
    rfl
  · obtain ⟨c, rfl, q⟩ := h
    refine ⟨_, pss_cons (ps_set (i := 1) scWordBy.nd rfl (.inr rfl) (pe_op op_mod (pe_op op_mul (pe_op op_add (pv 0) pe_int) pe_int) pe_int))
      (pss_cons (ps_set (i := 2) scWordBy.nd rfl (.inl rfl) (pe_op op_add pe_int (pe_op op_mod (pv 1) pe_int)))
      (pss_cons (ps_if (pt_cmpR op_eq (pe_op op_mod (pe_op op_fdiv (pv 1) pe_int) pe_int) pe_int (nomark _)) (pss_one (ps_set (i := 2) scWordBy.nd rfl (.inl rfl) (pe_op op_add pe_int (pe_op op_mod (pe_op op_fdiv (pv 1) pe_int) pe_int)))) pss_nil)
      (pss_one (ps_ret (pe_join pe_str (pe_lc (own := [("_law_k", 3)]) (g := gName 3) (tt := tYes) rfl scWordBy.nd (pi_range1 (by rfl) mR (pa_cons (pv 2) pa_nil)) (blkOk_by (N := ["_law_cell", "_law_more", "_law_size", "_law_k"]) (sc := defScope sWordBy) (by decide +kernel))
        (fun _ _ _ _ _ => pg_name (i := 3) scWordBy.nd rfl (Or.inl rfl)) (fun _ _ _ _ _ => pts_nil)
        (fun _ _ _ _ _ => pe_call GS hr (by rfl) gS FS.kp bS .nil passL (pa_cons (pe_op op_mod (pe_op op_mul (pe_op op_add (pe_op op_add (pv 1) (pe_op op_mul pe_int (pv 3))) pe_int) (pe_op op_add (pe_op op_add (pv 1) (pe_op op_mul pe_int (pv 3))) pe_int)) pe_int) pa_nil)))))))), ?_⟩
    have hm := wMore_b c
    have hsz := wSize_b c
    refine ⟨_, rfl, _, _, rfl, rfl, _, _, rfl, rfl, .inr (by decide), _, _, rfl, rfl, (by show (0 : Int) < 1000003; decide), ?_⟩
    refine ⟨_, rfl, _, _, rfl, rfl, (by show (0 : Int) < 3; decide), _, _, rfl, rfl, ?_⟩
    refine ⟨_, rfl, _, _, rfl, rfl, ⟨by decide, by decide⟩, _, _, rfl, rfl, (by show (0 : Int) < 3; decide), rfl, _, rfl, ?_⟩
    -- both ways lead to the size
    have rest : ∀ σ0, σ0 = [some (V.int c), some (.int (wMore c)), some (.int (wSize c)), none] → tRet (tM1 (fun x xs H Q => ∃ a p, ∃ ys : List Str, x = .str a ∧ xs = [.ref p] ∧ (SqL K H p (ys.map V.str) ∨ SqT K H p (ys.map V.str)) ∧
        (ys.map (·.length)).sum + ys.length * a.length ≤ 16777216 ∧ Q (.str (Txt.join a ys)) H) (tC (.str "")) (tLc (iRng1 (tCons (tVar 2) tNil)) (gName 3) tYes
          (tCall spSignBy [] E0 (tCons (tOp (rI (fun _ j => 0 < j) fun i j => .int (i % j)) (tOp (rI CMul fun i j => .int (i * j)) (tOp (rI0 fun i j => .int (i + j)) (tOp (rI0 fun i j => .int (i + j)) (tVar 1) (tOp (rI CMul fun i j => .int (i * j)) (tC (.int 11)) (tVar 3))) (tC (.int 1)))
            (tOp (rI0 fun i j => .int (i + j)) (tOp (rI0 fun i j => .int (i + j)) (tVar 1) (tOp (rI CMul fun i j => .int (i * j)) (tC (.int 211)) (tVar 3))) (tC (.int 3)))) (tC (.int 1000033))) tNil)) [3])) { nx := fun _ H' => Q .non H', rt := Q } σ0 H := by
      rintro _ rfl
      refine ⟨⟨_, rfl⟩, _, rfl, _, rfl, by omega, by omega, fun D nD => ?_⟩
      refine lc_range (lo := 0) (n := (wSize c).toNat) (fun i H' => Same H H' ∧ H' D = some (.lst ((wCodes c i).map fun z => V.str ⟨#[z]⟩))) ⟨same_upd nD, upd_same⟩ (fun i H' hi hp => ?_) (fun H' hp => ?_)
      · obtain ⟨sm, hD⟩ := hp
        refine ⟨rfl, yesT ?_⟩
        refine ⟨_, rfl, _, rfl, _, _, rfl, rfl, .inl (by decide), _, _, rfl, rfl, _, _, rfl, rfl, _, rfl, _, rfl, _, _, rfl, rfl, .inl (by decide), _, _, rfl, rfl, _, _, rfl, rfl, _, _, rfl, rfl, .inl ⟨by omega, by omega⟩, _, _, rfl, rfl, (by show (0 : Int) < 1000033; decide), _, rfl, ?_⟩
        refine ⟨_, hD, ?_, fun b o e => ?_, ?_⟩
        · rw [List.length_map]
          unfold wCodes
          rw [List.length_map, List.length_range]
          exact Nat.lt_of_lt_of_le (show i < 1000 by omega) (by decide)
        · rw [upd_ne (ne_of_none e nD)]
          exact sm b o e
        · rw [upd_same]
          unfold wCodes
          rw [List.range_succ, List.map_append, List.map_append]
          rfl
      · obtain ⟨sm, hD⟩ := hp
        refine ⟨_, _, (wCodes c (wSize c).toNat).map fun z => (⟨#[z]⟩ : Str), rfl, rfl, .inl (.inl (.inl ?_)), ?_, ?_⟩
        · rw [hD, List.map_map]
          rfl
        · have e0 : ("" : Str).length = 0 := by decide +kernel
          rw [e0, Nat.mul_zero, Nat.add_zero]
          have e1 : ∀ l : List Nat, ((l.map fun z => (⟨#[z]⟩ : Str)).map (·.length)).sum = l.length := fun l => by
            induction l with
            | nil => rfl
            | cons a r ih =>
              rw [List.map_cons, List.map_cons, List.sum_cons, ih, List.length_cons]
              show 1 + r.length = _
              omega
          rw [e1]
          unfold wCodes
          rw [List.length_map, List.length_range]
          omega
        · rw [join_signs]
          exact q H' sm
    refine ite2 (fun e => ?_) (fun e => ?_)
    · have e1 : wMore c / 3 % 3 = 1 := V.int.inj (of_decide_eq_true e)
      refine ⟨_, rfl, _, _, rfl, rfl, ⟨by decide, by decide⟩, _, _, rfl, rfl, (by show (0 : Int) < 40; decide), _, _, rfl, rfl, rest _ ?_⟩
      unfold wSize
      rw [if_pos e1]
      rfl
    · have e1 : ¬ wMore c / 3 % 3 = 1 := fun z => e (decide_eq_true (congrArg V.int z))
      refine rest _ ?_
      unfold wSize
      rw [if_neg e1]
      rfl
end
/-! ### no word of the menu is 'behind' -/
def behL : List Nat := [98, 101, 104, 105, 110, 100]
theorem beh_codes : ("behind" : Str).cps.toList = behL := by decide +kernel
/-- the k-th sign of the word that m makes -/
def sgM (m k : Nat) : Nat := sg ((m + 11 * k + 1) * (m + 211 * k + 3) % 1000033 % 93)
def hit (m k c : Nat) : Nat := if sgM m k = c then 1 else 0
def far6 (m : Nat) : Bool := Nat.ble (hit m 0 98 + hit m 1 101 + hit m 2 104 + hit m 3 105 + hit m 4 110 + hit m 5 100) 4 && Nat.ble (hit m 0 100 + hit m 1 110 + hit m 2 105 + hit m 3 104 + hit m 4 101 + hit m 5 98) 4
def far7 (m : Nat) : Bool := Nat.ble (hit m 0 98 + hit m 1 101 + hit m 2 104) 2 && Nat.ble (hit m 4 105 + hit m 5 110 + hit m 6 100) 2
def chk (f : Nat → Bool) (o q : Nat) : Bool := f (360 * q + o + 3) && (f (360 * q + o + 4) && f (360 * q + o + 5))
def allB (f : Nat → Bool) : Nat → Nat → Bool
  | 0, b => f b
  | n + 1, b => allB f n b && allB f n (b + 2 ^ n)
theorem allB_at {f : Nat → Bool} : ∀ {n b : Nat}, allB f n b = true → ∀ q, b ≤ q → q < b + 2 ^ n → f q = true
  | 0, b, h, q, h1, h2 => by
    have : q = b := by
      rw [Nat.pow_zero] at h2
      omega
    rw [this]
    exact h
  | n + 1, b, h, q, h1, h2 => by
    have h : (allB f n b && allB f n (b + 2 ^ n)) = true := h
    rw [Bool.and_eq_true] at h
    rw [Nat.pow_succ] at h2
    by_cases c : q < b + 2 ^ n
    · exact allB_at h.1 q h1 c
    · exact allB_at h.2 q (by omega) (by omega)
theorem all6 : allB (chk far6 45) 12 0 = true := by decide +kernel
theorem all7 : allB (chk far7 54) 12 0 = true := by decide +kernel
theorem chk_at {f : Nat → Bool} {o q r m : Nat} (h : chk f o q = true) (hr : r = 3 ∨ r = 4 ∨ r = 5) (hm : m = 360 * q + o + r) : f m = true := by
  unfold chk at h
  rw [Bool.and_eq_true, Bool.and_eq_true] at h
  rw [hm]
  rcases hr with rfl | rfl | rfl
  · exact h.1
  · exact h.2.1
  · exact h.2.2
theorem more_size {c : Int} {n : Int} (hn : 4 ≤ n) (h : wSize c = n) : ∃ q r : Nat, q < 4096 ∧ (r = 3 ∨ r = 4 ∨ r = 5) ∧ ((wMore c).toNat : Int) = 360 * (q : Int) + 9 * (n - 1) + (r : Int) := by
  have b := wMore_b c
  unfold wSize at h
  generalize wMore c = M at b h ⊢
  by_cases h1 : M / 3 % 3 = 1
  · rw [if_pos h1] at h
    refine ⟨(M / 360).toNat, (M % 9).toNat, by omega, by omega, by omega⟩
  · rw [if_neg h1] at h
    omega
theorem wSign_m (c : Int) (k : Nat) : wSign c k = sgM (wMore c).toNat k := by
  have b := wMore_b c
  have e : wMore c = ((wMore c).toNat : Int) := by omega
  unfold wSign sgnOf sgM
  generalize (wMore c).toNat = m at e ⊢
  rw [e, show (m : Int) + 11 * (0 + (k : Int)) + 1 = ((m + 11 * k + 1 : Nat) : Int) by omega, show (m : Int) + 211 * (0 + (k : Int)) + 3 = ((m + 211 * k + 3 : Nat) : Int) by omega, ← Int.natCast_mul]
  generalize (m + 11 * k + 1) * (m + 211 * k + 3) = x
  congr 1
theorem hit_le (m k c : Nat) : hit m k c ≤ 1 := by
  unfold hit
  split <;> omega
theorem hit_one {m k c : Nat} (h : sgM m k = c) : hit m k c = 1 := if_pos h
theorem codes_six {c : Int} (h : (wSize c).toNat = 6) : wCodes c 6 = [sgM (wMore c).toNat 0, sgM (wMore c).toNat 1, sgM (wMore c).toNat 2, sgM (wMore c).toNat 3, sgM (wMore c).toNat 4, sgM (wMore c).toNat 5] := by
  unfold wCodes
  rw [show List.range 6 = [0, 1, 2, 3, 4, 5] from rfl]
  simp only [List.map_cons, List.map_nil, wSign_m]
theorem codes_seven {c : Int} : wCodes c 7 = [sgM (wMore c).toNat 0, sgM (wMore c).toNat 1, sgM (wMore c).toNat 2, sgM (wMore c).toNat 3, sgM (wMore c).toNat 4, sgM (wMore c).toNat 5, sgM (wMore c).toNat 6] := by
  unfold wCodes
  rw [show List.range 7 = [0, 1, 2, 3, 4, 5, 6] from rfl]
  simp only [List.map_cons, List.map_nil, wSign_m]
/-- b is l, l turned round, l without one sign, l with one sign changed -/
def nearL (l b : List Nat) : Prop := b = l ∨ b = l.reverse ∨ (∃ k, k < l.length ∧ b = l.take k ++ l.drop (k + 1)) ∨ ∃ k s, k < l.length ∧ b = l.take k ++ [s] ++ l.drop (k + 1)
theorem word_far (c : Int) (b : List Nat) (h : nearL (wordOf c).cps.toList b) : b ≠ behL := fun e => by
  subst e
  have e0 : (wordOf c).cps.toList = wCodes c (wSize c).toNat := rfl
  have ll : (wCodes c (wSize c).toNat).length = (wSize c).toNat := by
    unfold wCodes
    rw [List.length_map, List.length_range]
  rw [e0] at h
  have bl : behL.length = 6 := rfl
  have sb := wSize_b c
  have cases6 : (wSize c).toNat = 6 ∨ ((wSize c).toNat = 7 ∧ ∃ k, k < 7 ∧ behL = (wCodes c 7).take k ++ (wCodes c 7).drop (k + 1)) := by
    rcases h with h | h | ⟨k, hk, h⟩ | ⟨k, s, hk, h⟩
    · left
      rw [← ll, ← h]
      rfl
    · left
      rw [← ll, ← List.length_reverse, ← h]
      rfl
    · right
      have := congrArg List.length h
      rw [List.length_append, List.length_take, List.length_drop, bl] at this
      have s7 : (wSize c).toNat = 7 := by omega
      rw [s7] at h ll hk
      exact ⟨s7, k, by omega, h⟩
    · left
      have := congrArg List.length h
      rw [List.length_append, List.length_append, List.length_take, List.length_drop, bl] at this
      have e1 : [s].length = 1 := rfl
      omega
  rcases cases6 with s6 | ⟨s7, k, hk, h⟩
  · obtain ⟨q, r, hq, hr, hm⟩ := more_size (n := 6) (by decide) (show wSize c = 6 by omega)
    have f := chk_at (allB_at all6 q (Nat.zero_le _) (by omega)) hr (m := (wMore c).toNat) (by omega)
    have cd := codes_six s6
    rw [s6, cd] at h
    generalize (wMore c).toNat = m at f h
    unfold far6 at f
    rw [Bool.and_eq_true] at f
    have f1 := Nat.le_of_ble_eq_true f.1
    have f2 := Nat.le_of_ble_eq_true f.2
    rcases h with h | h | ⟨k, hk, h⟩ | ⟨k, s, hk, h⟩
    · simp only [behL, List.cons.injEq, and_true] at h
      obtain ⟨h0, h1, h2, h3, h4, h5⟩ := h
      rw [hit_one h0.symm, hit_one h1.symm, hit_one h2.symm, hit_one h3.symm, hit_one h4.symm, hit_one h5.symm] at f1
      omega
    · simp only [behL, List.reverse_cons, List.reverse_nil, List.nil_append, List.cons_append, List.cons.injEq, and_true] at h
      obtain ⟨h0, h1, h2, h3, h4, h5⟩ := h
      rw [hit_one h5.symm, hit_one h4.symm, hit_one h3.symm, hit_one h2.symm, hit_one h1.symm, hit_one h0.symm] at f2
      omega
    · have := congrArg List.length h
      rw [List.length_append, List.length_take, List.length_drop] at this
      simp only [behL, List.length_cons, List.length_nil] at this hk
      omega
    · have hk : k < 6 := hk
      match k, hk with
      | 0, _ =>
        simp only [behL, List.take, List.drop, List.nil_append, List.cons_append, List.cons.injEq, and_true] at h
        obtain ⟨_, h1, h2, h3, h4, h5⟩ := h
        rw [hit_one h1.symm, hit_one h2.symm, hit_one h3.symm, hit_one h4.symm, hit_one h5.symm] at f1
        omega
      | 1, _ =>
        simp only [behL, List.take, List.drop, List.nil_append, List.cons_append, List.cons.injEq, and_true] at h
        obtain ⟨h0, _, h2, h3, h4, h5⟩ := h
        rw [hit_one h0.symm, hit_one h2.symm, hit_one h3.symm, hit_one h4.symm, hit_one h5.symm] at f1
        omega
      | 2, _ =>
        simp only [behL, List.take, List.drop, List.nil_append, List.cons_append, List.cons.injEq, and_true] at h
        obtain ⟨h0, h1, _, h3, h4, h5⟩ := h
        rw [hit_one h0.symm, hit_one h1.symm, hit_one h3.symm, hit_one h4.symm, hit_one h5.symm] at f1
        omega
      | 3, _ =>
        simp only [behL, List.take, List.drop, List.nil_append, List.cons_append, List.cons.injEq, and_true] at h
        obtain ⟨h0, h1, h2, _, h4, h5⟩ := h
        rw [hit_one h0.symm, hit_one h1.symm, hit_one h2.symm, hit_one h4.symm, hit_one h5.symm] at f1
        omega
      | 4, _ =>
        simp only [behL, List.take, List.drop, List.nil_append, List.cons_append, List.cons.injEq, and_true] at h
        obtain ⟨h0, h1, h2, h3, _, h5⟩ := h
        rw [hit_one h0.symm, hit_one h1.symm, hit_one h2.symm, hit_one h3.symm, hit_one h5.symm] at f1
        omega
      | 5, _ =>
        simp only [behL, List.take, List.drop, List.nil_append, List.cons_append, List.cons.injEq, and_true] at h
        obtain ⟨h0, h1, h2, h3, h4, _⟩ := h
        rw [hit_one h0.symm, hit_one h1.symm, hit_one h2.symm, hit_one h3.symm, hit_one h4.symm] at f1
        omega
  · obtain ⟨q, r, hq, hr, hm⟩ := more_size (n := 7) (by decide) (show wSize c = 7 by omega)
    have f := chk_at (allB_at all7 q (Nat.zero_le _) (by omega)) hr (m := (wMore c).toNat) (by omega)
    rw [codes_seven] at h
    generalize (wMore c).toNat = m at f h
    unfold far7 at f
    rw [Bool.and_eq_true] at f
    have f1 := Nat.le_of_ble_eq_true f.1
    have f2 := Nat.le_of_ble_eq_true f.2
    by_cases k3 : k < 4
    · have t : (behL.drop 3) = ([sgM m 4, sgM m 5, sgM m 6] : List Nat) := by
        rw [h]
        match k, k3 with
        | 0, _ => rfl
        | 1, _ => rfl
        | 2, _ => rfl
        | 3, _ => rfl
      simp only [behL, List.drop, List.cons.injEq, and_true] at t
      obtain ⟨h4, h5, h6⟩ := t
      rw [hit_one h4.symm, hit_one h5.symm, hit_one h6.symm] at f2
      omega
    · have t : (behL.take 3) = ([sgM m 0, sgM m 1, sgM m 2] : List Nat) := by
        rw [h]
        match k, k3, hk with
        | 4, _, _ => rfl
        | 5, _, _ => rfl
        | 6, _, _ => rfl
        | 0, z, _ => exact absurd (by decide) z
        | 1, z, _ => exact absurd (by decide) z
        | 2, z, _ => exact absurd (by decide) z
        | 3, z, _ => exact absurd (by decide) z
      simp only [behL, List.take, List.cons.injEq, and_true] at t
      obtain ⟨h0, h1, h2⟩ := t
      rw [hit_one h0.symm, hit_one h1.symm, hit_one h2.symm] at f1
      omega
/-! ### near words, the menu -/
theorem wordB_of {b : Str} (h1 : 1 ≤ b.length) (h2 : b.length ≤ 40) (h : ∀ c ∈ b.cps.toList, signB c = true) : wordB b = true := by
  unfold wordB
  rw [Bool.and_eq_true, Bool.and_eq_true]
  exact ⟨decide_eq_true (by omega), decide_eq_true (by omega), List.all_eq_true.mpr h⟩
theorem str_len (a : Str) : a.length = a.cps.toList.length := by simp [Str.length]
theorem cut_lo (a : Str) (k : Nat) (h : k ≤ a.length) : (cutS a none (some (k : Int))).cps.toList = a.cps.toList.take k := by
  unfold cutS
  rw [HT.sIx_none, HT.sIx_nat, Nat.min_eq_left h, Nat.sub_zero]
  rfl
theorem cut_hi (a : Str) (k : Nat) (h : k ≤ a.length) : (cutS a (some (k : Int)) none).cps.toList = a.cps.toList.drop k := by
  unfold cutS
  rw [HT.sIx_none, HT.sIx_nat, Nat.min_eq_left h]
  show (a.cps.toList.drop k).take (a.length - k) = _
  rw [List.take_of_length_le (by rw [List.length_drop, str_len]; exact Nat.le_refl _)]
section
variable {P : Program} {w : World} {K : PySem.W.Frag} {mg : Str → Option Value} {base : Heap}
theorem scNear : FnScope ["_law_word", "_law_cell", "_law_at"] ["_law_word", "_law_cell"] (defScope sNear) := ⟨rfl, rfl, rfl, by decide +kernel, rfl, by decide +kernel, by decide +kernel⟩
theorem scMenu : FnScope ["_law_script", "_law_base", "_law_k"] ["_law_script"] (defScope sMenu) := ⟨rfl, rfl, rfl, by decide +kernel, rfl, by decide +kernel, by decide +kernel⟩
def spNear : Sp := fun vs H Q _ => ∃ (a : Str) (c : Int), vs = [.str a, .int c] ∧ wordB a = true ∧ ∀ H' b, Same H H' → wordB b = true → nearL a.cps.toList b.cps.toList → Q (.str b) H'
theorem ok_near {f fS : Addr} {fd fdS : FuncData} (F : FnP K "_law_near" sNear f fd) (GS : FnOk P w K mg base (L2.CX P w) 1 fS fdS ["_law_cell"] spSignBy) (kS : PySem.W.keepIn K (.ref fS) = true) (bS : Binds K fdS ["_law_cell"] []) (gS : mg "_law_sign_by" = some (.ref fS))
    (mL : mg "len" = none) (mT : mg "list" = none) (mV : mg "reversed" = none) : FnOk P w K mg base (L2.CX P w) 2 f fd ["_law_word", "_law_cell"] spNear := by
  refine F.ok scNear (fun vs H Q E h => ?_) (fun cdv A outer s H vs Q E hr h => ?_)
  · obtain ⟨a, c, rfl, _⟩ := h
    rfl
  · obtain ⟨a, c, rfl, ha, q⟩ := h
    refine ⟨_, pss_cut (ps_set (i := 2) scNear.nd rfl (.inl rfl) (pe_op op_mod (pv 1) (pe_callB call_len_str (by rfl) mL PySem.boot_len (pa_cons (pv 0) pa_nil))))
      (pss_cons (ps_if (pt_cmpR op_eq (pe_op op_mod (pe_op op_fdiv (pv 1) pe_int) pe_int) pe_int (nomark _)) (pss_one (ps_ret (pe_join pe_str (Rs.pe_listRs rfl (by rfl) mT (by rfl) mV (pv 0))))) pss_nil)
      (pss_cut (ps_if (PW.pt (pw_and (pt_cmpR op_eq (pe_op op_mod (pe_op op_fdiv (pv 1) pe_int) pe_int) pe_int (nomark _)) (pw_and1 (pt_cmpR op_gt (pe_callB call_len_str (by rfl) mL PySem.boot_len (pa_cons (pv 0) pa_nil)) pe_int (nomark _)))))
        (pss_one (ps_ret (pe_op op_add_str (pe_slice sl_str (pv 0) po_none (po_some (pv 2))) (pe_slice sl_str (pv 0) (po_some (pe_op op_add (pv 2) pe_int)) po_none)))) pss_nil)
      (pss_one (ps_ret (pe_op op_add_str (pe_op op_add_str (pe_slice sl_str (pv 0) po_none (po_some (pv 2))) (pe_call GS hr (by rfl) gS kS bS .nil passL (pa_cons (pe_op op_fdiv (pv 1) pe_int) pa_nil))) (pe_slice sl_str (pv 0) (po_some (pe_op op_add (pv 2) pe_int)) po_none)))))), ?_⟩
    have hl := wordB_len ha
    have hz : a.length ≤ sizeLine := small_line (by omega)
    have hsg := wordB_signs ha
    have h1 : 0 ≤ c % (a.length : Int) := Int.emod_nonneg c (by omega)
    have h2 : c % (a.length : Int) < (a.length : Int) := Int.emod_lt_of_pos c (by omega)
    obtain ⟨k, hk⟩ : ∃ k : Nat, c % (a.length : Int) = (k : Int) := ⟨(c % (a.length : Int)).toNat, (Int.toNat_of_nonneg h1).symm⟩
    have hka : k < a.length := by omega
    have el := str_len a
    have lo := cut_lo a k (by omega)
    have hi := cut_hi a (k + 1) (by omega)
    have llo : (cutS a none (some (k : Int))).length = k := by
      rw [str_len, lo, List.length_take]
      omega
    have lhi : (cutS a (some ((k + 1 : Nat) : Int)) none).length = a.length - (k + 1) := by
      rw [str_len, hi, List.length_drop]
      omega
    have slo : ∀ x ∈ (cutS a none (some (k : Int))).cps.toList, signB x = true := fun x hx => hsg x (by rw [lo] at hx; exact List.mem_of_mem_take hx)
    have shi : ∀ x ∈ (cutS a (some ((k + 1 : Nat) : Int)) none).cps.toList, signB x = true := fun x hx => hsg x (by rw [hi] at hx; exact List.mem_of_mem_drop hx)
    have ek : ((k : Int) + 1) = ((k + 1 : Nat) : Int) := by omega
    refine ⟨fun σ' H' => σ' = [some (.str a), some (.int c), some (.int (k : Int))] ∧ H' = H, ⟨_, rfl, _, rfl, a, rfl, hz, _, _, rfl, rfl, by omega, ?_, rfl⟩, fun σ' H' hM => ?_⟩
    · show [some (V.str a), some (V.int c), some (V.int (c % (a.length : Int)))] = _
      rw [hk]
    obtain ⟨rfl, rfl⟩ := hM
    refine ⟨_, rfl, _, _, rfl, rfl, ⟨by decide, by decide⟩, _, _, rfl, rfl, (by show (0 : Int) < 3; decide), rfl, _, rfl, ite2 (fun e => ?_) (fun e => ?_)⟩
    · refine ⟨⟨_, rfl⟩, _, rfl, a, rfl, hl.1, by omega, fun p np => ?_⟩
      refine ⟨_, p, a.cps.toList.reverse.map fun c => (⟨#[c]⟩ : Str), rfl, rfl, .inl (.inl (.inl ?_)), ?_, ?_⟩
      · rw [upd_same, List.map_map]
        rfl
      · have e0 : ("" : Str).length = 0 := by decide +kernel
        rw [e0, Nat.mul_zero, Nat.add_zero]
        have e1 : ∀ l : List Nat, ((l.map fun z => (⟨#[z]⟩ : Str)).map (·.length)).sum = l.length := fun l => by
          induction l with
          | nil => rfl
          | cons a r ih =>
            rw [List.map_cons, List.map_cons, List.sum_cons, ih, List.length_cons]
            show 1 + r.length = _
            omega
        rw [e1, List.length_reverse]
        omega
      · rw [join_signs]
        refine q _ _ (same_upd np) (wordB_of ?_ ?_ fun x hx => hsg x ?_) (.inr (.inl rfl))
        · show 1 ≤ (a.cps.toList.reverse.toArray).size
          rw [List.size_toArray, List.length_reverse]
          omega
        · show (a.cps.toList.reverse.toArray).size ≤ 40
          rw [List.size_toArray, List.length_reverse]
          omega
        · exact List.mem_reverse.mp hx
    · refine ⟨fun σ' H2 => σ' = [some (.str a), some (.int c), some (.int (k : Int))] ∧ H2 = H', ?_, fun σ' H2 hM => ?_⟩
      · refine ⟨_, rfl, _, _, rfl, rfl, ⟨by decide, by decide⟩, _, _, rfl, rfl, (by show (0 : Int) < 3; decide), rfl, _, rfl, ?_⟩
        cases decide (V.int (c / 41 % 3) = V.int 1) with
        | false => exact iteF (iteF ⟨rfl, rfl⟩)
        | true =>
          refine iteT ⟨_, rfl, a, rfl, hz, _, _, rfl, rfl, _, rfl, ite2 (fun e => ?_) (fun e => ⟨rfl, rfl⟩)⟩
          have e1 : (1 : Int) < (a.length : Int) := of_decide_eq_true e
          refine ⟨_, rfl, _, rfl, _, rfl, a, rfl, hz, _, rfl, _, rfl, _, _, rfl, rfl, _, rfl, a, rfl, hz, _, _, rfl, rfl, ?_, ?_⟩
          · rw [ek, llo, lhi]
            exact small_line (by omega)
          · rw [ek]
            refine q _ _ (Same.refl _) (wordB_of ?_ ?_ fun x hx => ?_) (.inr (.inr (.inl ⟨k, by rw [← el]; exact hka, by rw [Str.cps_append, Array.toList_append, lo, hi]⟩)))
            · rw [Str.length_append, llo, lhi]
              omega
            · rw [Str.length_append, llo, lhi]
              omega
            · rw [Str.cps_append, Array.toList_append] at hx
              rcases List.mem_append.mp hx with hx | hx
              · exact slo x hx
              · exact shi x hx
      · obtain ⟨rfl, rfl⟩ := hM
        refine ⟨_, rfl, _, rfl, _, rfl, a, rfl, hz, _, rfl, _, _, rfl, rfl, ⟨by decide, by decide⟩, _, rfl, _, _, rfl, rfl, ?_, _, rfl, _, rfl, _, _, rfl, rfl, _, rfl, a, rfl, hz, _, _, rfl, rfl, ?_, ?_⟩
        · rw [llo]
          exact small_line (by show k + 1 ≤ 1000000; omega)
        · rw [ek, Str.length_append, llo, lhi]
          exact small_line (by show k + 1 + (a.length - (k + 1)) ≤ 1000000; omega)
        · rw [ek]
          refine q _ _ (Same.refl _) (wordB_of ?_ ?_ fun x hx => ?_) (.inr (.inr (.inr ⟨k, sgnOf (c / 123), by rw [← el]; exact hka, by rw [Str.cps_append, Array.toList_append, Str.cps_append, Array.toList_append, lo, hi]⟩)))
          · rw [Str.length_append, Str.length_append, llo, lhi]
            show 1 ≤ k + 1 + (a.length - (k + 1))
            omega
          · rw [Str.length_append, Str.length_append, llo, lhi]
            show k + 1 + (a.length - (k + 1)) ≤ 40
            omega
          · rw [Str.cps_append, Array.toList_append, Str.cps_append, Array.toList_append] at hx
            rcases List.mem_append.mp hx with hx | hx
            · rcases List.mem_append.mp hx with hx | hx
              · exact slo x hx
              · have hx : x ∈ [sgnOf (c / 123)] := hx
                rw [List.mem_singleton.mp hx]
                exact sgnOf_ok _
            · exact shi x hx

/-- a word of the menu -/
def MW (x : Str) : Prop := wordB x = true ∧ x.cps.toList ≠ behL
theorem mw_of {x : Str} (h : ∃ c, x = wordOf c) : MW x := by
  obtain ⟨c, rfl⟩ := h
  exact ⟨wordOf_ok c, word_far c _ (.inl rfl)⟩
def spMenu (K : PySem.W.Frag) : Sp := fun vs H Q _ => ∃ (a : Addr) (ns : List Int), vs = [.ref a] ∧ SqL K H a (ns.map V.int) ∧ ∀ (H' : Hp) (p : Addr) (ws : List Str), Same H H' → H p = none → H' p = some (.lst (ws.map V.str)) → ws.length = 12 → (∀ x ∈ ws, MW x) → Q (.ref p) H'
theorem ok_menu {f fC fW fN : Addr} {fd fdC fdW fdN : FuncData} (F : FnP K "_law_menu" sMenu f fd)
    (GC : FnOk P w K mg base (L2.CX P w) 1 fC fdC ["_law_script", "_law_k"] (spCell K)) (kC : PySem.W.keepIn K (.ref fC) = true) (bC : Binds K fdC ["_law_script", "_law_k"] []) (gC : mg "_law_cell_at" = some (.ref fC))
    (GW : FnOk P w K mg base (L2.CX P w) 2 fW fdW ["_law_cell"] spWordBy) (kW : PySem.W.keepIn K (.ref fW) = true) (bW : Binds K fdW ["_law_cell"] []) (gW : mg "_law_word_by" = some (.ref fW))
    (GN : FnOk P w K mg base (L2.CX P w) 2 fN fdN ["_law_word", "_law_cell"] spNear) (kN : PySem.W.keepIn K (.ref fN) = true) (bN : Binds K fdN ["_law_word", "_law_cell"] []) (gN : mg "_law_near" = some (.ref fN)) (mR : mg "range" = none) :
    FnOk P w K mg base (L2.CX P w) 3 f fd ["_law_script"] (spMenu K) := by
  refine F.ok scMenu (fun vs H Q E h => ?_) (fun cdv A outer s H vs Q E hr h => ?_)
  · obtain ⟨a, ns, rfl, _⟩ := h
    rfl
  · obtain ⟨a, ns, rfl, hS, q⟩ := h
    have r1 : Room 1 (A.deeper (envOfC "_law_menu" (defScope sMenu) s.heap.objs.size f cdv)) := hr.mono (by decide)
    refine ⟨_, pss_cut (ps_setLc (i := 1) (own := [("_law_k", 2)]) (g := gName 2) (tt := tYes) rfl scMenu.nd rfl rfl (sw_true rfl rfl rfl (by decide +kernel)) (pi_range1 (by rfl) mR (pa_cons pe_int pa_nil)) (blkOk_by (N := ["_law_script", "_law_base", "_law_k"]) (sc := defScope sMenu) (by decide +kernel))
        (fun _ _ _ _ _ => pg_name (i := 2) scMenu.nd rfl (Or.inl rfl)) (fun _ _ _ _ _ => pts_nil) (fun _ _ _ _ _ => pe_call GW hr (by rfl) gW kW bW .nil passL (pa_cons (pe_op op_add (pe_call GC r1 (by rfl) gC kC bC .nil passL (pa_cons (pv 0) (pa_cons (pv 2) pa_nil))) (pe_op op_mul pe_int (pv 2))) pa_nil)))
      (pss_cut (ps_if (pt_cmpR op_eq (pe_op op_mod (pe_call GC r1 (by rfl) gC kC bC .nil passL (pa_cons (pv 0) (pa_cons pe_int pa_nil))) pe_int) pe_int (nomark _))
        (pss_cons (ps_asg (pe_call GN hr (by rfl) gN kN bN .nil passL (pa_cons (pe_ix ix_list (pv 1) pe_int (fun _ _ => rfl)) (pa_cons (pe_call GC r1 (by rfl) gC kC bC .nil passL (pa_cons (pv 0) (pa_cons pe_int pa_nil))) pa_nil))) (pg_sub (pv 1) pe_int set_list))
          (pss_one (ps_asg (pe_call GN hr (by rfl) gN kN bN .nil passL (pa_cons (pe_ix ix_list (pv 1) pe_int (fun _ _ => rfl)) (pa_cons (pe_call GC r1 (by rfl) gC kC bC .nil passL (pa_cons (pv 0) (pa_cons pe_int pa_nil))) pa_nil))) (pg_sub (pv 1) pe_int set_list)))) pss_nil)
      (pss_cons (ps_if (pt_cmpR op_eq (pe_op op_mod (pe_call GC r1 (by rfl) gC kC bC .nil passL (pa_cons (pv 0) (pa_cons pe_int pa_nil))) pe_int) pe_int (nomark _))
        (pss_one (ps_ret (pe_op op_cat (pv 1) (pe_lc (own := [("_law_k", 2)]) (g := gName 2) (tt := tYes) rfl scMenu.nd (pi_range1 (by rfl) mR (pa_cons pe_int pa_nil)) (blkOk_by (N := ["_law_script", "_law_base", "_law_k"]) (sc := defScope sMenu) (by decide +kernel))
          (fun _ _ _ _ _ => pg_name (i := 2) scMenu.nd rfl (Or.inl rfl)) (fun _ _ _ _ _ => pts_nil)
          (fun _ _ _ _ _ => pe_call GW hr (by rfl) gW kW bW .nil passL (pa_cons (pe_op op_add (pe_op op_add (pe_call GC r1 (by rfl) gC kC bC .nil passL (pa_cons (pv 0) (pa_cons (pe_op op_mod (pv 2) pe_int) pa_nil))) (pe_op op_mul pe_int (pv 2))) pe_int) pa_nil)))))) pss_nil)
      (pss_one (ps_ret (pe_op op_rep (pv 1) pe_int))))), ?_⟩
    -- the base of four
    refine ⟨fun σ' H' => ∃ D ws, σ' = [some (.ref a), some (.ref D), none] ∧ H D = none ∧ Same H H' ∧ H' D = some (.lst ((ws : List Str).map V.str)) ∧ ws.length = 4 ∧ ∀ x ∈ ws, (∃ c, x = wordOf c), ?_, fun σ1 H1 hM => ?_⟩
    · refine ⟨_, rfl, by decide, by decide, fun D nD => ?_⟩
      refine lc_range (lo := 0) (n := 4) (fun i H' => Same H H' ∧ H' D = some (.lst (((List.range i).map fun k => wordOf (cellOf ns (0 + k) + 97 * (0 + (k : Int)))).map V.str))) ⟨same_upd nD, upd_same⟩ (fun i H' hi hp => ?_) (fun H1 hp => ?_)
      · obtain ⟨sm, hD⟩ := hp
        refine ⟨rfl, yesT ?_⟩
        refine ⟨_, rfl, _, rfl, a, ns, 0 + i, congrArg (fun t : Int => [V.ref a, V.int t]) (show (0 : Int) + (i : Int) = ((0 + i : Nat) : Int) by omega), sm.seq hS, _, rfl, _, _, rfl, rfl, .inl (by decide), _, _, rfl, rfl, _, rfl, fun H2 sm2 => ?_⟩
        refine ⟨_, sm2 _ _ hD, ?_, fun b o e => ?_, ?_⟩
        · rw [List.length_map, List.length_map, List.length_range]
          exact Nat.lt_of_lt_of_le (show i < 1000 by omega) (by decide)
        · rw [upd_ne (ne_of_none e nD)]
          exact sm2 b o (sm b o e)
        · rw [upd_same, List.range_succ, List.map_append, List.map_append]
          rfl
      · obtain ⟨sm, hD⟩ := hp
        refine ⟨D, _, rfl, nD, sm, hD, by rw [List.length_map, List.length_range], fun x hx => ?_⟩
        obtain ⟨k, _, rfl⟩ := List.mem_map.mp hx
        exact ⟨_, rfl⟩
    obtain ⟨D, ws, rfl, nD, sm1, hD1, hl, hw⟩ := hM
    refine ⟨fun σ' H' => ∃ ws, σ' = [some (.ref a), some (.ref D), none] ∧ Same H H' ∧ H' D = some (.lst ((ws : List Str).map V.str)) ∧ ws.length = 4 ∧ ∀ x ∈ ws, MW x, ?_, fun σ2 H2 hM => ?_⟩
    · have hS1 := sm1.seq hS
      refine ⟨_, rfl, a, ns, 0, rfl, hS1, _, _, rfl, rfl, (by show (0 : Int) < 2; decide), rfl, _, rfl, ite2 (fun _ => ?_) (fun _ => ⟨ws, rfl, sm1, hD1, hl, fun x hx => mw_of (hw x hx)⟩)⟩
      have step : ∀ (j : Nat), j < 4 → ∃ x c, ws[j]? = some x ∧ x = wordOf c := fun j hj => by
        have : j < ws.length := by omega
        obtain ⟨c, hc⟩ := hw _ (List.getElem_mem this)
        exact ⟨ws[j], c, List.getElem?_eq_getElem this, hc⟩
      have put : ∀ (ws : List Str) (j : Nat) (b : Str), (ws.map V.str).set j (.str b) = (ws.set j b).map V.str := fun ws j b => by rw [List.map_set]
      have good : ∀ (ws : List Str) (j : Nat) (b : Str), (∀ x ∈ ws, MW x) → MW b → ∀ x ∈ ws.set j b, MW x := fun ws j b h hb x hx => by
        rcases List.mem_or_eq_of_mem_set hx with h1 | h1
        · exact h x h1
        · rw [h1]
          exact hb
      obtain ⟨x0, c0, hx0, hc0⟩ := step 0 (by decide)
      have hb0 : wordB x0 = true := by rw [hc0]; exact wordOf_ok _
      refine ⟨_, rfl, D, _, _, _, rfl, rfl, .inl (.inl hD1), at_of (j := 0) rfl (by rw [List.getElem?_map, hx0]; rfl), _, rfl, a, ns, 1, rfl, hS1, x0, _, rfl, hb0, fun H3 b sm3 hb nb => ?_⟩
      have hD3 := sm3 _ _ hD1
      refine ⟨_, rfl, D, _, _, 1, rfl, rfl, hD3, by rw [List.length_map, hl]; rfl, ?_⟩
      rw [put]
      have s4 : Same H (upd H3 D (.lst ((ws.set 1 b).map V.str))) := fun c o e => by
        rw [upd_ne (ne_of_none e nD)]
        exact sm3 c o (sm1 c o e)
      have hl4 : (ws.set 1 b).length = 4 := by rw [List.length_set]; exact hl
      have hw4 := good ws 1 b (fun x hx => mw_of (hw x hx)) ⟨hb, word_far c0 _ (hc0 ▸ nb)⟩
      have hD4 : (upd H3 D (.lst ((ws.set 1 b).map V.str))) D = some (.lst ((ws.set 1 b).map V.str)) := upd_same
      obtain ⟨x2, c2, hx2', hc2⟩ := step 2 (by decide)
      have hb2 : wordB x2 = true := by rw [hc2]; exact wordOf_ok _
      have hx2 : (ws.set 1 b)[2]? = some x2 := by rw [List.getElem?_set_ne (by decide)]; exact hx2'
      refine ⟨_, rfl, D, _, _, _, rfl, rfl, .inl (.inl hD4), at_of (j := 2) rfl (by rw [List.getElem?_map, hx2]; rfl), _, rfl, a, ns, 2, rfl, s4.seq hS, x2, _, rfl, hb2, fun H5 b5 sm5 hb5 nb5 => ?_⟩
      have hD5 := sm5 _ _ hD4
      refine ⟨_, rfl, D, _, _, 3, rfl, rfl, hD5, by rw [List.length_map, hl4]; rfl, ?_⟩
      rw [put]
      refine ⟨_, rfl, fun c o e => ?_, upd_same, by rw [List.length_set]; exact hl4, good _ 3 b5 hw4 ⟨hb5, word_far c2 _ (hc2 ▸ nb5)⟩⟩
      rw [upd_ne (ne_of_none e nD)]
      exact sm5 c o (s4 c o e)
    obtain ⟨ws, rfl, sm2, hD2, hl, hw⟩ := hM
    have hS2 := sm2.seq hS
    refine ⟨_, rfl, a, ns, 3, rfl, hS2, _, _, rfl, rfl, (by show (0 : Int) < 4; decide), rfl, _, rfl, ite2 (fun _ => ?_) (fun _ => ?_)⟩
    · refine ⟨_, rfl, _, rfl, by decide, by decide, fun E nE => ?_⟩
      refine lc_range (lo := 0) (n := 8) (fun i H' => Same H2 H' ∧ ∃ vs, H' E = some (.lst ((vs : List Str).map V.str)) ∧ vs.length = i ∧ ∀ x ∈ vs, MW x) ⟨same_upd nE, [], upd_same, rfl, fun x hx => by cases hx⟩ (fun i H' hi hp => ?_) (fun H3 hp => ?_)
      · obtain ⟨sm, vs, hE, hlv, hv⟩ := hp
        refine ⟨rfl, yesT ?_⟩
        have hk : ∃ j : Nat, (0 + (i : Int)) % 3 = (j : Int) := ⟨((0 + (i : Int)) % 3).toNat, (Int.toNat_of_nonneg (Int.emod_nonneg _ (by decide))).symm⟩
        obtain ⟨j, hj⟩ := hk
        refine ⟨_, rfl, _, rfl, _, _, rfl, rfl, (by show (0 : Int) < 3; decide), a, ns, j, congrArg (fun t : Int => [V.ref a, V.int t]) hj, sm.seq hS2, _, rfl, _, _, rfl, rfl, .inl (by decide), _, _, rfl, rfl, _, _, rfl, rfl, _, rfl, fun H4 sm4 => ?_⟩
        refine ⟨_, sm4 _ _ hE, ?_, fun b o e => ?_, vs ++ [wordOf (cellOf ns j + 97 * (0 + (i : Int)) + 13)], ?_, ?_, ?_⟩
        · rw [List.length_map, hlv]
          exact Nat.lt_of_lt_of_le (show i < 1000 by omega) (by decide)
        · rw [upd_ne (ne_of_none e nE)]
          exact sm4 b o (sm b o e)
        · rw [upd_same, List.map_append]
          rfl
        · rw [List.length_append, hlv]
          rfl
        · intro x hx
          rcases List.mem_append.mp hx with hx | hx
          · exact hv x hx
          · rw [List.mem_singleton.mp hx]
            exact mw_of ⟨_, rfl⟩
      · obtain ⟨sm, vs, hE, hlv, hv⟩ := hp
        have hD3 := sm _ _ hD2
        refine ⟨D, E, _, _, rfl, rfl, hD3, hE, by rw [List.length_map, List.length_map, hl, hlv]; decide, fun p np => ?_⟩
        have s3 : Same H H3 := sm2.trans sm
        refine q _ p (ws ++ vs) (s3.trans (same_upd np)) (s3.free np) ?_ (by rw [List.length_append, hl, hlv]) fun x hx => ?_
        · rw [upd_same, List.map_append]
        · rcases List.mem_append.mp hx with hx | hx
          · exact hw x hx
          · exact hv x hx
    · refine ⟨_, rfl, D, _, _, rfl, rfl, hD2, by decide, by decide, by rw [List.length_map, hl]; decide, fun p np => ?_⟩
      refine q _ p (ws ++ (ws ++ (ws ++ []))) (sm2.trans (same_upd np)) (sm2.free np) ?_ (by simp [hl]) fun x hx => ?_
      · rw [upd_same, List.map_append, List.map_append, List.map_append]
        rfl
      · simp at hx
        exact hw x hx
end
/-! ### the words and the blocks of a telling -/
def blk (k : Str) (rs : List RowD) : List RowD := rs.filter fun r => decide (r.kind = k)
def prR (r : RowD) : Int × List Str := (r.num, r.ws)
def blkData (k : Str) (rs : List RowD) : List (Key × PyData) := (blk k rs).map fun r => (.inl r.num, .tuple (r.ws.map PyData.str))
/-- a telling that fits both its texts -/
structure Fit (rs : List RowD) : Prop where
  ok : ∀ r ∈ rs, RowOk r
  old : (wordsOf oldK rs).length ≤ 120
  new : (wordsOf newK rs).length ≤ 120
  len : rs.length ≤ 500
  nd : ((blk "take" rs).map (·.num)).Nodup
  perm : ((blk "take" rs).map prR).Perm ((blk "lay" rs).map prR)
theorem Fit.nd2 {rs : List RowD} (h : Fit rs) : ((blk "lay" rs).map (·.num)).Nodup := by
  have p := h.perm.map Prod.fst
  rw [List.map_map, List.map_map] at p
  exact p.nodup_iff.mp h.nd
def toD (p : Int × List Str) : Key × PyData := (.inl p.1, .tuple (p.2.map PyData.str))
theorem blkData_pr (k : Str) (rs : List RowD) : blkData k rs = ((blk k rs).map prR).map toD := by
  unfold blkData
  rw [List.map_map]
  rfl
theorem dataAt_mem {ld : List (Key × PyData)} (nd : (ld.map (·.1)).Nodup) {p : Key × PyData} (h : p ∈ ld) : Dm.dataAt ld p.1 = some p.2 := by
  induction ld with
  | nil => cases h
  | cons a r ih =>
    unfold Dm.dataAt
    rw [List.map_cons, List.nodup_cons] at nd
    by_cases e : a.1 = p.1
    · rcases List.mem_cons.mp h with h | h
      · subst h
        rw [List.find?_cons_of_pos (p := fun kv : Key × PyData => decide (kv.1 = p.1)) (decide_eq_true rfl)]
        rfl
      · exact absurd (List.mem_map.mpr ⟨p, h, e.symm⟩) nd.1
    · rw [List.find?_cons_of_neg (by simpa using e)]
      rcases List.mem_cons.mp h with h | h
      · exact absurd (congrArg Prod.fst h).symm e
      · exact ih nd.2 h
theorem hit_all {ld : List (Key × PyData)} : ∀ {kd : List (Key × PyData)}, (∀ p ∈ kd, Dm.dataAt ld p.1 = some p.2 ∧ p.2.canLay0 = true) → Dm.hitB ld kd = true
  | [], _ => rfl
  | p :: r, h => by
    obtain ⟨h1, h2⟩ := h p List.mem_cons_self
    unfold Dm.hitB
    rw [h1]
    show (p.2.eqv p.2 && Dm.hitB ld r) = true
    rw [SeqAt.eqv_refl _ h2, hit_all fun q hq => h q (List.mem_cons_of_mem _ hq)]
    rfl
theorem same_perm {l m : List (Int × List Str)} (p : l.Perm m) (nd : (m.map (·.1)).Nodup) (hw : ∀ q ∈ l, ∀ a ∈ q.2, wordB a = true) : Dm.sameB (l.map toD) (m.map toD) = true := by
  unfold Dm.sameB
  rw [hit_all fun q hq => ?_, List.length_map, List.length_map, p.length_eq]
  · simp
  · obtain ⟨z, hz, rfl⟩ := List.mem_map.mp hq
    refine ⟨dataAt_mem ?_ (List.mem_map.mpr ⟨z, p.mem_iff.mp hz, rfl⟩), lay_words (hw z hz)⟩
    rw [List.map_map, show ((fun x : Key × PyData => x.1) ∘ toD) = (fun n : Int => (.inl n : Key)) ∘ (fun x : Int × List Str => x.1) from rfl, ← List.map_map]
    exact List.pairwise_map.mpr (List.Pairwise.imp (fun h e => h (Sum.inl.inj e)) nd)
theorem Fit.same {rs : List RowD} (h : Fit rs) : Dm.sameB (blkData "take" rs) (blkData "lay" rs) = true := by
  rw [blkData_pr, blkData_pr]
  refine same_perm h.perm ?_ fun q hq => ?_
  · rw [List.map_map]
    exact h.nd2
  · obtain ⟨r, hr, rfl⟩ := List.mem_map.mp hq
    exact (h.ok r (List.mem_filter.mp hr).1).words
/-! the way back -/
theorem way_kinds : ∀ k ∈ plainK ++ blockK, (decide (wayB k ∈ oldK) = decide (k ∈ newK)) ∧ (decide (wayB k ∈ newK) = decide (k ∈ oldK)) ∧ (decide (wayB k = "take") = decide (k = "lay")) ∧ (decide (wayB k = "lay") = decide (k = "take")) := by decide +kernel
theorem wordsOf_turn {ks ls : List Str} (hk : ∀ k ∈ plainK ++ blockK, decide (wayB k ∈ ks) = decide (k ∈ ls)) : ∀ {rs : List RowD}, (∀ r ∈ rs, RowOk r) → wordsOf ks (rs.map turnR) = wordsOf ls rs
  | [], _ => rfl
  | r :: rs, h => by
    have ih := wordsOf_turn hk fun q hq => h q (List.mem_cons_of_mem _ hq)
    have e := hk _ (h r List.mem_cons_self).kind
    unfold wordsOf at ih ⊢
    rw [List.map_cons, List.filter_cons, List.filter_cons, show decide ((turnR r).kind ∈ ks) = decide (wayB r.kind ∈ ks) from rfl, e]
    cases decide (r.kind ∈ ls) with
    | true => 
      rw [if_pos rfl, if_pos rfl, List.flatMap_cons, List.flatMap_cons, ih]
      rfl
    | false => 
      rw [if_neg Bool.false_ne_true, if_neg Bool.false_ne_true]
      exact ih
theorem blk_turn {k l : Str} (hk : ∀ j ∈ plainK ++ blockK, decide (wayB j = k) = decide (j = l)) {rs : List RowD} (h : ∀ r ∈ rs, RowOk r) : (blk k (rs.map turnR)).map prR = (blk l rs).map prR := by
  induction rs with
  | nil => rfl
  | cons r rs ih =>
    have ih := ih fun q hq => h q (List.mem_cons_of_mem _ hq)
    have e := hk _ (h r List.mem_cons_self).kind
    unfold blk at ih ⊢
    rw [List.map_cons, List.filter_cons, List.filter_cons, show decide ((turnR r).kind = k) = decide (wayB r.kind = k) from rfl, e]
    cases decide (r.kind = l) with
    | true =>
      rw [if_pos rfl, if_pos rfl, List.map_cons, List.map_cons, ih]
      rfl
    | false =>
      rw [if_neg Bool.false_ne_true, if_neg Bool.false_ne_true]
      exact ih
theorem Fit.turn {rs : List RowD} (h : Fit rs) : Fit (rs.map turnR) ∧ wordsOf oldK (rs.map turnR) = wordsOf newK rs ∧ wordsOf newK (rs.map turnR) = wordsOf oldK rs := by
  have e1 := wordsOf_turn (ks := oldK) (ls := newK) (fun k hk => (way_kinds k hk).1) h.ok
  have e2 := wordsOf_turn (ks := newK) (ls := oldK) (fun k hk => (way_kinds k hk).2.1) h.ok
  have e3 := blk_turn (k := "take") (l := "lay") (fun k hk => (way_kinds k hk).2.2.1) h.ok
  have e4 := blk_turn (k := "lay") (l := "take") (fun k hk => (way_kinds k hk).2.2.2) h.ok
  refine ⟨⟨fun r hr => ?_, by rw [e1]; exact h.new, by rw [e2]; exact h.old, by rw [List.length_map]; exact h.len, ?_, by rw [e3, e4]; exact h.perm.symm⟩, e1, e2⟩
  · obtain ⟨r2, h1, rfl⟩ := List.mem_map.mp hr
    exact turnR_ok (h.ok _ h1)
  · have e5 := congrArg (List.map Prod.fst) e3
    rw [List.map_map, List.map_map] at e5
    have e5 : (blk "take" (rs.map turnR)).map (·.num) = (blk "lay" rs).map (·.num) := e5
    rw [e5]
    exact h.nd2
/-! ### words_of -/
section
variable {P : Program} {w : World} {K : PySem.W.Frag} {mg : Str → Option Value} {base : Heap}
theorem scWordsOf : FnScope ["rows", "kinds", "words", "kind", "_", "row_words"] ["rows", "kinds"] (defScope sWordsOf) := ⟨rfl, rfl, rfl, by decide +kernel, rfl, by decide +kernel, by decide +kernel⟩
theorem scBlocksOf : FnScope ["rows", "block_kind", "blocks", "kind", "number", "words"] ["rows", "block_kind"] (defScope sBlocksOf) := ⟨rfl, rfl, rfl, by decide +kernel, rfl, by decide +kernel, by decide +kernel⟩
theorem scCheckFit : FnScope ["rows", "old"] ["rows", "old"] (defScope sCheckFit) := ⟨rfl, rfl, rfl, by decide +kernel, rfl, by decide +kernel, by decide +kernel⟩
theorem scDone : FnScope ["rows", "old", "new"] ["rows", "old"] (defScope sDone) := ⟨rfl, rfl, rfl, by decide +kernel, rfl, by decide +kernel, by decide +kernel⟩
def spWordsOf (K : PySem.W.Frag) : Sp := fun vs H Q _ => ∃ (p q : Addr) (xs : List V) (rs : List RowD) (ks : List Str), vs = [.ref p, .ref q] ∧ SqL K H p xs ∧ RowsAt K H xs rs ∧ SqT K H q (ks.map V.str) ∧ (wordsOf ks rs).length ≤ 10000 ∧
  ∀ (H' : Hp) (D : Addr), Same H H' → H D = none → H' D = some (.lst ((wordsOf ks rs).map V.str)) → Q (.ref D) H'
theorem ok_words_of {f : Addr} {fd : FuncData} (F : FnP K "words_of" sWordsOf f fd) : FnOk P w K mg base (L2.CX P w) 1 f fd ["rows", "kinds"] (spWordsOf K) := by
  refine F.ok scWordsOf (fun vs H Q E h => ?_) (fun cdv A outer s H vs Q E hr h => ?_)
  · obtain ⟨p, q, xs, rs, ks, rfl, _⟩ := h
    rfl
  · obtain ⟨p, q, xs, rs, ks, rfl, hS, hR, hq, hl, k⟩ := h
    refine ⟨_, pss_cons (ps_set (i := 2) scWordsOf.nd rfl (.inl rfl) (pe_lst pa_nil))
      (pss_cons (ps_for (passes_of rfl) rfl (pi_list (pv 0)) (pg_tup rfl (pgs_cons (pg_name (i := 3) scWordsOf.nd rfl (.inl rfl)) (pgs_cons (pg_name (i := 4) scWordsOf.nd rfl (.inl rfl)) (pgs_cons (pg_name (i := 5) scWordsOf.nd rfl (.inl rfl)) pgs_nil))))
        (pss_one (ps_if (pt_cmpR op_in_seq (pv 3) (pv 1) (by rfl)) (pss_one (ps_expr (pe_bm PySem.F.plainAttrs_list PySem.F.slot_list_extend PySem.F.type_list_extend Dm.mt_extendT (pv 2) (pa_cons (pv 5) pa_nil)))) pss_nil)))
      (pss_one (ps_ret (pv 2)))), ?_⟩
    refine ⟨by show 0 ≤ sizeLine; decide, fun D nD => ?_⟩
    refine ⟨_, rfl, p, rfl, ⟨_, (same_upd nD).seq hS⟩, for_list (xs := xs) (fun i σ' H' => Same H H' ∧ ∃ y3 y4 y5, σ' = [some (.ref p), some (.ref q), some (.ref D), y3, y4, y5] ∧ H' D = some (.lst ((wordsOf ks (rs.take i)).map V.str))) ⟨same_upd nD, none, none, none, rfl, upd_same⟩ (fun i σ' H' _ hp => hp.1.seq hS) (fun i x σ' H' hx hp => ?_) (fun σ' H' hp => ?_)⟩
    · obtain ⟨sm, y3, y4, y5, rfl, hD⟩ := hp
      obtain ⟨r, hr1, hr2⟩ := hR.2 i x hx
      obtain ⟨T, W, rfl, hT, hW⟩ := hr2.same sm
      have e1 := take_snoc hr1
      have hle := wordsOf_take_le ks rs (i + 1)
      rw [e1, wordsOf_snoc] at hle
      refine ⟨T, _, rfl, hT, rfl, _, _, rfl, _, _, rfl, _, _, rfl, rfl, ?_⟩
      refine ⟨_, rfl, _, rfl, q, _, rfl, .inr (sameT sm hq), rfl, flat_strs _, _, rfl, ?_⟩
      show if inV (.str r.kind) (ks.map V.str) = true then _ else _
      rw [inV_strs]
      by_cases h : r.kind ∈ ks
      · rw [if_pos h, List.length_append] at hle
        rw [decide_eq_true h]
        refine iteT ⟨_, rfl, .inl ⟨rfl, _, .inl (.inl hD)⟩, _, rfl, D, W, _, _, rfl, rfl, hD, hW, ?_, fun b o e => ?_, some (.str r.kind), some (.int r.num), some (.ref W), rfl, ?_⟩
        · rw [List.length_map, List.length_map]
          exact Nat.le_trans (show _ ≤ 10000 by omega) (by decide)
        · rw [upd_ne (ne_of_none e nD)]
          exact sm b o e
        · rw [upd_same, e1, wordsOf_snoc, if_pos h, List.map_append]
      · rw [decide_eq_false h]
        refine iteF ⟨sm, some (.str r.kind), some (.int r.num), some (.ref W), rfl, ?_⟩
        rw [e1, wordsOf_snoc, if_neg h]
        exact hD
    · obtain ⟨sm, y3, y4, y5, rfl, hD⟩ := hp
      rw [List.take_of_length_le (by rw [hR.1]; exact Nat.le_refl _)] at hD
      exact ⟨_, rfl, k H' D sm nD hD⟩
end
/-! ### blocks_of, check_fit, done -/
section
variable {P : Program} {w : World} {K : PySem.W.Frag} {mg : Str → Option Value} {base : Heap}
def BlkV (K : PySem.W.Frag) (H : Hp) (kvs : List (Key × V)) (rs : List RowD) : Prop := Paired (fun p r => p.1 = Sum.inl r.num ∧ ∃ W, p.2 = V.ref W ∧ SqT K H W (r.ws.map V.str)) kvs rs
theorem BlkV.snoc {K : PySem.W.Frag} {H : Hp} {kvs : List (Key × V)} {rs : List RowD} (h : BlkV K H kvs rs) {r : RowD} {W : Addr} (hW : SqT K H W (r.ws.map V.str)) : BlkV K H (kvs ++ [(.inl r.num, .ref W)]) (rs ++ [r]) := by
  unfold BlkV at h ⊢
  induction h with
  | nil => exact .cons ⟨rfl, W, rfl, hW⟩ .nil
  | cons h t ih => exact .cons h ih
theorem BlkV.keys {K : PySem.W.Frag} {H : Hp} {kvs : List (Key × V)} {rs : List RowD} (h : BlkV K H kvs rs) {n : Int} (hn : n ∉ rs.map (·.num)) : ∀ p ∈ kvs, p.1 ≠ Sum.inl n := by
  unfold BlkV at h
  induction h with
  | nil => exact fun p hp => by cases hp
  | cons h t ih =>
    intro p hp
    rw [List.map_cons, List.mem_cons, not_or] at hn
    rcases List.mem_cons.mp hp with e | hp
    · subst e
      rw [h.1]
      exact fun z => hn.1 (Sum.inl.inj z).symm
    · exact ih hn.2 p hp
theorem BlkV.dp {K : PySem.W.Frag} {H H' : Hp} (s : Same H H') {kvs : List (Key × V)} {rs : List RowD} (h : BlkV K H kvs rs) (hok : ∀ r ∈ rs, RowOk r) : Dm.DpK K H' kvs (rs.map fun r => (.inl r.num, .tuple (r.ws.map PyData.str))) := by
  unfold BlkV at h
  unfold Dm.DpK
  induction h with
  | nil => exact .nil
  | cons h t ih =>
    obtain ⟨h1, W, h2, h3⟩ := h
    refine .cons ⟨h1, ?_, shaped_tup (hok _ List.mem_cons_self).words⟩ (ih fun r hr => hok r (List.mem_cons_of_mem _ hr))
    rw [h2]
    exact .tup (sameT s h3) (dpStrs H' K _)
theorem val_none {kvs : List (Key × V)} {k : Key} (h : ∀ p ∈ kvs, p.1 ≠ k) : valV kvs k = none := by
  unfold valV
  rw [List.find?_eq_none.mpr fun p hp => by simpa using h p hp]
  rfl
theorem put_new {kvs : List (Key × V)} {k : Key} {v : V} (h : ∀ p ∈ kvs, p.1 ≠ k) : putK kvs k v = kvs ++ [(k, v)] := by
  unfold putK
  rw [if_neg fun z => by
    obtain ⟨p, h1, h2⟩ := List.any_eq_true.mp z
    exact h p h1 (of_decide_eq_true h2)]
theorem blk_snoc (k : Str) (rs : List RowD) (r : RowD) : blk k (rs ++ [r]) = if r.kind = k then blk k rs ++ [r] else blk k rs := by
  unfold blk
  rw [List.filter_append]
  by_cases h : r.kind = k
  · rw [if_pos h, List.filter_cons_of_pos (p := fun r : RowD => decide (r.kind = k)) (decide_eq_true h)]
    rfl
  · rw [if_neg h, List.filter_cons_of_neg (by simpa using h)]
    exact List.append_nil _
theorem blk_fresh {k : Str} {rs : List RowD} {i : Nat} {r : RowD} (h : rs[i]? = some r) (hk : r.kind = k) (nd : ((blk k rs).map (·.num)).Nodup) : r.num ∉ (blk k (rs.take i)).map (·.num) := by
  have e : blk k rs = blk k (rs.take (i + 1)) ++ blk k (rs.drop (i + 1)) := by
    unfold blk
    rw [← List.filter_append, List.take_append_drop]
  rw [take_snoc h, blk_snoc, if_pos hk] at e
  rw [e, List.map_append, List.map_append] at nd
  have nd1 := (List.nodup_append.mp (List.nodup_append.mp nd).1).2.2
  exact fun z => nd1 _ z r.num List.mem_cons_self rfl
def spBlocksOf (K : PySem.W.Frag) : Sp := fun vs H Q _ => ∃ (p : Addr) (k : Str) (xs : List V) (rs : List RowD), vs = [.ref p, .str k] ∧ SqL K H p xs ∧ RowsAt K H xs rs ∧ (∀ r ∈ rs, RowOk r) ∧ rs.length ≤ 1000 ∧ ((blk k rs).map (·.num)).Nodup ∧
  ∀ (H' : Hp) (D : Addr) kvs, Same H H' → H D = none → H' D = some (.dK kvs) → (∀ H'', Same H H'' → Dm.DpK K H'' kvs (blkData k rs)) → Q (.ref D) H'
theorem ok_blocks_of {f : Addr} {fd : FuncData} (F : FnP K "blocks_of" sBlocksOf f fd) : FnOk P w K mg base (L2.CX P w) 1 f fd ["rows", "block_kind"] (spBlocksOf K) := by
  refine F.ok scBlocksOf (fun vs H Q E h => ?_) (fun cdv A outer s H vs Q E hr h => ?_)
  · obtain ⟨p, k, xs, rs, rfl, _⟩ := h
    rfl
  · obtain ⟨p, k, xs, rs, rfl, hS, hR, hok, hl, nd, q⟩ := h
    refine ⟨_, pss_cons (ps_set (i := 2) scBlocksOf.nd rfl (.inl rfl) pe_dnewK)
      (pss_cons (ps_for (passes_of rfl) rfl (pi_list (pv 0)) (pg_tup rfl (pgs_cons (pg_name (i := 3) scBlocksOf.nd rfl (.inl rfl)) (pgs_cons (pg_name (i := 4) scBlocksOf.nd rfl (.inl rfl)) (pgs_cons (pg_name (i := 5) scBlocksOf.nd rfl (.inl rfl)) pgs_nil))))
        (pss_one (ps_if (pt_cmpR op_eq (pv 3) (pv 1) (nomark _))
          (pss_cons (ps_if (pt_cmp (pc_din (hu_of hr) (pv 4) (pv 2))) pss_never pss_nil)
            (pss_one (ps_dput (hu_of hr) (pv 2) (pv 4) (pv 5) rfl))) pss_nil)))
      (pss_one (ps_ret (pv 2)))), ?_⟩
    refine fun D nD => ?_
    refine ⟨_, rfl, p, rfl, ⟨_, (same_upd nD).seq hS⟩, for_list (xs := xs) (fun i σ' H' => Same H H' ∧ ∃ kvs y3 y4 y5, σ' = [some (.ref p), some (.str k), some (.ref D), y3, y4, y5] ∧ H' D = some (.dK kvs) ∧ kvs.length ≤ i ∧ BlkV K H kvs (blk k (rs.take i))) ⟨same_upd nD, [], none, none, none, rfl, upd_same, Nat.le_refl _, .nil⟩ (fun i σ' H' _ hp => hp.1.seq hS) (fun i x σ' H' hx hp => ?_) (fun σ' H' hp => ?_)⟩
    · obtain ⟨sm, kvs, y3, y4, y5, rfl, hD, hkl, hb⟩ := hp
      have hi : i < rs.length := by
        rw [← hR.1]
        exact (List.getElem?_eq_some_iff.mp hx).1
      obtain ⟨r, hr1, hr2⟩ := hR.2 i x hx
      obtain ⟨T, W, rfl, hT, hW⟩ := hr2
      refine ⟨T, _, rfl, sameT sm hT, rfl, _, _, rfl, _, _, rfl, _, _, rfl, rfl, ?_⟩
      refine ⟨_, rfl, _, rfl, rfl, _, rfl, ite2 (fun e => ?_) (fun e => ?_)⟩
      · have hk : r.kind = k := V.str.inj (of_decide_eq_true e)
        have fr := hb.keys (blk_fresh hr1 hk nd)
        refine ⟨_, rfl, _, rfl, D, _, rfl, DGet.k (k := Sum.inl r.num) hD, _, rfl, ?_⟩
        rw [val_none fr]
        refine iteF ⟨_, rfl, _, rfl, _, rfl, D, _, rfl, DPut.k (k := Sum.inl r.num) hD (Nat.lt_of_le_of_lt hkl (Nat.lt_of_lt_of_le (show i < 1001 by omega) (by decide))), fun b o e => ?_, kvs ++ [(.inl r.num, .ref W)], some (.str r.kind), some (.int r.num), some (.ref W), rfl, ?_, ?_, ?_⟩
        · rw [upd_ne (ne_of_none e nD)]
          exact sm b o e
        · rw [upd_same, put_new fr]
        · rw [List.length_append]
          exact Nat.succ_le_succ hkl
        · rw [take_snoc hr1, blk_snoc, if_pos hk]
          exact hb.snoc hW
      · have hk : r.kind ≠ k := fun z => e (decide_eq_true (congrArg V.str z))
        refine ⟨sm, kvs, some (.str r.kind), some (.int r.num), some (.ref W), rfl, hD, by omega, ?_⟩
        rw [take_snoc hr1, blk_snoc, if_neg hk]
        exact hb
    · obtain ⟨sm, kvs, y3, y4, y5, rfl, hD, hkl, hb⟩ := hp
      rw [List.take_of_length_le (by rw [hR.1]; exact Nat.le_refl _)] at hb
      exact ⟨_, rfl, q H' D kvs sm nD hD fun H2 s2 => hb.dp s2 fun r hr => hok r (List.mem_filter.mp hr).1⟩
def spCheckFit (K : PySem.W.Frag) : Sp := fun vs H Q _ => ∃ (p q : Addr) (xs : List V) (rs : List RowD), vs = [.ref p, .ref q] ∧ SqL K H p xs ∧ RowsAt K H xs rs ∧ Fit rs ∧ SqL K H q ((wordsOf oldK rs).map V.str) ∧ ∀ H', Same H H' → Q .non H'
theorem ok_check_fit {aO f fW fB : Addr} {fd fdW fdB : FuncData} (F : FnP K "check_fit" sCheckFit f fd)
    (GW : FnOk P w K mg base (L2.CX P w) 1 fW fdW ["rows", "kinds"] (spWordsOf K)) (kW : PySem.W.keepIn K (.ref fW) = true) (bW : Binds K fdW ["rows", "kinds"] []) (gW : mg "words_of" = some (.ref fW))
    (GB : FnOk P w K mg base (L2.CX P w) 1 fB fdB ["rows", "block_kind"] (spBlocksOf K)) (kB : PySem.W.keepIn K (.ref fB) = true) (bB : Binds K fdB ["rows", "block_kind"] []) (gB : mg "blocks_of" = some (.ref fB))
    (mO : mg "OLD_KINDS" = some (.ref aO)) (kO : KTup K aO oldK) : FnOk P w K mg base (L2.CX P w) 2 f fd ["rows", "old"] (spCheckFit K) := by
  refine F.ok scCheckFit (fun vs H Q E h => ?_) (fun cdv A outer s H vs Q E hr h => ?_)
  · obtain ⟨p, q, xs, rs, rfl, _⟩ := h
    rfl
  · obtain ⟨p, q, xs, rs, rfl, hS, hR, ft, hq, k⟩ := h
    have hu : (A.deeper (envOfC "check_fit" (defScope sCheckFit) s.heap.objs.size f cdv)).units + 65 < cLine := by
      have := hr.un
      omega
    refine ⟨_, pss_cons (ps_if (pt_cmpR (op_neD hr.units) (pe_call GW hr (by rfl) gW kW bW .nil passL (pa_cons (pv 0) (pa_cons (pe_glob (v := .ref aO) (by rfl) mO rfl) pa_nil))) (pv 1) (nomark _)) pss_never pss_nil)
      (pss_one (ps_if (pt_cmpR (Dm.op_neDK hu) (pe_call GB hr (by rfl) gB kB bB .nil passL (pa_cons (pv 0) (pa_cons pe_str pa_nil))) (pe_call GB hr (by rfl) gB kB bB .nil passL (pa_cons (pv 0) (pa_cons pe_str pa_nil))) (by rfl)) pss_never pss_nil)), ?_⟩
    refine ⟨_, rfl, p, aO, xs, rs, oldK, rfl, hS, hR, kO H, Nat.le_trans ft.old (by decide), fun H1 D s1 nD hD => ⟨_, rfl, ?_⟩⟩
    have sh := shaped_words (ws := wordsOf oldK rs) fun a ha => strOk_word (wordsOf_ok ft.ok a ha)
    refine ⟨_, _, .lst (.inl (.inl hD)) (dpStrs H1 K _), .lst (s1.seq hq) (dpStrs H1 K _), sh, sh, _, rfl, ?_⟩
    rw [SeqAt.eqv_refl _ (SeqAt.canLay_of_shaped sh)]
    refine iteF ⟨_, rfl, p, "take", xs, rs, rfl, s1.seq hS, hR.same s1, ft.ok, Nat.le_trans ft.len (by decide), ft.nd, fun H2 D2 k2 s2 nD2 hD2 dp2 => ?_⟩
    refine ⟨_, rfl, p, "lay", xs, rs, rfl, (s1.trans s2).seq hS, hR.same (s1.trans s2), ft.ok, Nat.le_trans ft.len (by decide), ft.nd2, fun H3 D3 k3 s3 nD3 hD3 dp3 => ?_⟩
    refine ⟨D2, D3, k2, k3, _, _, rfl, rfl, s3 _ _ hD2, hD3, dp2 H3 (s2.trans s3), dp3 H3 s3, _, rfl, ?_⟩
    rw [ft.same]
    exact iteF (k H3 ((s1.trans s2).trans s3))
end
/-! ### tellings, good or not -/
theorem RowsV.of_rows {K : PySem.W.Frag} {H : Hp} {p : Addr} {xs : List V} {rs : List RowD} (hS : SqL K H p xs) (hR : RowsAt K H xs rs) (ok : ∀ r ∈ rs, RowOk r) (hl : xs.length ≤ 1000) : RowsV K H (.ref p) (some (List.replicate xs.length true)) :=
  ⟨p, xs, rfl, hS, by rw [List.length_replicate], hl, fun i x hx => by
    have hi := (List.getElem?_eq_some_iff.mp hx).1
    obtain ⟨r, h1, h2⟩ := hR.2 i x hx
    exact ⟨true, by rw [List.getElem?_replicate, if_pos hi], RV.of_row h2 (ok r (List.mem_of_getElem? h1))⟩⟩
theorem all_true (n : Nat) : (List.replicate n true).all id = true := by simp
theorem BlkV.has {K : PySem.W.Frag} {H : Hp} {kvs : List (Key × V)} {rs : List RowD} (h : BlkV K H kvs rs) {n : Int} (hn : n ∈ rs.map (·.num)) : (valV kvs (Sum.inl n)).isSome = true := by
  unfold BlkV at h
  induction h with
  | nil => cases hn
  | cons h t ih =>
    rename_i p r l1 l2
    unfold valV
    by_cases e : r.num = n
    · rw [List.find?_cons_of_pos (p := fun kv : Key × V => decide (kv.1 = Sum.inl n)) (decide_eq_true (by rw [h.1, e]))]
      rfl
    · rw [List.find?_cons_of_neg (by
        have : ¬ p.1 = Sum.inl n := fun z => e (Sum.inl.inj (h.1.symm.trans z))
        simpa using this)]
      rw [List.map_cons, List.mem_cons] at hn
      exact ih (hn.resolve_left fun z => e z.symm)
section
variable {P : Program} {w : World} {K : PySem.W.Frag} {mg : Str → Option Value} {base : Heap}
/-- the blocks of a kind, each number once -/
def ndB (k : Str) (rs : List RowD) : Prop := ((blk k rs).map (·.num)).Nodup
def spBlocksOfX (K : PySem.W.Frag) (cF : Addr) : Sp := fun vs H Q E => ∃ (p : Addr) (k : Str) (xs : List V) (rs : List RowD), vs = [.ref p, .str k] ∧ k.length ≤ 1000 ∧ SqL K H p xs ∧ RowsAt K H xs rs ∧ (∀ r ∈ rs, RowOk r) ∧ k ∈ blockK ∧ rs.length ≤ 1000 ∧
  (ndB k rs → ∀ (H' : Hp) (D : Addr) kvs, Same H H' → H D = none → H' D = some (.dK kvs) → (∀ H'', Same H H'' → Dm.DpK K H'' kvs (blkData k rs)) → Q (.ref D) H') ∧ (¬ ndB k rs → ∀ H', Same H H' → E (.ref cF) none H')
theorem ok_blocks_ofX {cF f : Addr} {fd : FuncData} (F : FnP K "blocks_of" sBlocksOf f fd) (X : ExcC K mg "NoFit" cF) : FnOk P w K mg base (L2.CX P w) 1 f fd ["rows", "block_kind"] (spBlocksOfX K cF) := by
  refine F.ok scBlocksOf (fun vs H Q E h => ?_) (fun cdv A outer s H vs Q E hr h => ?_)
  · obtain ⟨p, k, xs, rs, rfl, _⟩ := h
    rfl
  · obtain ⟨p, k, xs, rs, rfl, hkl2, hS, hR, hok, hkb, hl, q, e⟩ := h
    refine ⟨_, pss_cons (ps_set (i := 2) scBlocksOf.nd rfl (.inl rfl) pe_dnewK)
      (pss_cons (ps_for (passes_of rfl) rfl (pi_list (pv 0)) (pg_tup rfl (pgs_cons (pg_name (i := 3) scBlocksOf.nd rfl (.inl rfl)) (pgs_cons (pg_name (i := 4) scBlocksOf.nd rfl (.inl rfl)) (pgs_cons (pg_name (i := 5) scBlocksOf.nd rfl (.inl rfl)) pgs_nil))))
        (pss_one (ps_if (pt_cmpR op_eq (pv 3) (pv 1) (nomark _))
          (pss_cons (ps_if (pt_cmp (pc_din (hu_of hr) (pv 4) (pv 2)))
              (pss_one (ps_raise rfl (takes_of rfl rfl rfl rfl) (SkE.pmk_own1 PySem.F.excBase_ValueError X.ex X.g X.kp (raises_own X.be X.ty) (by rfl) (pe_joined (.cons pe_str (.cons (pe_fmt (pv 4)) (.cons pe_str (.cons (pe_fmt (pv 1)) .nil)))))))) pss_nil)
            (pss_one (ps_dput (hu_of hr) (pv 2) (pv 4) (pv 5) rfl))) pss_nil)))
      (pss_one (ps_ret (pv 2)))), ?_⟩
    refine fun D nD => ?_
    refine ⟨_, rfl, p, rfl, ⟨_, (same_upd nD).seq hS⟩, for_list (xs := xs) (fun i σ' H' => Same H H' ∧ ndB k (rs.take i) ∧ ∃ kvs y3 y4 y5, σ' = [some (.ref p), some (.str k), some (.ref D), y3, y4, y5] ∧ H' D = some (.dK kvs) ∧ kvs.length ≤ i ∧ BlkV K H kvs (blk k (rs.take i))) ⟨same_upd nD, List.nodup_nil, [], none, none, none, rfl, upd_same, Nat.le_refl _, .nil⟩ (fun i σ' H' _ hp => hp.1.seq hS) (fun i x σ' H' hx hp => ?_) (fun σ' H' hp => ?_)⟩
    · obtain ⟨sm, hnd, kvs, y3, y4, y5, rfl, hD, hkl, hb⟩ := hp
      have hi : i < rs.length := by
        rw [← hR.1]
        exact (List.getElem?_eq_some_iff.mp hx).1
      obtain ⟨r, hr1, hr2⟩ := hR.2 i x hx
      obtain ⟨T, W, rfl, hT, hW⟩ := hr2
      refine ⟨T, _, rfl, sameT sm hT, rfl, _, _, rfl, _, _, rfl, _, _, rfl, rfl, ?_⟩
      refine ⟨_, rfl, _, rfl, rfl, _, rfl, ite2 (fun e1 => ?_) (fun e1 => ?_)⟩
      · have hk : r.kind = k := V.str.inj (of_decide_eq_true e1)
        refine ⟨_, rfl, _, rfl, D, _, rfl, DGet.k (k := Sum.inl r.num) hD, _, rfl, ?_⟩
        by_cases hm : r.num ∈ (blk k (rs.take i)).map (·.num)
        · rw [hb.has hm]
          have okr := hok r (List.mem_of_getElem? hr1)
          have bnd : 1 ≤ r.num ∧ r.num ≤ 999999999 := by
            have h1 := okr.num
            unfold numB at h1
            rw [inV_strs, decide_eq_true (by rw [hk]; exact hkb), if_pos rfl, Bool.and_eq_true] at h1
            exact ⟨of_decide_eq_true h1.1, of_decide_eq_true h1.2⟩
          have hlog : r.num.natAbs.log2 < 1920 := log_small (by omega)
          have hnl := int_text_len_1921 hlog
          refine iteT ⟨_, rfl, small_line (by decide +kernel), _, rfl, .inr ⟨_, rfl, hlog, _, rfl, small_line ?_, _, rfl, small_line ?_, _, rfl, .inl ⟨_, rfl, small_line (by omega), _, rfl, small_line ?_, e (fun nd => ?_) H' sm⟩⟩⟩
          · rw [Str.length_append, show (Str.empty ++ ("block " : Str)).length = 6 by decide +kernel]
            omega
          · rw [Str.length_append, Str.length_append, show (Str.empty ++ ("block " : Str)).length = 6 by decide +kernel, show (" has more than one " : Str).length = 19 by decide +kernel]
            omega
          · rw [Str.length_append, Str.length_append, Str.length_append, show (Str.empty ++ ("block " : Str)).length = 6 by decide +kernel, show (" has more than one " : Str).length = 19 by decide +kernel]
            omega
          · exact blk_fresh hr1 hk nd hm
        · have fr := hb.keys hm
          rw [val_none fr]
          refine iteF ⟨_, rfl, _, rfl, _, rfl, D, _, rfl, DPut.k (k := Sum.inl r.num) hD (Nat.lt_of_le_of_lt hkl (Nat.lt_of_lt_of_le (show i < 1001 by omega) (by decide))), fun b o e => ?_, ?_, kvs ++ [(.inl r.num, .ref W)], some (.str r.kind), some (.int r.num), some (.ref W), rfl, ?_, ?_, ?_⟩
          · rw [upd_ne (ne_of_none e nD)]
            exact sm b o e
          · unfold ndB at hnd ⊢
            rw [take_snoc hr1, blk_snoc, if_pos hk, List.map_append]
            exact List.nodup_append.mpr ⟨hnd, by simp, fun a ha b hb' => by
              rw [List.mem_singleton.mp hb']
              exact fun z => hm (by rw [← show a = r.num from z]; exact ha)⟩
          · rw [upd_same, put_new fr]
          · rw [List.length_append]
            exact Nat.succ_le_succ hkl
          · rw [take_snoc hr1, blk_snoc, if_pos hk]
            exact hb.snoc hW
      · have hk : r.kind ≠ k := fun z => e1 (decide_eq_true (congrArg V.str z))
        refine ⟨sm, ?_, kvs, some (.str r.kind), some (.int r.num), some (.ref W), rfl, hD, by omega, ?_⟩
        · unfold ndB at hnd ⊢
          rw [take_snoc hr1, blk_snoc, if_neg hk]
          exact hnd
        · rw [take_snoc hr1, blk_snoc, if_neg hk]
          exact hb
    · obtain ⟨sm, hnd, kvs, y3, y4, y5, rfl, hD, hkl, hb⟩ := hp
      rw [List.take_of_length_le (by rw [hR.1]; exact Nat.le_refl _)] at hb hnd
      exact ⟨_, rfl, q hnd H' D kvs sm nD hD fun H2 s2 => hb.dp s2 fun r hr => hok r (List.mem_filter.mp hr).1⟩
/-- the telling fits the old text -/
def FitO (rs : List RowD) (old : List Str) : Prop := wordsOf oldK rs = old ∧ ndB "take" rs ∧ ndB "lay" rs ∧ Dm.sameB (blkData "take" rs) (blkData "lay" rs) = true
def spCheckFitX (K : PySem.W.Frag) (cF : Addr) : Sp := fun vs H Q E => ∃ (p q : Addr) (xs : List V) (rs : List RowD) (old : List Str), vs = [.ref p, .ref q] ∧ SqL K H p xs ∧ RowsAt K H xs rs ∧ (∀ r ∈ rs, RowOk r) ∧ rs.length ≤ 1000 ∧ (wordsOf oldK rs).length ≤ 10000 ∧ SqL K H q (old.map V.str) ∧ (∀ a ∈ old, wordB a = true) ∧
  (FitO rs old → ∀ H', Same H H' → Q .non H') ∧ (¬ FitO rs old → ∀ H', Same H H' → E (.ref cF) none H')
theorem eqv_strs {l m : List Str} : PyData.eqv (.list (l.map PyData.str)) (.list (m.map PyData.str)) = decide (l = m) := by
  have key : ∀ (l m : List Str), PyData.eqvAll (l.map PyData.str) (m.map PyData.str) = decide (l = m) := by
    intro l
    induction l with
    | nil =>
      intro m
      cases m <;> rfl
    | cons a r ih =>
      intro m
      cases m with
      | nil => rfl
      | cons b t =>
        show (decide (a = b) && PyData.eqvAll (r.map PyData.str) (t.map PyData.str)) = _
        rw [ih]
        by_cases h1 : a = b
        · by_cases h2 : r = t
          · rw [decide_eq_true h1, decide_eq_true h2, decide_eq_true (by rw [h1, h2])]
            rfl
          · rw [decide_eq_false h2, Bool.and_false, decide_eq_false (fun z => h2 (List.cons.inj z).2)]
        · rw [decide_eq_false h1, decide_eq_false (fun z => h1 (List.cons.inj z).1)]
          rfl
  exact key l m
theorem ok_check_fitX {aO cF f fW fB : Addr} {fd fdW fdB : FuncData} (F : FnP K "check_fit" sCheckFit f fd) (X : ExcC K mg "NoFit" cF)
    (GW : FnOk P w K mg base (L2.CX P w) 1 fW fdW ["rows", "kinds"] (spWordsOf K)) (kW : PySem.W.keepIn K (.ref fW) = true) (bW : Binds K fdW ["rows", "kinds"] []) (gW : mg "words_of" = some (.ref fW))
    (GB : FnOk P w K mg base (L2.CX P w) 1 fB fdB ["rows", "block_kind"] (spBlocksOfX K cF)) (kB : PySem.W.keepIn K (.ref fB) = true) (bB : Binds K fdB ["rows", "block_kind"] []) (gB : mg "blocks_of" = some (.ref fB))
    (mO : mg "OLD_KINDS" = some (.ref aO)) (kO : KTup K aO oldK) : FnOk P w K mg base (L2.CX P w) 2 f fd ["rows", "old"] (spCheckFitX K cF) := by
  refine F.ok scCheckFit (fun vs H Q E h => ?_) (fun cdv A outer s H vs Q E hr h => ?_)
  · obtain ⟨p, q, xs, rs, old, rfl, _⟩ := h
    rfl
  · obtain ⟨p, q, xs, rs, old, rfl, hS, hR, hok, hlen, hwl, hq, how, k, e⟩ := h
    have hu : (A.deeper (envOfC "check_fit" (defScope sCheckFit) s.heap.objs.size f cdv)).units + 65 < cLine := by
      have := hr.un
      omega
    refine ⟨_, pss_cons (ps_if (pt_cmpR (op_neD hr.units) (pe_call GW hr (by rfl) gW kW bW .nil passL (pa_cons (pv 0) (pa_cons (pe_glob (v := .ref aO) (by rfl) mO rfl) pa_nil))) (pv 1) (nomark _))
        (pss_one (ps_raise rfl (takes_of rfl rfl rfl rfl) (pmk_own PySem.F.excBase_ValueError X.ex X.g X.kp (raises_own X.be X.ty) (by rfl)))) pss_nil)
      (pss_one (ps_if (pt_cmpR (Dm.op_neDK hu) (pe_callS GB hr (by rfl) gB kB bB (fun σ => passAt (takes_of rfl rfl rfl rfl) σ) (pa_cons (pv 0) (pa_cons pe_str pa_nil))) (pe_callS GB hr (by rfl) gB kB bB (fun σ => passAt (takes_of rfl rfl rfl rfl) σ) (pa_cons (pv 0) (pa_cons pe_str pa_nil))) (by rfl))
        (pss_one (ps_raise rfl (takes_of rfl rfl rfl rfl) (pmk_own PySem.F.excBase_ValueError X.ex X.g X.kp (raises_own X.be X.ty) (by rfl)))) pss_nil)), ?_⟩
    refine ⟨_, rfl, p, aO, xs, rs, oldK, rfl, hS, hR, kO H, hwl, fun H1 D s1 nD hD => ⟨_, rfl, ?_⟩⟩
    have sh := shaped_words (ws := wordsOf oldK rs) fun a ha => strOk_word (wordsOf_ok hok a ha)
    have sh2 := shaped_words (ws := old) fun a ha => strOk_word (how a ha)
    refine ⟨_, _, .lst (.inl (.inl hD)) (dpStrs H1 K _), .lst (s1.seq hq) (dpStrs H1 K _), sh, sh2, _, rfl, ?_⟩
    rw [eqv_strs]
    by_cases h1 : wordsOf oldK rs = old
    · rw [decide_eq_true h1]
      have kt : ("take" : Str) ∈ blockK := by decide +kernel
      have kl : ("lay" : Str) ∈ blockK := by decide +kernel
      refine iteF ⟨_, rfl, p, "take", xs, rs, rfl, by decide +kernel, s1.seq hS, hR.same s1, hok, kt, hlen, fun n1 H2 D2 k2 s2 nD2 hD2 dp2 => ?_, fun n1 H2 s2 => e (fun z => n1 z.2.1) H2 (s1.trans s2)⟩
      refine ⟨_, rfl, p, "lay", xs, rs, rfl, by decide +kernel, (s1.trans s2).seq hS, hR.same (s1.trans s2), hok, kl, hlen, fun n2 H3 D3 k3 s3 nD3 hD3 dp3 => ?_, fun n2 H3 s3 => e (fun z => n2 z.2.2.1) H3 ((s1.trans s2).trans s3)⟩
      refine ⟨D2, D3, k2, k3, _, _, rfl, rfl, s3 _ _ hD2, hD3, dp2 H3 (s2.trans s3), dp3 H3 s3, _, rfl, ?_⟩
      cases h4 : Dm.sameB (blkData "take" rs) (blkData "lay" rs) with
      | true => exact iteF (k ⟨h1, n1, n2, h4⟩ H3 ((s1.trans s2).trans s3))
      | false => exact iteT (e (fun z => by rw [z.2.2.2] at h4; cases h4) H3 ((s1.trans s2).trans s3))
    · rw [decide_eq_false h1]
      exact iteT (e (fun z => h1 z.1) H1 s1)
end
/-! ### done, cost, turned: good or not -/
section
variable {P : Program} {w : World} {K : PySem.W.Frag} {mg : Str → Option Value} {base : Heap}
theorem TextV.of_words {H : Hp} {q : Addr} {old : List Str} (hq : SqL K H q (old.map V.str)) (how : ∀ a ∈ old, wordB a = true) (hl : old.length ≤ 1000) : TextV K H (.ref q) (some (old.map V.str)) :=
  ⟨q, rfl, hq, fun x hx => by
    obtain ⟨a, ha, rfl⟩ := List.mem_map.mp hx
    have := wordB_len (how a ha)
    exact .inl ⟨a, rfl, by omega⟩, by rw [List.length_map]; exact hl⟩
def spDoneX (K : PySem.W.Frag) (Ps : List Addr) (cR cW cF cL : Addr) : Sp := fun vs H Q E => ∃ v u, vs = [v, u] ∧ Tb Ps H ∧
  ((∃ o, RowsV K H v o ∧ rowsB o = false ∧ ∀ H', Kp Ps H H' → E (.ref cR) none H') ∨
   (∃ p xs rs, v = .ref p ∧ SqL K H p xs ∧ RowsAt K H xs rs ∧ (∀ r ∈ rs, RowOk r) ∧ xs.length ≤ 1000 ∧ (wordsOf oldK rs).length ≤ 10000 ∧ (wordsOf newK rs).length ≤ 1000 ∧
     ((∃ o, TextV K H u o ∧ ((wordsB o = false ∧ ∀ H', Kp Ps H H' → E (.ref cW) none H') ∨ (wordsB o = true ∧ shortB o = false ∧ ∀ H', Kp Ps H H' → E (.ref cL) none H'))) ∨
      (∃ q old, u = .ref q ∧ SqL K H q (old.map V.str) ∧ (∀ a ∈ old, wordB a = true) ∧ old.length ≤ 120 ∧ (¬ FitO rs old → ∀ H', Kp Ps H H' → E (.ref cF) none H') ∧ (FitO rs old → ¬ (wordsOf newK rs).length ≤ 120 → ∀ H', Kp Ps H H' → E (.ref cL) none H') ∧
        (FitO rs old → (wordsOf newK rs).length ≤ 120 → ∀ (H' : Hp) (D : Addr), Kp Ps H H' → H D = none → H' D = some (.lst ((wordsOf newK rs).map V.str)) → Q (.ref D) H')))))
theorem ok_doneX {Ps : List Addr} {aN cR cW cF cL f fR fT fF fW fL : Addr} {fd fdR fdT fdF fdW fdL : FuncData} (F : FnP K "done" sDone f fd)
    (GR : FnOk P w K mg base (L2.CX P w) 7 fR fdR ["rows"] (spCheckRowsX K Ps cR)) (kR : PySem.W.keepIn K (.ref fR) = true) (bR : Binds K fdR ["rows"] []) (gR : mg "check_rows" = some (.ref fR))
    (GT : FnOk P w K mg base (L2.CX P w) 5 fT fdT ["words"] (spCheckTextX K Ps cW cL)) (kT : PySem.W.keepIn K (.ref fT) = true) (bT : Binds K fdT ["words"] []) (gT : mg "check_text" = some (.ref fT))
    (GF : FnOk P w K mg base (L2.CX P w) 2 fF fdF ["rows", "old"] (spCheckFitX K cF)) (kF : PySem.W.keepIn K (.ref fF) = true) (bF : Binds K fdF ["rows", "old"] []) (gF : mg "check_fit" = some (.ref fF))
    (GW : FnOk P w K mg base (L2.CX P w) 1 fW fdW ["rows", "kinds"] (spWordsOf K)) (kW : PySem.W.keepIn K (.ref fW) = true) (bW : Binds K fdW ["rows", "kinds"] []) (gW : mg "words_of" = some (.ref fW))
    (GL : FnOk P w K mg base (L2.CX P w) 1 fL fdL ["words"] (spCheckLengthX K cL)) (kL : PySem.W.keepIn K (.ref fL) = true) (bL : Binds K fdL ["words"] []) (gL : mg "check_length" = some (.ref fL))
    (mN : mg "NEW_KINDS" = some (.ref aN)) (kN : KTup K aN newK) : FnOk P w K mg base (L2.CX P w) 8 f fd ["rows", "old"] (spDoneX K Ps cR cW cF cL) := by
  have scDone : FnScope ["rows", "old", "new"] ["rows", "old"] (defScope sDone) := ⟨rfl, rfl, rfl, by decide +kernel, rfl, by decide +kernel, by decide +kernel⟩
  refine F.ok scDone (fun vs H Q E h => ?_) (fun cdv A outer s H vs Q E hr h => ?_)
  · obtain ⟨v, u, rfl, _⟩ := h
    rfl
  · obtain ⟨v, u, rfl, ht, h⟩ := h
    refine ⟨_, pss_cons (ps_expr (pe_callS GR hr (by rfl) gR kR bR (fun σ => passAt (takes_of rfl rfl rfl rfl) σ) (pa_cons (pv 0) pa_nil)))
      (pss_cons (ps_expr (pe_callS GT (hr.mono (by decide)) (by rfl) gT kT bT (fun σ => passAt (takes_of rfl rfl rfl rfl) σ) (pa_cons (pv 1) pa_nil)))
      (pss_cons (ps_expr (pe_callS GF (hr.mono (by decide)) (by rfl) gF kF bF (fun σ => passAt (takes_of rfl rfl rfl rfl) σ) (pa_cons (pv 0) (pa_cons (pv 1) pa_nil))))
      (pss_cons (ps_set (i := 2) scDone.nd rfl (.inl rfl) (pe_call GW (hr.mono (by decide)) (by rfl) gW kW bW .nil passL (pa_cons (pv 0) (pa_cons (pe_glob (v := .ref aN) (by rfl) mN rfl) pa_nil))))
      (pss_cons (ps_expr (pe_callS GL (hr.mono (by decide)) (by rfl) gL kL bL (fun σ => passAt (takes_of rfl rfl rfl rfl) σ) (pa_cons (pv 2) pa_nil)))
      (pss_one (ps_ret (pv 2))))))), ?_⟩
    rcases h with ⟨o, h1, h2, e⟩ | ⟨p, xs, rs, rfl, hS, hR, hok, hl, hwo, hwn, h⟩
    · exact ⟨_, rfl, v, o, rfl, h1, ht, (fun z => absurd (h2.symm.trans z) Bool.false_ne_true), fun _ H1 k1 => e H1 k1⟩
    · refine ⟨_, rfl, .ref p, _, rfl, RowsV.of_rows hS hR hok hl, ht, fun _ H1 k1 => ?_, (fun z => absurd ((show rowsB (some (List.replicate xs.length true)) = true from all_true _).symm.trans z) (fun y => by cases y))⟩
      rcases h with ⟨o, h1, h2⟩ | ⟨q, old, rfl, hq, how, hol, e1, e2, k⟩
      · refine ⟨_, rfl, u, o, rfl, h1.kp ht k1, k1.1, fun z1 z2 => ?_, fun z H2 k2 => ?_, fun z1 z2 H2 k2 => ?_⟩
        · rcases h2 with ⟨h3, _⟩ | ⟨_, h3, _⟩
          · rw [z1] at h3
            cases h3
          · rw [z2] at h3
            cases h3
        · rcases h2 with ⟨_, e⟩ | ⟨h3, _⟩
          · exact e H2 (k1.trans k2)
          · rw [z] at h3
            cases h3
        · rcases h2 with ⟨h3, _⟩ | ⟨_, _, e⟩
          · rw [z1] at h3
            cases h3
          · exact e H2 (k1.trans k2)
      · have w1 : wordsB (some (old.map V.str)) = true := by
          show (old.map V.str).all isW = true
          rw [all_isW]
          exact List.all_eq_true.mpr how
        have w2 : shortB (some (old.map V.str)) = true := by
          show decide ((old.map V.str).length ≤ 120) = true
          rw [List.length_map]
          exact decide_eq_true hol
        refine ⟨_, rfl, .ref q, _, rfl, TextV.of_words (k1.seq ht hq) how (by omega), k1.1, fun _ _ H2 k2 => ?_, (fun z => absurd (w1.symm.trans z) (fun y => by cases y)), (fun _ z => absurd (w2.symm.trans z) (fun y => by cases y))⟩
        have k12 := k1.trans k2
        refine ⟨_, rfl, _, rfl, p, q, xs, rs, old, rfl, k12.seq ht hS, hR.kp ht k12, hok, by rw [← hR.1]; exact hl, hwo, k12.seq ht hq, how, fun hf H3 s3 => ?_, fun hf H3 s3 => e1 hf H3 (k12.trans (Kp.same k12.1 s3))⟩
        have k3 := k12.trans (Kp.same k12.1 s3)
        refine ⟨_, rfl, p, aN, xs, rs, newK, rfl, k3.seq ht hS, hR.kp ht k3, kN H3, by omega, fun H4 D s4 nD hD => ?_⟩
        have k4 := k3.trans (Kp.same k3.1 s4)
        exact ⟨_, rfl, D, _, rfl, .inl (.inl hD), by rw [List.length_map]; omega, fun h5 => ⟨_, rfl, k hf (by rw [List.length_map] at h5; exact h5) H4 D k4 (k3.free ht nD) hD⟩, fun h5 => e2 hf (by rw [List.length_map] at h5; exact h5) H4 k4⟩
def spCostX (K : PySem.W.Frag) (Ps : List Addr) (cR : Addr) : Sp := fun vs H Q E => ∃ v o, vs = [v] ∧ RowsV K H v o ∧ rowsB o = false ∧ Tb Ps H ∧ ∀ H', Kp Ps H H' → E (.ref cR) none H'
theorem ok_costX {Ps : List Addr} {cR f fC : Addr} {fd fdC : FuncData} (F : FnP K "cost" sCost f fd) (GC : FnOk P w K mg base (L2.CX P w) 7 fC fdC ["rows"] (spCheckRowsX K Ps cR)) (kC : PySem.W.keepIn K (.ref fC) = true) (bC : Binds K fdC ["rows"] []) (gC : mg "check_rows" = some (.ref fC)) :
    FnOk P w K mg base (L2.CX P w) 8 f fd ["rows"] (spCostX K Ps cR) := by
  have scCost : FnScope ["rows", "total", "kind", "_", "words"] ["rows"] (defScope sCost) := ⟨rfl, rfl, rfl, by decide +kernel, rfl, by decide +kernel, by decide +kernel⟩
  refine F.ok scCost (fun vs H Q E h => ?_) (fun cdv A outer s H vs Q E hr h => ?_)
  · obtain ⟨v, o, rfl, _⟩ := h
    rfl
  · obtain ⟨v, o, rfl, h1, h2, ht, e⟩ := h
    exact ⟨_, pss_cons (ps_expr (pe_callS GC hr (by rfl) gC kC bC (fun σ => passAt (takes_of rfl rfl rfl rfl) σ) (pa_cons (pv 0) pa_nil))) pss_never, ⟨_, rfl, v, o, rfl, h1, ht, (fun z => absurd (h2.symm.trans z) Bool.false_ne_true), fun _ H1 k1 => e H1 k1⟩⟩
theorem ok_turnedX {Ps : List Addr} {cR f fC : Addr} {fd fdC : FuncData} (F : FnP K "turned" sTurned f fd) (GC : FnOk P w K mg base (L2.CX P w) 7 fC fdC ["rows"] (spCheckRowsX K Ps cR)) (kC : PySem.W.keepIn K (.ref fC) = true) (bC : Binds K fdC ["rows"] []) (gC : mg "check_rows" = some (.ref fC)) :
    FnOk P w K mg base (L2.CX P w) 8 f fd ["rows"] (spCostX K Ps cR) := by
  refine F.ok scTurned (fun vs H Q E h => ?_) (fun cdv A outer s H vs Q E hr h => ?_)
  · obtain ⟨v, o, rfl, _⟩ := h
    rfl
  · obtain ⟨v, o, rfl, h1, h2, ht, e⟩ := h
    exact ⟨_, pss_cons (ps_expr (pe_callS GC hr (by rfl) gC kC bC (fun σ => passAt (takes_of rfl rfl rfl rfl) σ) (pa_cons (pv 0) pa_nil))) pss_never, ⟨_, rfl, v, o, rfl, h1, ht, (fun z => absurd (h2.symm.trans z) Bool.false_ne_true), fun _ H1 k1 => e H1 k1⟩⟩
end
/-! ### tellings that are built, plainly -/
structure GL (m n : Nat) (l : List RowD) : Prop where
  ok : ∀ r ∈ l, RowOk r
  num : ∀ r ∈ l, r.kind = "take" ∨ r.kind = "lay" → ∃ j : Nat, j < m ∧ (r.num = 1 + 3 * (j : Int) ∨ r.num = 999999999 - (j : Int))
  nd : ((blk "take" l).map (·.num)).Nodup
  perm : ((blk "take" l).map prR).Perm ((blk "lay" l).map prR)
  old : (wordsOf oldK l).length ≤ 3 * n
  new : (wordsOf newK l).length ≤ 3 * n
theorem blk_perm {k : Str} {l l' : List RowD} (p : l.Perm l') : (blk k l).Perm (blk k l') := p.filter _
theorem wordsOf_perm {ks : List Str} {l l' : List RowD} (p : l.Perm l') : (wordsOf ks l).length = (wordsOf ks l').length := by
  have h := (p.filter fun r => decide (r.kind ∈ ks)).flatMap_right (fun r : RowD => r.ws)
  exact h.length_eq
theorem GL.of_perm {m n : Nat} {l l' : List RowD} (h : GL m n l) (p : l.Perm l') : GL m n l' := by
  refine ⟨fun r hr => h.ok r (p.mem_iff.mpr hr), fun r hr => h.num r (p.mem_iff.mpr hr), ?_, ?_, by rw [← wordsOf_perm p]; exact h.old, by rw [← wordsOf_perm p]; exact h.new⟩
  · exact (((blk_perm p).map _).nodup_iff).mp h.nd
  · exact ((blk_perm p).map _).symm.trans (h.perm.trans ((blk_perm p).map _))
theorem GL.mono {m m' n n' : Nat} {l : List RowD} (h : GL m n l) (hm : m ≤ m') (hn : n ≤ n') : GL m' n' l :=
  ⟨h.ok, fun r hr hk => let ⟨j, h1, h2⟩ := h.num r hr hk; ⟨j, by omega, h2⟩, h.nd, h.perm, by have := h.old; omega, by have := h.new; omega⟩
theorem blk_cons (k : Str) (r : RowD) (l : List RowD) : blk k (r :: l) = if r.kind = k then r :: blk k l else blk k l := by
  unfold blk
  by_cases h : r.kind = k
  · rw [if_pos h, List.filter_cons_of_pos (p := fun r : RowD => decide (r.kind = k)) (decide_eq_true h)]
  · rw [if_neg h, List.filter_cons_of_neg (by simpa using h)]
theorem wordsOf_cons (ks : List Str) (r : RowD) (l : List RowD) : wordsOf ks (r :: l) = if r.kind ∈ ks then r.ws ++ wordsOf ks l else wordsOf ks l := by
  unfold wordsOf
  by_cases h : r.kind ∈ ks
  · rw [if_pos h, List.filter_cons_of_pos (p := fun r : RowD => decide (r.kind ∈ ks)) (decide_eq_true h), List.flatMap_cons]
  · rw [if_neg h, List.filter_cons_of_neg (by simpa using h)]
theorem wordsOf_cons_le (ks : List Str) (r : RowD) (l : List RowD) : (wordsOf ks (r :: l)).length ≤ r.ws.length + (wordsOf ks l).length := by
  rw [wordsOf_cons]
  split
  · rw [List.length_append]
    exact Nat.le_refl _
  · omega
theorem GL.plain {m n : Nat} {l : List RowD} (h : GL m n l) {r : RowD} (hk : r.kind ∈ plainK) (ok : RowOk r) (hl : r.ws.length ≤ 3) : GL (m + 1) (n + 1) (r :: l) := by
  have nt : r.kind ≠ "take" ∧ r.kind ≠ "lay" := by
    have key : ∀ k ∈ plainK, k ≠ "take" ∧ k ≠ "lay" := by decide +kernel
    exact key _ hk
  refine ⟨fun q hq => ?_, fun q hq hk => ?_, ?_, ?_, ?_, ?_⟩
  · rcases List.mem_cons.mp hq with e | hq
    · rw [e]
      exact ok
    · exact h.ok q hq
  · rcases List.mem_cons.mp hq with e | hq
    · rw [e] at hk
      exact absurd hk (fun z => z.elim nt.1 nt.2)
    · obtain ⟨j, h1, h2⟩ := h.num q hq hk
      exact ⟨j, by omega, h2⟩
  · rw [blk_cons, if_neg nt.1]
    exact h.nd
  · rw [blk_cons, if_neg nt.1, blk_cons, if_neg nt.2]
    exact h.perm
  · have := wordsOf_cons_le oldK r l
    have := h.old
    omega
  · have := wordsOf_cons_le newK r l
    have := h.new
    omega
theorem GL.block {m n : Nat} {l : List RowD} (h : GL m n l) {num : Int} {ws : List Str} (hm : m ≤ 1000) (hn : num = 1 + 3 * (m : Int) ∨ num = 999999999 - (m : Int)) (ne : ws ≠ []) (hw : ∀ a ∈ ws, wordB a = true) (hl : ws.length ≤ 3) :
    GL (m + 1) (n + 1) (⟨"take", num, ws⟩ :: ⟨"lay", num, ws⟩ :: l) := by
  have b1 : 1 ≤ num ∧ num ≤ 999999999 := by omega
  have o1 : RowOk ⟨"take", num, ws⟩ := ⟨by show ("take" : Str) ∈ plainK ++ blockK; decide +kernel, numB_block (.inl rfl) b1.1 b1.2, ne, hw⟩
  have o2 : RowOk ⟨"lay", num, ws⟩ := ⟨by show ("lay" : Str) ∈ plainK ++ blockK; decide +kernel, numB_block (.inr rfl) b1.1 b1.2, ne, hw⟩
  have tl : ("take" : Str) ≠ "lay" := by decide +kernel
  have i1 : ("take" : Str) ∈ oldK := by decide +kernel
  have i2 : ("lay" : Str) ∉ oldK := by decide +kernel
  have i3 : ("take" : Str) ∉ newK := by decide +kernel
  have i4 : ("lay" : Str) ∈ newK := by decide +kernel
  refine ⟨fun q hq => ?_, fun q hq hk => ?_, ?_, ?_, ?_, ?_⟩
  · rcases List.mem_cons.mp hq with e | hq
    · rw [e]
      exact o1
    · rcases List.mem_cons.mp hq with e | hq
      · rw [e]
        exact o2
      · exact h.ok q hq
  · rcases List.mem_cons.mp hq with e | hq
    · rw [e]
      exact ⟨m, by omega, hn⟩
    · rcases List.mem_cons.mp hq with e | hq
      · rw [e]
        exact ⟨m, by omega, hn⟩
      · obtain ⟨j, h1, h2⟩ := h.num q hq hk
        exact ⟨j, by omega, h2⟩
  · rw [blk_cons, if_pos rfl, blk_cons, if_neg (Ne.symm tl), List.map_cons, List.nodup_cons]
    refine ⟨fun z => ?_, h.nd⟩
    obtain ⟨q, h1, h2⟩ := List.mem_map.mp z
    have h1 := List.mem_filter.mp h1
    obtain ⟨j, h3, h4⟩ := h.num q h1.1 (.inl (of_decide_eq_true h1.2))
    have h2 : q.num = num := h2
    omega
  · rw [blk_cons, if_pos rfl, blk_cons, if_neg (Ne.symm tl), blk_cons, if_neg tl, blk_cons, if_pos rfl, List.map_cons, List.map_cons]
    exact h.perm.cons _
  · rw [wordsOf_cons, if_pos i1, wordsOf_cons, if_neg i2, List.length_append]
    have := h.old
    show ws.length + _ ≤ _
    omega
  · rw [wordsOf_cons, if_neg i3, wordsOf_cons, if_pos i4, List.length_append]
    have := h.new
    show ws.length + _ ≤ _
    omega
structure Good (n : Nat) (rs wt : List RowD) : Prop where
  gl : GL rs.length n (rs ++ wt)
  len : rs.length ≤ n
  len2 : rs.length + wt.length ≤ 2 * n
theorem Good.plain {n : Nat} {rs wt : List RowD} (h : Good n rs wt) {r : RowD} (hk : r.kind ∈ plainK) (ok : RowOk r) (hl : r.ws.length ≤ 3) : Good (n + 1) (rs ++ [r]) wt := by
  refine ⟨?_, by rw [List.length_append]; have := h.len; show rs.length + 1 ≤ n + 1; omega, by rw [List.length_append]; have := h.len2; show rs.length + 1 + _ ≤ _; omega⟩
  rw [List.length_append]
  refine (h.gl.plain hk ok hl).of_perm ?_
  rw [List.append_assoc]
  exact List.perm_middle.symm
theorem erase_perm {r : RowD} : ∀ {wt : List RowD} {i : Nat}, wt[i]? = some r → wt.Perm (r :: wt.eraseIdx i)
  | [], _, h => by cases h
  | x :: xs, 0, h => by
    cases h
    exact List.Perm.refl _
  | x :: xs, i + 1, h => ((erase_perm (wt := xs) (i := i) h).cons x).trans (List.Perm.swap _ _ _)
theorem Good.move {n : Nat} {rs wt : List RowD} (h : Good n rs wt) {i : Nat} {r : RowD} (hi : wt[i]? = some r) : Good (n + 1) (rs ++ [r]) (wt.eraseIdx i) := by
  have hlt := (List.getElem?_eq_some_iff.mp hi).1
  have he : wt[i] = r := (List.getElem?_eq_some_iff.mp hi).2
  have hle : (wt.eraseIdx i).length = wt.length - 1 := List.length_eraseIdx_of_lt hlt
  refine ⟨?_, by rw [List.length_append]; have := h.len; show rs.length + 1 ≤ n + 1; omega, by rw [List.length_append, hle]; have := h.len2; show rs.length + 1 + _ ≤ _; omega⟩
  refine (h.gl.mono (by rw [List.length_append]; omega) (by omega)).of_perm ?_
  rw [List.append_assoc]
  refine List.Perm.append_left rs ?_
  exact erase_perm hi
theorem Good.block {n : Nat} {rs wt : List RowD} (h : Good n rs wt) {num : Int} {ws : List Str} (hm : n ≤ 1000) (hn : num = 1 + 3 * (rs.length : Int) ∨ num = 999999999 - (rs.length : Int)) (ne : ws ≠ []) (hw : ∀ a ∈ ws, wordB a = true) (hl : ws.length ≤ 3)
    {a b : Str} (hab : (a = "take" ∧ b = "lay") ∨ (a = "lay" ∧ b = "take")) : Good (n + 1) (rs ++ [⟨a, num, ws⟩]) (wt ++ [⟨b, num, ws⟩]) := by
  have hlen := h.len
  refine ⟨?_, by rw [List.length_append]; show rs.length + 1 ≤ n + 1; omega, by rw [List.length_append, List.length_append]; have := h.len2; show rs.length + 1 + (wt.length + 1) ≤ _; omega⟩
  rw [List.length_append]
  refine (h.gl.block (by omega) hn ne hw hl).of_perm ?_
  have key : ∀ x y : RowD, (x :: y :: (rs ++ wt)).Perm ((rs ++ [x]) ++ (wt ++ [y])) := fun x y => by
    have p1 : (y :: (rs ++ wt)).Perm (rs ++ (wt ++ [y])) := by
      rw [← List.append_assoc]
      exact List.perm_append_singleton y (rs ++ wt) |>.symm
    refine (p1.cons x).trans ?_
    rw [List.append_assoc]
    exact List.perm_middle.symm
  rcases hab with ⟨rfl, rfl⟩ | ⟨rfl, rfl⟩
  · exact key _ _
  · exact (List.Perm.swap _ _ _).trans (key _ _)
theorem Good.fit {n : Nat} {rs wt : List RowD} (h : Good n rs wt) (hn : n ≤ 40) : Fit (rs ++ wt) :=
  ⟨h.gl.ok, by have := h.gl.old; omega, by have := h.gl.new; omega, by rw [List.length_append]; have := h.len2; omega, h.gl.nd, h.gl.perm⟩
theorem Good.nil : Good 0 [] [] := ⟨⟨(fun r h => by cases h), (fun r h => by cases h), List.nodup_nil, List.Perm.refl _, Nat.le_refl _, Nat.le_refl _⟩, Nat.le_refl _, Nat.le_refl _⟩
/-! ### the law's built tellings -/
/-- no word of the rows is 'behind' -/
def NB (rs : List RowD) : Prop := ∀ r ∈ rs, ∀ x ∈ r.ws, x.cps.toList ≠ behL
theorem nb_snoc {rs : List RowD} {r : RowD} (h : NB rs) (g : ∀ x ∈ r.ws, x.cps.toList ≠ behL) : NB (rs ++ [r]) := fun y hy => by
  rcases List.mem_append.mp hy with z | z
  · exact h y z
  · rw [List.mem_singleton.mp z]
    exact g
def kinds7 : List Str := ["keep", "keep", "cut", "put", "keep", "keep", "keep"]
theorem kinds7_at : ∀ i, i < 7 → ∃ k, kinds7[i]? = some k ∧ k ∈ plainK := by
  have key : ∀ i, i < 7 → (match kinds7[i]? with | some g => decide (g ∈ plainK) | none => false) = true := by decide +kernel
  intro i hi
  have h := key i hi
  cases e : kinds7[i]? with
  | none =>
    rw [e] at h
    cases h
  | some g =>
    rw [e] at h
    exact ⟨g, rfl, of_decide_eq_true h⟩
theorem plain_not {k : Str} (h : k ∈ plainK) : k ≠ "take" ∧ k ≠ "lay" := by
  have key : ∀ k ∈ plainK, k ≠ "take" ∧ k ≠ "lay" := by decide +kernel
  exact key _ h
theorem rowOk_plain {k : Str} {ws : List Str} (h : k ∈ plainK) (ne : ws ≠ []) (hw : ∀ a ∈ ws, wordB a = true) : RowOk ⟨k, 0, ws⟩ :=
  ⟨List.mem_append_left _ h, numB_plain (plain_not h).1 (plain_not h).2, ne, hw⟩
/-- all kept but what stands at two places -/
def Kt (R W : Addr) (H H' : Hp) : Prop := ∀ b o, b ≠ R → b ≠ W → H b = some o → H' b = some o
theorem Kt.same {R W : Addr} {H H' : Hp} (s : Same H H') : Kt R W H H' := fun b o _ _ e => s b o e
theorem Kt.trans {R W : Addr} {H H1 H2 : Hp} (a : Kt R W H H1) (b : Kt R W H1 H2) : Kt R W H H2 := fun c o h1 h2 e => b c o h1 h2 (a c o h1 h2 e)
theorem Kt.setR {R W : Addr} {H : Hp} {o : HO} : Kt R W H (upd H R o) := fun b x h1 _ e => by
  rw [upd_ne h1]
  exact e
theorem Kt.setW {R W : Addr} {H : Hp} {o : HO} : Kt R W H (upd H W o) := fun b x _ h2 e => by
  rw [upd_ne h2]
  exact e
theorem at_erase {xs : List V} {rs : List RowD} {K : PySem.W.Frag} {H : Hp} : RowsT K H xs rs → ∀ i : Nat, RowsT K H (xs.eraseIdx i) (rs.eraseIdx i) := by
  intro h i
  refine ⟨?_, fun j v e => ?_⟩
  · rw [List.length_eraseIdx, List.length_eraseIdx, h.1]
  · rw [List.getElem?_eraseIdx] at e ⊢
    split at e
    · rename_i hj
      obtain ⟨r, h1, h2⟩ := h.2 j v e
      exact ⟨r, by rw [if_pos hj]; exact h1, h2⟩
    · rename_i hj
      obtain ⟨r, h1, h2⟩ := h.2 (j + 1) v e
      exact ⟨r, by rw [if_neg hj]; exact h1, h2⟩
theorem seq_ix {i n : Nat} (h : i < n) : seqIndex? (i : Int) n = some i := by
  show (if (decide (0 ≤ (if (i : Int) < 0 then (i : Int) + n else i)) && decide ((if (i : Int) < 0 then (i : Int) + (n : Int) else i) < (n : Int))) = true then some (if (i : Int) < 0 then (i : Int) + n else i).toNat else none) = some i
  rw [if_neg (show ¬ (i : Int) < 0 by omega), decide_eq_true (show (0 : Int) ≤ (i : Int) by omega), decide_eq_true (show (i : Int) < (n : Int) by omega)]
  rfl
section
variable {P : Program} {w : World} {K : PySem.W.Frag} {mg : Str → Option Value} {base : Heap}
theorem scBuiltRow : FnScope ["_law_menu_here", "_law_cell", "_law_rows", "_law_waiting", "_law_kind", "_law_words", "_law_number", "_law_names", "_law_k"] ["_law_menu_here", "_law_cell", "_law_rows", "_law_waiting"] (defScope sBuiltRow) := ⟨rfl, rfl, rfl, by decide +kernel, rfl, by decide +kernel, by decide +kernel⟩
theorem scBuilt : FnScope ["_law_script", "_law_many", "_law_menu_here", "_law_rows", "_law_waiting", "_law_cell"] ["_law_script", "_law_many"] (defScope sBuilt) := ⟨rfl, rfl, rfl, by decide +kernel, rfl, by decide +kernel, by decide +kernel⟩
def spBuiltRow (K : PySem.W.Frag) : Sp := fun vs H Q _ => ∃ (a R Z : Addr) (c : Int) (ms : List Str) (n : Nat) (xs zs : List V) (rs wt : List RowD), vs = [.ref a, .int c, .ref R, .ref Z] ∧ SqL K H a (ms.map V.str) ∧ ms.length = 12 ∧ (∀ x ∈ ms, MW x) ∧
  H R = some (.lst xs) ∧ H Z = some (.lst zs) ∧ R ≠ Z ∧ RowsT K H xs rs ∧ RowsT K H zs wt ∧ Good n rs wt ∧ NB rs ∧ NB wt ∧ n ≤ 500 ∧
  ∀ (H' : Hp) (xs zs : List V) (rs wt : List RowD), Kt R Z H H' → H' R = some (.lst xs) → H' Z = some (.lst zs) → RowsT K H' xs rs → RowsT K H' zs wt → Good (n + 1) rs wt → NB rs → NB wt → Q .non H'
theorem ok_built_row {f : Addr} {fd : FuncData} (F : FnP K "_law_built_row" sBuiltRow f fd) (mU : mg "tuple" = none) (mR : mg "range" = none) (mL : mg "len" = none) : FnOk P w K mg base (L2.CX P w) 1 f fd ["_law_menu_here", "_law_cell", "_law_rows", "_law_waiting"] (spBuiltRow K) := by
  refine F.ok scBuiltRow (fun vs H Q E h => ?_) (fun cdv A outer s H vs Q E hr h => ?_)
  · obtain ⟨a, R, Z, c, ms, n, xs, zs, rs, wt, rfl, _⟩ := h
    rfl
  · obtain ⟨a, R, Z, c, ms, n, xs, zs, rs, wt, rfl, hS, hml, hmw, hR, hZ, hne, hX, hY, hg, nb1, nb2, hn, q⟩ := h
    refine ⟨_, pss_cons (ps_set (i := 4) scBuiltRow.nd rfl (.inl rfl) (pe_op op_mod (pv 1) pe_int))
      (pss_cons (ps_set (i := 5) scBuiltRow.nd rfl (.inl rfl) (pe_callTy call_tuple_of (by rfl) mU (by decide +kernel) (pa_cons (pe_lc (own := [("_law_k", 8)]) (g := gName 8) (tt := tYes) rfl scBuiltRow.nd (pi_range1 (by rfl) mR (pa_cons (pe_op op_add pe_int (pe_op op_mod (pe_op op_mod (pe_op op_mul (pv 1) pe_int) pe_int) pe_int)) pa_nil))
          (blkOk_by (N := ["_law_menu_here", "_law_cell", "_law_rows", "_law_waiting", "_law_kind", "_law_words", "_law_number", "_law_names", "_law_k"]) (sc := defScope sBuiltRow) (by decide +kernel))
          (fun _ _ _ _ _ => pg_name (i := 8) scBuiltRow.nd rfl (Or.inl rfl)) (fun _ _ _ _ _ => pts_nil)
          (fun _ _ _ _ _ => pe_ix (r := rIxL K) ix_list (pv 0) (pe_op op_mod (pe_op op_add (pe_op op_fdiv (pv 1) pe_int) (pv 8)) pe_int) (fun _ _ => rfl))) pa_nil)))
      (pss_one (ps_if (PW.pt (pw_or (pt_cmpR op_lt (pv 4) pe_int (nomark _)) (pw_or1 (PW.pt (pw_and (pt_cmpR op_eq (pv 4) pe_int (nomark _)) (pw_and1 (pt_cmpR (op_eqD hr.units) (pv 3) (pe_lst pa_nil) (nomark _))))))))
        (pss_one (ps_expr (pe_bm PySem.F.plainAttrs_list PySem.F.slot_list_append PySem.F.type_list_append mt_append (pv 2) (pa_cons (pe_tup (pa_cons (pe_ix ix_list (pe_lst (pa_cons pe_str (pa_cons pe_str (pa_cons pe_str (pa_cons pe_str (pa_cons pe_str (pa_cons pe_str (pa_cons pe_str pa_nil)))))))) (pv 4) (fun _ _ => rfl)) (pa_cons pe_int (pa_cons (pv 5) pa_nil)))) pa_nil))))
        (pss_one (ps_if (pt_cmpR op_eq (pv 4) pe_int (nomark _))
          (pss_one (ps_expr (pe_bm PySem.F.plainAttrs_list PySem.F.slot_list_append PySem.F.type_list_append mt_append (pv 2) (pa_cons (pe_bm PySem.F.plainAttrs_list PySem.F.slot_list_pop PySem.F.type_list_pop mt_popAt (pv 3) (pa_cons (pe_op op_mod (pe_op op_fdiv (pv 1) pe_int) (pe_callB call_len_seq (by rfl) mL PySem.boot_len (pa_cons (pv 3) pa_nil))) pa_nil)) pa_nil))))
          (pss_cons (ps_set (i := 6) scBuiltRow.nd rfl (.inl rfl) (pe_op op_add pe_int (pe_op op_mul pe_int (pe_callB call_len_seq (by rfl) mL PySem.boot_len (pa_cons (pv 2) pa_nil)))))
          (pss_cut (ps_if (pt_cmpR op_eq (pe_op op_mod (pe_op op_mod (pe_op op_mul (pv 1) pe_int) pe_int) pe_int) pe_int (nomark _)) (pss_one (ps_set (i := 6) scBuiltRow.nd rfl (.inl rfl) (pe_op op_sub pe_int (pe_callB call_len_seq (by rfl) mL PySem.boot_len (pa_cons (pv 2) pa_nil))))) pss_nil)
          (pss_cut (ps_set (i := 7) scBuiltRow.nd rfl (.inl rfl) (pe_ix ix_list (pe_lst (pa_cons (pe_lst (pa_cons pe_str (pa_cons pe_str pa_nil))) (pa_cons (pe_lst (pa_cons pe_str (pa_cons pe_str pa_nil))) pa_nil))) (pe_op op_sub (pv 4) pe_int) (fun _ _ => rfl)))
          (pss_cons (ps_expr (pe_bm PySem.F.plainAttrs_list PySem.F.slot_list_append PySem.F.type_list_append mt_append (pv 2) (pa_cons (pe_tup (pa_cons (pe_ix ix_list (pv 7) pe_int (fun _ _ => rfl)) (pa_cons (pv 6) (pa_cons (pv 5) pa_nil)))) pa_nil)))
          (pss_one (ps_expr (pe_bm PySem.F.plainAttrs_list PySem.F.slot_list_append PySem.F.type_list_append mt_append (pv 3) (pa_cons (pe_tup (pa_cons (pe_ix ix_list (pv 7) pe_int (fun _ _ => rfl)) (pa_cons (pv 6) (pa_cons (pv 5) pa_nil)))) pa_nil))))))))))))), ?_⟩
    have hc0 : 0 ≤ c % 7 := Int.emod_nonneg _ (by decide)
    have hc1 : c % 7 < 7 := Int.emod_lt_of_pos _ (by decide)
    have hd0 : 0 ≤ c * 48271 % 1009 := Int.emod_nonneg _ (by decide)
    refine ⟨_, rfl, _, _, rfl, rfl, (by show (0 : Int) < 7; decide), ?_⟩
    refine ⟨_, rfl, _, _, rfl, rfl, .inr (by decide), _, _, rfl, rfl, (by show (0 : Int) < 1009; decide), _, _, rfl, rfl, (by show (0 : Int) < 3; decide), _, _, rfl, rfl, _, rfl, by omega, by omega, fun D nD => ?_⟩
    refine lc_range (lo := 0) (n := (1 + c * 48271 % 1009 % 3).toNat) (fun i H' => Same H H' ∧ ∃ ws, H' D = some (.lst ((ws : List Str).map V.str)) ∧ ws.length = i ∧ ∀ x ∈ ws, MW x) ⟨same_upd nD, [], upd_same, rfl, fun x hx => by cases hx⟩ (fun i H' hi hp => ?_) (fun H2 hp => ?_)
    · obtain ⟨sm, ws, hD, hl, hw⟩ := hp
      refine ⟨rfl, yesT ?_⟩
      have hx : ∃ x, ms[((c / 7 + (0 + (i : Int))) % (12 : Nat)).toNat]? = some x ∧ MW x := by
        have h1 := ltM (c := c / 7 + (0 + (i : Int))) (n := 12) (by decide)
        have h2 : ((c / 7 + (0 + (i : Int))) % (12 : Nat)).toNat < ms.length := by omega
        exact ⟨ms[_]'h2, List.getElem?_eq_getElem h2, hmw _ (List.getElem_mem h2)⟩
      obtain ⟨x, hx, hxw⟩ := hx
      refine ⟨_, rfl, _, rfl, _, _, rfl, rfl, ⟨by decide, by decide⟩, _, rfl, _, _, rfl, rfl, _, _, rfl, rfl, (by show (0 : Int) < 12; decide), a, _, _, .str x, rfl, rfl, sm.seq hS, atM (n := 12) (by decide) (by rw [List.getElem?_map, hx]; rfl), ?_⟩
      refine ⟨_, hD, ?_, fun b o e => ?_, ws ++ [x], ?_, ?_, ?_⟩
      · rw [List.length_map, hl]
        exact Nat.lt_of_lt_of_le (show i < 1000 by omega) (by decide)
      · rw [upd_ne (ne_of_none e nD)]
        exact sm b o e
      · rw [upd_same, List.map_append]
        rfl
      · rw [List.length_append, hl]
        rfl
      · intro y hy
        rcases List.mem_append.mp hy with hy | hy
        · exact hw y hy
        · rw [List.mem_singleton.mp hy]
          exact hxw
    obtain ⟨s2, ws, hD, hl, hwm⟩ := hp
    have hw : ∀ x ∈ ws, wordB x = true := fun x hx => (hwm x hx).1
    have nbw : ∀ x ∈ ws, x.cps.toList ≠ behL := fun x hx => (hwm x hx).2
    refine ⟨D, _, rfl, .inl ⟨.inl (.inl hD), fun W nW => ?_⟩⟩
    have wne : ws ≠ [] := fun z => by
      rw [z] at hl
      have hl : (0 : Nat) = _ := hl
      omega
    have wl : ws.length ≤ 3 := by omega
    have s3 : Same H (upd H2 W (.tup (ws.map V.str))) := s2.trans (same_upd nW)
    have hW : (upd H2 W (.tup (ws.map V.str))) W = some (.tup (ws.map V.str)) := upd_same
    have hR3 := s3 _ _ hR
    have hZ3 := s3 _ _ hZ
    have hX3 := hX.same s3
    have hY3 := hY.same s3
    generalize upd H2 W (HO.tup (List.map V.str ws)) = H3 at s3 hW hR3 hZ3 hX3 hY3 ⊢
    have hxl : xs.length = rs.length := hX.1
    have hzl : zs.length = wt.length := hY.1
    have hlen := hg.len
    have hlen2 := hg.len2
    have xlt : xs.length < sizeLine := Nat.lt_of_lt_of_le (show xs.length < 1001 by omega) (by decide)
    have finP : ∀ (H4 : Hp) (T : Addr) (k : Str), Same H3 H4 → H4 T = none → k ∈ plainK → H4 R = some (.lst xs) → Q .non (upd (upd H4 T (.tup [.str k, .int 0, .ref W])) R (.lst (xs ++ [.ref T]))) := fun H4 T k s4 nT hk _ => by
      have s5 := s4.trans (same_upd nT (o := .tup [.str k, .int 0, .ref W]))
      refine q _ (xs ++ [.ref T]) zs (rs ++ [⟨k, 0, ws⟩]) wt ((Kt.same (s3.trans s5)).trans Kt.setR) upd_same ?_ ?_ ?_ (hg.plain hk (rowOk_plain hk wne hw) wl) (nb_snoc nb1 nbw) nb2
      · rw [upd_ne (Ne.symm hne)]
        exact s5 _ _ hZ3
      · exact ((hX3.same s5).snoc (r := ⟨k, 0, ws⟩) ⟨T, W, rfl, .inl (.inl upd_same), s5 _ _ hW⟩).set (noTup (s5 _ _ hR3))
      · exact (hY3.same s5).set (noTup (s5 _ _ hR3))
    obtain ⟨k, hk, hkk⟩ := kinds7_at _ (ltM (c := c) (n := 7) (by decide))
    refine ⟨_, rfl, _, _, rfl, rfl, _, rfl, ite2 (fun e => ?_) (fun e => ?_)⟩
    · refine ⟨_, rfl, .inl ⟨rfl, _, .inl (.inl hR3)⟩, by show 7 ≤ sizeLine; decide, fun L nL => ⟨_, rfl, L, kinds7.map V.str, _, .str k, rfl, rfl, .inl (.inl upd_same), atM (n := 7) (by decide) (by rw [List.getElem?_map, hk]; rfl), _, rfl, by show 3 ≤ sizeLine; decide, fun T nT => ?_⟩⟩
      have s4 := same_upd nL (o := .lst (kinds7.map V.str))
      exact ⟨R, xs, _, rfl, rfl, same_upd nT _ _ (s4 _ _ hR3), xlt, finP _ T k s4 nT hkk (s4 _ _ hR3)⟩
    · have e4 : ¬ c % 7 < 4 := fun z => e (decide_eq_true z)
      refine ⟨_, rfl, rfl, _, rfl, ite2 (fun e => ?_) (fun e => ?_)⟩
      · have e6 : c % 7 = 6 := V.int.inj (of_decide_eq_true e)
        refine ⟨_, rfl, by show 0 ≤ sizeLine; decide, fun E nE => ?_⟩
        have s4 := same_upd nE (o := .lst [])
        have shE : SeqAt.shaped (.list []) = true := by decide +kernel
        refine ⟨_, _, .lst (.inl (.inl (s4 _ _ hZ3))) (dpRows (hY3.same s4).at), .lst (.inl (.inl upd_same)) .nil, shaped_rows fun r hr => hg.gl.ok r (List.mem_append_right _ hr), shE, _, rfl, ?_⟩
        cases wt with
        | nil =>
          have ev : PyData.eqv (.list (([] : List RowD).map rowData)) (.list []) = true := by decide +kernel
          rw [ev]
          refine iteT ⟨_, rfl, .inl ⟨rfl, _, .inl (.inl (s4 _ _ hR3))⟩, by show 7 ≤ sizeLine; decide, fun L nL => ⟨_, rfl, L, kinds7.map V.str, _, .str k, rfl, rfl, .inl (.inl upd_same), atM (n := 7) (by decide) (by rw [List.getElem?_map, hk]; rfl), _, rfl, by show 3 ≤ sizeLine; decide, fun T nT => ?_⟩⟩
          have s5 := s4.trans (same_upd nL (o := .lst (kinds7.map V.str)))
          exact ⟨R, xs, _, rfl, rfl, same_upd nT _ _ (s5 _ _ hR3), xlt, finP _ T k s5 nT hkk (s5 _ _ hR3)⟩
        | cons r0 wt0 =>
          have ev : PyData.eqv (.list ((r0 :: wt0).map rowData)) (.list []) = false := rfl
          rw [ev]
          refine iteF ⟨_, rfl, rfl, _, rfl, ?_⟩
          rw [decide_eq_true (congrArg V.int e6)]
          have hzp : 0 < zs.length := by
            rw [hzl]
            exact Nat.succ_pos _
          have hi0 : 0 ≤ c / 7 % (zs.length : Int) := Int.emod_nonneg _ (by omega)
          have hi1 : c / 7 % (zs.length : Int) < (zs.length : Int) := Int.emod_lt_of_pos _ (by omega)
          obtain ⟨i, hi⟩ : ∃ i : Nat, c / 7 % (zs.length : Int) = (i : Int) := ⟨_, (Int.toNat_of_nonneg hi0).symm⟩
          have hiz : i < zs.length := by omega
          obtain ⟨y, hy⟩ : ∃ y, zs[i]? = some y := ⟨_, List.getElem?_eq_getElem hiz⟩
          obtain ⟨r, hr1, hr2⟩ := hY3.2 i y hy
          refine iteT ⟨_, rfl, .inl ⟨rfl, _, .inl (.inl (s4 _ _ hR3))⟩, _, rfl, .inl ⟨rfl, _, .inl (.inl (s4 _ _ hZ3))⟩, _, rfl, _, _, rfl, rfl, ⟨by decide, by decide⟩, _, rfl, Z, _, rfl, .inl (.inl (.inl (s4 _ _ hZ3))), _, _, rfl, rfl, by omega, Z, zs, _, i, y, rfl, rfl, s4 _ _ hZ3, by omega, ?_, ?_, hy, R, xs, y, rfl, rfl, ?_, xlt, ?_⟩
          · rw [hi]
            have : i < 1001 := by omega
            omega
          · rw [hi]
            exact seq_ix hiz
          · rw [upd_ne hne]
            exact s4 _ _ hR3
          · refine q _ (xs ++ [y]) (zs.eraseIdx i) (rs ++ [r]) ((r0 :: wt0).eraseIdx i) (((Kt.same (s3.trans s4)).trans Kt.setW).trans Kt.setR) upd_same ?_ ?_ ?_ (hg.move hr1) (nb_snoc nb1 (nb2 r (List.mem_of_getElem? hr1))) (fun x hx => nb2 x (List.mem_of_mem_eraseIdx hx))
            · rw [upd_ne (Ne.symm hne)]
              exact upd_same
            · refine RowsT.set (noTup (H := upd _ Z _) (ys := xs) ?_) (((hX3.same s4).snoc (hr2.same s4)).set (noTup (s4 _ _ hZ3)))
              rw [upd_ne hne]
              exact s4 _ _ hR3
            · refine RowsT.set (noTup (H := upd _ Z _) (ys := xs) ?_) ((at_erase (hY3.same s4) i).set (noTup (s4 _ _ hZ3)))
              rw [upd_ne hne]
              exact s4 _ _ hR3
      · have e6 : ¬ c % 7 = 6 := fun z => e (decide_eq_true (congrArg V.int z))
        refine ⟨_, rfl, rfl, _, rfl, ?_⟩
        rw [decide_eq_false (fun z => e6 (V.int.inj z))]
        refine iteF ?_
        refine ⟨_, rfl, R, _, rfl, .inl (.inl (.inl hR3)), _, _, rfl, rfl, .inl ⟨by decide, by omega⟩, _, _, rfl, rfl, ?_⟩
        refine ⟨fun σ' H' => ∃ num : Int, σ' = [some (.ref a), some (.int c), some (.ref R), some (.ref Z), some (.int (c % 7)), some (.ref W), some (.int num), none, none] ∧ H' = H3 ∧ (num = 1 + 3 * (rs.length : Int) ∨ num = 999999999 - (rs.length : Int)), ?_, fun σ1 H4 hM => ?_⟩
        · refine ⟨_, rfl, _, _, rfl, rfl, .inr (by decide), _, _, rfl, rfl, (by show (0 : Int) < 1013; decide), _, _, rfl, rfl, (by show (0 : Int) < 3; decide), rfl, _, rfl, ite2 (fun e => ?_) (fun e => ?_)⟩
          · refine ⟨_, rfl, R, _, rfl, .inl (.inl (.inl hR3)), _, _, rfl, rfl, _, rfl, rfl, .inr ?_⟩
            rw [hxl]
          · refine ⟨_, rfl, rfl, .inl ?_⟩
            rw [hxl]
        obtain ⟨num, rfl, rfl, hnum⟩ := hM
        refine ⟨fun σ' H' => ∃ (p : Addr) (k1 k2 : Str), σ' = [some (.ref a), some (.int c), some (.ref R), some (.ref Z), some (.int (c % 7)), some (.ref W), some (.int num), some (.ref p), none] ∧ Same H4 H' ∧ H' p = some (.lst [.str k1, .str k2]) ∧ ((k1 = "take" ∧ k2 = "lay") ∨ (k1 = "lay" ∧ k2 = "take")), ?_, fun σ1 H5 hM => ?_⟩
        · refine ⟨by show 2 ≤ sizeLine; decide, fun p1 n1 => ⟨by show 2 ≤ sizeLine; decide, fun p2 n2 => ⟨by show 2 ≤ sizeLine; decide, fun p3 n3 => ?_⟩⟩⟩
          have t1 := same_upd n1 (o := .lst [.str "take", .str "lay"])
          have t2 := same_upd n2 (o := .lst [.str "lay", .str "take"])
          have t3 := same_upd n3 (o := .lst [.ref p1, .ref p2])
          by_cases z : c % 7 = 4
          · exact ⟨_, rfl, _, _, rfl, rfl, p3, [.ref p1, .ref p2], _, .ref p1, rfl, rfl, .inl (.inl upd_same), at_of (j := 0) (by omega) rfl, p1, "take", "lay", rfl, t1.trans (t2.trans t3), t3 _ _ (t2 _ _ upd_same), .inl ⟨rfl, rfl⟩⟩
          · exact ⟨_, rfl, _, _, rfl, rfl, p3, [.ref p1, .ref p2], _, .ref p2, rfl, rfl, .inl (.inl upd_same), at_of (j := 1) (by omega) rfl, p2, "lay", "take", rfl, t1.trans (t2.trans t3), t3 _ _ upd_same, .inr ⟨rfl, rfl⟩⟩
        obtain ⟨p, k1, k2, rfl, s5, hp, hkk2⟩ := hM
        have hRp : p ≠ R := fun z => by
          rw [z, s5 _ _ hR3] at hp
          have hp := HO.lst.inj (Option.some.inj hp)
          have hx2 := hX3.1
          rw [hp] at hX3
          obtain ⟨r', _, T, W', e, _⟩ := hX3.2 0 (.str k1) rfl
          cases e
        refine ⟨_, rfl, .inl ⟨rfl, _, .inl (.inl (s5 _ _ hR3))⟩, _, rfl, p, _, _, _, rfl, rfl, .inl (.inl hp), at_of (j := 0) rfl rfl, _, rfl, _, rfl, by show 3 ≤ sizeLine; decide, fun T nT => ?_⟩
        have s6 := s5.trans (same_upd nT (o := .tup [.str k1, .int num, .ref W]))
        have hp6 := same_upd nT (o := .tup [.str k1, .int num, .ref W]) _ _ hp
        refine ⟨R, xs, _, rfl, rfl, s6 _ _ hR3, xlt, ?_⟩
        have hZ7 : (upd (upd H5 T (.tup [.str k1, .int num, .ref W])) R (.lst (xs ++ [.ref T]))) Z = some (.lst zs) := by
          rw [upd_ne (Ne.symm hne)]
          exact s6 _ _ hZ3
        have hp7 : (upd (upd H5 T (.tup [.str k1, .int num, .ref W])) R (.lst (xs ++ [.ref T]))) p = some (.lst [.str k1, .str k2]) := by
          rw [upd_ne hRp]
          exact hp6
        have hX7 : RowsT K (upd (upd H5 T (.tup [.str k1, .int num, .ref W])) R (.lst (xs ++ [.ref T]))) (xs ++ [.ref T]) (rs ++ [⟨k1, num, ws⟩]) := ((hX3.same s6).snoc (r := ⟨k1, num, ws⟩) ⟨T, W, rfl, .inl (.inl upd_same), s6 _ _ hW⟩).set (noTup (s6 _ _ hR3))
        have hY7 : RowsT K (upd (upd H5 T (.tup [.str k1, .int num, .ref W])) R (.lst (xs ++ [.ref T]))) zs wt := (hY3.same s6).set (noTup (s6 _ _ hR3))
        have hR7 : (upd (upd H5 T (.tup [.str k1, .int num, .ref W])) R (.lst (xs ++ [.ref T]))) R = some (.lst (xs ++ [.ref T])) := upd_same
        have kt7 : Kt R Z H (upd (upd H5 T (.tup [.str k1, .int num, .ref W])) R (.lst (xs ++ [.ref T]))) := (Kt.same (s3.trans s6)).trans Kt.setR
        have hW7 : (upd (upd H5 T (.tup [.str k1, .int num, .ref W])) R (.lst (xs ++ [.ref T]))) W = some (.tup (ws.map V.str)) := by
          have ne : W ≠ R := fun z => by
            have h1 := (s6 _ _ hW).symm.trans ((congrArg (upd H5 T (.tup [.str k1, .int num, .ref W])) z).trans (s6 _ _ hR3))
            cases h1
          rw [upd_ne ne]
          exact s6 _ _ hW
        generalize upd (upd H5 T (.tup [.str k1, .int num, .ref W])) R (.lst (xs ++ [.ref T])) = H7 at hZ7 hp7 hX7 hY7 hR7 kt7 hW7 ⊢
        refine ⟨_, rfl, .inl ⟨rfl, _, .inl (.inl hZ7)⟩, _, rfl, p, _, _, _, rfl, rfl, .inl (.inl hp7), at_of (j := 1) rfl rfl, _, rfl, _, rfl, by show 3 ≤ sizeLine; decide, fun T2 nT2 => ?_⟩
        have s8 := same_upd nT2 (o := .tup [.str k2, .int num, .ref W])
        refine ⟨Z, zs, _, rfl, rfl, s8 _ _ hZ7, Nat.lt_of_lt_of_le (show zs.length < 1001 by omega) (by decide), ?_⟩
        refine q _ (xs ++ [.ref T]) (zs ++ [.ref T2]) (rs ++ [⟨k1, num, ws⟩]) (wt ++ [⟨k2, num, ws⟩]) ((kt7.trans (Kt.same s8)).trans Kt.setW) ?_ upd_same ((hX7.same s8).set (noTup (s8 _ _ hZ7))) (((hY7.same s8).snoc (r := ⟨k2, num, ws⟩) ⟨T2, W, rfl, .inl (.inl upd_same), s8 _ _ hW7⟩).set (noTup (s8 _ _ hZ7))) (hg.block (by omega) hnum wne hw wl hkk2) (nb_snoc nb1 nbw) (nb_snoc nb2 nbw)
        rw [upd_ne hne]
        exact s8 _ _ hR7
end
/-! ### built, the law's words_of -/
theorem cutM (xs : List V) (m : Nat) : (cutV xs (some 4) (some (4 + (m : Int)))).length ≤ m := by
  unfold cutV
  have h1 : HT.sIx xs.length 0 (some 4) = min 4 xs.length := HT.sIx_nat _ _ 4
  have e : (4 : Int) + (m : Int) = ((4 + m : Nat) : Int) := by omega
  have h2 : HT.sIx xs.length xs.length (some (4 + (m : Int))) = min (4 + m) xs.length := by
    rw [e]
    exact HT.sIx_nat _ _ _
  rw [h1, h2, List.length_take, List.length_drop]
  omega
section
variable {P : Program} {w : World} {K : PySem.W.Frag} {mg : Str → Option Value} {base : Heap}
def spBuilt (K : PySem.W.Frag) : Sp := fun vs H Q _ => ∃ (a : Addr) (ns : List Int) (m : Nat), vs = [.ref a, .int (m : Int)] ∧ SqL K H a (ns.map V.int) ∧ m ≤ 100 ∧
  ∀ (H' : Hp) (D : Addr) (xs : List V) (rs wt : List RowD) (n : Nat), Same H H' → H D = none → H' D = some (.lst xs) → RowsT K H' xs (rs ++ wt) → n ≤ m → Good n rs wt → NB (rs ++ wt) → Q (.ref D) H'
theorem ok_built {f fM fB : Addr} {fd fdM fdB : FuncData} (F : FnP K "_law_built" sBuilt f fd)
    (GM : FnOk P w K mg base (L2.CX P w) 3 fM fdM ["_law_script"] (spMenu K)) (kM : PySem.W.keepIn K (.ref fM) = true) (bM : Binds K fdM ["_law_script"] []) (gM : mg "_law_menu" = some (.ref fM))
    (GB : FnOk P w K mg base (L2.CX P w) 1 fB fdB ["_law_menu_here", "_law_cell", "_law_rows", "_law_waiting"] (spBuiltRow K)) (kB : PySem.W.keepIn K (.ref fB) = true) (bB : Binds K fdB ["_law_menu_here", "_law_cell", "_law_rows", "_law_waiting"] []) (gB : mg "_law_built_row" = some (.ref fB)) :
    FnOk P w K mg base (L2.CX P w) 4 f fd ["_law_script", "_law_many"] (spBuilt K) := by
  refine F.ok scBuilt (fun vs H Q E h => ?_) (fun cdv A outer s H vs Q E hr h => ?_)
  · obtain ⟨a, ns, m, rfl, _⟩ := h
    rfl
  · obtain ⟨a, ns, m, rfl, hS, hm, q⟩ := h
    refine ⟨_, pss_cons (ps_set (i := 2) scBuilt.nd rfl (.inl rfl) (pe_call GM hr (by rfl) gM kM bM .nil passL (pa_cons (pv 0) pa_nil)))
      (pss_cons (ps_set (i := 3) scBuilt.nd rfl (.inl rfl) (pe_lst pa_nil))
      (pss_cons (ps_set (i := 4) scBuilt.nd rfl (.inl rfl) (pe_lst pa_nil))
      (pss_cons (ps_for (passes_of rfl) rfl (pi_list (pe_slice sl_list (pv 0) (po_some pe_int) (po_some (pe_op op_add pe_int (pv 1))))) (pg_name (i := 5) scBuilt.nd rfl (.inl rfl))
        (pss_one (ps_expr (pe_call GB (hr.mono (by decide)) (by rfl) gB kB bB .nil passL (pa_cons (pv 2) (pa_cons (pv 5) (pa_cons (pv 3) (pa_cons (pv 4) pa_nil))))))))
      (pss_one (ps_ret (pe_op op_cat (pv 3) (pv 4))))))), ?_⟩
    refine ⟨_, rfl, a, ns, rfl, hS, fun H1 M ms s1 nM hM hml hmw => ?_⟩
    refine ⟨by show 0 ≤ sizeLine; decide, fun R nR => ⟨by show 0 ≤ sizeLine; decide, fun Z nZ => ?_⟩⟩
    have t1 := same_upd nR (o := .lst [])
    have t2 := same_upd nZ (o := .lst [])
    have s3 : Same H (upd (upd H1 R (.lst [])) Z (.lst [])) := s1.trans (t1.trans t2)
    have hR3 : (upd (upd H1 R (.lst [])) Z (.lst [])) R = some (.lst []) := t2 _ _ upd_same
    have hne : R ≠ Z := fun z => by
      rw [← z, upd_same] at nZ
      cases nZ
    refine ⟨_, rfl, _, rfl, _, rfl, _, _, rfl, rfl, _, rfl, a, _, rfl, s3.seq hS, fun p np => ?_⟩
    have s4 := same_upd np (o := .lst (cutV (ns.map V.int) (some 4) (some (4 + (m : Int)))))
    have hpR : p ≠ R := fun z => by
      rw [z, hR3] at np
      cases np
    have hpZ : p ≠ Z := fun z => by
      rw [z, upd_same] at np
      cases np
    have hM4 := s4 _ _ (t2 _ _ (t1 _ _ hM))
    have hMR : M ≠ R := fun z => by
      rw [z, nR] at hM
      cases hM
    have hMZ : M ≠ Z := fun z => by
      rw [z] at hM
      have := t1 _ _ hM
      rw [nZ] at this
      cases this
    refine ⟨p, rfl, ⟨_, .inl (.inl upd_same)⟩, for_list (xs := cutV (ns.map V.int) (some 4) (some (4 + (m : Int)))) (fun i σ' H' => ∃ xs zs rs wt y5, σ' = [some (.ref a), some (.int (m : Int)), some (.ref M), some (.ref R), some (.ref Z), y5] ∧
        Kt R Z (upd (upd (upd H1 R (.lst [])) Z (.lst [])) p (.lst (cutV (ns.map V.int) (some 4) (some (4 + (m : Int)))))) H' ∧ H' R = some (.lst xs) ∧ H' Z = some (.lst zs) ∧ RowsT K H' xs rs ∧ RowsT K H' zs wt ∧ Good i rs wt ∧ NB rs ∧ NB wt)
      ⟨[], [], [], [], none, rfl, fun _ _ _ _ e => e, s4 _ _ hR3, s4 _ _ upd_same, ⟨rfl, fun i v e => by cases e⟩, ⟨rfl, fun i v e => by cases e⟩, Good.nil, (fun _ h => by cases h), (fun _ h => by cases h)⟩ (fun i σ' H' _ hp => ?_) (fun i x σ' H' hx hp => ?_) (fun σ' H' hp => ?_)⟩
    · obtain ⟨xs, zs, rs, wt, y5, rfl, kt, _⟩ := hp
      exact .inl (.inl (kt _ _ hpR hpZ upd_same))
    · obtain ⟨xs, zs, rs, wt, y5, rfl, kt, hR, hZ, hX, hY, hg, nb1, nb2⟩ := hp
      obtain ⟨c, _, rfl⟩ := List.mem_map.mp (cut_mem (List.mem_of_getElem? hx))
      have hi : i < m := Nat.lt_of_lt_of_le (List.getElem?_eq_some_iff.mp hx).1 (cutM _ m)
      exact ⟨_, rfl, _, rfl, _, rfl, _, rfl, M, R, Z, c, ms, i, xs, zs, rs, wt, rfl, .inl (.inl (kt _ _ hMR hMZ hM4)), hml, hmw, hR, hZ, hne, hX, hY, hg, nb1, nb2, by omega, fun H2 xs2 zs2 rs2 wt2 k2 hR2 hZ2 hX2 hY2 hg2 nb3 nb4 => ⟨xs2, zs2, rs2, wt2, _, rfl, kt.trans k2, hR2, hZ2, hX2, hY2, hg2, nb3, nb4⟩⟩
    · obtain ⟨xs, zs, rs, wt, y5, rfl, kt, hR, hZ, hX, hY, hg, nb1, nb2⟩ := hp
      have hn := cutM (ns.map V.int) m
      have h1 := hg.len2
      refine ⟨_, rfl, _, rfl, R, Z, xs, zs, rfl, rfl, hR, hZ, Nat.le_trans (by rw [hX.1, hY.1]; omega : xs.length + zs.length ≤ 1000) (by decide), fun D nD => ?_⟩
      have hsame : Same H H' := fun b o e => by
        have nbR : b ≠ R := fun z => by
          have := s1 b o e
          rw [z, nR] at this
          cases this
        have nbZ : b ≠ Z := fun z => by
          have := t1 b o (s1 b o e)
          rw [z, nZ] at this
          cases this
        exact kt _ _ nbR nbZ (s4 _ _ (s3 _ _ e))
      exact q _ D (xs ++ zs) rs wt _ (hsame.trans (same_upd nD)) (hsame.free nD) upd_same ((hX.app hY).same (same_upd nD)) hn hg (fun r hr => (List.mem_append.mp hr).elim (nb1 r) (nb2 r))
theorem scLawWordsOf : FnScope ["_law_rows", "_law_kinds_here", "_law_found", "_law_row"] ["_law_rows", "_law_kinds_here"] (defScope sLawWordsOf) := ⟨rfl, rfl, rfl, by decide +kernel, rfl, by decide +kernel, by decide +kernel⟩
theorem ok_law_words_of {f : Addr} {fd : FuncData} (F : FnP K "_law_words_of" sLawWordsOf f fd) (mT : mg "list" = none) : FnOk P w K mg base (L2.CX P w) 1 f fd ["_law_rows", "_law_kinds_here"] (spWordsOf K) := by
  refine F.ok scLawWordsOf (fun vs H Q E h => ?_) (fun cdv A outer s H vs Q E hr h => ?_)
  · obtain ⟨p, q, xs, rs, ks, rfl, _⟩ := h
    rfl
  · obtain ⟨p, q, xs, rs, ks, rfl, hS, hR, hq, hl, k⟩ := h
    refine ⟨_, pss_cons (ps_set (i := 2) scLawWordsOf.nd rfl (.inl rfl) (pe_lst pa_nil))
      (pss_cons (ps_for (passes_of rfl) rfl (pi_list (pv 0)) (pg_name (i := 3) scLawWordsOf.nd rfl (.inl rfl))
        (pss_one (ps_if (pt_cmpR op_in_seq (pe_ix ix_tup (pv 3) pe_int (fun _ _ => rfl)) (pv 1) (by rfl)) (pss_one (ps_set (i := 2) scLawWordsOf.nd rfl (.inl rfl) (pe_op op_cat (pv 2) (pe_callTy call_list_of (by rfl) mT (by decide +kernel) (pa_cons (pe_ix ix_tup (pv 3) pe_int (fun _ _ => rfl)) pa_nil))))) pss_nil)))
      (pss_one (ps_ret (pv 2)))), ?_⟩
    refine ⟨by show 0 ≤ sizeLine; decide, fun D nD => ?_⟩
    refine ⟨_, rfl, p, rfl, ⟨_, (same_upd nD).seq hS⟩, for_list (xs := xs) (fun i σ' H' => Same H H' ∧ ∃ y3 D, σ' = [some (.ref p), some (.ref q), some (.ref D), y3] ∧ H D = none ∧ H' D = some (.lst ((wordsOf ks (rs.take i)).map V.str))) ⟨same_upd nD, none, D, rfl, nD, upd_same⟩ (fun i σ' H' _ hp => hp.1.seq hS) (fun i x σ' H' hx hp => ?_) (fun σ' H' hp => ?_)⟩
    · obtain ⟨sm, y3, D, rfl, nD, hD⟩ := hp
      obtain ⟨r, hr1, hr2⟩ := hR.2 i x hx
      obtain ⟨T, W, rfl, hT, hW⟩ := hr2.same sm
      have e1 := take_snoc hr1
      have hle := wordsOf_take_le ks rs (i + 1)
      rw [e1, wordsOf_snoc] at hle
      refine ⟨_, rfl, T, _, _, _, rfl, rfl, hT, at_of (j := 0) rfl rfl, _, rfl, q, _, rfl, .inr (sameT sm hq), rfl, flat_strs _, _, rfl, ?_⟩
      show if inV (.str r.kind) (ks.map V.str) = true then _ else _
      rw [inV_strs]
      by_cases h : r.kind ∈ ks
      · rw [if_pos h, List.length_append] at hle
        rw [decide_eq_true h]
        refine iteT ⟨_, rfl, _, rfl, T, _, _, _, rfl, rfl, hT, at_of (j := 2) rfl rfl, W, _, rfl, .inr hW, fun L nL => ⟨D, L, _, _, rfl, rfl, same_upd nL _ _ hD, upd_same, ?_, fun D2 nD2 => ⟨sm.trans ((same_upd nL).trans (same_upd nD2)), _, D2, rfl, ?_, ?_⟩⟩⟩
        · rw [List.length_map, List.length_map]
          exact Nat.le_trans (show _ ≤ 10000 by omega) (by decide)
        · exact sm.free ((same_upd nL).free nD2)
        · rw [upd_same, e1, wordsOf_snoc, if_pos h, List.map_append]
      · rw [decide_eq_false h]
        refine iteF ⟨sm, _, D, rfl, nD, ?_⟩
        rw [e1, wordsOf_snoc, if_neg h]
        exact hD
    · obtain ⟨sm, y3, D, rfl, nD, hD⟩ := hp
      rw [List.take_of_length_le (by rw [hR.1]; exact Nat.le_refl _)] at hD
      exact ⟨_, rfl, k H' D sm nD hD⟩
end
/-! ### texts put together -/
theorem join_snoc {sep : Str} : ∀ (l : List Str) (x : Str), l ≠ [] → Txt.join sep (l ++ [x]) = Txt.join sep l ++ sep ++ x := by
  intro l x hl
  show Builtin.Str.glued sep (l ++ [x]) = Builtin.Str.glued sep l ++ sep ++ x
  rw [StrLaws.glued_eq_join, StrLaws.glued_eq_join]
  induction l with
  | nil => exact absurd rfl hl
  | cons a r ih =>
    cases r with
    | nil => rfl
    | cons b r =>
      show a ++ sep ++ Str.join sep ((b :: r) ++ [x]) = a ++ sep ++ Str.join sep (b :: r) ++ sep ++ x
      rw [ih (by simp)]
      refine Str.ext' (Array.toList_inj.mp ?_)
      simp only [Str.cps_append, Array.toList_append, List.append_assoc]
theorem join_one (sep x : Str) : Txt.join sep [x] = x := by
  show Builtin.Str.glued sep [x] = x
  rw [StrLaws.glued_eq_join]
  rfl
theorem join_none (sep : Str) : Txt.join sep [] = Str.empty := by
  show Builtin.Str.glued sep [] = Str.empty
  rw [StrLaws.glued_eq_join]
  rfl
theorem sum_len {ws : List Str} (h : ∀ a ∈ ws, wordB a = true) : (ws.map (·.length)).sum ≤ 40 * ws.length := by
  induction ws with
  | nil => exact Nat.zero_le _
  | cons a r ih =>
    have h1 := (wordB_len (h a List.mem_cons_self)).2
    have h2 := ih fun b hb => h b (List.mem_cons_of_mem _ hb)
    rw [List.map_cons, List.sum_cons, List.length_cons]
    omega
theorem join_len {ws : List Str} (h : ∀ a ∈ ws, wordB a = true) : (Txt.join (" " : Str) ws).length ≤ 41 * ws.length := by
  have h1 := StrLaws.join_length_le (" " : Str) ws
  have h2 := sum_len h
  have e : (" " : Str).length = 1 := by decide +kernel
  have h3 : (Txt.join (" " : Str) ws).length ≤ (ws.map (·.length)).sum + ws.length * (" " : Str).length := by
    show (Builtin.Str.glued (" " : Str) ws).length ≤ _
    rw [StrLaws.glued_eq_join]
    exact h1
  rw [e] at h3
  omega
theorem join_le (sep : Str) (ps : List Str) : (Txt.join sep ps).length ≤ (ps.map (·.length)).sum + ps.length * sep.length := by
  show (Builtin.Str.glued sep ps).length ≤ _
  rw [StrLaws.glued_eq_join]
  exact StrLaws.join_length_le sep ps
/-! ### a telling as text, plainly -/
def signK (k : Str) : Str := if k = ("keep" : Str) then "=" else if k = ("cut" : Str) then "-" else if k = ("put" : Str) then "+" else if k = ("take" : Str) then "<" else ">"
def kindK (z : Str) : Option Str := if z = ("=" : Str) then some "keep" else if z = ("-" : Str) then some "cut" else if z = ("+" : Str) then some "put" else if z = ("<" : Str) then some "take" else if z = (">" : Str) then some "lay" else none
def numS (n : Int) : Str := Str.ofString (toString n)
def piecesR (r : RowD) : List Str := if r.kind ∈ blockK then signK r.kind :: numS r.num :: r.ws else signK r.kind :: r.ws
def lineR (r : RowD) : Str := Txt.join " " (piecesR r)
def numT (a : Str) : Option Int := if (Txt.isascii a && Txt.isdigit a) = true then (if (decide (9 < a.length) || Txt.startswith a "0") = true then none else intText? a) else none
def wsT (l : List Str) : Bool := !l.isEmpty && l.all wordB
def rdRow (a : Str) : Option RowD := match Txt.split a " " with
  | [] => none
  | s :: l => match kindK s with
    | none => none
    | some k => if k ∈ blockK then (match l with
        | [] => none
        | f :: ws => match numT f with
          | none => none
          | some n => if wsT ws = true then some ⟨k, n, ws⟩ else none)
      else if wsT l = true then some ⟨k, 0, l⟩ else none
theorem kindK_sign : ∀ k ∈ plainK ++ blockK, kindK (signK k) = some k ∧ (signK k).length = 1 := by decide +kernel
theorem sign_free : ∀ k ∈ plainK ++ blockK, (¬ 32 ∈ (signK k).cps.toList) ∧ (¬ 10 ∈ (signK k).cps.toList) ∧ ((signK k).cps.toList.all fun c => decide (c < 256)) = true := by decide +kernel
theorem digits_of {a : Str} (h1 : Txt.isascii a = true) (h2 : Txt.isdigit a = true) : NumText.AllDigits a.cps.toList ∧ a.cps.toList ≠ [] := by
  unfold Txt.isascii at h1
  unfold Txt.isdigit at h2
  rw [Bool.and_eq_true] at h2
  obtain ⟨h2, h3⟩ := h2
  rw [Array.all_eq_true] at h1 h3
  refine ⟨fun c hc => ?_, fun z => ?_⟩
  · obtain ⟨i, hi⟩ := List.mem_iff_getElem?.mp hc
    rw [Array.getElem?_toList] at hi
    obtain ⟨hi1, hi2⟩ := Array.getElem?_eq_some_iff.mp hi
    have c1 := of_decide_eq_true (h1 i hi1)
    have c2 := h3 i hi1
    rw [hi2] at c1 c2
    rw [PyProof.Rows.cls_isdigit c c1] at c2
    unfold PyProof.Rows.inR at c2
    rw [Bool.and_eq_true, Bool.not_eq_true', Bool.not_eq_true'] at c2
    obtain ⟨c3, c4⟩ := c2
    have d3 : decide (c < 48) = false := by
      rw [← c3]
      show decide (c < 48) = Spec.ltCps [c] [48]
      unfold Spec.ltCps
      simp [Spec.ltCps]
    have d4 : decide (57 < c) = false := by
      rw [← c4]
      show decide (57 < c) = Spec.ltCps [57] [c]
      unfold Spec.ltCps
      simp [Spec.ltCps]
    have := of_decide_eq_false d3
    have := of_decide_eq_false d4
    omega
  · have h2 := of_decide_eq_true h2
    have e : a.length = a.cps.toList.length := rfl
    rw [e, z] at h2
    exact Nat.lt_irrefl _ h2
theorem numS_codes (n : Nat) : (numS (n : Int)).cps.toList = TL.numL n := TL.tl_num n
theorem numL_first : ∀ (m n : Nat), n ≤ m → 0 < n → ∃ c r, TL.numL n = c :: r ∧ 49 ≤ c
  | 0, n, h, h0 => by omega
  | m + 1, n, h, h0 => by
    by_cases h1 : n < 10
    · rw [TL.numL_lt h1]
      exact ⟨_, _, rfl, by omega⟩
    · rw [TL.numL_step (by omega)]
      obtain ⟨c, r, e, hc⟩ := numL_first m (n / 10) (by omega) (by omega)
      rw [e]
      exact ⟨c, _, rfl, hc⟩
theorem starts0_iff (a : Str) : Txt.startswith a "0" = true ↔ a.cps.toList[0]? = some 48 := by
  have e0 : ("0" : Str) = ⟨#[48]⟩ := by decide +kernel
  rw [e0, ← StrLaws.subAt_one a 48 0]
  unfold Txt.startswith
  rw [Bool.and_eq_true]
  exact ⟨fun h => ⟨of_decide_eq_true h.1, h.2⟩, fun h => ⟨decide_eq_true h.1, h.2⟩⟩
theorem starts0 (a : Str) (h : Txt.startswith a "0" = true) : ∃ r, a.cps.toList = 48 :: r := by
  have h1 := (starts0_iff a).mp h
  cases e : a.cps.toList with
  | nil =>
    rw [e] at h1
    cases h1
  | cons c r =>
    rw [e] at h1
    cases h1
    exact ⟨r, rfl⟩
theorem numT_num {n : Int} (h1 : 1 ≤ n) (h2 : n ≤ 999999999) : numT (numS n) = some n := by
  obtain ⟨m, rfl⟩ : ∃ m : Nat, n = (m : Int) := ⟨n.toNat, by omega⟩
  have ec := numS_codes m
  have hd := TL.numL_digits m
  have hl : (numS (m : Int)).length ≤ 9 := by
    show (numS (m : Int)).cps.toList.length ≤ 9
    rw [ec]
    exact TL.numL_len (by decide) (by omega)
  have dig : ∀ c ∈ (numS (m : Int)).cps.toList, 48 ≤ c ∧ c ≤ 57 := by
    rw [ec]
    exact hd
  have a1 : Txt.isascii (numS (m : Int)) = true := by
    unfold Txt.isascii
    rw [Array.all_eq_true]
    intro i hi
    have := dig _ (List.mem_iff_getElem?.mpr ⟨i, by rw [Array.getElem?_toList]; exact Array.getElem?_eq_getElem hi⟩)
    exact decide_eq_true (by omega)
  have a2 : Txt.isdigit (numS (m : Int)) = true := by
    unfold Txt.isdigit
    rw [Bool.and_eq_true]
    refine ⟨decide_eq_true ?_, ?_⟩
    · show (numS (m : Int)).cps.toList.length > 0
      rw [ec]
      exact List.length_pos_iff.mpr (TL.numL_ne m)
    · rw [Array.all_eq_true]
      intro i hi
      have := dig _ (List.mem_iff_getElem?.mpr ⟨i, by rw [Array.getElem?_toList]; exact Array.getElem?_eq_getElem hi⟩)
      rw [PyProof.Rows.cls_isdigit _ (by omega)]
      unfold PyProof.Rows.inR
      rw [Bool.and_eq_true, Bool.not_eq_true', Bool.not_eq_true']
      constructor
      · show Spec.ltCps [_] [48] = false
        unfold Spec.ltCps
        simp [Spec.ltCps]
        omega
      · show Spec.ltCps [57] [_] = false
        unfold Spec.ltCps
        simp [Spec.ltCps]
        omega
  have a3 : Txt.startswith (numS (m : Int)) "0" = false := by
    cases e : Txt.startswith (numS (m : Int)) "0" with
    | false => rfl
    | true =>
      obtain ⟨r, e1⟩ := starts0 _ e
      obtain ⟨c, r2, e2, hc⟩ := numL_first m m (Nat.le_refl _) (by omega)
      rw [ec, e2] at e1
      have := (List.cons.inj e1).1
      omega
  unfold numT
  rw [a1, a2, if_pos (show (true && true) = true from rfl), a3, decide_eq_false (show ¬ 9 < (numS (m : Int)).length by omega), if_neg (by decide)]
  exact PySem.W.KIN.num_reads (by omega) (by omega)
theorem word_free {a : Str} (h : wordB a = true) : (¬ 32 ∈ a.cps.toList) ∧ (¬ 10 ∈ a.cps.toList) := by
  have key : ∀ c ∈ a.cps.toList, 32 < c := fun c hc => by
    have := wordB_signs h c hc
    unfold signB at this
    rw [Bool.or_eq_true, Bool.and_eq_true, Bool.and_eq_true, Bool.not_eq_true', Bool.not_eq_true', Bool.not_eq_true', Bool.not_eq_true'] at this
    rcases this with ⟨h, _⟩ | ⟨h, _⟩
    · have := of_decide_eq_false h
      omega
    · have := of_decide_eq_false h
      omega
  exact ⟨fun z => by have := key _ z; omega, fun z => by have := key _ z; omega⟩
theorem num_free {n : Int} (h1 : 1 ≤ n) : (¬ 32 ∈ (numS n).cps.toList) ∧ (¬ 10 ∈ (numS n).cps.toList) := by
  obtain ⟨m, rfl⟩ : ∃ m : Nat, n = (m : Int) := ⟨n.toNat, by omega⟩
  rw [numS_codes]
  exact ⟨TL.numL_free (by decide), TL.numL_free (by decide)⟩
theorem blk_numN {r : RowD} (h : RowOk r) (hk : r.kind ∈ blockK) : 1 ≤ r.num ∧ r.num ≤ 999999999 := by
  have := h.num
  unfold numB at this
  rw [inV_strs, decide_eq_true hk, if_pos rfl, Bool.and_eq_true] at this
  exact ⟨of_decide_eq_true this.1, of_decide_eq_true this.2⟩
theorem pieces_free {r : RowD} (h : RowOk r) : ∀ p ∈ piecesR r, (¬ 32 ∈ p.cps.toList) ∧ (¬ 10 ∈ p.cps.toList) := fun p hp => by
  have hs := sign_free _ h.kind
  unfold piecesR at hp
  split at hp
  · next hk =>
    rcases List.mem_cons.mp hp with rfl | hp
    · exact ⟨hs.1, hs.2.1⟩
    · rcases List.mem_cons.mp hp with rfl | hp
      · exact num_free (blk_numN h hk).1
      · exact word_free (h.words p hp)
  · rcases List.mem_cons.mp hp with rfl | hp
    · exact ⟨hs.1, hs.2.1⟩
    · exact word_free (h.words p hp)
theorem split_line {r : RowD} (h : RowOk r) : Txt.split (lineR r) " " = piecesR r := by
  refine TL.split_join (s := 32) (S := []) (by decide +kernel) (by decide +kernel) ?_ fun p hp => (pieces_free h p hp).1
  unfold piecesR
  split <;> exact List.cons_ne_nil _ _
theorem wsT_ok {r : RowD} (h : RowOk r) : wsT r.ws = true := by
  unfold wsT
  rw [Bool.and_eq_true]
  refine ⟨?_, List.all_eq_true.mpr h.words⟩
  cases e : r.ws with
  | nil => exact absurd e h.some
  | cons a l => rfl
theorem rdRow_line {r : RowD} (h : RowOk r) : rdRow (lineR r) = some r := by
  unfold rdRow
  rw [split_line h]
  have hk := (kindK_sign _ h.kind).1
  have hw := wsT_ok h
  unfold piecesR
  by_cases hb : r.kind ∈ blockK
  · obtain ⟨n1, n2⟩ := blk_numN h hb
    rw [if_pos hb]
    dsimp only
    rw [hk]
    dsimp only
    rw [if_pos hb, numT_num n1 n2]
    dsimp only
    rw [if_pos hw]
  · rw [if_neg hb]
    dsimp only
    rw [hk]
    dsimp only
    rw [if_neg hb, if_pos hw]
    have h0 : r.num = 0 := by
      have := h.num
      unfold numB at this
      rw [inV_strs, decide_eq_false hb, if_neg Bool.false_ne_true] at this
      have := of_decide_eq_true this
      exact V.int.inj this
    rw [← h0]
/-- the text of a telling -/
def textR (rs : List RowD) : Str := Txt.join "\n" (rs.map lineR)
def rdAll (a : Str) : List (Option RowD) := if a = ("" : Str) then [] else (Txt.split a "\n").map rdRow
/-! ### rows written, a telling read -/
theorem num_len {n : Int} (h1 : 1 ≤ n) (h2 : n ≤ 999999999) : (numS n).length ≤ 9 := by
  obtain ⟨m, rfl⟩ : ∃ m : Nat, n = (m : Int) := ⟨n.toNat, by omega⟩
  show (numS (m : Int)).cps.toList.length ≤ 9
  rw [numS_codes]
  exact TL.numL_len (by decide) (by omega)
theorem pieces_sum {r : RowD} (h : RowOk r) : ((piecesR r).map (·.length)).sum ≤ 10 + 40 * r.ws.length ∧ (piecesR r).length ≤ 2 + r.ws.length := by
  have hs := (kindK_sign _ h.kind).2
  have hw := sum_len h.words
  unfold piecesR
  split
  · next hb =>
    obtain ⟨n1, n2⟩ := blk_numN h hb
    have := num_len n1 n2
    rw [List.map_cons, List.map_cons, List.sum_cons, List.sum_cons, hs, List.length_cons, List.length_cons]
    omega
  · rw [List.map_cons, List.sum_cons, hs, List.length_cons]
    omega
theorem lineR_len {r : RowD} (h : RowOk r) : (lineR r).length ≤ 12 + 41 * r.ws.length := by
  obtain ⟨h1, h2⟩ := pieces_sum h
  have h3 := join_le " " (piecesR r)
  rw [show (" " : Str).length = 1 by decide +kernel] at h3
  unfold lineR
  omega
section
variable {P : Program} {w : World} {K : PySem.W.Frag} {mg : Str → Option Value} {base : Heap}
theorem scWrittenRow : FnScope ["row", "kind", "number", "words"] ["row"] (defScope sWrittenRow) := ⟨rfl, rfl, rfl, by decide +kernel, rfl, by decide +kernel, by decide +kernel⟩
theorem scWritten : FnScope ["rows", "row"] ["rows"] (defScope sWritten) := ⟨rfl, rfl, rfl, by decide +kernel, rfl, by decide +kernel, by decide +kernel⟩
def spWrittenRow (K : PySem.W.Frag) : Sp := fun vs H Q _ => ∃ (v : V) (r : RowD), vs = [v] ∧ RowAt K H v r ∧ RowOk r ∧ r.ws.length ≤ 1000 ∧ ∀ H', Same H H' → Q (.str (lineR r)) H'
theorem ok_written_row {aS aB f : Addr} {fd : FuncData} (F : FnP K "written_row" sWrittenRow f fd) (mS : mg "SIGNS" = some (.ref aS)) (kS : ∀ k ∈ plainK ++ blockK, KDct K w aS k (.str (signK k))) (mB : mg "BLOCK_KINDS" = some (.ref aB)) (kB : KTup K aB blockK) (mT : mg "str" = none) : FnOk P w K mg base (L2.CX P w) 1 f fd ["row"] (spWrittenRow K) := by
  refine F.ok scWrittenRow (fun vs H Q E h => ?_) (fun cdv A outer s H vs Q E hr h => ?_)
  · obtain ⟨v, r, rfl, _⟩ := h
    rfl
  · obtain ⟨v, r, rfl, ⟨T, W, rfl, hT, hW⟩, ok, hl, q⟩ := h
    refine ⟨_, pss_cons (ps_asg (pv 0) (pg_tup (by rfl) (pgs_cons (pg_name (i := 1) scWrittenRow.nd rfl (.inl rfl)) (pgs_cons (pg_name (i := 2) scWrittenRow.nd rfl (.inl rfl)) (pgs_cons (pg_name (i := 3) scWrittenRow.nd rfl (.inl rfl)) pgs_nil)))))
      (pss_cons (ps_if (pt_cmpR op_in_seq (pv 1) (pe_glob (v := .ref aB) (by rfl) mB rfl) (by rfl))
        (pss_one (ps_ret (pe_join pe_str (pe_lst (pa_cons (pe_ix (r := rIxD K w) ix_kdict (pe_glob (v := .ref aS) (by rfl) mS rfl) (pv 1) (fun _ _ => rfl)) (pa_cons (pe_callTy call_str_int (by rfl) mT (by decide +kernel) (pa_cons (pv 2) pa_nil)) (StX.pa_star (pv 3) pa_nil))))))) pss_nil)
      (pss_one (ps_ret (pe_join pe_str (pe_lst (pa_cons (pe_ix (r := rIxD K w) ix_kdict (pe_glob (v := .ref aS) (by rfl) mS rfl) (pv 1) (fun _ _ => rfl)) (StX.pa_star (pv 3) pa_nil))))))), ?_⟩
    refine ⟨_, rfl, T, _, rfl, hT, rfl, _, _, rfl, _, _, rfl, _, _, rfl, rfl, ?_⟩
    refine ⟨_, rfl, aB, blockK.map V.str, rfl, .inr (kB H), rfl, flat_strs _, _, rfl, ?_⟩
    show if inV (.str r.kind) (blockK.map V.str) = true then _ else _
    obtain ⟨p1, p2⟩ := pieces_sum ok
    have e1 : (" " : Str).length = 1 := by decide +kernel
    rw [inV_strs]
    by_cases hb : r.kind ∈ blockK
    · rw [decide_eq_true hb]
      obtain ⟨n1, n2⟩ := blk_numN ok hb
      have eP : piecesR r = signK r.kind :: numS r.num :: r.ws := if_pos hb
      have eL : lineR r = Txt.join " " (signK r.kind :: numS r.num :: r.ws) := by
        unfold lineR
        rw [eP]
      rw [eL] at q
      rw [eP] at p1 p2
      refine iteT ⟨⟨_, rfl⟩, _, rfl, aS, r.kind, _, rfl, rfl, kS _ ok.kind, _, rfl, r.num, rfl, log_small (by omega), _, rfl, W, _, rfl, .inl hW, ?_, fun L nL => ?_⟩
      · show (V.str (signK r.kind) :: V.str (numS r.num) :: (r.ws.map V.str ++ [])).length ≤ sizeLine
        rw [List.append_nil, List.length_cons, List.length_cons, List.length_map]
        exact small_line (by omega)
      · refine ⟨_, L, signK r.kind :: numS r.num :: r.ws, rfl, rfl, .inl (.inl (.inl ?_)), ?_, q _ (same_upd nL)⟩
        · rw [upd_same]
          show some (HO.lst (V.str (signK r.kind) :: V.str (numS r.num) :: (r.ws.map V.str ++ []))) = _
          rw [List.append_nil]
          rfl
        · rw [e1]
          omega
    · rw [decide_eq_false hb]
      have eP : piecesR r = signK r.kind :: r.ws := if_neg hb
      have eL : lineR r = Txt.join " " (signK r.kind :: r.ws) := by
        unfold lineR
        rw [eP]
      rw [eL] at q
      rw [eP] at p1 p2
      refine iteF ⟨⟨_, rfl⟩, _, rfl, aS, r.kind, _, rfl, rfl, kS _ ok.kind, _, rfl, W, _, rfl, .inl hW, ?_, fun L nL => ?_⟩
      · show (V.str (signK r.kind) :: (r.ws.map V.str ++ [])).length ≤ sizeLine
        rw [List.append_nil, List.length_cons, List.length_map]
        exact small_line (by omega)
      · refine ⟨_, L, signK r.kind :: r.ws, rfl, rfl, .inl (.inl (.inl ?_)), ?_, q _ (same_upd nL)⟩
        · rw [upd_same]
          show some (HO.lst (V.str (signK r.kind) :: (r.ws.map V.str ++ []))) = _
          rw [List.append_nil]
          rfl
        · rw [e1]
          omega
def spWritten (K : PySem.W.Frag) (Ps : List Addr) : Sp := fun vs H Q _ => ∃ (p : Addr) (xs : List V) (rs : List RowD), vs = [.ref p] ∧ SqL K H p xs ∧ RowsAt K H xs rs ∧ (∀ r ∈ rs, RowOk r ∧ r.ws.length ≤ 1000) ∧ rs.length ≤ 100 ∧ Tb Ps H ∧ ∀ H', Kp Ps H H' → Q (.str (textR rs)) H'
theorem ok_written {Ps : List Addr} {f fC fR : Addr} {fd fdC fdR : FuncData} (F : FnP K "written" sWritten f fd)
    (GC : FnOk P w K mg base (L2.CX P w) 7 fC fdC ["rows"] (spCheckRows K Ps)) (kC : PySem.W.keepIn K (.ref fC) = true) (bC : Binds K fdC ["rows"] []) (gC : mg "check_rows" = some (.ref fC))
    (GR : FnOk P w K mg base (L2.CX P w) 1 fR fdR ["row"] (spWrittenRow K)) (kR : PySem.W.keepIn K (.ref fR) = true) (bR : Binds K fdR ["row"] []) (gR : mg "written_row" = some (.ref fR)) : FnOk P w K mg base (L2.CX P w) 8 f fd ["rows"] (spWritten K Ps) := by
  refine F.ok scWritten (fun vs H Q E h => ?_) (fun cdv A outer s H vs Q E hr h => ?_)
  · obtain ⟨p, xs, rs, rfl, _⟩ := h
    rfl
  · obtain ⟨p, xs, rs, rfl, hp, hR, hok, hl, ht, q⟩ := h
    have r1 : Room 1 (A.deeper (envOfC "written" (defScope sWritten) s.heap.objs.size f cdv)) := hr.mono (by decide)
    refine ⟨_, pss_cons (ps_expr (pe_call GC hr (by rfl) gC kC bC .nil passL (pa_cons (pv 0) pa_nil)))
      (pss_one (ps_ret (pe_join pe_str (pe_lc (own := [("row", 1)]) (g := gName 1) (tt := tYes) rfl scWritten.nd (pi_list (pv 0)) (blkOk_by (N := ["rows", "row"]) (sc := defScope sWritten) (by decide +kernel))
        (fun _ _ _ _ _ => pg_name (i := 1) scWritten.nd rfl (Or.inl rfl)) (fun _ _ _ _ _ => pts_nil) (fun _ _ _ _ _ => pe_call GR r1 (by rfl) gR kR bR .nil passL (pa_cons (pv 1) pa_nil)))))), ?_⟩
    refine ⟨_, rfl, p, xs, rs, rfl, hp, hR, fun r hr => (hok r hr).1, ht, fun H1 k1 => ?_⟩
    have hp1 := k1.seq ht hp
    have hR1 := hR.kp ht k1
    refine ⟨⟨_, rfl⟩, _, rfl, p, rfl, ⟨_, hp1⟩, fun D nD => ?_⟩
    refine lc_list (K := K) (a := p) (xs := xs) (fun i H' => Same H1 H' ∧ H' D = some (.lst (((rs.take i).map lineR).map V.str))) ⟨same_upd nD, upd_same⟩ (fun i H' _ hp => hp.1.seq hp1) (fun i x H' hx hp => ?_) (fun H2 hp => ?_)
    · obtain ⟨sm, hD⟩ := hp
      obtain ⟨r, hr1, hr2⟩ := hR1.2 i x hx
      have ok := hok r (List.mem_of_getElem? hr1)
      refine ⟨rfl, yesT ?_⟩
      refine ⟨_, rfl, x, r, rfl, hr2.same sm, ok.1, ok.2, fun H3 s3 => ⟨_, s3 _ _ hD, ?_, fun b o e => ?_, ?_⟩⟩
      · rw [List.length_map, List.length_map, List.length_take]
        exact Nat.lt_of_le_of_lt (show _ ≤ 100 by omega) (by decide)
      · rw [upd_ne (ne_of_none e nD)]
        exact s3 b o (sm b o e)
      · rw [upd_same, take_snoc hr1, List.map_append, List.map_append]
        rfl
    · obtain ⟨sm, hD⟩ := hp
      rw [List.take_of_length_le (by rw [hR.1]; exact Nat.le_refl _)] at hD
      refine ⟨_, D, rs.map lineR, rfl, rfl, .inl (.inl (.inl hD)), ?_, q H2 (k1.trans (Kp.same k1.1 sm))⟩
      have e1 : ("\n" : Str).length = 1 := by decide +kernel
      have key : ∀ l : List RowD, (∀ r ∈ l, RowOk r ∧ r.ws.length ≤ 1000) → ((l.map lineR).map (·.length)).sum ≤ 42000 * l.length := fun l => by
        induction l with
        | nil => exact fun _ => Nat.le_refl _
        | cons a r ih =>
          intro h
          have h1 := ih fun x hx => h x (List.mem_cons_of_mem _ hx)
          obtain ⟨h2, h3⟩ := h a List.mem_cons_self
          have h4 := lineR_len h2
          rw [List.map_cons, List.map_cons, List.sum_cons, List.length_cons]
          omega
      have h2 := key rs hok
      rw [e1, List.length_map]
      omega
end
/-- what isinstance asks of an own class of errors -/
def excB (K : PySem.W.Frag) (D : Addr) : Bool := He.eqO (PySem.W.findIn K (.ref D) "__getattribute__") (some (some (.builtin "BaseException.__getattribute__"))) && (He.eqO (PySem.W.findIn K (.ref D) "__getattr__") (some none) &&
  (decide (PySem.W.subIn K (.ref D) (.type "BaseException") = some true) && (PySem.W.hasDictIn K D && (He.eqO (PySem.W.findIn K (.ref D) "__class__") (some (some (.builtin "object.__class__"))) &&
  (He.eqO (PySem.W.specialIn K (.builtin "object.__class__") "__get__") (some (some (.builtin "getset_descriptor.__get__"))) && (decide (PySem.W.takesIn K (.builtin "object.__class__") = some true) && (decide (PySem.W.mroIn K D (.type "object") = some true) &&
  decide (PySem.W.kitOne K (.ref D) (.type "ValueError") = some true))))))))
theorem excB_ok {K : PySem.W.Frag} {D : Addr} (h : excB K D = true) : L2.ExcC K D ∧ PySem.W.kitOne K (.ref D) (.type "ValueError") = some true := by
  unfold excB at h
  obtain ⟨h1, h⟩ := He.ba h
  obtain ⟨h2, h⟩ := He.ba h
  obtain ⟨h3, h⟩ := He.ba h
  obtain ⟨h4, h⟩ := He.ba h
  obtain ⟨h5, h⟩ := He.ba h
  obtain ⟨h6, h⟩ := He.ba h
  obtain ⟨h7, h⟩ := He.ba h
  obtain ⟨h8, h9⟩ := He.ba h
  exact ⟨⟨He.eqO_ok h1, He.eqO_ok h2, of_decide_eq_true h3, h4, He.eqO_ok h5, He.eqO_ok h6, of_decide_eq_true h7, of_decide_eq_true h8⟩, of_decide_eq_true h9⟩
/-! ### two promises of one def -/
theorem fnOr {P : Program} {w : World} {K : PySem.W.Frag} {mg : Str → Option Value} {base : Heap} {CX : CXT} {k : Nat} {f : Addr} {fd : FuncData} {ps : List Str} {sp sp' : Sp} (F : FnOk P w K mg base CX k f fd ps sp) (G : FnOk P w K mg base CX k f fd ps sp') :
    FnOk P w K mg base CX k f fd ps (fun vs H Q E => sp vs H Q E ∨ sp' vs H Q E) :=
  ⟨fun vs H Q E q => q.elim (F.len vs H Q E) (G.len vs H Q E), fun A outer s H args us vs Q E hr he hb hv hs => hs.elim (F.run A outer s H args us vs Q E hr he hb hv) (G.run A outer s H args us vs Q E hr he hb hv)⟩
/-! ### tellings told off by cost, turned, written, with_blocks -/
/-- a good telling, handed over -/
def TellG (K : PySem.W.Frag) (H : Hp) (v : V) (rs : List RowD) : Prop := ∃ p xs, v = V.ref p ∧ SqL K H p xs ∧ RowsT K H xs rs ∧ Handed rs ∧ rs.length ≤ 100
theorem TellG.kp {K : PySem.W.Frag} {Ps : List Addr} {H H' : Hp} (t : Tb Ps H) (k : Kp Ps H H') {v : V} {rs : List RowD} (h : TellG K H v rs) : TellG K H' v rs := by
  obtain ⟨p, xs, e, h1, h2, h3, h4⟩ := h
  exact ⟨p, xs, e, k.seq t h1, h2.kp t k, h3, h4⟩
/-- no telling -/
def TellX (K : PySem.W.Frag) (H : Hp) (v : V) : Prop := ∃ o, RowsV K H v o ∧ rowsB o = false
theorem TellX.kp {K : PySem.W.Frag} {Ps : List Addr} {H H' : Hp} (t : Tb Ps H) (k : Kp Ps H H') {v : V} (h : TellX K H v) : TellX K H' v := by
  obtain ⟨o, h1, h2⟩ := h
  exact ⟨o, h1.kp t k, h2⟩
def hasBlk (rs : List RowD) : Bool := rs.any fun r => decide (r.kind ∈ blockK)
theorem hasBlk_yes {rs : List RowD} (h : hasBlk rs = true) : ∃ r ∈ rs, r.kind ∈ blockK := by
  obtain ⟨r, hr, h⟩ := List.any_eq_true.mp h
  exact ⟨r, hr, of_decide_eq_true h⟩
theorem hasBlk_no {rs : List RowD} (h : hasBlk rs = false) : ∀ r ∈ rs, ¬ r.kind ∈ blockK := fun r hr hb => by
  have : hasBlk rs = true := List.any_eq_true.mpr ⟨r, hr, decide_eq_true hb⟩
  rw [h] at this
  cases this
section
variable {P : Program} {w : World} {K : PySem.W.Frag} {mg : Str → Option Value} {base : Heap}
def spOth (K : PySem.W.Frag) (Ps : List Addr) (cR : Addr) : Sp := fun vs H Q E => ∃ v, vs = [v] ∧ Tb Ps H ∧ ((∃ rs, TellG K H v rs ∧ ∀ x H', Kp Ps H H' → Q x H') ∨ (TellX K H v ∧ ∀ H', Kp Ps H H' → E (.ref cR) none H'))
def spOthB (K : PySem.W.Frag) (Ps : List Addr) (cR : Addr) : Sp := fun vs H Q E => ∃ v, vs = [v] ∧ Tb Ps H ∧ ((∃ rs, TellG K H v rs ∧ (hasBlk rs = false → ∀ x H', Kp Ps H H' → Q x H') ∧ (hasBlk rs = true → ∀ H', Kp Ps H H' → E (.ref cR) none H')) ∨ (TellX K H v ∧ ∀ H', Kp Ps H H' → E (.ref cR) none H'))
theorem oth_cost {Ps : List Addr} {cR f : Addr} {fd : FuncData} {k : Nat} {ps : List Str} (G : FnOk P w K mg base (L2.CX P w) k f fd ps (spCost K Ps)) (B : FnOk P w K mg base (L2.CX P w) k f fd ps (spCostX K Ps cR)) : FnOk P w K mg base (L2.CX P w) k f fd ps (spOth K Ps cR) :=
  (fnOr G B).imp fun vs H Q E ⟨v, e, ht, h⟩ => by
    rcases h with ⟨rs, ⟨p, xs, rfl, h1, h2, h3, h4⟩, q⟩ | ⟨⟨o, h1, h2⟩, x⟩
    · exact .inl ⟨p, xs, rs, e, h1, h2.at, h3.ok, ht, fun H' k => q _ H' k⟩
    · exact .inr ⟨v, o, e, h1, h2, ht, x⟩
theorem oth_turned {Ps : List Addr} {cR f : Addr} {fd : FuncData} {k : Nat} {ps : List Str} (G : FnOk P w K mg base (L2.CX P w) k f fd ps (spTurned K Ps)) (B : FnOk P w K mg base (L2.CX P w) k f fd ps (spCostX K Ps cR)) : FnOk P w K mg base (L2.CX P w) k f fd ps (spOth K Ps cR) :=
  (fnOr G B).imp fun vs H Q E ⟨v, e, ht, h⟩ => by
    rcases h with ⟨rs, ⟨p, xs, rfl, h1, h2, h3, h4⟩, q⟩ | ⟨⟨o, h1, h2⟩, x⟩
    · exact .inl ⟨p, xs, rs, e, h1, h2.at, h3.ok, by have := h2.1; omega, ht, fun H' r ys k _ _ _ => q _ H' k⟩
    · exact .inr ⟨v, o, e, h1, h2, ht, x⟩
theorem oth_written {Ps : List Addr} {cR f : Addr} {fd : FuncData} {k : Nat} {ps : List Str} (G : FnOk P w K mg base (L2.CX P w) k f fd ps (spWritten K Ps)) (B : FnOk P w K mg base (L2.CX P w) k f fd ps (spCostX K Ps cR)) : FnOk P w K mg base (L2.CX P w) k f fd ps (spOth K Ps cR) :=
  (fnOr G B).imp fun vs H Q E ⟨v, e, ht, h⟩ => by
    rcases h with ⟨rs, ⟨p, xs, rfl, h1, h2, h3, h4⟩, q⟩ | ⟨⟨o, h1, h2⟩, x⟩
    · exact .inl ⟨p, xs, rs, e, h1, h2.at, fun r hr => ⟨h3.ok r hr, Nat.le_trans (wlen_mem hr) h3.tot⟩, h4, ht, fun H' k => q _ H' k⟩
    · exact .inr ⟨v, o, e, h1, h2, ht, x⟩
theorem oth_blocks {Ps : List Addr} {cR f : Addr} {fd : FuncData} {k : Nat} {ps : List Str} (G : FnOk P w K mg base (L2.CX P w) k f fd ps (spWithBlocks K Ps cR)) (B : FnOk P w K mg base (L2.CX P w) k f fd ps (spCostX K Ps cR)) : FnOk P w K mg base (L2.CX P w) k f fd ps (spOthB K Ps cR) :=
  (fnOr G B).imp fun vs H Q E ⟨v, e, ht, h⟩ => by
    rcases h with ⟨rs, ⟨p, xs, rfl, h1, h2, h3, h4⟩, q, y⟩ | ⟨⟨o, h1, h2⟩, x⟩
    · left
      refine ⟨p, xs, rs, e, h1, h2, h3, ht, fun no H' D us rs' k _ _ _ _ _ => ?_, fun ⟨r, hr, hb⟩ => ?_⟩
      · cases hb : hasBlk rs with
        | false => exact q hb _ H' k
        | true =>
          obtain ⟨r, hr, h⟩ := hasBlk_yes hb
          exact absurd h (no r hr)
      · cases hc : hasBlk rs with
        | true => exact y hc
        | false => exact absurd hb (hasBlk_no hc r hr)
    · exact .inr ⟨v, o, e, h1, h2, ht, x⟩
theorem ok_no_blocksX {Ps : List Addr} {cR f fC : Addr} {fd fdC : FuncData} (F : FnP K "check_no_blocks" sCheckNoBlocks f fd) (GC : FnOk P w K mg base (L2.CX P w) 7 fC fdC ["rows"] (spCheckRowsX K Ps cR)) (kC : PySem.W.keepIn K (.ref fC) = true) (bC : Binds K fdC ["rows"] []) (gC : mg "check_rows" = some (.ref fC)) :
    FnOk P w K mg base (L2.CX P w) 8 f fd ["rows"] (spCostX K Ps cR) := by
  refine F.ok scNoBlocks (fun vs H Q E h => ?_) (fun cdv A outer s H vs Q E hr h => ?_)
  · obtain ⟨v, o, rfl, _⟩ := h
    rfl
  · obtain ⟨v, o, rfl, h1, h2, ht, e⟩ := h
    exact ⟨_, pss_cons (ps_expr (pe_callS GC hr (by rfl) gC kC bC (fun σ => passAt (takes_of rfl rfl rfl rfl) σ) (pa_cons (pv 0) pa_nil))) pss_never, ⟨_, rfl, v, o, rfl, h1, ht, (fun z => absurd (h2.symm.trans z) Bool.false_ne_true), fun _ H1 k1 => e H1 k1⟩⟩
theorem ok_with_blocksX {Ps : List Addr} {cR f fC : Addr} {fd fdC : FuncData} (F : FnP K "with_blocks" sWithBlocks f fd) (GC : FnOk P w K mg base (L2.CX P w) 8 fC fdC ["rows"] (spCostX K Ps cR)) (kC : PySem.W.keepIn K (.ref fC) = true) (bC : Binds K fdC ["rows"] []) (gC : mg "check_no_blocks" = some (.ref fC)) :
    FnOk P w K mg base (L2.CX P w) 9 f fd ["rows"] (spCostX K Ps cR) := by
  refine F.ok scWithBlocks (fun vs H Q E h => ?_) (fun cdv A outer s H vs Q E hr h => ?_)
  · obtain ⟨v, o, rfl, _⟩ := h
    rfl
  · obtain ⟨v, o, rfl, h1, h2, ht, e⟩ := h
    exact ⟨_, pss_cons (ps_expr (pe_callS GC hr (by rfl) gC kC bC (fun σ => passAt (takes_of rfl rfl rfl rfl) σ) (pa_cons (pv 0) pa_nil))) pss_never, ⟨_, rfl, v, o, rfl, h1, h2, ht, e⟩⟩
theorem ok_writtenX {Ps : List Addr} {cR f fC : Addr} {fd fdC : FuncData} (F : FnP K "written" sWritten f fd) (GC : FnOk P w K mg base (L2.CX P w) 7 fC fdC ["rows"] (spCheckRowsX K Ps cR)) (kC : PySem.W.keepIn K (.ref fC) = true) (bC : Binds K fdC ["rows"] []) (gC : mg "check_rows" = some (.ref fC)) :
    FnOk P w K mg base (L2.CX P w) 8 f fd ["rows"] (spCostX K Ps cR) := by
  refine F.ok scWritten (fun vs H Q E h => ?_) (fun cdv A outer s H vs Q E hr h => ?_)
  · obtain ⟨v, o, rfl, _⟩ := h
    rfl
  · obtain ⟨v, o, rfl, h1, h2, ht, e⟩ := h
    exact ⟨_, pss_cons (ps_expr (pe_callS GC hr (by rfl) gC kC bC (fun σ => passAt (takes_of rfl rfl rfl rfl) σ) (pa_cons (pv 0) pa_nil))) pss_never, ⟨_, rfl, v, o, rfl, h1, ht, (fun z => absurd (h2.symm.trans z) Bool.false_ne_true), fun _ H1 k1 => e H1 k1⟩⟩
/-! #### the law: others -/
theorem scOthers : FnScope ["_law_rows", "_law_told_off"] ["_law_rows"] (defScope sOthers) := ⟨rfl, rfl, rfl, by decide +kernel, rfl, by decide +kernel, by decide +kernel⟩
def spOthers (K : PySem.W.Frag) (Ps : List Addr) : Sp := fun vs H Q _ => ∃ v, vs = [v] ∧ Tb Ps H ∧ ((∃ rs, TellG K H v rs ∧ ∀ H', Kp Ps H H' → Q (.int (if hasBlk rs = true then 1 else 0)) H') ∨ (TellX K H v ∧ ∀ H', Kp Ps H H' → Q (.int 4) H'))
theorem ok_others {Ps : List Addr} {cR f fC fT fN fW : Addr} {fd fdC fdT fdN fdW : FuncData} (F : FnP K "_law_others" sOthers f fd)
    (GC : FnOk P w K mg base (L2.CX P w) 8 fC fdC ["rows"] (spOth K Ps cR)) (kC : PySem.W.keepIn K (.ref fC) = true) (bC : Binds K fdC ["rows"] []) (gC : mg "cost" = some (.ref fC))
    (GT : FnOk P w K mg base (L2.CX P w) 8 fT fdT ["rows"] (spOth K Ps cR)) (kT : PySem.W.keepIn K (.ref fT) = true) (bT : Binds K fdT ["rows"] []) (gT : mg "turned" = some (.ref fT))
    (GN : FnOk P w K mg base (L2.CX P w) 8 fN fdN ["rows"] (spOth K Ps cR)) (kN : PySem.W.keepIn K (.ref fN) = true) (bN : Binds K fdN ["rows"] []) (gN : mg "written" = some (.ref fN))
    (GW : FnOk P w K mg base (L2.CX P w) 9 fW fdW ["rows"] (spOthB K Ps cR)) (kW : PySem.W.keepIn K (.ref fW) = true) (bW : Binds K fdW ["rows"] []) (gW : mg "with_blocks" = some (.ref fW))
    (mR : mg "NoRow" = some (.ref cR)) (xR : PySem.W.exmOne K (.ref cR) (.ref cR) = some true) : FnOk P w K mg base (L2.CX P w) 10 f fd ["_law_rows"] (spOthers K Ps) := by
  refine F.ok scOthers (fun vs H Q E h => ?_) (fun cdv A outer s H vs Q E hr h => ?_)
  · obtain ⟨v, rfl, _⟩ := h
    rfl
  · obtain ⟨v, rfl, ht, h⟩ := h
    refine ⟨_, pss_cons (ps_set (i := 1) scOthers.nd rfl (.inl rfl) pe_int)
      (pss_cut (ps_try_only (c := .ref cR) (Wout := fun cls d _ H => E cls d H) rfl rfl ⟨by rfl, by decide +kernel, .inl mR⟩ (takes_of rfl rfl rfl rfl)
        (fun W pn xe tk _ => pss_one (ps_expr (pe_callS (E := WE W) GC (hr.mono (by decide)) (by rfl) gC kC bC (fun σ => passAt tk σ) (pa_cons (pv 0) pa_nil))))
        (fun a oe cls d pn _ _ => pss_one (ps_set (i := 1) scOthers.nd rfl (.inl rfl) (pe_op op_add (pv 1) pe_int))))
      (pss_cut (ps_try_only (c := .ref cR) (Wout := fun cls d _ H => E cls d H) rfl rfl ⟨by rfl, by decide +kernel, .inl mR⟩ (takes_of rfl rfl rfl rfl)
        (fun W pn xe tk _ => pss_one (ps_expr (pe_callS (E := WE W) GT (hr.mono (by decide)) (by rfl) gT kT bT (fun σ => passAt tk σ) (pa_cons (pv 0) pa_nil))))
        (fun a oe cls d pn _ _ => pss_one (ps_set (i := 1) scOthers.nd rfl (.inl rfl) (pe_op op_add (pv 1) pe_int))))
      (pss_cut (ps_try_only (c := .ref cR) (Wout := fun cls d _ H => E cls d H) rfl rfl ⟨by rfl, by decide +kernel, .inl mR⟩ (takes_of rfl rfl rfl rfl)
        (fun W pn xe tk _ => pss_one (ps_expr (pe_callS (E := WE W) GN (hr.mono (by decide)) (by rfl) gN kN bN (fun σ => passAt tk σ) (pa_cons (pv 0) pa_nil))))
        (fun a oe cls d pn _ _ => pss_one (ps_set (i := 1) scOthers.nd rfl (.inl rfl) (pe_op op_add (pv 1) pe_int))))
      (pss_cut (ps_try_only (c := .ref cR) (Wout := fun cls d _ H => E cls d H) rfl rfl ⟨by rfl, by decide +kernel, .inl mR⟩ (takes_of rfl rfl rfl rfl)
        (fun W pn xe tk _ => pss_one (ps_expr (pe_callS (E := WE W) GW hr (by rfl) gW kW bW (fun σ => passAt tk σ) (pa_cons (pv 0) pa_nil))))
        (fun a oe cls d pn _ _ => pss_one (ps_set (i := 1) scOthers.nd rfl (.inl rfl) (pe_op op_add (pv 1) pe_int))))
      (pss_one (ps_ret (pv 1))))))), ?_⟩
    rcases h with ⟨rs, hG, q⟩ | ⟨hX, q⟩
    · refine ⟨fun σ' H' => σ' = [some v, some (.int 0)] ∧ Kp Ps H H', ⟨_, rfl, v, rfl, ht, .inl ⟨rs, hG, fun x H' k => ⟨rfl, k⟩⟩⟩, fun σ1 H1 hM => ?_⟩
      obtain ⟨rfl, k1⟩ := hM
      refine ⟨fun σ' H' => σ' = [some v, some (.int 0)] ∧ Kp Ps H H', ⟨_, rfl, v, rfl, k1.1, .inl ⟨rs, hG.kp ht k1, fun x H' k => ⟨rfl, k1.trans k⟩⟩⟩, fun σ2 H2 hM => ?_⟩
      obtain ⟨rfl, k2⟩ := hM
      refine ⟨fun σ' H' => σ' = [some v, some (.int 0)] ∧ Kp Ps H H', ⟨_, rfl, v, rfl, k2.1, .inl ⟨rs, hG.kp ht k2, fun x H' k => ⟨rfl, k2.trans k⟩⟩⟩, fun σ3 H3 hM => ?_⟩
      obtain ⟨rfl, k3⟩ := hM
      refine ⟨fun σ' H' => σ' = [some v, some (.int (if hasBlk rs = true then 1 else 0))] ∧ Kp Ps H H', ⟨_, rfl, v, rfl, k3.1, .inl ⟨rs, hG.kp ht k3, fun hb x H' k => ?_, fun hb H' k => ⟨true, xR, fun _ b nb => ⟨_, rfl, _, _, rfl, rfl, ?_⟩, fun z => by cases z⟩⟩⟩, fun σ4 H4 hM => ?_⟩
      · rw [hb]
        exact ⟨rfl, k3.trans k⟩
      · rw [hb]
        exact ⟨rfl, k3.trans k⟩
      · obtain ⟨rfl, k4⟩ := hM
        exact ⟨_, rfl, q H4 k4⟩
    · refine ⟨fun σ' H' => σ' = [some v, some (.int 1)] ∧ Kp Ps H H', ⟨_, rfl, v, rfl, ht, .inr ⟨hX, fun H' k => ⟨true, xR, fun _ b nb => ⟨_, rfl, _, _, rfl, rfl, rfl, k⟩, fun z => by cases z⟩⟩⟩, fun σ1 H1 hM => ?_⟩
      obtain ⟨rfl, k1⟩ := hM
      refine ⟨fun σ' H' => σ' = [some v, some (.int 2)] ∧ Kp Ps H H', ⟨_, rfl, v, rfl, k1.1, .inr ⟨hX.kp ht k1, fun H' k => ⟨true, xR, fun _ b nb => ⟨_, rfl, _, _, rfl, rfl, rfl, k1.trans k⟩, fun z => by cases z⟩⟩⟩, fun σ2 H2 hM => ?_⟩
      obtain ⟨rfl, k2⟩ := hM
      refine ⟨fun σ' H' => σ' = [some v, some (.int 3)] ∧ Kp Ps H H', ⟨_, rfl, v, rfl, k2.1, .inr ⟨hX.kp ht k2, fun H' k => ⟨true, xR, fun _ b nb => ⟨_, rfl, _, _, rfl, rfl, rfl, k2.trans k⟩, fun z => by cases z⟩⟩⟩, fun σ3 H3 hM => ?_⟩
      obtain ⟨rfl, k3⟩ := hM
      refine ⟨fun σ' H' => σ' = [some v, some (.int 4)] ∧ Kp Ps H H', ⟨_, rfl, v, rfl, k3.1, .inr ⟨hX.kp ht k3, fun H' k => ⟨true, xR, fun _ b nb => ⟨_, rfl, _, _, rfl, rfl, rfl, k3.trans k⟩, fun z => by cases z⟩⟩⟩, fun σ4 H4 hM => ?_⟩
      obtain ⟨rfl, k4⟩ := hM
      exact ⟨_, rfl, q H4 k4⟩
end
/-! ### the law: done, tried -/
/-- what done answers: 0 all is well, 1 no row, 2 no word, 3 no fit, 4 too long -/
def DoneD (K : PySem.W.Frag) (H : Hp) (v u : V) (d : Nat) : Prop :=
  (d = 1 ∧ TellX K H v) ∨
  (∃ p xs rs, v = V.ref p ∧ SqL K H p xs ∧ RowsAt K H xs rs ∧ (∀ r ∈ rs, RowOk r) ∧ xs.length ≤ 1000 ∧ (wordsOf oldK rs).length ≤ 10000 ∧ (wordsOf newK rs).length ≤ 1000 ∧
    ((∃ o, TextV K H u o ∧ ((wordsB o = false ∧ d = 2) ∨ (wordsB o = true ∧ shortB o = false ∧ d = 4))) ∨
     (∃ q old, u = V.ref q ∧ SqL K H q (old.map V.str) ∧ (∀ a ∈ old, wordB a = true) ∧ old.length ≤ 120 ∧ ((¬ FitO rs old ∧ d = 3) ∨ (FitO rs old ∧ ¬ (wordsOf newK rs).length ≤ 120 ∧ d = 4) ∨ (FitO rs old ∧ (wordsOf newK rs).length ≤ 120 ∧ d = 0)))))
def Ends5 (Ps : List Addr) (cR cW cF cL : Addr) (H : Hp) (Q : VK) (E : XK) (d : Nat) : Prop := (d = 0 → ∀ (x : V) (H' : Hp), Kp Ps H H' → Q x H') ∧ (d = 1 → ∀ H', Kp Ps H H' → E (.ref cR) none H') ∧ (d = 2 → ∀ H', Kp Ps H H' → E (.ref cW) none H') ∧ (d = 3 → ∀ H', Kp Ps H H' → E (.ref cF) none H') ∧ (d = 4 → ∀ H', Kp Ps H H' → E (.ref cL) none H')
def dueT (d : Nat) : Str := if d = 0 then "" else if d = 1 then "no row" else if d = 2 then "no word" else if d = 3 then "no fit" else "too long"
section
variable {P : Program} {w : World} {K : PySem.W.Frag} {mg : Str → Option Value} {base : Heap}
def spDoneD (K : PySem.W.Frag) (Ps : List Addr) (cR cW cF cL : Addr) : Sp := fun vs H Q E => ∃ v u d, vs = [v, u] ∧ DoneD K H v u d ∧ Tb Ps H ∧ Ends5 Ps cR cW cF cL H Q E d
theorem done_ask {Ps : List Addr} {cR cW cF cL f : Addr} {fd : FuncData} {k : Nat} {ps : List Str} (G : FnOk P w K mg base (L2.CX P w) k f fd ps (spDoneX K Ps cR cW cF cL)) : FnOk P w K mg base (L2.CX P w) k f fd ps (spDoneD K Ps cR cW cF cL) :=
  G.imp fun vs H Q E ⟨v, u, d, e, hD, ht, e0, e1, e2, e3, e4⟩ => by
    refine ⟨v, u, e, ht, ?_⟩
    rcases hD with ⟨rfl, o, h1, h2⟩ | ⟨p, xs, rs, rfl, hS, hR, hok, hl, hwo, hwn, h⟩
    · exact .inl ⟨o, h1, h2, e1 rfl⟩
    · refine .inr ⟨p, xs, rs, rfl, hS, hR, hok, hl, hwo, hwn, ?_⟩
      rcases h with ⟨o, h1, ⟨h2, rfl⟩ | ⟨h2, h3, rfl⟩⟩ | ⟨q, old, rfl, hq, how, hol, h⟩
      · exact .inl ⟨o, h1, .inl ⟨h2, e2 rfl⟩⟩
      · exact .inl ⟨o, h1, .inr ⟨h2, h3, e4 rfl⟩⟩
      · refine .inr ⟨q, old, rfl, hq, how, hol, ?_⟩
        rcases h with ⟨h1, rfl⟩ | ⟨h1, h2, rfl⟩ | ⟨h1, h2, rfl⟩
        · exact ⟨fun _ => e3 rfl, fun z => absurd z h1, fun z => absurd z h1⟩
        · exact ⟨fun z => absurd h1 z, fun _ _ => e4 rfl, fun _ z => absurd z h2⟩
        · exact ⟨fun z => absurd h1 z, fun _ z => absurd h2 z, fun _ _ H' D k _ _ => e0 rfl _ H' k⟩
theorem scTried : FnScope ["_law_rows", "_law_old"] ["_law_rows", "_law_old"] (defScope sTried) := ⟨rfl, rfl, rfl, by decide +kernel, rfl, by decide +kernel, by decide +kernel⟩
theorem scKinds : FnScope ["_law_rows", "_law_old", "e", "_law_kinds_here"] ["_law_rows", "_law_old"] (defScope sKinds) := ⟨rfl, rfl, rfl, by decide +kernel, rfl, by decide +kernel, by decide +kernel⟩
def spTried (K : PySem.W.Frag) (Ps : List Addr) : Sp := fun vs H Q _ => ∃ v u d, vs = [v, u] ∧ DoneD K H v u d ∧ Tb Ps H ∧ ∀ H', Kp Ps H H' → Q (.str (dueT d)) H'
theorem ok_tried {Ps : List Addr} {cR cW cF cL f fA : Addr} {fd fdA : FuncData} (F : FnP K "_law_tried" sTried f fd)
    (GA : FnOk P w K mg base (L2.CX P w) 8 fA fdA ["rows", "old"] (spDoneD K Ps cR cW cF cL)) (kA : PySem.W.keepIn K (.ref fA) = true) (bA : Binds K fdA ["rows", "old"] []) (gA : mg "done" = some (.ref fA))
    (mR : mg "NoRow" = some (.ref cR)) (mW : mg "NoWord" = some (.ref cW)) (mF : mg "NoFit" = some (.ref cF)) (mL : mg "TooLong" = some (.ref cL))
    (xRR : PySem.W.exmOne K (.ref cR) (.ref cR) = some true) (xWR : PySem.W.exmOne K (.ref cW) (.ref cR) = some false) (xWW : PySem.W.exmOne K (.ref cW) (.ref cW) = some true)
    (xFR : PySem.W.exmOne K (.ref cF) (.ref cR) = some false) (xFW : PySem.W.exmOne K (.ref cF) (.ref cW) = some false) (xFF : PySem.W.exmOne K (.ref cF) (.ref cF) = some true)
    (xLR : PySem.W.exmOne K (.ref cL) (.ref cR) = some false) (xLW : PySem.W.exmOne K (.ref cL) (.ref cW) = some false) (xLF : PySem.W.exmOne K (.ref cL) (.ref cF) = some false) (xLL : PySem.W.exmOne K (.ref cL) (.ref cL) = some true) : FnOk P w K mg base (L2.CX P w) 9 f fd ["_law_rows", "_law_old"] (spTried K Ps) := by
  refine F.ok scTried (fun vs H Q E h => ?_) (fun cdv A outer s H vs Q E hr h => ?_)
  · obtain ⟨v, u, d, rfl, _⟩ := h
    rfl
  · obtain ⟨v, u, d, rfl, hA, ht, q⟩ := h
    refine ⟨_, pss_cons (ps_try_many (Wout := fun cls d _ H => E cls d H) rfl rfl (takes_of rfl rfl rfl rfl)
        (fun W pn xe tk _ => pss_one (ps_expr (pe_callS (E := WE W) GA hr (by rfl) gA kA bA (fun σ => passAt tk σ) (pa_cons (pv 0) (pa_cons (pv 1) pa_nil)))))
        (.cons (c := .ref cR) ⟨by rfl, by decide +kernel, .inl mR⟩ (fun a oe cls d pn _ _ => pss_one (ps_ret pe_str)) (.cons (c := .ref cW) ⟨by rfl, by decide +kernel, .inl mW⟩ (fun a oe cls d pn _ _ => pss_one (ps_ret pe_str))
          (.cons (c := .ref cF) ⟨by rfl, by decide +kernel, .inl mF⟩ (fun a oe cls d pn _ _ => pss_one (ps_ret pe_str)) (.cons (c := .ref cL) ⟨by rfl, by decide +kernel, .inl mL⟩ (fun a oe cls d pn _ _ => pss_one (ps_ret pe_str)) .nil)))))
      (pss_one (ps_ret pe_str)), ?_⟩
    have key : ∀ (n : Nat) (H' : Hp), d = n → Kp Ps H H' → Q (.str (dueT n)) H' := fun n H' e k => by
      rw [← e]
      exact q H' k
    refine ⟨_, rfl, _, rfl, v, u, d, rfl, hA, ht, fun e x H' k => key 0 H' e k, fun e H' k => ⟨true, xRR, fun _ b nb => key 1 H' e k, fun z => by cases z⟩,
      fun e H' k => ⟨false, xWR, (fun z => by cases z), fun _ => ⟨true, xWW, fun _ b nb => key 2 H' e k, fun z => by cases z⟩⟩,
      fun e H' k => ⟨false, xFR, (fun z => by cases z), fun _ => ⟨false, xFW, (fun z => by cases z), fun _ => ⟨true, xFF, fun _ b nb => key 3 H' e k, fun z => by cases z⟩⟩⟩,
      fun e H' k => ⟨false, xLR, (fun z => by cases z), fun _ => ⟨false, xLW, (fun z => by cases z), fun _ => ⟨false, xLF, (fun z => by cases z), fun _ => ⟨true, xLL, fun _ b nb => key 4 H' e k, fun z => by cases z⟩⟩⟩⟩⟩
end
/-! ### the law: kinds of what done raises -/
def cls4 (cR cW cF cL : Addr) : List (Addr × Nat) := [(cR, 1), (cW, 2), (cF, 3), (cL, 4)]
def kit4 (K : PySem.W.Frag) (cR cW cF cL : Addr) : Bool := (cls4 cR cW cF cL).all fun p => (cls4 cR cW cF cL).all fun q => decide (PySem.W.kitOne K (.ref p.1) (.ref q.1) = some (decide (p.2 = q.2)))
theorem kit4_ok {K : PySem.W.Frag} {cR cW cF cL : Addr} (h : kit4 K cR cW cF cL = true) : ∀ p ∈ cls4 cR cW cF cL, ∀ q ∈ cls4 cR cW cF cL, PySem.W.kitOne K (.ref p.1) (.ref q.1) = some (decide (p.2 = q.2)) := fun p hp q hq => by
  unfold kit4 at h
  exact of_decide_eq_true (List.all_eq_true.mp (List.all_eq_true.mp h p hp) q hq)
def kindsTS (K : PySem.W.Frag) (C a cR cW cF cL : Addr) : TS :=
  tSeq (tAsg (tLst (tCons (tCB (rIsE K C a) (tCons (tVar 2) (tCons (tC (.ref cR)) tNil))) (tCons (tCB (rIsE K C a) (tCons (tVar 2) (tCons (tC (.ref cW)) tNil))) (tCons (tCB (rIsE K C a) (tCons (tVar 2) (tCons (tC (.ref cF)) tNil))) (tCons (tCB (rIsE K C a) (tCons (tVar 2) (tCons (tC (.ref cL)) tNil))) tNil))))) (gName 3))
    (tRet (tOp rCat (tVar 3) (tLst (tCons (tCB (rIsE K C a) (tCons (tVar 2) (tCons (tC (.ty "ValueError")) tNil))) tNil))))
def kindsV (d : Nat) : List V := [.bl (decide (d = 1)), .bl (decide (d = 2)), .bl (decide (d = 3)), .bl (decide (d = 4)), .bl (decide (d ≠ 0))]
section
variable {P : Program} {w : World} {K : PySem.W.Frag} {mg : Str → Option Value} {base : Heap}
def spKinds (K : PySem.W.Frag) (Ps : List Addr) : Sp := fun vs H Q _ => ∃ v u d, vs = [v, u] ∧ DoneD K H v u d ∧ Tb Ps H ∧ ∀ (H' : Hp) (D : Addr), Kp Ps H H' → H' D = some (.lst (kindsV d)) → Q (.ref D) H'
theorem ok_kinds {Ps : List Addr} {cR cW cF cL cE f fA : Addr} {fd fdA : FuncData} (F : FnP K "_law_kinds" sKinds f fd)
    (GA : FnOk P w K mg base (L2.CX P w) 8 fA fdA ["rows", "old"] (spDoneD K Ps cR cW cF cL)) (kA : PySem.W.keepIn K (.ref fA) = true) (bA : Binds K fdA ["rows", "old"] []) (gA : mg "done" = some (.ref fA))
    (mR : mg "NoRow" = some (.ref cR)) (mW : mg "NoWord" = some (.ref cW)) (mF : mg "NoFit" = some (.ref cF)) (mL : mg "TooLong" = some (.ref cL)) (mE : mg "RedraftError" = some (.ref cE))
    (xE : ∀ p ∈ cls4 cR cW cF cL, PySem.W.exmOne K (.ref p.1) (.ref cE) = some true) (kk : ∀ p ∈ cls4 cR cW cF cL, ∀ q ∈ cls4 cR cW cF cL, PySem.W.kitOne K (.ref p.1) (.ref q.1) = some (decide (p.2 = q.2)))
    (CC : ∀ p ∈ cls4 cR cW cF cL, L2.ExcC K p.1 ∧ PySem.W.kitOne K (.ref p.1) (.type "ValueError") = some true) (mI : mg "isinstance" = none) (mV : mg "ValueError" = none) : FnOk P w K mg base (L2.CX P w) 9 f fd ["_law_rows", "_law_old"] (spKinds K Ps) := by
  refine F.ok scKinds (fun vs H Q E h => ?_) (fun cdv A outer s H vs Q E hr h => ?_)
  · obtain ⟨v, u, d, rfl, _⟩ := h
    rfl
  · obtain ⟨v, u, d, rfl, hA, ht, q⟩ := h
    refine ⟨_, pss_cons (ps_try_as (i := 2) (c := .ref cE) (Wout := fun cls d _ H => E cls d H) (ts := fun a cls d D σ H => ∃ p ∈ cls4 cR cW cF cL, cls = .ref p.1 ∧ d = none ∧ kindsTS K p.1 a cR cW cF cL D σ H) rfl rfl scKinds.nd rfl rfl ⟨by rfl, by decide +kernel, .inl mE⟩ (takes_of rfl rfl rfl rfl)
        (fun W pn xe tk _ => pss_one (ps_expr (pe_callS (E := WE W) GA hr (by rfl) gA kA bA (fun σ => passAt tk σ) (pa_cons (pv 0) (pa_cons (pv 1) pa_nil)))))
        (fun a oe cls d pn hz hf => ⟨fun pins s σ H D I h => ?_⟩))
      (pss_one (ps_ret (pe_op op_rep (pe_lst (pa_cons pe_bl pa_nil)) pe_int))), ?_⟩
    · obtain ⟨p, hp, rfl, rfl, h⟩ := h
      have C := (CC p hp).1
      exact (pss_cons (ps_set (i := 3) scKinds.nd rfl (.inl rfl) (pe_lst (pa_cons (pe_callB (call_isE C hz hf) (by rfl) mI (by decide +kernel) (pa_cons (pv 2) (pa_cons (pe_glob (v := .ref cR) (by rfl) mR rfl) pa_nil)))
          (pa_cons (pe_callB (call_isE C hz hf) (by rfl) mI (by decide +kernel) (pa_cons (pv 2) (pa_cons (pe_glob (v := .ref cW) (by rfl) mW rfl) pa_nil)))
          (pa_cons (pe_callB (call_isE C hz hf) (by rfl) mI (by decide +kernel) (pa_cons (pv 2) (pa_cons (pe_glob (v := .ref cF) (by rfl) mF rfl) pa_nil)))
          (pa_cons (pe_callB (call_isE C hz hf) (by rfl) mI (by decide +kernel) (pa_cons (pv 2) (pa_cons (pe_glob (v := .ref cL) (by rfl) mL rfl) pa_nil))) pa_nil))))))
        (pss_one (ps_ret (pe_op op_cat (pv 3) (pe_lst (pa_cons (pe_callB (call_isE C hz hf) (by rfl) mI (by decide +kernel) (pa_cons (pv 2) (pa_cons (pe_bltn (v := .ty "ValueError") (by rfl) mV (by decide +kernel) rfl) pa_nil))) pa_nil)))))).run pins s σ H D I h
    · have mR4 : (cR, 1) ∈ cls4 cR cW cF cL := .head _
      have mW4 : (cW, 2) ∈ cls4 cR cW cF cL := .tail _ (.head _)
      have mF4 : (cF, 3) ∈ cls4 cR cW cF cL := .tail _ (.tail _ (.head _))
      have mL4 : (cL, 4) ∈ cls4 cR cW cF cL := .tail _ (.tail _ (.tail _ (.head _)))
      have go : ∀ p ∈ cls4 cR cW cF cL, d = p.2 → ∀ H' : Hp, Kp Ps H H' → ∃ b, PySem.W.exmOne K (.ref p.1) (.ref cE) = some b ∧ (b = true → ∀ a, H' a = none → ∃ p' ∈ cls4 cR cW cF cL, (Value.ref p.1) = .ref p'.1 ∧ (none : Option Addr) = none ∧ kindsTS K p'.1 a cR cW cF cL { nx := fun x H' => Q V.non H', rt := Q } ([some v, some u, some (.ref a), none] : L2.St) H') ∧ (b = false → E (.ref p.1) none H') := fun p hp e H' k => by
        refine ⟨true, xE p hp, fun _ a na => ⟨p, hp, rfl, rfl, ?_⟩, fun z => by cases z⟩
        refine ⟨_, rfl, .ref cR, .ref cR, _, rfl, fun u h => h, kk p hp _ mR4, _, rfl, .ref cW, .ref cW, _, rfl, fun u h => h, kk p hp _ mW4, _, rfl, .ref cF, .ref cF, _, rfl, fun u h => h, kk p hp _ mF4, _, rfl, .ref cL, .ref cL, _, rfl, fun u h => h, kk p hp _ mL4, by show 4 ≤ sizeLine; decide, fun L nL => ?_⟩
        refine ⟨_, rfl, _, rfl, .ty "ValueError", .type "ValueError", true, rfl, fun u h => h, (CC p hp).2, by show 1 ≤ sizeLine; decide, fun L2 nL2 => ?_⟩
        have u1 := same_upd nL (o := .lst [.bl (decide (p.2 = 1)), .bl (decide (p.2 = 2)), .bl (decide (p.2 = 3)), .bl (decide (p.2 = 4))])
        have u2 := same_upd nL2 (o := .lst [.bl true])
        refine ⟨L, L2, _, _, rfl, rfl, u2 _ _ upd_same, upd_same, by show 4 + 1 ≤ sizeLine; decide, fun D nD => ?_⟩
        refine q _ D (k.trans (Kp.same k.1 ((u1.trans u2).trans (same_upd nD)))) ?_
        rw [upd_same, e]
        have pos : p.2 ≠ 0 := by
          unfold cls4 at hp
          simp only [List.mem_cons, List.not_mem_nil, or_false] at hp
          rcases hp with rfl | rfl | rfl | rfl <;> (dsimp only; decide)
        unfold kindsV
        rw [show decide (p.2 ≠ 0) = true from decide_eq_true pos]
        rfl
      refine ⟨_, rfl, _, rfl, v, u, d, rfl, hA, ht, fun e x H' k => ?_, fun e H' k => go _ mR4 e H' k, fun e H' k => go _ mW4 e H' k, fun e H' k => go _ mF4 e H' k, fun e H' k => go _ mL4 e H' k⟩
      refine ⟨by show 1 ≤ sizeLine; decide, fun L nL => ⟨L, 5, _, rfl, rfl, upd_same, by decide, by decide, by decide, fun D nD => ?_⟩⟩
      refine q _ D (k.trans (Kp.same k.1 ((same_upd nL).trans (same_upd nD)))) ?_
      rw [upd_same, e]
      rfl
end
/-! ### displays of literals as data -/
mutual
theorem dpSame {K : PySem.W.Frag} {H H' : Hp} (s : Same H H') : ∀ {v : V} {d : PyData}, Dp K H v d → Dp K H' v d
  | _, _, .non => .non
  | _, _, .bl b => .bl b
  | _, _, .int i => .int i
  | _, _, .str x => .str x
  | _, _, .lst h a => .lst (s.seq h) (dpsSame s a)
  | _, _, .tup h a => .tup (sameT s h) (dpsSame s a)
theorem dpsSame {K : PySem.W.Frag} {H H' : Hp} (s : Same H H') : ∀ {vs : List V} {ds : List PyData}, DpAll K H vs ds → DpAll K H' vs ds
  | _, _, .nil => .nil
  | _, _, .cons h t => .cons (dpSame s h) (dpsSame s t)
end
theorem rdKp {H H' : Hp} (k : ∀ b o, (∀ ps, o ≠ .tbl ps) → H b = some o → H' b = some o) {a : Addr} {o : HO} (ho : ∀ ps, o ≠ .tbl ps) (h : Rd H a o) : Rd H' a o := by
  rcases h with h | ⟨ob, h⟩
  · exact .inl (k a _ ho h)
  · exact .inr ⟨ob, k a _ (fun ps z => by cases z) h⟩
theorem sqtKp {K : PySem.W.Frag} {H H' : Hp} (k : ∀ b o, (∀ ps, o ≠ .tbl ps) → H b = some o → H' b = some o) {a : Addr} {xs : List V} (h : SqT K H a xs) : SqT K H' a xs := by
  rcases h with h | h
  · exact .inl (rdKp k (fun ps z => by cases z) h)
  · exact .inr h
theorem sqlKp {K : PySem.W.Frag} {H H' : Hp} (k : ∀ b o, (∀ ps, o ≠ .tbl ps) → H b = some o → H' b = some o) {a : Addr} {xs : List V} (h : SqL K H a xs) : SqL K H' a xs := by
  rcases h with h | h
  · exact .inl (rdKp k (fun ps z => by cases z) h)
  · exact .inr h
mutual
theorem dpKp {K : PySem.W.Frag} {H H' : Hp} (k : ∀ b o, (∀ ps, o ≠ .tbl ps) → H b = some o → H' b = some o) : ∀ {v : V} {d : PyData}, Dp K H v d → Dp K H' v d
  | _, _, .non => .non
  | _, _, .bl b => .bl b
  | _, _, .int i => .int i
  | _, _, .str x => .str x
  | _, _, .lst h a => .lst (sqlKp k h) (dpsKp k a)
  | _, _, .tup h a => .tup (sqtKp k h) (dpsKp k a)
theorem dpsKp {K : PySem.W.Frag} {H H' : Hp} (k : ∀ b o, (∀ ps, o ≠ .tbl ps) → H b = some o → H' b = some o) : ∀ {vs : List V} {ds : List PyData}, DpAll K H vs ds → DpAll K H' vs ds
  | _, _, .nil => .nil
  | _, _, .cons h t => .cons (dpKp k h) (dpsKp k t)
end
theorem dps_len {K : PySem.W.Frag} {H : Hp} : ∀ {vs : List V} {ds : List PyData}, DpAll K H vs ds → vs.length = ds.length
  | _, _, .nil => rfl
  | _, _, .cons _ t => congrArg Nat.succ (dps_len t)
theorem dps_at {K : PySem.W.Frag} {H : Hp} : ∀ {vs : List V} {ds : List PyData}, DpAll K H vs ds → ∀ {i : Nat} {v : V}, vs[i]? = some v → ∃ d, ds[i]? = some d ∧ Dp K H v d
  | _, _, .nil, i, v, h => by cases h
  | _, _, .cons h t, 0, v, e => by
    cases e
    exact ⟨_, rfl, h⟩
  | _, _, .cons h t, i + 1, v, e => dps_at t (i := i) e
theorem dps_app {K : PySem.W.Frag} {H : Hp} : ∀ {vs ws : List V} {ds es : List PyData}, DpAll K H vs ds → DpAll K H ws es → DpAll K H (vs ++ ws) (ds ++ es)
  | _, _, _, _, .nil, g => g
  | _, _, _, _, .cons h t, g => .cons h (dps_app t g)
def tD (K : PySem.W.Frag) (d : PyData) : TE := fun _ H Q => ∀ (H' : Hp) (v : V), Same H H' → Dp K H' v d → Q v H'
def tDs (K : PySem.W.Frag) (ds : List PyData) : TA := fun _ H Q => ∀ (H' : Hp) (xs : List V), Same H H' → DpAll K H' xs ds → Q xs H'
section
variable {X : Cx}
theorem de_of {e : Expr} {te : TE} {d : PyData} (p : PE X e te) (h : ∀ σ H Q, tD X.K d σ H Q → te σ H Q) : PE X e (tD X.K d) := ⟨fun pins s σ H Q I q => p.run pins s σ H Q I (h σ H Q q)⟩
theorem da_of {es : List Expr} {ta : TA} {ds : List PyData} (p : PA X es ta) (h : ∀ σ H Q, tDs X.K ds σ H Q → ta σ H Q) : PA X es (tDs X.K ds) := ⟨fun pos pins s σ H Q I q => p.run pos pins s σ H Q I (h σ H Q q)⟩
theorem de_str {e : Expr} {a : Str} (p : PE X e (tC (.str a))) : PE X e (tD X.K (.str a)) := de_of p fun σ H Q q => q H _ (Same.refl _) (.str a)
theorem de_int {e : Expr} {i : Int} (p : PE X e (tC (.int i))) : PE X e (tD X.K (.int i)) := de_of p fun σ H Q q => q H _ (Same.refl _) (.int i)
theorem de_bl {e : Expr} {b : Bool} (p : PE X e (tC (.bl b))) : PE X e (tD X.K (.bool b)) := de_of p fun σ H Q q => q H _ (Same.refl _) (.bl b)
theorem de_non {e : Expr} (p : PE X e (tC .non)) : PE X e (tD X.K .none) := de_of p fun σ H Q q => q H _ (Same.refl _) .non
theorem da_nil : PA X [] (tDs X.K []) := da_of pa_nil fun σ H Q q => q H [] (Same.refl _) .nil
theorem da_cons {e : Expr} {es : List Expr} {d : PyData} {ds : List PyData} (he : PE X e (tD X.K d)) (hr : PA X es (tDs X.K ds)) (hs : starEach (e :: es) X.env = (false, eval e X.env) :: starEach es X.env := by rfl) : PA X (e :: es) (tDs X.K (d :: ds)) :=
  da_of (pa_cons he hr hs) fun σ H Q q => fun H1 v s1 hv H2 xs s2 hx => q H2 (v :: xs) (s1.trans s2) (.cons (dpSame s2 hv) hx)
theorem de_tup {es : List Expr} {ds : List PyData} {x1 : Nat} {pos : Pos} (h : PA X es (tDs X.K ds)) (hl : ds.length ≤ 1000 := by decide) : PE X (.Tuple es x1 pos) (tD X.K (.tuple ds)) :=
  de_of (pe_tup h) fun σ H Q q => fun H1 xs s1 hx => ⟨by rw [dps_len hx]; exact Nat.le_trans hl (by decide), fun p np => q _ _ (s1.trans (same_upd np)) (.tup (.inl (.inl upd_same)) (dpsSame (same_upd np) hx))⟩
theorem de_lst {es : List Expr} {ds : List PyData} {pos : Pos} (h : PA X es (tDs X.K ds)) (hl : ds.length ≤ 1000 := by decide) : PE X (.List es pos) (tD X.K (.list ds)) :=
  de_of (pe_lst h) fun σ H Q q => fun H1 xs s1 hx => ⟨by rw [dps_len hx]; exact Nat.le_trans hl (by decide), fun p np => q _ _ (s1.trans (same_upd np)) (.lst (.inl (.inl upd_same)) (dpsSame (same_upd np) hx))⟩
end
/-! #### which data is no row -/
def numD (k : Str) : PyData → Option Bool
  | .int n => some (numB k n)
  | .bool _ => some false
  | .str _ => some false
  | .none => some false
  | .list _ => some false
  | _ => none
def isWD : PyData → Bool
  | .str a => wordB a
  | _ => false
def okWD : PyData → Bool
  | .str a => decide (a.length ≤ 1000000)
  | _ => true
def wsD : PyData → Option Bool
  | .tuple ds => if ds.all okWD = true then some (if ds = [] then false else ds.all isWD) else none
  | _ => some false

def kindX (k : PyData) : Bool := SeqAt.shaped k && kindsD.all fun z => !z.eqv k
def rowX (k n x : PyData) : Bool := match k with
  | .str a => decide (a ∈ plainK ++ blockK) && (match numD a n, wsD x with
    | some b1, some b2 => !(b1 && b2)
    | _, _ => false)
  | _ => false
def notRowD : PyData → Bool
  | .tuple ds => match ds with
    | [k, n, x] => kindX k || rowX k n x
    | ds => decide (ds.length ≠ 3)
  | _ => true
theorem num_of {K : PySem.W.Frag} {H : Hp} {k : Str} {v : V} {d : PyData} {b : Bool} (h : Dp K H v d) (e : numD k d = some b) : NumV K H k v b := by
  cases h with
  | non => cases e; exact .non
  | bl c => cases e; exact .bl c
  | int i => cases e; exact .int i
  | str x => cases e; exact .str x
  | lst h a => cases e; exact .lst h
  | tup h a => cases e
theorem noStr_of {K : PySem.W.Frag} {H : Hp} {v : V} {d : PyData} (h : Dp K H v d) (e : okWD d = true) : WV K H v ∧ isW v = isWD d := by
  cases h with
  | non => exact ⟨.inr .non, rfl⟩
  | bl c => exact ⟨.inr (.bl c), rfl⟩
  | int i => exact ⟨.inr (.int i), rfl⟩
  | str x => exact ⟨.inl ⟨x, rfl, of_decide_eq_true e⟩, rfl⟩
  | lst h a => exact ⟨.inr (.lst h), rfl⟩
  | tup h a => exact ⟨.inr (.tup h), rfl⟩
theorem noTup_of {K : PySem.W.Frag} {H : Hp} {v : V} {d : PyData} (h : Dp K H v d) (e : ∀ ds, d ≠ .tuple ds) : NoTup K H v := by
  cases h with
  | non => exact .non
  | bl c => exact .bl c
  | int i => exact .int i
  | str x => exact .str x
  | lst h a => exact .lst h
  | tup h a => exact absurd rfl (e _)
theorem dps_all {K : PySem.W.Frag} {H : Hp} : ∀ {xs : List V} {ds : List PyData}, DpAll K H xs ds → ds.all okWD = true → (∀ x ∈ xs, WV K H x) ∧ xs.all isW = ds.all isWD
  | _, _, .nil, _ => ⟨fun _ h => (by cases h), rfl⟩
  | _, _, .cons (v := v) (vs := vs) (d := d) (ds := ds) h t, e => by
    rw [List.all_cons, Bool.and_eq_true] at e
    obtain ⟨h1, h2⟩ := noStr_of h e.1
    obtain ⟨t1, t2⟩ := dps_all t e.2
    refine ⟨fun x hx => ?_, by rw [List.all_cons, List.all_cons, h2, t2]⟩
    rcases List.mem_cons.mp hx with z | z
    · rw [z]
      exact h1
    · exact t1 x z
theorem ws_of {K : PySem.W.Frag} {H : Hp} {v : V} {d : PyData} {b : Bool} (h : Dp K H v d) (e : wsD d = some b) : WsV K H v b := by
  cases h with
  | non => cases e; exact .no .non
  | bl c => cases e; exact .no (.bl c)
  | int i => cases e; exact .no (.int i)
  | str x => cases e; exact .no (.str x)
  | lst h a => cases e; exact .no (.lst h)
  | @tup a xs ds hS ha =>
    have e : (if ds.all okWD = true then some (if ds = [] then false else ds.all isWD) else none) = some b := e
    by_cases c : ds.all okWD = true
    · rw [if_pos c] at e
      have e := Option.some.inj e
      by_cases c2 : ds = []
      · subst c2
        cases ha
        rw [if_pos rfl] at e
        rw [← e]
        exact .nil hS
      · rw [if_neg c2] at e
        obtain ⟨h1, h2⟩ := dps_all ha c
        rw [← e, ← h2]
        refine .tup hS (fun z => ?_) h1
        have := dps_len ha
        rw [z] at this
        exact c2 (List.eq_nil_of_length_eq_zero this.symm)
    · rw [if_neg c] at e
      cases e
theorem mono_dp {K : PySem.W.Frag} {H : Hp} {v : V} {d : PyData} (h : Dp K H v d) (H' : Hp) (k : ∀ b o, (∀ ps, o ≠ .tbl ps) → H b = some o → H' b = some o) : Dp K H' v d := dpKp k h
theorem row_three {K : PySem.W.Frag} {H : Hp} {a : Addr} {vk vn vx : V} {k n x : PyData} (hS : SqT K H a [vk, vn, vx]) (hk : Dp K H vk k) (hn : Dp K H vn n) (hx : Dp K H vx x) (e : (kindX k || rowX k n x) = true) : RV K H (.ref a) false := by
  by_cases c : kindX k = true
  · unfold kindX at c
    rw [Bool.and_eq_true] at c
    refine .kind hS hk c.1 (fun z hz => ?_) fun H' k2 => dpKp k2 hk
    have := List.all_eq_true.mp c.2 z hz
    cases h : PyData.eqv z k with
    | false => rfl
    | true =>
      rw [h] at this
      cases this
  · rw [show kindX k = false by cases h : kindX k; rfl; exact absurd h c, Bool.false_or] at e
    cases hk with
    | str s =>
      have e : (decide (s ∈ plainK ++ blockK) && (match numD s n, wsD x with
          | some b1, some b2 => !(b1 && b2)
          | _, _ => false)) = true := e
      rw [Bool.and_eq_true] at e
      obtain ⟨e1, e2⟩ := e
      cases en : numD s n with
      | none => rw [en] at e2; cases e2
      | some b1 =>
        cases ex : wsD x with
        | none => rw [en, ex] at e2; cases e2
        | some b2 =>
          rw [en, ex] at e2
          have e3 : (b1 && b2) = false := by
            cases b1 <;> cases b2 <;> first | rfl | cases e2
          rw [← e3]
          exact .row hS (of_decide_eq_true e1) (num_of hn en) (ws_of hx ex)
    | _ => cases e
theorem row_no {K : PySem.W.Frag} {H : Hp} {v : V} {d : PyData} (h : Dp K H v d) (e : notRowD d = true) : RV K H v false := by
  cases h with
  | non => exact .no .non
  | bl c => exact .no (.bl c)
  | int i => exact .no (.int i)
  | str x => exact .no (.str x)
  | lst h a => exact .no (.lst h)
  | @tup a xs ds hS ha =>
    have len : ds.length ≠ 3 → RV K H (.ref a) false := fun z => .len hS (by rw [dps_len ha]; exact z)
    cases ha with
    | nil => exact len (by simp)
    | cons h1 t1 =>
      cases t1 with
      | nil => exact len (by simp)
      | cons h2 t2 =>
        cases t2 with
        | nil => exact len (by simp)
        | cons h3 t3 =>
          cases t3 with
          | nil => exact row_three hS h1 h2 h3 e
          | cons h4 t4 => exact len (by simp)
def noRows : List PyData :=
  [.list [.str "keep", .int 0, .tuple [.str "a"]], .tuple [.str "move", .int 0, .tuple [.str "a"]], .tuple [.str "keep", .int 1, .tuple [.str "a"]], .tuple [.str "take", .int 0, .tuple [.str "a"]], .tuple [.str "cut", .int 0, .tuple []]] ++
  [.tuple [.str "cut", .int 0, .list [.str "a"]], .tuple [.str "put", .bool false, .tuple [.str "a"]], .tuple [.str "lay", .int 1000000000, .tuple [.str "a"]], .tuple [.str "keep", .int 0, .tuple [.str "a b"]]] ++
  [.none, .tuple [.str "put", .int 0], .tuple [.str "lay", .bool true, .tuple [.str "a"]], .tuple [.str "take", .int (-1), .tuple [.str "a"]], .tuple [.str "cut", .int 0, .tuple [.str "a", .int 5]], .tuple [.int 3, .int 0, .tuple [.str "a"]]] ++
  [.tuple [.str "keep", .int 0, .tuple [.str (Rs2.repS "a" 41)]], .tuple [.str "lay", .int 0, .tuple [.str "a"]], .tuple [.str "put", .int 0, .tuple [.str "a"], .int 1], .str "put", .tuple [.str "Cut", .int 0, .tuple [.str "a"]]] ++
  [.tuple [.str "keep", .int 0, .tuple [.str "a\tb"]], .tuple [.str "put", .int 0, .tuple [.str "a\n"]], .tuple [.str "cut", .str "0", .tuple [.str "a"]], .tuple [.str "lay", .none, .tuple [.str "a"]]] ++
  [.tuple [.list [.str "keep"], .int 0, .tuple [.str "a"]], .tuple [.str "keep", .list [.int 0], .tuple [.str "a"]], .tuple [.str "cut", .int 0, .tuple [.list [.str "a"]]]]
theorem noRows_all : noRows.all notRowD = true := by decide +kernel
theorem noRows_len : noRows.length = 27 := by decide +kernel
section
variable {P : Program} {w : World} {K : PySem.W.Frag} {mg : Str → Option Value} {base : Heap}
theorem scNoRow : FnScope ["_law_cell", "_law_some"] ["_law_cell"] (defScope sNoRow) := ⟨rfl, rfl, rfl, by decide +kernel, rfl, by decide +kernel, by decide +kernel⟩
def spNoRow (K : PySem.W.Frag) : Sp := fun vs H Q _ => ∃ c : Int, vs = [.int c] ∧ ∀ (H' : Hp) (v : V) (d : PyData), Same H H' → Dp K H' v d → d ∈ noRows → Q v H'
theorem ok_no_row {f : Addr} {fd : FuncData} (F : FnP K "_law_no_row" sNoRow f fd) : FnOk P w K mg base (L2.CX P w) 1 f fd ["_law_cell"] (spNoRow K) := by
  refine F.ok scNoRow (fun vs H Q E h => ?_) (fun cdv A outer s H vs Q E hr h => ?_)
  · obtain ⟨c, rfl, _⟩ := h
    rfl
  · obtain ⟨c, rfl, q⟩ := h
    refine ⟨_, (pss_cons (ps_set (i := 1) scNoRow.nd rfl (.inl rfl) (pe_lst (da_cons (de_lst (da_cons (de_str pe_str) (da_cons (de_int pe_int) (da_cons (de_tup (da_cons (de_str pe_str) da_nil)) da_nil)))) (da_cons (de_tup (da_cons (de_str pe_str) (da_cons (de_int pe_int) (da_cons (de_tup (da_cons (de_str pe_str) da_nil)) da_nil)))) (da_cons (de_tup (da_cons (de_str pe_str) (da_cons (de_int pe_int) (da_cons (de_tup (da_cons (de_str pe_str) da_nil)) da_nil)))) (da_cons (de_tup (da_cons (de_str pe_str) (da_cons (de_int pe_int) (da_cons (de_tup (da_cons (de_str pe_str) da_nil)) da_nil)))) (da_cons (de_tup (da_cons (de_str pe_str) (da_cons (de_int pe_int) (da_cons (de_tup da_nil) da_nil)))) da_nil)))))))
      (pss_cons (ps_set (i := 1) scNoRow.nd rfl (.inl rfl) (pe_op op_cat (pv 1) (pe_lst (da_cons (de_tup (da_cons (de_str pe_str) (da_cons (de_int pe_int) (da_cons (de_lst (da_cons (de_str pe_str) da_nil)) da_nil)))) (da_cons (de_tup (da_cons (de_str pe_str) (da_cons (de_bl pe_bl) (da_cons (de_tup (da_cons (de_str pe_str) da_nil)) da_nil)))) (da_cons (de_tup (da_cons (de_str pe_str) (da_cons (de_int pe_int) (da_cons (de_tup (da_cons (de_str pe_str) da_nil)) da_nil)))) (da_cons (de_tup (da_cons (de_str pe_str) (da_cons (de_int pe_int) (da_cons (de_tup (da_cons (de_str pe_str) da_nil)) da_nil)))) da_nil)))))))
      (pss_cons (ps_set (i := 1) scNoRow.nd rfl (.inl rfl) (pe_op op_cat (pv 1) (pe_lst (da_cons (de_non pe_non) (da_cons (de_tup (da_cons (de_str pe_str) (da_cons (de_int pe_int) da_nil))) (da_cons (de_tup (da_cons (de_str pe_str) (da_cons (de_bl pe_bl) (da_cons (de_tup (da_cons (de_str pe_str) da_nil)) da_nil)))) (da_cons (de_tup (da_cons (de_str pe_str) (da_cons (de_of (pe_un un_neg pe_int) fun σ H Q q => ⟨1, rfl, q H _ (Same.refl _) (.int (-1))⟩) (da_cons (de_tup (da_cons (de_str pe_str) da_nil)) da_nil)))) (da_cons (de_tup (da_cons (de_str pe_str) (da_cons (de_int pe_int) (da_cons (de_tup (da_cons (de_str pe_str) (da_cons (de_int pe_int) da_nil))) da_nil)))) (da_cons (de_tup (da_cons (de_int pe_int) (da_cons (de_int pe_int) (da_cons (de_tup (da_cons (de_str pe_str) da_nil)) da_nil)))) da_nil)))))))))
      (pss_cons (ps_set (i := 1) scNoRow.nd rfl (.inl rfl) (pe_op op_cat (pv 1) (pe_lst (da_cons (de_tup (da_cons (de_str pe_str) (da_cons (de_int pe_int) (da_cons (de_tup (da_cons (de_of (pe_op Rs2.op_repS pe_str pe_int) fun σ H Q q => ⟨"a", 41, rfl, rfl, by decide, by decide, by decide +kernel, by decide +kernel, by decide +kernel, q H _ (Same.refl _) (.str _)⟩) da_nil)) da_nil)))) (da_cons (de_tup (da_cons (de_str pe_str) (da_cons (de_int pe_int) (da_cons (de_tup (da_cons (de_str pe_str) da_nil)) da_nil)))) (da_cons (de_tup (da_cons (de_str pe_str) (da_cons (de_int pe_int) (da_cons (de_tup (da_cons (de_str pe_str) da_nil)) (da_cons (de_int pe_int) da_nil))))) (da_cons (de_str pe_str) (da_cons (de_tup (da_cons (de_str pe_str) (da_cons (de_int pe_int) (da_cons (de_tup (da_cons (de_str pe_str) da_nil)) da_nil)))) da_nil))))))))
      (pss_cons (ps_set (i := 1) scNoRow.nd rfl (.inl rfl) (pe_op op_cat (pv 1) (pe_lst (da_cons (de_tup (da_cons (de_str pe_str) (da_cons (de_int pe_int) (da_cons (de_tup (da_cons (de_str pe_str) da_nil)) da_nil)))) (da_cons (de_tup (da_cons (de_str pe_str) (da_cons (de_int pe_int) (da_cons (de_tup (da_cons (de_str pe_str) da_nil)) da_nil)))) (da_cons (de_tup (da_cons (de_str pe_str) (da_cons (de_str pe_str) (da_cons (de_tup (da_cons (de_str pe_str) da_nil)) da_nil)))) (da_cons (de_tup (da_cons (de_str pe_str) (da_cons (de_non pe_non) (da_cons (de_tup (da_cons (de_str pe_str) da_nil)) da_nil)))) da_nil)))))))
      (pss_cons (ps_set (i := 1) scNoRow.nd rfl (.inl rfl) (pe_op op_cat (pv 1) (pe_lst (da_cons (de_tup (da_cons (de_lst (da_cons (de_str pe_str) da_nil)) (da_cons (de_int pe_int) (da_cons (de_tup (da_cons (de_str pe_str) da_nil)) da_nil)))) (da_cons (de_tup (da_cons (de_str pe_str) (da_cons (de_lst (da_cons (de_int pe_int) da_nil)) (da_cons (de_tup (da_cons (de_str pe_str) da_nil)) da_nil)))) (da_cons (de_tup (da_cons (de_str pe_str) (da_cons (de_int pe_int) (da_cons (de_tup (da_cons (de_lst (da_cons (de_str pe_str) da_nil)) da_nil)) da_nil)))) da_nil))))))
      (pss_one (ps_ret (pe_ix ix_list (pv 1) (pe_op op_mod (pv 0) pe_int) (fun _ _ => rfl)))))))))), ?_⟩
    refine fun H1 x1 s1 hx1 => ⟨by rw [dps_len hx1]; decide, fun L1 n1 => ?_⟩
    have u1 := same_upd n1 (o := .lst x1)
    have g1 : (upd H1 L1 (.lst x1)) L1 = some (.lst x1) := upd_same
    have hx1 := dpsSame u1 hx1
    have s1 := s1.trans u1
    generalize upd H1 L1 (.lst x1) = H2 at u1 g1 hx1 s1 ⊢
    refine ⟨_, rfl, fun Ha2 y2 sa2 hy2 => ⟨by rw [dps_len hy2]; decide, fun M2 m2 => ?_⟩⟩
    have a2 := same_upd m2 (o := .lst y2)
    have b2 : (upd Ha2 M2 (.lst y2)) M2 = some (.lst y2) := upd_same
    have hy2 := dpsSame a2 hy2
    have sa2 := sa2.trans a2
    have gp2 := sa2 _ _ g1
    have hp2 := dpsSame sa2 hx1
    generalize upd Ha2 M2 (.lst y2) = Hb2 at a2 b2 hy2 sa2 gp2 hp2 ⊢
    refine ⟨L1, M2, _, _, rfl, rfl, gp2, b2, by rw [dps_len hp2, dps_len hy2]; decide, fun L2 n2 => ?_⟩
    have u2 := same_upd n2 (o := .lst (x1 ++ y2))
    have g2 : (upd Hb2 L2 (.lst (x1 ++ y2))) L2 = some (.lst (x1 ++ y2)) := upd_same
    have hx2 := dps_app (dpsSame u2 hp2) (dpsSame u2 hy2)
    have s2 := (s1.trans sa2).trans u2
    generalize upd Hb2 L2 (.lst (x1 ++ y2)) = H3 at u2 g2 hx2 s2 ⊢
    generalize x1 ++ y2 = x2 at g2 hx2 ⊢
    refine ⟨_, rfl, fun Ha3 y3 sa3 hy3 => ⟨by rw [dps_len hy3]; decide, fun M3 m3 => ?_⟩⟩
    have a3 := same_upd m3 (o := .lst y3)
    have b3 : (upd Ha3 M3 (.lst y3)) M3 = some (.lst y3) := upd_same
    have hy3 := dpsSame a3 hy3
    have sa3 := sa3.trans a3
    have gp3 := sa3 _ _ g2
    have hp3 := dpsSame sa3 hx2
    generalize upd Ha3 M3 (.lst y3) = Hb3 at a3 b3 hy3 sa3 gp3 hp3 ⊢
    refine ⟨L2, M3, _, _, rfl, rfl, gp3, b3, by rw [dps_len hp3, dps_len hy3]; decide, fun L3 n3 => ?_⟩
    have u3 := same_upd n3 (o := .lst (x2 ++ y3))
    have g3 : (upd Hb3 L3 (.lst (x2 ++ y3))) L3 = some (.lst (x2 ++ y3)) := upd_same
    have hx3 := dps_app (dpsSame u3 hp3) (dpsSame u3 hy3)
    have s3 := (s2.trans sa3).trans u3
    generalize upd Hb3 L3 (.lst (x2 ++ y3)) = H4 at u3 g3 hx3 s3 ⊢
    generalize x2 ++ y3 = x3 at g3 hx3 ⊢
    refine ⟨_, rfl, fun Ha4 y4 sa4 hy4 => ⟨by rw [dps_len hy4]; decide, fun M4 m4 => ?_⟩⟩
    have a4 := same_upd m4 (o := .lst y4)
    have b4 : (upd Ha4 M4 (.lst y4)) M4 = some (.lst y4) := upd_same
    have hy4 := dpsSame a4 hy4
    have sa4 := sa4.trans a4
    have gp4 := sa4 _ _ g3
    have hp4 := dpsSame sa4 hx3
    generalize upd Ha4 M4 (.lst y4) = Hb4 at a4 b4 hy4 sa4 gp4 hp4 ⊢
    refine ⟨L3, M4, _, _, rfl, rfl, gp4, b4, by rw [dps_len hp4, dps_len hy4]; decide, fun L4 n4 => ?_⟩
    have u4 := same_upd n4 (o := .lst (x3 ++ y4))
    have g4 : (upd Hb4 L4 (.lst (x3 ++ y4))) L4 = some (.lst (x3 ++ y4)) := upd_same
    have hx4 := dps_app (dpsSame u4 hp4) (dpsSame u4 hy4)
    have s4 := (s3.trans sa4).trans u4
    generalize upd Hb4 L4 (.lst (x3 ++ y4)) = H5 at u4 g4 hx4 s4 ⊢
    generalize x3 ++ y4 = x4 at g4 hx4 ⊢
    refine ⟨_, rfl, fun Ha5 y5 sa5 hy5 => ⟨by rw [dps_len hy5]; decide, fun M5 m5 => ?_⟩⟩
    have a5 := same_upd m5 (o := .lst y5)
    have b5 : (upd Ha5 M5 (.lst y5)) M5 = some (.lst y5) := upd_same
    have hy5 := dpsSame a5 hy5
    have sa5 := sa5.trans a5
    have gp5 := sa5 _ _ g4
    have hp5 := dpsSame sa5 hx4
    generalize upd Ha5 M5 (.lst y5) = Hb5 at a5 b5 hy5 sa5 gp5 hp5 ⊢
    refine ⟨L4, M5, _, _, rfl, rfl, gp5, b5, by rw [dps_len hp5, dps_len hy5]; decide, fun L5 n5 => ?_⟩
    have u5 := same_upd n5 (o := .lst (x4 ++ y5))
    have g5 : (upd Hb5 L5 (.lst (x4 ++ y5))) L5 = some (.lst (x4 ++ y5)) := upd_same
    have hx5 := dps_app (dpsSame u5 hp5) (dpsSame u5 hy5)
    have s5 := (s4.trans sa5).trans u5
    generalize upd Hb5 L5 (.lst (x4 ++ y5)) = H6 at u5 g5 hx5 s5 ⊢
    generalize x4 ++ y5 = x5 at g5 hx5 ⊢
    refine ⟨_, rfl, fun Ha6 y6 sa6 hy6 => ⟨by rw [dps_len hy6]; decide, fun M6 m6 => ?_⟩⟩
    have a6 := same_upd m6 (o := .lst y6)
    have b6 : (upd Ha6 M6 (.lst y6)) M6 = some (.lst y6) := upd_same
    have hy6 := dpsSame a6 hy6
    have sa6 := sa6.trans a6
    have gp6 := sa6 _ _ g5
    have hp6 := dpsSame sa6 hx5
    generalize upd Ha6 M6 (.lst y6) = Hb6 at a6 b6 hy6 sa6 gp6 hp6 ⊢
    refine ⟨L5, M6, _, _, rfl, rfl, gp6, b6, by rw [dps_len hp6, dps_len hy6]; decide, fun L6 n6 => ?_⟩
    have u6 := same_upd n6 (o := .lst (x5 ++ y6))
    have g6 : (upd Hb6 L6 (.lst (x5 ++ y6))) L6 = some (.lst (x5 ++ y6)) := upd_same
    have hx6 := dps_app (dpsSame u6 hp6) (dpsSame u6 hy6)
    have s6 := (s5.trans sa6).trans u6
    generalize upd Hb6 L6 (.lst (x5 ++ y6)) = H7 at u6 g6 hx6 s6 ⊢
    generalize x5 ++ y6 = x6 at g6 hx6 ⊢
    have lt := ltM (c := c) (n := 27) (by decide)
    have xl : x6.length = 27 := (dps_len hx6).trans noRows_len
    obtain ⟨v, hv⟩ : ∃ v, x6[(c % ((27 : Nat) : Int)).toNat]? = some v := ⟨_, List.getElem?_eq_getElem (by rw [xl]; exact lt)⟩
    obtain ⟨d, hd, hvd⟩ := dps_at hx6 hv
    exact ⟨_, rfl, _, rfl, _, _, rfl, rfl, (by show (0 : Int) < 27; decide), L6, _, _, v, rfl, rfl, .inl (.inl g6), atM (n := 27) (by decide) hv, q _ v d s6 hvd (List.mem_of_getElem? hd)⟩
end
/-! ### the law: none priced -/
section
variable {P : Program} {w : World} {K : PySem.W.Frag} {mg : Str → Option Value} {base : Heap}
theorem scNonePriced : FnScope ["_law_cell", "_law_told_off", "_law_k"] ["_law_cell"] (defScope sNonePriced) := ⟨rfl, rfl, rfl, by decide +kernel, rfl, by decide +kernel, by decide +kernel⟩
def spNonePriced (K : PySem.W.Frag) (Ps : List Addr) : Sp := fun vs H Q _ => ∃ c : Int, vs = [.int c] ∧ Tb Ps H ∧ ∀ H', Kp Ps H H' → Q (.bl true) H'
theorem ok_none_priced {Ps : List Addr} {cR f fC fN : Addr} {fd fdC fdN : FuncData} (F : FnP K "_law_none_priced" sNonePriced f fd)
    (GC : FnOk P w K mg base (L2.CX P w) 8 fC fdC ["rows"] (spOth K Ps cR)) (kC : PySem.W.keepIn K (.ref fC) = true) (bC : Binds K fdC ["rows"] []) (gC : mg "cost" = some (.ref fC))
    (GN : FnOk P w K mg base (L2.CX P w) 1 fN fdN ["_law_cell"] (spNoRow K)) (kN : PySem.W.keepIn K (.ref fN) = true) (bN : Binds K fdN ["_law_cell"] []) (gN : mg "_law_no_row" = some (.ref fN))
    (mR : mg "NoRow" = some (.ref cR)) (xR : PySem.W.exmOne K (.ref cR) (.ref cR) = some true) (mG : mg "range" = none) : FnOk P w K mg base (L2.CX P w) 9 f fd ["_law_cell"] (spNonePriced K Ps) := by
  refine F.ok scNonePriced (fun vs H Q E h => ?_) (fun cdv A outer s H vs Q E hr h => ?_)
  · obtain ⟨c, rfl, _⟩ := h
    rfl
  · obtain ⟨c, rfl, ht, q⟩ := h
    refine ⟨_, pss_cons (ps_set (i := 1) scNonePriced.nd rfl (.inl rfl) pe_int)
      (pss_cons (ps_for (passes_of rfl) rfl (pi_range1 (by rfl) mG (pa_cons pe_int pa_nil)) (pg_name (i := 2) scNonePriced.nd rfl (.inl rfl))
        (pss_cut (ps_try_only (c := .ref cR) (Wout := fun cls d _ H => E cls d H) rfl rfl ⟨by rfl, by decide +kernel, .inl mR⟩ (takes_of rfl rfl rfl rfl)
          (fun W pn xe tk _ => pss_one (ps_expr (pe_callS (E := WE W) GC hr (by rfl) gC kC bC (fun σ => passAt tk σ) (pa_cons (pe_lst (pa_cons (te := tD K (.tuple [.str "keep", .int 0, .tuple [.str "a"]])) (de_tup (da_cons (de_str pe_str) (da_cons (de_int pe_int) (da_cons (de_tup (da_cons (de_str pe_str) da_nil)) da_nil))))
              (pa_cons (pe_call GN (hr.mono (by decide)) (by rfl) gN kN bN .nil passL (pa_cons (pe_op op_add (pv 0) (pe_op op_mul pe_int (pv 2))) pa_nil)) pa_nil))) pa_nil))))
          (fun a oe cls d pn _ _ => pss_one (ps_set (i := 1) scNonePriced.nd rfl (.inl rfl) (pe_op op_add (pv 1) pe_int)))) pss_nil))
      (pss_one (ps_ret (pe_cmpR op_eq (pv 1) pe_int (nomark _))))), ?_⟩
    refine ⟨5, rfl, by decide, by decide, ?_⟩
    refine for_range (lo := 0) (n := ((5 : Int)).toNat) (fun i σ' H' => ∃ y2, σ' = [some (.int c), some (.int (i : Int)), y2] ∧ Kp Ps H H') ⟨none, rfl, Kp.refl ht⟩ (fun i σ' H1 hi hp => ?_) (fun σ' H1 hp => ?_)
    · obtain ⟨y2, rfl, k1⟩ := hp
      refine ⟨fun σ' H' => ∃ y2, σ' = [some (.int c), some (.int ((i + 1 : Nat) : Int)), y2] ∧ Kp Ps H H', ?_, fun σ5 H5 hM => hM⟩
      refine fun H2 v1 s2 hv1 => ⟨_, rfl, _, rfl, _, _, rfl, rfl, .inl ⟨by decide, by decide⟩, _, _, rfl, rfl, _, rfl, fun H3 v d s3 hv hd => ⟨by show 2 ≤ sizeLine; decide, fun L nL => ?_⟩⟩
      have s4 := same_upd nL (o := .lst [v1, v])
      have s24 := s2.trans (s3.trans s4)
      have k4 := k1.trans (Kp.same k1.1 s24)
      have hv1' := dpSame (s3.trans s4) hv1
      have hv' := dpSame s4 hv
      have r2 := row_no hv' (List.all_eq_true.mp noRows_all d hd)
      have r1 : ∃ b, RV K (upd H3 L (.lst [v1, v])) v1 b := by
        cases hv1' with
        | @tup a xs ds hS ha =>
          cases ha with
          | cons h1 t1 =>
            cases t1 with
            | cons h2 t2 =>
              cases t2 with
              | cons h3 t3 =>
                cases t3
                cases h1
                exact ⟨_, .row hS (by decide +kernel) (num_of (b := numB "keep" 0) h2 rfl) (ws_of (b := true) h3 (by decide +kernel))⟩
      obtain ⟨b, r1⟩ := r1
      refine ⟨_, rfl, k4.1, .inr ⟨⟨some [b, false], ⟨L, [v1, v], rfl, .inl (.inl upd_same), rfl, by show 2 ≤ 1000; decide, fun j x e => ?_⟩, ?_⟩, fun H5 k5 => ⟨true, xR, fun _ a na => ⟨_, rfl, _, _, rfl, rfl, some (.int (0 + (i : Int))), ?_, k4.trans k5⟩, fun z => by cases z⟩⟩⟩
      · match j, e with
        | 0, e => cases e; exact ⟨b, rfl, r1⟩
        | 1, e => cases e; exact ⟨false, rfl, r2⟩
        | j + 2, e => cases e
      · show [b, false].all id = false
        cases b <;> rfl
      · rfl
    · obtain ⟨y2, rfl, k1⟩ := hp
      refine ⟨_, rfl, rfl, ?_⟩
      exact q H1 k1
end
/-! ### the law: an old text spoilt, a word that is none -/
section
variable {P : Program} {w : World} {K : PySem.W.Frag} {mg : Str → Option Value} {base : Heap}
theorem scOldSpoilt : FnScope ["_law_old", "_law_fault", "_law_at", "_law_other"] ["_law_old", "_law_fault", "_law_at"] (defScope sOldSpoilt) := ⟨rfl, rfl, rfl, by decide +kernel, rfl, by decide +kernel, by decide +kernel⟩
/-- fault 1: a word more; 2: one less; 3: another word in its place -/
def spOldSpoilt (K : PySem.W.Frag) : Sp := fun vs H Q _ => ∃ (p : Addr) (ws : List Str) (fl n : Nat), vs = [.ref p, .int (fl : Int), .int (n : Int)] ∧ H p = some (.lst (ws.map V.str)) ∧ ws.length ≤ 1000 ∧ (fl = 1 ∨ (fl = 2 ∨ fl = 3) ∧ n < ws.length) ∧
  (fl = 1 → ∀ H' D, Same H H' → H D = none → H' D = some (.lst ((ws ++ [("more" : Str)]).map V.str)) → Q (.ref D) H') ∧
  (fl = 2 → ∀ H' D, Same H H' → H D = none → H' D = some (.lst ((ws.take n ++ ws.drop (n + 1)).map V.str)) → Q (.ref D) H') ∧
  (fl = 3 → ∀ H' D (o : Str), Same H H' → H D = none → (o = "z" ∨ o = "y") → ws[n]? ≠ some o → H' D = some (.lst ((ws.take n ++ [o] ++ ws.drop (n + 1)).map V.str)) → Q (.ref D) H')
theorem cut_frm (xs : List V) (k : Nat) : cutV xs (some (k : Int)) none = xs.drop k := by
  unfold cutV
  rw [HT.sIx_none, HT.sIx_nat]
  by_cases h : k ≤ xs.length
  · rw [Nat.min_eq_left h, List.take_of_length_le (by rw [List.length_drop]; exact Nat.le_refl _)]
  · rw [Nat.min_eq_right (by omega), List.drop_of_length_le (Nat.le_refl _), List.drop_of_length_le (by omega)]
    rw [List.take_nil]
theorem cut_tok (xs : List V) (k : Nat) : cutV xs none (some (k : Int)) = xs.take k := by
  unfold cutV
  rw [HT.sIx_none, HT.sIx_nat, Nat.sub_zero, List.drop_zero]
  by_cases h : k ≤ xs.length
  · rw [Nat.min_eq_left h]
  · rw [Nat.min_eq_right (by omega), List.take_of_length_le (Nat.le_refl _), List.take_of_length_le (by omega)]
theorem ok_old_spoilt {f : Addr} {fd : FuncData} (F : FnP K "_law_old_spoilt" sOldSpoilt f fd) (mN : mg "int" = none) : FnOk P w K mg base (L2.CX P w) 1 f fd ["_law_old", "_law_fault", "_law_at"] (spOldSpoilt K) := by
  refine F.ok scOldSpoilt (fun vs H Q E h => ?_) (fun cdv A outer s H vs Q E hr h => ?_)
  · obtain ⟨p, ws, fl, n, rfl, _⟩ := h
    rfl
  · obtain ⟨p, ws, fl, n, rfl, hp, hl, hf, q1, q2, q3⟩ := h
    refine ⟨_, pss_cons (ps_if (pt_cmpR op_eq (pv 1) pe_int (nomark _)) (pss_one (ps_ret (pe_op op_cat (pv 0) (pe_lst (pa_cons pe_str pa_nil))))) pss_nil)
      (pss_cons (ps_if (pt_cmpR op_eq (pv 1) pe_int (nomark _)) (pss_one (ps_ret (pe_op op_cat (pe_slice sl_list (pv 0) po_none (po_some (pv 2))) (pe_slice sl_list (pv 0) (po_some (pe_op op_add (pv 2) pe_int)) po_none)))) pss_nil)
      (pss_cons (ps_set (i := 3) scOldSpoilt.nd rfl (.inl rfl) (pe_ix ix_list (pe_lst (pa_cons pe_str (pa_cons pe_str pa_nil))) (pe_callTy call_int1 (by rfl) mN (by decide +kernel) (pa_cons (pe_cmpR op_eq (pe_ix ix_list (pv 0) (pv 2) (fun _ _ => rfl)) pe_str (nomark _)) pa_nil)) (fun _ _ => rfl)))
      (pss_one (ps_ret (pe_op op_cat (pe_op op_cat (pe_slice sl_list (pv 0) po_none (po_some (pv 2))) (pe_lst (pa_cons (pv 3) pa_nil))) (pe_slice sl_list (pv 0) (po_some (pe_op op_add (pv 2) pe_int)) po_none)))))), ?_⟩
    have ek : (n : Int) + 1 = ((n + 1 : Nat) : Int) := by omega
    rcases hf with rfl | ⟨rfl | rfl, hn⟩
    · refine ⟨_, rfl, rfl, _, rfl, iteT ⟨_, rfl, by show 1 ≤ sizeLine; decide, fun L nL => ?_⟩⟩
      have u := same_upd nL (o := .lst [.str "more"])
      refine ⟨p, L, _, _, rfl, rfl, u _ _ hp, upd_same, Nat.le_trans (by rw [List.length_map]; show ws.length + 1 ≤ 2000; omega) (by decide), fun D nD => ?_⟩
      refine q1 rfl _ D (u.trans (same_upd nD)) (u.free nD) ?_
      rw [upd_same, List.map_append]
      rfl
    · refine ⟨_, rfl, rfl, _, rfl, iteF ⟨_, rfl, rfl, _, rfl, iteT ?_⟩⟩
      refine ⟨_, rfl, _, rfl, _, rfl, p, _, rfl, .inl (.inl hp), fun C1 n1 => ?_⟩
      rw [cut_tok]
      have u1 := same_upd n1 (o := .lst ((ws.map V.str).take n))
      have g1 : (upd H C1 (.lst ((ws.map V.str).take n))) C1 = some (.lst ((ws.map V.str).take n)) := upd_same
      generalize upd H C1 (.lst ((ws.map V.str).take n)) = H1 at u1 g1 ⊢
      refine ⟨_, rfl, _, rfl, _, _, rfl, rfl, _, rfl, p, _, rfl, .inl (.inl (u1 _ _ hp)), fun C2 n2 => ?_⟩
      rw [ek, cut_frm]
      have u2 := same_upd n2 (o := .lst ((ws.map V.str).drop (n + 1)))
      refine ⟨C1, C2, _, _, rfl, rfl, u2 _ _ g1, upd_same, Nat.le_trans (by rw [List.length_take, List.length_drop, List.length_map]; omega : _ ≤ 2000) (by decide), fun D nD => ?_⟩
      refine q2 rfl _ D (u1.trans (u2.trans (same_upd nD))) ((u1.trans u2).free nD) ?_
      rw [upd_same, List.map_append, List.map_take, List.map_drop]
    · refine ⟨_, rfl, rfl, _, rfl, iteF ⟨_, rfl, rfl, _, rfl, iteF ?_⟩⟩
      have hx := List.getElem?_eq_getElem hn
      refine ⟨by show 2 ≤ sizeLine; decide, fun L nL => ?_⟩
      have u0 := same_upd nL (o := .lst [.str "z", .str "y"])
      have g0 : (upd H L (.lst [.str "z", .str "y"])) L = some (.lst [.str "z", .str "y"]) := upd_same
      have hp0 := u0 _ _ hp
      generalize upd H L (.lst [.str "z", .str "y"]) = H0 at u0 g0 hp0 ⊢
      obtain ⟨o, ho, hat, hne⟩ : ∃ o : Str, (o = "z" ∨ o = "y") ∧ atI ([.str "z", .str "y"] : List V) (if decide (V.str ws[n] = V.str "z") = true then 1 else 0) = some (.str o) ∧ ws[n]? ≠ some o := by
        by_cases c : ws[n] = "z"
        · refine ⟨"y", .inr rfl, by rw [decide_eq_true (congrArg V.str c), if_pos rfl]; rfl, fun e => ?_⟩
          rw [hx, c] at e
          exact absurd (Option.some.inj e) (by decide +kernel)
        · refine ⟨"z", .inl rfl, by rw [decide_eq_false fun e => c (V.str.inj e), if_neg Bool.false_ne_true]; rfl, fun e => ?_⟩
          rw [hx] at e
          exact c (Option.some.inj e)
      refine ⟨_, rfl, _, rfl, p, _, _, _, rfl, rfl, .inl (.inl hp0), atI_nat (show (ws.map V.str)[n]? = some (.str ws[n]) by rw [List.getElem?_map, hx]; rfl), rfl, .inr ⟨_, rfl, L, _, _, _, rfl, rfl, .inl (.inl g0), hat, ?_⟩⟩
      refine ⟨_, rfl, _, rfl, _, rfl, p, _, rfl, .inl (.inl hp0), fun C1 n1 => ?_⟩
      rw [cut_tok]
      have u1 := same_upd n1 (o := .lst ((ws.map V.str).take n))
      have g1 : (upd H0 C1 (.lst ((ws.map V.str).take n))) C1 = some (.lst ((ws.map V.str).take n)) := upd_same
      generalize upd H0 C1 (.lst ((ws.map V.str).take n)) = H1 at u1 g1 ⊢
      refine ⟨_, rfl, by show 1 ≤ sizeLine; decide, fun L2 n2 => ?_⟩
      have u2 := same_upd n2 (o := .lst [.str o])
      refine ⟨C1, L2, _, _, rfl, rfl, u2 _ _ g1, upd_same, Nat.le_trans (by rw [List.length_take, List.length_map]; show _ + 1 ≤ 2000; omega) (by decide), fun D1 nD1 => ?_⟩
      have u3 := same_upd nD1 (o := .lst ((ws.map V.str).take n ++ [.str o]))
      have g3 : (upd (upd H1 L2 (.lst [.str o])) D1 (.lst ((ws.map V.str).take n ++ [.str o]))) D1 = some (.lst ((ws.map V.str).take n ++ [.str o])) := upd_same
      have u23 := u2.trans u3
      generalize upd (upd H1 L2 (.lst [.str o])) D1 (.lst ((ws.map V.str).take n ++ [.str o])) = H3 at u23 g3 ⊢
      have u13 := u1.trans u23
      refine ⟨_, rfl, _, rfl, _, _, rfl, rfl, _, rfl, p, _, rfl, .inl (.inl (u13 _ _ hp0)), fun C2 n4 => ?_⟩
      rw [ek, cut_frm]
      have u4 := same_upd n4 (o := .lst ((ws.map V.str).drop (n + 1)))
      refine ⟨D1, C2, _, _, rfl, rfl, u4 _ _ g3, upd_same, Nat.le_trans (by rw [List.length_append, List.length_take, List.length_drop, List.length_map]; show _ + 1 + _ ≤ 2000; omega) (by decide), fun D nD => ?_⟩
      have u := u0.trans (u13.trans u4)
      refine q3 rfl _ D o (u.trans (same_upd nD)) (u.free nD) ho hne ?_
      rw [upd_same, List.map_append, List.map_append, List.map_take, List.map_drop]
      rfl
end
/-! ### the law: a word that is none among the old -/
section
variable {P : Program} {w : World} {K : PySem.W.Frag} {mg : Str → Option Value} {base : Heap}
theorem scNoWordIn : FnScope ["_law_old", "_law_place", "_law_many", "_law_fresh"] ["_law_old", "_law_place", "_law_many"] (defScope sNoWordIn) := ⟨rfl, rfl, rfl, by decide +kernel, rfl, by decide +kernel, by decide +kernel⟩
def spNoWordIn (K : PySem.W.Frag) : Sp := fun vs H Q _ => ∃ (p : Addr) (ws : List Str) (c : Int) (m : Nat), vs = [.ref p, .int c, .int (m : Int)] ∧ H p = some (.lst (ws.map V.str)) ∧ (∀ a ∈ ws, wordB a = true) ∧ ws.length ≤ 500 ∧ m ≤ 121 ∧
  ∀ (H' : Hp) (D : Addr) (xs : List V), Same H H' → H D = none → H' D = some (.lst xs) → (∀ x ∈ xs, WV K H' x) → xs.length ≤ 1000 → xs.all isW = false → Q (.ref D) H'
theorem ok_no_word_in {f : Addr} {fd : FuncData} (F : FnP K "_law_no_word_in" sNoWordIn f fd) (mL : mg "len" = none) : FnOk P w K mg base (L2.CX P w) 1 f fd ["_law_old", "_law_place", "_law_many"] (spNoWordIn K) := by
  refine F.ok scNoWordIn (fun vs H Q E h => ?_) (fun cdv A outer s H vs Q E hr h => ?_)
  · obtain ⟨p, ws, c, m, rfl, _⟩ := h
    rfl
  · obtain ⟨p, ws, c, m, rfl, hp, hw, hl, hm, q⟩ := h
    refine ⟨_, pss_cons (ps_set (i := 3) scNoWordIn.nd rfl (.inl rfl) (pe_op op_cat (pv 0) (pe_op op_rep (pe_lst (pa_cons pe_str pa_nil)) (pv 2))))
      (pss_cons (ps_expr (pe_bm PySem.F.plainAttrs_list PySem.F.slot_list_insert PySem.F.type_list_insert mt_insert (pv 3) (pa_cons (pe_op op_mod (pv 1) (pe_op op_add (pe_callB call_len_seq (by rfl) mL PySem.boot_len (pa_cons (pv 3) pa_nil)) pe_int))
          (pa_cons (pe_ix ix_list (pe_lst (pa_cons pe_str (pa_cons pe_str (pa_cons pe_int (pa_cons pe_non (pa_cons pe_str pa_nil)))))) (pe_op op_mod (pe_op op_fdiv (pv 1) pe_int) pe_int) (fun _ _ => rfl)) pa_nil))))
      (pss_one (ps_ret (pv 3)))), ?_⟩
    refine ⟨_, rfl, by show 1 ≤ sizeLine; decide, fun L1 n1 => ?_⟩
    have u1 := same_upd n1 (o := .lst [.str "behind"])
    refine ⟨_, rfl, L1, (m : Int), _, rfl, rfl, upd_same, by omega, by omega, ?_, fun L2 n2 => ?_⟩
    · show 1 * ((m : Int)).toNat ≤ sizeLine
      exact Nat.le_trans (show _ ≤ 1000 by omega) (by decide)
    have u2 := same_upd n2 (o := .lst (List.replicate ((m : Int)).toNat [V.str "behind"]).flatten)
    have rl : (List.replicate ((m : Int)).toNat [V.str "behind"]).flatten.length = m := by
      rw [List.length_flatten, List.map_replicate]
      simp
    have rm : ∀ x ∈ (List.replicate ((m : Int)).toNat [V.str "behind"]).flatten, x = .str "behind" := fun x hx => by
      obtain ⟨l, h1, h2⟩ := List.mem_flatten.mp hx
      rw [List.eq_of_mem_replicate h1] at h2
      exact List.mem_singleton.mp h2
    refine ⟨p, L2, _, _, rfl, rfl, u2 _ _ (u1 _ _ hp), upd_same, Nat.le_trans (by rw [rl, List.length_map]; omega : _ ≤ 2000) (by decide), fun D nD => ?_⟩
    have u3 := same_upd nD (o := .lst (ws.map V.str ++ (List.replicate ((m : Int)).toNat [V.str "behind"]).flatten))
    have gD : (upd (upd (upd H L1 (.lst [.str "behind"])) L2 (.lst (List.replicate ((m : Int)).toNat [V.str "behind"]).flatten)) D (.lst (ws.map V.str ++ (List.replicate ((m : Int)).toNat [V.str "behind"]).flatten))) D = some (.lst (ws.map V.str ++ (List.replicate ((m : Int)).toNat [V.str "behind"]).flatten)) := upd_same
    have nDH : H D = none := (u1.trans u2).free nD
    have u13 := u1.trans (u2.trans u3)
    generalize upd (upd (upd H L1 (.lst [.str "behind"])) L2 (.lst (List.replicate ((m : Int)).toNat [V.str "behind"]).flatten)) D (.lst (ws.map V.str ++ (List.replicate ((m : Int)).toNat [V.str "behind"]).flatten)) = H3 at u13 gD ⊢
    generalize (List.replicate ((m : Int)).toNat [V.str "behind"]).flatten = bs at rl rm gD ⊢
    have al : (ws.map V.str ++ bs).length ≤ 700 := by
      rw [List.length_append, List.length_map, rl]
      omega
    have aw : ∀ (G : Hp), ∀ x ∈ ws.map V.str ++ bs, WV K G x := fun G x hx => by
      rcases List.mem_append.mp hx with z | z
      · obtain ⟨b, hb, rfl⟩ := List.mem_map.mp z
        have := wordB_len (hw b hb)
        exact .inl ⟨b, rfl, by omega⟩
      · rw [rm x z]
        exact .inl ⟨_, rfl, by decide +kernel⟩
    generalize ws.map V.str ++ bs = as at gD al aw ⊢
    have pos : (0 : Int) < (as.length : Int) + 1 := by omega
    refine ⟨_, rfl, .inl ⟨rfl, _, .inl (.inl gD)⟩, _, rfl, _, rfl, D, as, rfl, .inl (.inl (.inl gD)), _, _, rfl, rfl, _, _, rfl, rfl, pos, by show 5 ≤ sizeLine; decide, fun L5 n5 => ?_⟩
    have u5 := same_upd n5 (o := .lst [.str "", .str "a b", .int 4, .non, .str "a\tb"])
    have lt := ltM (c := c / 7) (n := 5) (by decide)
    obtain ⟨v, hv⟩ : ∃ v, ([.str "", .str "a b", .int 4, .non, .str "a\tb"] : List V)[(c / 7 % ((5 : Nat) : Int)).toNat]? = some v := ⟨_, List.getElem?_eq_getElem (show (c / 7 % ((5 : Nat) : Int)).toNat < ([.str "", .str "a b", .int 4, .non, .str "a\tb"] : List V).length from lt)⟩
    have vb : (∀ G : Hp, WV K G v) ∧ isW v = false := by
      have := List.mem_of_getElem? hv
      simp only [List.mem_cons, List.not_mem_nil, or_false] at this
      rcases this with rfl | rfl | rfl | rfl | rfl
      · exact ⟨fun G => .inl ⟨_, rfl, by decide +kernel⟩, by decide +kernel⟩
      · exact ⟨fun G => .inl ⟨_, rfl, by decide +kernel⟩, by decide +kernel⟩
      · exact ⟨fun G => .inr (.int _), rfl⟩
      · exact ⟨fun G => .inr .non, rfl⟩
      · exact ⟨fun G => .inl ⟨_, rfl, by decide +kernel⟩, by decide +kernel⟩
    have gD5 := u5 _ _ gD
    have a1 := Int.emod_nonneg c (show ((as.length : Int) + 1) ≠ 0 by omega)
    have a2 := Int.emod_lt_of_pos c pos
    refine ⟨_, rfl, _, _, rfl, rfl, ⟨by decide, by decide⟩, _, _, rfl, rfl, (by show (0 : Int) < 5; decide), L5, _, _, v, rfl, rfl, .inl (.inl upd_same), atM (n := 5) (by decide) hv, ?_⟩
    refine ⟨D, as, _, v, rfl, rfl, gD5, Nat.lt_of_le_of_lt al (by decide), a1, by omega, ?_⟩
    refine ⟨_, rfl, q _ D _ (same_set (u13.trans u5) nDH) nDH upd_same (fun x hx => ?_) ?_ ?_⟩
    · rcases List.mem_append.mp hx with z | z
      · rcases List.mem_append.mp z with z | z
        · exact aw _ x (List.mem_of_mem_take z)
        · rw [List.mem_singleton.mp z]
          exact vb.1 _
      · exact aw _ x (List.mem_of_mem_drop z)
    · rw [List.length_append, List.length_append, List.length_take, List.length_drop]
      show min _ as.length + 1 + (as.length - _) ≤ 1000
      omega
    · rw [List.all_append, List.all_append, List.all_cons, vb.2]
      simp
end
/-! ### the law: blocks spoilt -/
def spoilt (fl n : Nat) (r : RowD) (rs : List RowD) : List RowD :=
  if fl = 4 then rs.take n ++ rs.drop (n + 1)
  else if fl = 12 then rs.take n ++ [⟨"lay", 500000000 + (n : Int), r.ws⟩] ++ rs.drop (n + 1)
  else if fl = 13 then [⟨"lay", r.num, ["q"]⟩] ++ rs ++ [⟨"take", r.num, ["q"]⟩]
  else if fl = 5 then rs ++ [r]
  else rs.take n ++ [⟨"lay", r.num, r.ws ++ [("more" : Str)]⟩] ++ rs.drop (n + 1)
theorem rowsT_take {K : PySem.W.Frag} {H : Hp} {xs : List V} {rs : List RowD} (h : RowsT K H xs rs) (n : Nat) : RowsT K H (xs.take n) (rs.take n) := by
  refine ⟨by rw [List.length_take, List.length_take, h.1], fun i v e => ?_⟩
  rw [List.getElem?_take] at e
  split at e
  · rename_i lt
    obtain ⟨r, h1, h2⟩ := h.2 i v e
    exact ⟨r, by rw [List.getElem?_take, if_pos lt]; exact h1, h2⟩
  · cases e
theorem rowsT_drop {K : PySem.W.Frag} {H : Hp} {xs : List V} {rs : List RowD} (h : RowsT K H xs rs) (n : Nat) : RowsT K H (xs.drop n) (rs.drop n) := by
  refine ⟨by rw [List.length_drop, List.length_drop, h.1], fun i v e => ?_⟩
  rw [List.getElem?_drop] at e
  obtain ⟨r, h1, h2⟩ := h.2 _ v e
  exact ⟨r, by rw [List.getElem?_drop]; exact h1, h2⟩
theorem rowsT_at {K : PySem.W.Frag} {H : Hp} {xs : List V} {rs : List RowD} (h : RowsT K H xs rs) {n : Nat} {r : RowD} (hr : rs[n]? = some r) : ∃ T W, xs[n]? = some (.ref T) ∧ SqT K H T [.str r.kind, .int r.num, .ref W] ∧ H W = some (.tup (r.ws.map V.str)) := by
  have hn : n < xs.length := by
    rw [h.1]
    exact (List.getElem?_eq_some_iff.mp hr).1
  obtain ⟨r', h1, T, W, e, h2, h3⟩ := h.2 n xs[n] (List.getElem?_eq_getElem hn)
  rw [hr] at h1
  cases h1
  exact ⟨T, W, by rw [List.getElem?_eq_getElem hn, e], h2, h3⟩
section
variable {P : Program} {w : World} {K : PySem.W.Frag} {mg : Str → Option Value} {base : Heap}
theorem scBlockSpoilt : FnScope ["_law_rows", "_law_fault", "_law_at"] ["_law_rows", "_law_fault", "_law_at"] (defScope sBlockSpoilt) := ⟨rfl, rfl, rfl, by decide +kernel, rfl, by decide +kernel, by decide +kernel⟩
def spBlockSpoilt (K : PySem.W.Frag) : Sp := fun vs H Q _ => ∃ (p : Addr) (xs : List V) (rs : List RowD) (fl n : Nat) (r : RowD), vs = [.ref p, .int (fl : Int), .int (n : Int)] ∧ H p = some (.lst xs) ∧ RowsT K H xs rs ∧ rs[n]? = some r ∧ rs.length ≤ 500 ∧ r.ws.length ≤ 500 ∧ r.ws ≠ [] ∧
  ∀ (H' : Hp) (D : Addr) (ys : List V), Same H H' → H D = none → H' D = some (.lst ys) → RowsT K H' ys (spoilt fl n r rs) → Q (.ref D) H'
theorem ok_block_spoilt {f : Addr} {fd : FuncData} (F : FnP K "_law_block_spoilt" sBlockSpoilt f fd) : FnOk P w K mg base (L2.CX P w) 1 f fd ["_law_rows", "_law_fault", "_law_at"] (spBlockSpoilt K) := by
  refine F.ok scBlockSpoilt (fun vs H Q E h => ?_) (fun cdv A outer s H vs Q E hr h => ?_)
  · obtain ⟨p, xs, rs, fl, n, r, rfl, _⟩ := h
    rfl
  · obtain ⟨p, xs, rs, fl, n, r, rfl, hp, hX, hrow, hl, hwl, hwn, q⟩ := h
    refine ⟨_, pss_cons (ps_if (pt_cmpR op_eq (pv 1) pe_int (nomark _)) (pss_one (ps_ret (pe_op op_cat (pe_slice sl_list (pv 0) po_none (po_some (pv 2))) (pe_slice sl_list (pv 0) (po_some (pe_op op_add (pv 2) pe_int)) po_none)))) pss_nil)
      (pss_cons (ps_if (pt_cmpR op_eq (pv 1) pe_int (nomark _)) (pss_one (ps_ret (pe_op op_cat (pe_op op_cat (pe_slice sl_list (pv 0) po_none (po_some (pv 2)))
          (pe_lst (pa_cons (pe_tup (pa_cons pe_str (pa_cons (pe_op op_add pe_int (pv 2)) (pa_cons (pe_ix ix_tup (pe_ix ix_list (pv 0) (pv 2) (fun _ _ => rfl)) pe_int (fun _ _ => rfl)) pa_nil)))) pa_nil))) (pe_slice sl_list (pv 0) (po_some (pe_op op_add (pv 2) pe_int)) po_none)))) pss_nil)
      (pss_cons (ps_if (pt_cmpR op_eq (pv 1) pe_int (nomark _)) (pss_one (ps_ret (pe_op op_cat (pe_op op_cat
          (pe_lst (pa_cons (pe_tup (pa_cons pe_str (pa_cons (pe_ix ix_tup (pe_ix ix_list (pv 0) (pv 2) (fun _ _ => rfl)) pe_int (fun _ _ => rfl)) (pa_cons (pe_tup (pa_cons pe_str pa_nil)) pa_nil)))) pa_nil)) (pv 0))
          (pe_lst (pa_cons (pe_tup (pa_cons pe_str (pa_cons (pe_ix ix_tup (pe_ix ix_list (pv 0) (pv 2) (fun _ _ => rfl)) pe_int (fun _ _ => rfl)) (pa_cons (pe_tup (pa_cons pe_str pa_nil)) pa_nil)))) pa_nil))))) pss_nil)
      (pss_cons (ps_if (pt_cmpR op_eq (pv 1) pe_int (nomark _)) (pss_one (ps_ret (pe_op op_cat (pv 0) (pe_lst (pa_cons (pe_ix ix_list (pv 0) (pv 2) (fun _ _ => rfl)) pa_nil))))) pss_nil)
      (pss_one (ps_ret (pe_op op_cat (pe_op op_cat (pe_slice sl_list (pv 0) po_none (po_some (pv 2)))
          (pe_lst (pa_cons (pe_tup (pa_cons pe_str (pa_cons (pe_ix ix_tup (pe_ix ix_list (pv 0) (pv 2) (fun _ _ => rfl)) pe_int (fun _ _ => rfl)) (pa_cons (pe_op op_catT (pe_ix ix_tup (pe_ix ix_list (pv 0) (pv 2) (fun _ _ => rfl)) pe_int (fun _ _ => rfl)) (pe_tup (pa_cons pe_str pa_nil))) pa_nil)))) pa_nil))) (pe_slice sl_list (pv 0) (po_some (pe_op op_add (pv 2) pe_int)) po_none))))))), ?_⟩
    have ek : (n : Int) + 1 = ((n + 1 : Nat) : Int) := by omega
    obtain ⟨T, W, hx, hT, hW⟩ := rowsT_at hX hrow
    have hxl := hX.1
    have small : ∀ {m : Nat}, m ≤ 10000 → m ≤ sizeLine := fun h => Nat.le_trans h (by decide)
    have lt : (xs.take n).length ≤ 500 := by
      rw [List.length_take]
      omega
    have ld : (xs.drop (n + 1)).length ≤ 500 := by
      rw [List.length_drop]
      omega
    -- a row in the place of the one at n
    have mid : ∀ (fl2 : Nat) (g : RowD), fl2 = fl → spoilt fl n r rs = rs.take n ++ [g] ++ rs.drop (n + 1) → ∀ (C1 L1 T1 : Addr) (G : Hp), Same H G → G C1 = some (.lst (xs.take n)) → G L1 = some (.lst [.ref T1]) → RowT K G (.ref T1) g →
        ∀ D1, G D1 = none → ∀ C2, (upd G D1 (.lst (xs.take n ++ [.ref T1]))) C2 = none → ∀ D, (upd (upd G D1 (.lst (xs.take n ++ [.ref T1]))) C2 (.lst (xs.drop (n + 1)))) D = none → Q (.ref D) (upd (upd (upd G D1 (.lst (xs.take n ++ [.ref T1]))) C2 (.lst (xs.drop (n + 1)))) D (.lst ((xs.take n ++ [.ref T1]) ++ xs.drop (n + 1)))) := fun fl2 g _ e C1 L1 T1 G s0 _ _ hg D1 n1 C2 n2 D nD => by
      have u := (same_upd n1 (o := .lst (xs.take n ++ [.ref T1]))).trans (same_upd n2 (o := .lst (xs.drop (n + 1))))
      have u3 := u.trans (same_upd nD (o := .lst ((xs.take n ++ [.ref T1]) ++ xs.drop (n + 1))))
      refine q _ D _ (s0.trans u3) ((s0.trans u).free nD) upd_same ?_
      rw [e]
      exact ((rowsT_take (hX.same (s0.trans u3)) n).app (RowsT.one (hg.same u3))).app (rowsT_drop (hX.same (s0.trans u3)) (n + 1))
    refine ⟨_, rfl, rfl, _, rfl, ite2 (fun e => ?_) (fun e => ?_)⟩
    · -- one left out
      have e4 : fl = 4 := by
        have := V.int.inj (of_decide_eq_true e)
        omega
      refine ⟨_, rfl, _, rfl, _, rfl, p, _, rfl, .inl (.inl hp), fun C1 n1 => ?_⟩
      rw [cut_tok]
      have u1 := same_upd n1 (o := .lst (xs.take n))
      have g1 : (upd H C1 (.lst (xs.take n))) C1 = some (.lst (xs.take n)) := upd_same
      generalize upd H C1 (.lst (xs.take n)) = H1 at u1 g1 ⊢
      refine ⟨_, rfl, _, rfl, _, _, rfl, rfl, _, rfl, p, _, rfl, .inl (.inl (u1 _ _ hp)), fun C2 n2 => ?_⟩
      rw [ek, cut_frm]
      have u2 := same_upd n2 (o := .lst (xs.drop (n + 1)))
      refine ⟨C1, C2, _, _, rfl, rfl, u2 _ _ g1, upd_same, small (by omega), fun D nD => ?_⟩
      have u := u1.trans (u2.trans (same_upd nD (o := .lst (xs.take n ++ xs.drop (n + 1)))))
      refine q _ D _ u ((u1.trans u2).free nD) upd_same ?_
      unfold spoilt
      rw [if_pos e4]
      exact (rowsT_take (hX.same u) n).app (rowsT_drop (hX.same u) (n + 1))
    have n4 : ¬ fl = 4 := fun z => e (decide_eq_true (by rw [z]; rfl))
    refine ⟨_, rfl, rfl, _, rfl, ite2 (fun e => ?_) (fun e => ?_)⟩
    · -- another number
      have e12 : fl = 12 := by
        have := V.int.inj (of_decide_eq_true e)
        omega
      refine ⟨_, rfl, _, rfl, _, rfl, p, _, rfl, .inl (.inl hp), fun C1 n1 => ?_⟩
      rw [cut_tok]
      have u1 := same_upd n1 (o := .lst (xs.take n))
      have g1 : (upd H C1 (.lst (xs.take n))) C1 = some (.lst (xs.take n)) := upd_same
      generalize upd H C1 (.lst (xs.take n)) = H1 at u1 g1 ⊢
      refine ⟨_, rfl, _, _, rfl, rfl, _, rfl, _, rfl, p, _, _, _, rfl, rfl, .inl (.inl (u1 _ _ hp)), atI_nat hx, T, _, _, _, rfl, rfl, sameT u1 hT, at_of (j := 2) rfl rfl, by show 3 ≤ sizeLine; decide, fun T1 nT1 => ⟨by show 1 ≤ sizeLine; decide, fun L1 nL1 => ?_⟩⟩
      dsimp only
      have u2 := same_upd nT1 (o := .tup [.str "lay", .int (500000000 + (n : Int)), .ref W])
      have u3 := same_upd nL1 (o := .lst [.ref T1])
      have row : RowT K (upd (upd H1 T1 (.tup [.str "lay", .int (500000000 + (n : Int)), .ref W])) L1 (.lst [.ref T1])) (.ref T1) ⟨"lay", 500000000 + (n : Int), r.ws⟩ := ⟨T1, W, rfl, .inl (.inl (u3 _ _ upd_same)), u3 _ _ (u2 _ _ (u1 _ _ hW))⟩
      have g3 : (upd (upd H1 T1 (.tup [.str "lay", .int (500000000 + (n : Int)), .ref W])) L1 (.lst [.ref T1])) L1 = some (.lst [.ref T1]) := upd_same
      have u23 := u2.trans u3
      generalize upd (upd H1 T1 (.tup [.str "lay", .int (500000000 + (n : Int)), .ref W])) L1 (.lst [.ref T1]) = G at u23 g3 row ⊢
      have s0 := u1.trans u23
      refine ⟨C1, L1, _, _, rfl, rfl, u23 _ _ g1, g3, small (by show _ + 1 ≤ _; omega), fun D1 nD1 => ?_⟩
      have u5 := same_upd nD1 (o := .lst (xs.take n ++ [.ref T1]))
      refine ⟨_, rfl, _, rfl, _, _, rfl, rfl, _, rfl, p, _, rfl, .inl (.inl (u5 _ _ (s0 _ _ hp))), fun C2 n2 => ?_⟩
      rw [ek, cut_frm]
      refine ⟨D1, C2, _, _, rfl, rfl, same_upd n2 _ _ upd_same, upd_same, small (by rw [List.length_append]; show _ + 1 + _ ≤ _; omega), fun D nD => ?_⟩
      exact mid 12 _ e12.symm (by unfold spoilt; rw [if_neg n4, if_pos e12]) C1 L1 T1 G s0 (u23 _ _ g1) g3 row D1 nD1 C2 n2 D nD
    have n12 : ¬ fl = 12 := fun z => e (decide_eq_true (by rw [z]; rfl))
    refine ⟨_, rfl, rfl, _, rfl, ite2 (fun e => ?_) (fun e => ?_)⟩
    · -- one number for two blocks
      have e13 : fl = 13 := by
        have := V.int.inj (of_decide_eq_true e)
        omega
      refine ⟨_, rfl, _, rfl, p, _, _, _, rfl, rfl, .inl (.inl hp), atI_nat hx, T, _, _, _, rfl, rfl, hT, at_of (j := 1) rfl rfl, by show 1 ≤ sizeLine; decide, fun Q1 nQ1 => ⟨by show 3 ≤ sizeLine; decide, fun T1 nT1 => ⟨by show 1 ≤ sizeLine; decide, fun L1 nL1 => ?_⟩⟩⟩
      have u1 := same_upd nQ1 (o := .tup [.str "q"])
      have u2 := same_upd nT1 (o := .tup [.str "lay", .int r.num, .ref Q1])
      have u3 := same_upd nL1 (o := .lst [.ref T1])
      have row1 : RowT K (upd (upd (upd H Q1 (.tup [.str "q"])) T1 (.tup [.str "lay", .int r.num, .ref Q1])) L1 (.lst [.ref T1])) (.ref T1) ⟨"lay", r.num, ["q"]⟩ := ⟨T1, Q1, rfl, .inl (.inl (u3 _ _ upd_same)), u3 _ _ (u2 _ _ upd_same)⟩
      have g3 : (upd (upd (upd H Q1 (.tup [.str "q"])) T1 (.tup [.str "lay", .int r.num, .ref Q1])) L1 (.lst [.ref T1])) L1 = some (.lst [.ref T1]) := upd_same
      have u13 := u1.trans (u2.trans u3)
      generalize upd (upd (upd H Q1 (.tup [.str "q"])) T1 (.tup [.str "lay", .int r.num, .ref Q1])) L1 (.lst [.ref T1]) = G at u13 g3 row1 ⊢
      refine ⟨_, rfl, L1, p, _, _, rfl, rfl, g3, u13 _ _ hp, small (by show 1 + _ ≤ _; omega), fun D1 nD1 => ?_⟩
      have u4 := same_upd nD1 (o := .lst ([.ref T1] ++ xs))
      have g4 : (upd G D1 (.lst ([.ref T1] ++ xs))) D1 = some (.lst ([.ref T1] ++ xs)) := upd_same
      have row1 := row1.same u4
      have u14 := u13.trans u4
      generalize upd G D1 (.lst ([.ref T1] ++ xs)) = G2 at u4 g4 row1 u14 ⊢
      refine ⟨_, rfl, _, rfl, p, _, _, _, rfl, rfl, .inl (.inl (u14 _ _ hp)), atI_nat hx, T, _, _, _, rfl, rfl, sameT u14 hT, at_of (j := 1) rfl rfl, by show 1 ≤ sizeLine; decide, fun Q2 nQ2 => ⟨by show 3 ≤ sizeLine; decide, fun T2 nT2 => ⟨by show 1 ≤ sizeLine; decide, fun L2 nL2 => ?_⟩⟩⟩
      have v1 := same_upd nQ2 (o := .tup [.str "q"])
      have v2 := same_upd nT2 (o := .tup [.str "take", .int r.num, .ref Q2])
      have v3 := same_upd nL2 (o := .lst [.ref T2])
      have row2 : RowT K (upd (upd (upd G2 Q2 (.tup [.str "q"])) T2 (.tup [.str "take", .int r.num, .ref Q2])) L2 (.lst [.ref T2])) (.ref T2) ⟨"take", r.num, ["q"]⟩ := ⟨T2, Q2, rfl, .inl (.inl (v3 _ _ upd_same)), v3 _ _ (v2 _ _ upd_same)⟩
      have g5 : (upd (upd (upd G2 Q2 (.tup [.str "q"])) T2 (.tup [.str "take", .int r.num, .ref Q2])) L2 (.lst [.ref T2])) L2 = some (.lst [.ref T2]) := upd_same
      have v13 := v1.trans (v2.trans v3)
      generalize upd (upd (upd G2 Q2 (.tup [.str "q"])) T2 (.tup [.str "take", .int r.num, .ref Q2])) L2 (.lst [.ref T2]) = G3 at v13 g5 row2 ⊢
      refine ⟨D1, L2, _, _, rfl, rfl, v13 _ _ g4, g5, small (by show _ + 1 ≤ _; rw [List.length_append]; show 1 + _ + 1 ≤ _; omega), fun D nD => ?_⟩
      have u := u14.trans v13
      have uD := same_upd nD (o := .lst (([.ref T1] ++ xs) ++ [.ref T2]))
      refine q _ D _ (u.trans uD) (u.free nD) upd_same ?_
      unfold spoilt
      rw [if_neg n4, if_neg n12, if_pos e13]
      exact ((RowsT.one ((row1.same v13).same uD)).app (hX.same (u.trans uD))).app (RowsT.one (row2.same uD))
    have n13 : ¬ fl = 13 := fun z => e (decide_eq_true (by rw [z]; rfl))
    refine ⟨_, rfl, rfl, _, rfl, ite2 (fun e => ?_) (fun e => ?_)⟩
    · -- told twice
      have e5 : fl = 5 := by
        have := V.int.inj (of_decide_eq_true e)
        omega
      refine ⟨_, rfl, _, rfl, _, rfl, p, _, _, _, rfl, rfl, .inl (.inl hp), atI_nat hx, by show 1 ≤ sizeLine; decide, fun L1 nL1 => ?_⟩
      have u1 := same_upd nL1 (o := .lst [.ref T])
      refine ⟨p, L1, _, _, rfl, rfl, u1 _ _ hp, upd_same, small (by show _ + 1 ≤ _; omega), fun D nD => ?_⟩
      have u := u1.trans (same_upd nD (o := .lst (xs ++ [.ref T])))
      refine q _ D _ u (u1.free nD) upd_same ?_
      unfold spoilt
      rw [if_neg n4, if_neg n12, if_neg n13, if_pos e5]
      exact (hX.same u).app (RowsT.one ⟨T, W, rfl, sameT u hT, u _ _ hW⟩)
    have n5 : ¬ fl = 5 := fun z => e (decide_eq_true (by rw [z]; rfl))
    · -- a word more
      refine ⟨_, rfl, _, rfl, _, rfl, p, _, rfl, .inl (.inl hp), fun C1 n1 => ?_⟩
      rw [cut_tok]
      have u1 := same_upd n1 (o := .lst (xs.take n))
      have g1 : (upd H C1 (.lst (xs.take n))) C1 = some (.lst (xs.take n)) := upd_same
      generalize upd H C1 (.lst (xs.take n)) = H1 at u1 g1 ⊢
      refine ⟨_, rfl, _, rfl, p, _, _, _, rfl, rfl, .inl (.inl (u1 _ _ hp)), atI_nat hx, T, _, _, _, rfl, rfl, sameT u1 hT, at_of (j := 1) rfl rfl, _, rfl, _, rfl, p, _, _, _, rfl, rfl, .inl (.inl (u1 _ _ hp)), atI_nat hx, T, _, _, _, rfl, rfl, sameT u1 hT, at_of (j := 2) rfl rfl, by show 1 ≤ sizeLine; decide, fun M nM => ?_⟩
      have um := same_upd nM (o := .tup [.str "more"])
      have sW : SqT K (upd H1 M (.tup [.str "more"])) W (r.ws.map V.str) := .inl (.inl (um _ _ (u1 _ _ hW)))
      refine ⟨W, M, _, _, rfl, rfl, sW, .inl (.inl upd_same), (fun z => hwn (List.map_eq_nil_iff.mp z)), small (by rw [List.length_map]; show _ + 1 ≤ _; omega), (fun z => by cases z), fun _ W2 nW2 => ⟨by show 3 ≤ sizeLine; decide, fun T1 nT1 => ⟨by show 1 ≤ sizeLine; decide, fun L1 nL1 => ?_⟩⟩⟩
      have uw := same_upd nW2 (o := .tup (r.ws.map V.str ++ [.str "more"]))
      have u2 := same_upd nT1 (o := .tup [.str "lay", .int r.num, .ref W2])
      have u3 := same_upd nL1 (o := .lst [.ref T1])
      have row : RowT K (upd (upd (upd (upd H1 M (.tup [.str "more"])) W2 (.tup (r.ws.map V.str ++ [.str "more"]))) T1 (.tup [.str "lay", .int r.num, .ref W2])) L1 (.lst [.ref T1])) (.ref T1) ⟨"lay", r.num, r.ws ++ [("more" : Str)]⟩ := by
        refine ⟨T1, W2, rfl, .inl (.inl (u3 _ _ upd_same)), u3 _ _ (u2 _ _ ?_)⟩
        rw [upd_same, List.map_append]
        rfl
      have g3 : (upd (upd (upd (upd H1 M (.tup [.str "more"])) W2 (.tup (r.ws.map V.str ++ [.str "more"]))) T1 (.tup [.str "lay", .int r.num, .ref W2])) L1 (.lst [.ref T1])) L1 = some (.lst [.ref T1]) := upd_same
      have u23 := um.trans (uw.trans (u2.trans u3))
      generalize upd (upd (upd (upd H1 M (.tup [.str "more"])) W2 (.tup (r.ws.map V.str ++ [.str "more"]))) T1 (.tup [.str "lay", .int r.num, .ref W2])) L1 (.lst [.ref T1]) = G at u23 g3 row ⊢
      have s0 := u1.trans u23
      refine ⟨C1, L1, _, _, rfl, rfl, u23 _ _ g1, g3, small (by show _ + 1 ≤ _; omega), fun D1 nD1 => ?_⟩
      have u5 := same_upd nD1 (o := .lst (xs.take n ++ [.ref T1]))
      refine ⟨_, rfl, _, rfl, _, _, rfl, rfl, _, rfl, p, _, rfl, .inl (.inl (u5 _ _ (s0 _ _ hp))), fun C2 n2 => ?_⟩
      rw [ek, cut_frm]
      refine ⟨D1, C2, _, _, rfl, rfl, same_upd n2 _ _ upd_same, upd_same, small (by rw [List.length_append]; show _ + 1 + _ ≤ _; omega), fun D nD => ?_⟩
      exact mid fl _ rfl (by unfold spoilt; rw [if_neg n4, if_neg n12, if_neg n13, if_neg n5]) C1 L1 T1 G s0 (u23 _ _ g1) g3 row D1 nD1 C2 n2 D nD
end
/-! ### the law: the numbers of two lays exchanged -/
def exch (ls : List Nat) (rs : List RowD) : List RowD := match ls with
  | i :: j :: _ => match rs[i]?, rs[j]? with
    | some r, some s => if r.ws = s.ws then rs else (rs.set i ⟨"lay", s.num, r.ws⟩).set j ⟨"lay", r.num, s.ws⟩
    | _, _ => rs
  | _ => rs
theorem exch_two {i j : Nat} {t : List Nat} {rs : List RowD} {r s : RowD} (hi : rs[i]? = some r) (hj : rs[j]? = some s) : exch (i :: j :: t) rs = if r.ws = s.ws then rs else (rs.set i ⟨"lay", s.num, r.ws⟩).set j ⟨"lay", r.num, s.ws⟩ := by
  unfold exch
  simp only [hi, hj]
theorem rowsT_put {K : PySem.W.Frag} {H : Hp} {xs : List V} {rs : List RowD} {j : Nat} {v : V} {r : RowD} (h : RowsT K H xs rs) (g : RowT K H v r) : RowsT K H (xs.set j v) (rs.set j r) := by
  refine ⟨by rw [List.length_set, List.length_set, h.1], fun i u e => ?_⟩
  rw [List.getElem?_set] at e
  by_cases c : j = i
  · subst c
    rw [if_pos rfl] at e
    split at e
    · next hl =>
      cases e
      exact ⟨r, by rw [List.getElem?_set, if_pos rfl, if_pos (by rw [← h.1]; exact hl)], g⟩
    · cases e
  · rw [if_neg c] at e
    obtain ⟨r', h1, h2⟩ := h.2 i u e
    exact ⟨r', by rw [List.getElem?_set, if_neg c]; exact h1, h2⟩
theorem ixN_nat5 {n k : Nat} (h : k < n) : ixN n (k : Int) = some k := by
  unfold ixN
  rw [if_pos (by omega), if_pos (by omega), Int.toNat_natCast]
theorem eqv_tstrs {l m : List Str} : PyData.eqv (.tuple (l.map PyData.str)) (.tuple (m.map PyData.str)) = decide (l = m) := eqv_strs (l := l) (m := m)
section
variable {P : Program} {w : World} {K : PySem.W.Frag} {mg : Str → Option Value} {base : Heap}
theorem scExchanged : FnScope ["_law_rows", "_law_laid", "_law_fresh"] ["_law_rows", "_law_laid"] (defScope sExchanged) := ⟨rfl, rfl, rfl, by decide +kernel, rfl, by decide +kernel, by decide +kernel⟩
def natV (k : Nat) : V := .int (k : Int)
def spExchanged (K : PySem.W.Frag) : Sp := fun vs H Q _ => ∃ (p l : Addr) (xs : List V) (rs : List RowD) (ls : List Nat), vs = [.ref p, .ref l] ∧ H p = some (.lst xs) ∧ RowsT K H xs rs ∧ (∀ r ∈ rs, RowOk r) ∧ H l = some (.lst (ls.map natV)) ∧ (∀ k ∈ ls, k < rs.length) ∧ rs.length ≤ 500 ∧
  ∀ (H' : Hp) (D : Addr) (ys : List V), Same H H' → H D = none → H' D = some (.lst ys) → RowsT K H' ys (exch ls rs) → Q (.ref D) H'
theorem ok_exchanged {f : Addr} {fd : FuncData} (F : FnP K "_law_exchanged" sExchanged f fd) (mL : mg "len" = none) (mT : mg "list" = none) : FnOk P w K mg base (L2.CX P w) 1 f fd ["_law_rows", "_law_laid"] (spExchanged K) := by
  refine F.ok scExchanged (fun vs H Q E h => ?_) (fun cdv A outer s H vs Q E hr h => ?_)
  · obtain ⟨p, l, xs, rs, ls, rfl, _⟩ := h
    rfl
  · obtain ⟨p, l, xs, rs, ls, rfl, hp, hX, hok, hl, hls, hlen, q⟩ := h
    refine ⟨_, pss_cons (ps_if (PW.pt (pw_or (pt_cmpR op_lt (pe_callB call_len_seq (by rfl) mL PySem.boot_len (pa_cons (pv 1) pa_nil)) pe_int (nomark _))
          (pw_or1 (pt_cmpR (op_eqD hr.units) (pe_ix ix_tup (pe_ix ix_list (pv 0) (pe_ix ix_list (pv 1) pe_int (fun _ _ => rfl)) (fun _ _ => rfl)) pe_int (fun _ _ => rfl)) (pe_ix ix_tup (pe_ix ix_list (pv 0) (pe_ix ix_list (pv 1) pe_int (fun _ _ => rfl)) (fun _ _ => rfl)) pe_int (fun _ _ => rfl)) (by rfl)))))
        (pss_one (ps_ret (pe_callTy call_list_of (by rfl) mT (by decide +kernel) (pa_cons (pv 0) pa_nil)))) pss_nil)
      (pss_cons (ps_set (i := 2) scExchanged.nd rfl (.inl rfl) (pe_callTy call_list_of (by rfl) mT (by decide +kernel) (pa_cons (pv 0) pa_nil)))
      (pss_cons (ps_asg (pe_tup (pa_cons pe_str (pa_cons (pe_ix ix_tup (pe_ix ix_list (pv 0) (pe_ix ix_list (pv 1) pe_int (fun _ _ => rfl)) (fun _ _ => rfl)) pe_int (fun _ _ => rfl)) (pa_cons (pe_ix ix_tup (pe_ix ix_list (pv 0) (pe_ix ix_list (pv 1) pe_int (fun _ _ => rfl)) (fun _ _ => rfl)) pe_int (fun _ _ => rfl)) pa_nil)))) (pg_sub (pv 2) (pe_ix ix_list (pv 1) pe_int (fun _ _ => rfl)) set_list))
      (pss_cons (ps_asg (pe_tup (pa_cons pe_str (pa_cons (pe_ix ix_tup (pe_ix ix_list (pv 0) (pe_ix ix_list (pv 1) pe_int (fun _ _ => rfl)) (fun _ _ => rfl)) pe_int (fun _ _ => rfl)) (pa_cons (pe_ix ix_tup (pe_ix ix_list (pv 0) (pe_ix ix_list (pv 1) pe_int (fun _ _ => rfl)) (fun _ _ => rfl)) pe_int (fun _ _ => rfl)) pa_nil)))) (pg_sub (pv 2) (pe_ix ix_list (pv 1) pe_int (fun _ _ => rfl)) set_list))
      (pss_one (ps_ret (pv 2)))))), ?_⟩
    have copy : ∀ G : Hp, Same H G → exch ls rs = rs → ∀ D, G D = none → Q (.ref D) (upd G D (.lst xs)) := fun G s0 e D nD => by
      refine q _ D xs (s0.trans (same_upd nD)) (s0.free nD) upd_same ?_
      rw [e]
      exact (hX.same s0).same (same_upd nD)
    refine ⟨_, rfl, l, _, rfl, .inl (.inl (.inl hl)), _, _, rfl, rfl, _, rfl, ?_⟩
    match ls, hl, hls, copy, q with
    | [], hl, hls, copy, q => exact iteT ⟨_, rfl, p, _, rfl, .inl (.inl (.inl hp)), fun D nD => copy H (Same.refl _) rfl D nD⟩
    | [i], hl, hls, copy, q => exact iteT ⟨_, rfl, p, _, rfl, .inl (.inl (.inl hp)), fun D nD => copy H (Same.refl _) rfl D nD⟩
    | i :: j :: t, hl, hls, copy, q =>
      have ne : decide ((((i :: j :: t).map natV).length : Int) < 2) = false := by
        refine decide_eq_false ?_
        rw [List.length_map, List.length_cons, List.length_cons]
        omega
      rw [ne]
      obtain ⟨r, hi⟩ : ∃ r, rs[i]? = some r := ⟨_, List.getElem?_eq_getElem (hls i List.mem_cons_self)⟩
      obtain ⟨s', hj⟩ : ∃ s, rs[j]? = some s := ⟨_, List.getElem?_eq_getElem (hls j (List.mem_cons_of_mem _ List.mem_cons_self))⟩
      obtain ⟨T1, W1, hx1, hT1, hW1⟩ := rowsT_at hX hi
      obtain ⟨T2, W2, hx2, hT2, hW2⟩ := rowsT_at hX hj
      have ok1 := hok r (List.mem_of_getElem? hi)
      have ok2 := hok s' (List.mem_of_getElem? hj)
      rw [exch_two hi hj] at copy q
      refine iteF ⟨_, rfl, _, rfl, l, _, _, _, rfl, rfl, .inl (.inl hl), at_of (j := 0) rfl rfl, p, _, _, _, rfl, rfl, .inl (.inl hp), atI_nat hx1, T1, _, _, _, rfl, rfl, hT1, at_of (j := 2) rfl rfl, ?_⟩
      refine ⟨_, rfl, _, rfl, l, _, _, _, rfl, rfl, .inl (.inl hl), at_of (j := 1) rfl rfl, p, _, _, _, rfl, rfl, .inl (.inl hp), atI_nat hx2, T2, _, _, _, rfl, rfl, hT2, at_of (j := 2) rfl rfl, ?_⟩
      refine ⟨_, _, .tup (.inl (.inl hW1)) (dpStrs H K _), .tup (.inl (.inl hW2)) (dpStrs H K _), shaped_tup ok1.words, shaped_tup ok2.words, _, rfl, ?_⟩
      rw [eqv_tstrs]
      by_cases c : r.ws = s'.ws
      · rw [decide_eq_true c]
        refine iteT ⟨_, rfl, p, _, rfl, .inl (.inl (.inl hp)), fun D nD => copy H (Same.refl _) (by rw [if_pos c]) D nD⟩
      · rw [decide_eq_false c]
        rw [if_neg c] at q
        refine iteF ⟨_, rfl, p, _, rfl, .inl (.inl (.inl hp)), fun D nD => ?_⟩
        have u1 := same_upd nD (o := .lst xs)
        have gD : (upd H D (.lst xs)) D = some (.lst xs) := upd_same
        generalize upd H D (.lst xs) = H1 at u1 gD ⊢
        have lt := hX.1
        have li := hls i List.mem_cons_self
        have lj := hls j (List.mem_cons_of_mem _ List.mem_cons_self)
        -- the one
        refine ⟨_, rfl, _, rfl, l, _, _, _, rfl, rfl, .inl (.inl (u1 _ _ hl)), at_of (j := 1) rfl rfl, p, _, _, _, rfl, rfl, .inl (.inl (u1 _ _ hp)), atI_nat hx2, T2, _, _, _, rfl, rfl, sameT u1 hT2, at_of (j := 1) rfl rfl, ?_⟩
        refine ⟨_, rfl, _, rfl, l, _, _, _, rfl, rfl, .inl (.inl (u1 _ _ hl)), at_of (j := 0) rfl rfl, p, _, _, _, rfl, rfl, .inl (.inl (u1 _ _ hp)), atI_nat hx1, T1, _, _, _, rfl, rfl, sameT u1 hT1, at_of (j := 2) rfl rfl, by show 3 ≤ sizeLine; decide, fun Z1 nZ1 => ?_⟩
        have u2 := same_upd nZ1 (o := .tup [.str "lay", .int s'.num, .ref W1])
        have row1 : RowT K (upd H1 Z1 (.tup [.str "lay", .int s'.num, .ref W1])) (.ref Z1) ⟨"lay", s'.num, r.ws⟩ := ⟨Z1, W1, rfl, .inl (.inl upd_same), u2 _ _ (u1 _ _ hW1)⟩
        have gD2 := u2 _ _ gD
        generalize upd H1 Z1 (.tup [.str "lay", .int s'.num, .ref W1]) = H2 at u2 row1 gD2 ⊢
        have u12 := u1.trans u2
        refine ⟨_, rfl, _, rfl, l, _, _, _, rfl, rfl, .inl (.inl (u12 _ _ hl)), at_of (j := 0) rfl rfl, D, _, _, i, rfl, rfl, gD2, ixN_nat5 (by omega), ?_⟩
        have s3 : Same H (upd H2 D (.lst (xs.set i (.ref Z1)))) := same_set u12 nD
        have rows3 : RowsT K (upd H2 D (.lst (xs.set i (.ref Z1)))) (xs.set i (.ref Z1)) (rs.set i ⟨"lay", s'.num, r.ws⟩) := RowsT.set (noTup gD2) (rowsT_put (hX.same u12) row1)
        have gD3 : (upd H2 D (.lst (xs.set i (.ref Z1)))) D = some (.lst (xs.set i (.ref Z1))) := upd_same
        generalize upd H2 D (.lst (xs.set i (.ref Z1))) = H3 at s3 rows3 gD3 ⊢
        -- the other
        refine ⟨_, rfl, _, rfl, l, _, _, _, rfl, rfl, .inl (.inl (s3 _ _ hl)), at_of (j := 0) rfl rfl, p, _, _, _, rfl, rfl, .inl (.inl (s3 _ _ hp)), atI_nat hx1, T1, _, _, _, rfl, rfl, sameT s3 hT1, at_of (j := 1) rfl rfl, ?_⟩
        refine ⟨_, rfl, _, rfl, l, _, _, _, rfl, rfl, .inl (.inl (s3 _ _ hl)), at_of (j := 1) rfl rfl, p, _, _, _, rfl, rfl, .inl (.inl (s3 _ _ hp)), atI_nat hx2, T2, _, _, _, rfl, rfl, sameT s3 hT2, at_of (j := 2) rfl rfl, by show 3 ≤ sizeLine; decide, fun Z2 nZ2 => ?_⟩
        have u4 := same_upd nZ2 (o := .tup [.str "lay", .int r.num, .ref W2])
        have row2 : RowT K (upd H3 Z2 (.tup [.str "lay", .int r.num, .ref W2])) (.ref Z2) ⟨"lay", r.num, s'.ws⟩ := ⟨Z2, W2, rfl, .inl (.inl upd_same), u4 _ _ (s3 _ _ hW2)⟩
        have gD4 := u4 _ _ gD3
        generalize upd H3 Z2 (.tup [.str "lay", .int r.num, .ref W2]) = H4 at u4 row2 gD4 ⊢
        have s4 := s3.trans u4
        refine ⟨_, rfl, _, rfl, l, _, _, _, rfl, rfl, .inl (.inl (s4 _ _ hl)), at_of (j := 1) rfl rfl, D, _, _, j, rfl, rfl, gD4, ixN_nat5 (by rw [List.length_set]; omega), ?_⟩
        refine ⟨_, rfl, q _ D _ (same_set s4 nD) nD upd_same ?_⟩
        exact RowsT.set (noTup gD4) (rowsT_put (rows3.same u4) row2)
end
/-! ### the law: right -/
theorem DoneD.kp {K : PySem.W.Frag} {Ps : List Addr} {H H' : Hp} (t : Tb Ps H) (k : Kp Ps H H') {v u : V} {d : Nat} (h : DoneD K H v u d) : DoneD K H' v u d := by
  rcases h with ⟨e, h⟩ | ⟨p, xs, rs, e, hS, hR, hok, hl, hwo, hwn, h⟩
  · exact .inl ⟨e, h.kp t k⟩
  · refine .inr ⟨p, xs, rs, e, k.seq t hS, hR.kp t k, hok, hl, hwo, hwn, ?_⟩
    rcases h with ⟨o, h1, h2⟩ | ⟨q, old, e2, hq, how, hol, h⟩
    · exact .inl ⟨o, h1.kp t k, h2⟩
    · exact .inr ⟨q, old, e2, k.seq t hq, how, hol, h⟩
theorem DoneD.le {K : PySem.W.Frag} {H : Hp} {v u : V} {d : Nat} (h : DoneD K H v u d) : d = 0 ∨ d = 1 ∨ d = 2 ∨ d = 3 ∨ d = 4 := by
  rcases h with ⟨e, h⟩ | ⟨p, xs, rs, e, hS, hR, hok, hl, hwo, hwn, h⟩
  · omega
  · rcases h with ⟨o, h1, ⟨_, h2⟩ | ⟨_, _, h2⟩⟩ | ⟨q, old, e2, hq, how, hol, ⟨_, h⟩ | ⟨_, _, h⟩ | ⟨_, _, h⟩⟩ <;> omega
theorem DoneD.one {K : PySem.W.Frag} {H : Hp} {v u : V} (h : DoneD K H v u 1) : TellX K H v := by
  rcases h with ⟨e, h⟩ | ⟨p, xs, rs, e, hS, hR, hok, hl, hwo, hwn, h⟩
  · exact h
  · rcases h with ⟨o, h1, ⟨_, h2⟩ | ⟨_, _, h2⟩⟩ | ⟨q, old, e2, hq, how, hol, ⟨_, h⟩ | ⟨_, _, h⟩ | ⟨_, _, h⟩⟩ <;> omega
def dues : List Str := ["no row", "no word", "no fit", "too long"]
def kindsB (d : Nat) : List Bool := [decide (d = 1), decide (d = 2), decide (d = 3), decide (d = 4), decide (d ≠ 0)]
theorem kindsV_B (d : Nat) : kindsV d = (kindsB d).map V.bl := rfl
theorem dpBls (H : Hp) (K : PySem.W.Frag) : ∀ bs : List Bool, DpAll K H (bs.map V.bl) (bs.map PyData.bool)
  | [] => .nil
  | x :: r => .cons (.bl x) (dpBls H K r)
theorem kinds_due {d : Nat} (h : d = 0 ∨ d = 1 ∨ d = 2 ∨ d = 3 ∨ d = 4) : (dues.map fun x => V.bl (decide (V.str (dueT d) = V.str x))) ++ [V.bl (!decide (V.str (dueT d) = V.str ""))] = (kindsB d).map V.bl := by
  have key : ∀ (a b : Str), decide (V.str a = V.str b) = decide (a = b) := fun a b => by
    by_cases h : a = b
    · rw [decide_eq_true h, decide_eq_true (congrArg V.str h)]
    · rw [decide_eq_false h, decide_eq_false fun z => h (V.str.inj z)]
  have key2 : ∀ d, d = 0 ∨ d = 1 ∨ d = 2 ∨ d = 3 ∨ d = 4 → (dues.map fun x => decide (dueT d = x)) ++ [!decide (dueT d = "")] = kindsB d := by
    intro d h
    rcases h with rfl | rfl | rfl | rfl | rfl <;> decide +kernel
  rw [← key2 d h, List.map_append, List.map_map, key]
  congr 1
  refine List.map_congr_left fun x _ => ?_
  rw [key]
  rfl
theorem kinds_shaped (d : Nat) : SeqAt.shaped (.list ((kindsB d).map PyData.bool)) = true := by
  unfold kindsB
  cases decide (d = 1) <;> cases decide (d = 2) <;> cases decide (d = 3) <;> cases decide (d = 4) <;> cases decide (d ≠ 0) <;> decide +kernel
theorem due_one {d : Nat} (h : d = 0 ∨ d = 1 ∨ d = 2 ∨ d = 3 ∨ d = 4) : decide (V.str (dueT d) = V.str "no row") = decide (d = 1) := by
  by_cases h1 : d = 1
  · subst h1
    rw [decide_eq_true (show V.str (dueT 1) = V.str "no row" from rfl), decide_eq_true rfl]
  · rw [decide_eq_false h1]
    refine decide_eq_false fun z => ?_
    have key : ∀ d, d = 0 ∨ d = 2 ∨ d = 3 ∨ d = 4 → dueT d ≠ "no row" := by
      intro d h
      rcases h with rfl | rfl | rfl | rfl <;> decide +kernel
    exact key d (by omega) (V.str.inj z)
section
variable {P : Program} {w : World} {K : PySem.W.Frag} {mg : Str → Option Value} {base : Heap}
abbrev rightN : List Str := ["_law_rows", "_law_old", "_law_due", "_law_cell", "_law_kinds_here", "_law_one"]
theorem scRight : FnScope rightN ["_law_rows", "_law_old", "_law_due", "_law_cell"] (defScope sRight) := ⟨rfl, rfl, rfl, by decide +kernel, rfl, by decide +kernel, by decide +kernel⟩
def spRight (K : PySem.W.Frag) (Ps : List Addr) : Sp := fun vs H Q _ => ∃ (v u : V) (d : Nat) (c : Int), vs = [v, u, .str (dueT d), .int c] ∧ DoneD K H v u d ∧ (d ≠ 1 → ∃ rs, TellG K H v rs) ∧ Tb Ps H ∧ ∀ H', Q (.bl true) H'
theorem ok_right {Ps : List Addr} {f fO fN fT fK : Addr} {fd fdO fdN fdT fdK : FuncData} (F : FnP K "_law_right" sRight f fd)
    (GO : FnOk P w K mg base (L2.CX P w) 10 fO fdO ["_law_rows"] (spOthers K Ps)) (kO : PySem.W.keepIn K (.ref fO) = true) (bO : Binds K fdO ["_law_rows"] []) (gO : mg "_law_others" = some (.ref fO))
    (GN : FnOk P w K mg base (L2.CX P w) 9 fN fdN ["_law_cell"] (spNonePriced K Ps)) (kN : PySem.W.keepIn K (.ref fN) = true) (bN : Binds K fdN ["_law_cell"] []) (gN : mg "_law_none_priced" = some (.ref fN))
    (GT : FnOk P w K mg base (L2.CX P w) 9 fT fdT ["_law_rows", "_law_old"] (spTried K Ps)) (kT : PySem.W.keepIn K (.ref fT) = true) (bT : Binds K fdT ["_law_rows", "_law_old"] []) (gT : mg "_law_tried" = some (.ref fT))
    (GK : FnOk P w K mg base (L2.CX P w) 9 fK fdK ["_law_rows", "_law_old"] (spKinds K Ps)) (kK : PySem.W.keepIn K (.ref fK) = true) (bK : Binds K fdK ["_law_rows", "_law_old"] []) (gK : mg "_law_kinds" = some (.ref fK))
    (mN : mg "int" = none) : FnOk P w K mg base (L2.CX P w) 11 f fd ["_law_rows", "_law_old", "_law_due", "_law_cell"] (spRight K Ps) := by
  refine F.ok scRight (fun vs H Q E h => ?_) (fun cdv A outer s H vs Q E hr h => ?_)
  · obtain ⟨v, u, d, c, rfl, _⟩ := h
    rfl
  · obtain ⟨v, u, d, c, rfl, hD, hG, ht, q⟩ := h
    have r9 : Room 9 (A.deeper (envOfC "_law_right" (defScope sRight) s.heap.objs.size f cdv)) := hr.mono (by decide)
    refine ⟨_, pss_cut (ps_if (PW.pt (pw_and (pt_cmpR op_ne (pe_call GO hr (by rfl) gO kO bO .nil passL (pa_cons (pv 0) pa_nil)) (pe_op op_mul pe_int (pe_callTy call_int1 (by rfl) mN (by decide +kernel) (pa_cons (pe_cmpR op_eq (pv 2) pe_str (nomark _)) pa_nil))) (by rfl))
          (pw_and1 (PW.pt (pw_or (pt_cmpR op_eq (pv 2) pe_str (nomark _)) (pw_or1 (pt_cmpR op_gt (pe_call GO hr (by rfl) gO kO bO .nil passL (pa_cons (pv 0) pa_nil)) pe_int (by rfl)))))))) pss_never pss_nil)
      (pss_cons (ps_if (pt_not (pt_val (pe_call GN r9 (by rfl) gN kN bN .nil passL (pa_cons (pv 3) pa_nil)))) pss_never pss_nil)
      (pss_cons (ps_set (i := 4) scRight.nd rfl (.inl rfl) (pe_op op_cat (pe_lc (own := [("_law_one", 5)]) (g := gName 5) (tt := tYes) rfl scRight.nd (pi_list (pe_lst (pa_cons pe_str (pa_cons pe_str (pa_cons pe_str (pa_cons pe_str pa_nil)))))) (blkOk_by (N := rightN) (sc := defScope sRight) (by decide +kernel))
          (fun _ _ _ _ _ => pg_name (i := 5) scRight.nd rfl (Or.inl rfl)) (fun _ _ _ _ _ => pts_nil) (fun _ _ _ _ _ => pe_cmpR op_eq (pv 2) (pv 5) (nomark _))) (pe_lst (pa_cons (pe_cmpR op_ne (pv 2) pe_str (nomark _)) pa_nil))))
      (pss_one (ps_ret (pe_and (pe_cmpR op_eq (pe_call GT r9 (by rfl) gT kT bT .nil passL (pa_cons (pv 0) (pa_cons (pv 1) pa_nil))) (pv 2) (by rfl)) (pe_one (pe_cmpR (op_eqD hr.units) (pe_call GK r9 (by rfl) gK kK bK .nil passL (pa_cons (pv 0) (pa_cons (pv 1) pa_nil))) (pv 4) (by rfl)))))))), ?_⟩
    have hd := hD.le
    refine ⟨fun σ' H' => σ' = [some v, some u, some (.str (dueT d)), some (.int c), none, none] ∧ Kp Ps H H', ?_, fun σ1 H1 hM => ?_⟩
    · by_cases h1 : d = 1
      · subst h1
        refine ⟨_, rfl, v, rfl, ht, .inr ⟨hD.one, fun H1 k1 => ?_⟩⟩
        refine ⟨_, rfl, rfl, .inr ⟨_, rfl, _, _, rfl, rfl, .inl ⟨by decide, by decide⟩, rfl, _, rfl, ?_⟩⟩
        rw [show decide (V.str (dueT 1) = V.str "no row") = true from decide_eq_true rfl]
        exact iteF ⟨rfl, k1⟩
      · obtain ⟨rs, hG⟩ := hG h1
        refine ⟨_, rfl, v, rfl, ht, .inl ⟨rs, hG, fun H1 k1 => ?_⟩⟩
        refine ⟨_, rfl, rfl, .inr ⟨_, rfl, _, _, rfl, rfl, .inl ⟨by decide, by decide⟩, rfl, _, rfl, ?_⟩⟩
        rw [due_one hd, decide_eq_false h1]
        refine ite2 (fun _ => ?_) (fun _ => ⟨rfl, k1⟩)
        refine ⟨_, rfl, rfl, _, rfl, ?_⟩
        rw [due_one hd, decide_eq_false h1]
        refine iteF ⟨_, rfl, v, rfl, k1.1, .inl ⟨rs, hG.kp ht k1, fun H2 k2 => ⟨_, _, rfl, rfl, _, rfl, ?_⟩⟩⟩
        rw [decide_eq_false (show ¬ (if hasBlk rs = true then (1 : Int) else 0) > 1 by split <;> omega)]
        exact iteF ⟨rfl, k1.trans k2⟩
    obtain ⟨rfl, k1⟩ := hM
    refine ⟨_, rfl, c, rfl, k1.1, fun H2 k2 => ⟨true, rfl, iteF ?_⟩⟩
    have k12 := k1.trans k2
    -- the kinds
    refine ⟨by show 4 ≤ sizeLine; decide, fun L nL => ⟨L, rfl, ⟨_, .inl (.inl upd_same)⟩, fun D nD => ?_⟩⟩
    have uL := same_upd nL (o := .lst [.str "no row", .str "no word", .str "no fit", .str "too long"])
    have gL : (upd H2 L (.lst [.str "no row", .str "no word", .str "no fit", .str "too long"])) L = some (.lst (dues.map V.str)) := upd_same
    generalize upd H2 L (.lst [.str "no row", .str "no word", .str "no fit", .str "too long"]) = H3 at uL gL nD ⊢
    refine lc_list (xs := dues.map V.str) (fun i H' => Same H3 H' ∧ H' D = some (.lst ((dues.take i).map fun x => V.bl (decide (V.str (dueT d) = V.str x))))) ⟨same_upd nD, upd_same⟩ (fun i H' _ hP => .inl (.inl (hP.1 _ _ gL))) (fun i x H' hx hP => ?_) (fun H' hP => ?_)
    · obtain ⟨sm, hDD⟩ := hP
      rw [List.getElem?_map] at hx
      obtain ⟨a, ha, rfl⟩ := Option.map_eq_some_iff.mp hx
      refine ⟨rfl, yesT ?_⟩
      have hi : i < 4 := (List.getElem?_eq_some_iff.mp ha).1
      refine ⟨_, rfl, _, rfl, rfl, _, hDD, ?_, same_set sm nD, ?_⟩
      · rw [List.length_map, List.length_take]
        exact Nat.lt_of_le_of_lt (show _ ≤ 4 by omega) (by decide)
      · rw [upd_same, take_snoc ha, List.map_append]
        rfl
    · obtain ⟨sm, hDD⟩ := hP
      have e4 : dues.take ((dues.map V.str).length) = dues := rfl
      rw [e4] at hDD
      refine ⟨_, rfl, rfl, by show 1 ≤ sizeLine; decide, fun M nM => ?_⟩
      have uM := same_upd nM (o := .lst [V.bl (!decide (V.str (dueT d) = V.str ""))])
      refine ⟨D, M, _, _, rfl, rfl, uM _ _ hDD, upd_same, by show 4 + 1 ≤ sizeLine; decide, fun B nB => ?_⟩
      have uB := same_upd nB (o := .lst ((dues.map fun x => V.bl (decide (V.str (dueT d) = V.str x))) ++ [V.bl (!decide (V.str (dueT d) = V.str ""))]))
      have gB : (upd (upd H' M (.lst [V.bl (!decide (V.str (dueT d) = V.str ""))])) B (.lst ((dues.map fun x => V.bl (decide (V.str (dueT d) = V.str x))) ++ [V.bl (!decide (V.str (dueT d) = V.str ""))]))) B = some (.lst ((kindsB d).map V.bl)) := by
        rw [upd_same, kinds_due hd]
      have s5 := uL.trans (sm.trans (uM.trans uB))
      generalize upd (upd H' M (.lst [V.bl (!decide (V.str (dueT d) = V.str ""))])) B (.lst ((dues.map fun x => V.bl (decide (V.str (dueT d) = V.str x))) ++ [V.bl (!decide (V.str (dueT d) = V.str ""))])) = H5 at s5 gB ⊢
      have k5 := k12.trans (Kp.same k12.1 s5)
      refine ⟨_, rfl, _, rfl, v, u, d, rfl, hD.kp ht k5, k5.1, fun H6 k6 => ⟨_, rfl, rfl, ?_⟩⟩
      rw [show decide (V.str (dueT d) = V.str (dueT d)) = true from decide_eq_true rfl]
      have k56 := k5.trans k6
      refine ⟨true, rfl, _, rfl, _, rfl, v, u, d, rfl, hD.kp ht k56, k56.1, fun H7 Z k7 gZ => ⟨_, rfl, ?_⟩⟩
      have gB7 : H7 B = some (.lst ((kindsB d).map V.bl)) := (k6.trans k7).at k5.1 gB fun _ z => by cases z
      refine ⟨_, _, .lst (.inl (.inl gZ)) (dpBls H7 K (kindsB d)), .lst (.inl (.inl gB7)) (dpBls H7 K (kindsB d)), kinds_shaped d, kinds_shaped d, ?_⟩
      rw [SeqAt.eqv_refl _ (SeqAt.canLay_of_shaped (kinds_shaped d))]
      exact q H7
end
/-! ### the law: rows for a fault -/
/-- a telling as it is built, perhaps with a block more -/
structure Tl (rs : List RowD) : Prop where
  ok : ∀ r ∈ rs, RowOk r
  num : ∀ r ∈ rs, r.kind = "take" → r.num < 400000000 ∨ 900000000 < r.num
  nd : ((blk "take" rs).map (·.num)).Nodup
  perm : ((blk "take" rs).map prR).Perm ((blk "lay" rs).map prR)
  old : (wordsOf oldK rs).length ≤ 60
  new : (wordsOf newK rs).length ≤ 60
  len : rs.length ≤ 40
  nb : NB rs
theorem tl_good {rs wt : List RowD} {n : Nat} (hg : Good n rs wt) (hn : n ≤ 16) (nb : NB (rs ++ wt)) : Tl (rs ++ wt) := by
  have h1 := hg.len
  have h2 := hg.len2
  refine ⟨hg.gl.ok, fun r hr hk => ?_, hg.gl.nd, hg.gl.perm, by have := hg.gl.old; omega, by have := hg.gl.new; omega, by rw [List.length_append]; omega, nb⟩
  obtain ⟨j, h3, h4⟩ := hg.gl.num r hr (.inl hk)
  omega
theorem wlen_words : ∀ X : List RowD, (∀ r ∈ X, r.kind ∈ plainK ++ blockK) → wlen X ≤ (wordsOf oldK X).length + (wordsOf newK X).length
  | [], _ => Nat.le_refl _
  | r :: X, h => by
    have ih := wlen_words X fun r hr => h r (List.mem_cons_of_mem _ hr)
    have key : ∀ k ∈ plainK ++ blockK, k ∈ oldK ∨ k ∈ newK := by decide +kernel
    rw [wlen_cons, wordsOf_cons, wordsOf_cons]
    rcases key _ (h r List.mem_cons_self) with z | z
    · rw [if_pos z, List.length_append]
      split
      · rw [List.length_append]
        omega
      · omega
    · rw [if_pos z, List.length_append]
      split
      · rw [List.length_append]
        omega
      · omega
theorem Tl.wl {rs : List RowD} (h : Tl rs) : wlen rs ≤ 120 := by
  have h1 := wlen_words rs fun r hr => (h.ok r hr).kind
  have h2 := h.old
  have h3 := h.new
  omega
/-- a block more -/
theorem tl_block {rs : List RowD} (h : Tl rs) (no : ∀ r ∈ rs, r.kind ≠ "lay") (ho : (wordsOf oldK rs).length ≤ 50) (hn : (wordsOf newK rs).length ≤ 50) (hl : rs.length ≤ 36) : Tl (rs ++ [⟨"take", 7, ["block"]⟩, ⟨"lay", 7, ["block"]⟩]) := by
  have b0 : blk "lay" rs = [] := by
    unfold blk
    rw [List.filter_eq_nil_iff]
    exact fun r hr z => no r hr (of_decide_eq_true z)
  have b1 : blk "take" rs = [] := by
    have := h.perm.length_eq
    rw [List.length_map, List.length_map, b0] at this
    exact List.eq_nil_of_length_eq_zero this
  have tl : ¬ ("take" : Str) = "lay" := by decide +kernel
  have lt : ¬ ("lay" : Str) = "take" := by decide +kernel
  have wb : wordB "block" = true := by decide +kernel
  have b2 : blk "take" (rs ++ [⟨"take", 7, ["block"]⟩, ⟨"lay", 7, ["block"]⟩]) = [⟨"take", 7, ["block"]⟩] := by
    have e : blk "take" (rs ++ [⟨"take", 7, ["block"]⟩, ⟨"lay", 7, ["block"]⟩]) = blk "take" rs ++ blk "take" [⟨"take", 7, ["block"]⟩, ⟨"lay", 7, ["block"]⟩] := by
      unfold blk
      rw [List.filter_append]
    rw [e, b1, blk_cons, if_pos rfl, blk_cons, if_neg lt]
    rfl
  have b3 : blk "lay" (rs ++ [⟨"take", 7, ["block"]⟩, ⟨"lay", 7, ["block"]⟩]) = [⟨"lay", 7, ["block"]⟩] := by
    have e : blk "lay" (rs ++ [⟨"take", 7, ["block"]⟩, ⟨"lay", 7, ["block"]⟩]) = blk "lay" rs ++ blk "lay" [⟨"take", 7, ["block"]⟩, ⟨"lay", 7, ["block"]⟩] := by
      unfold blk
      rw [List.filter_append]
    rw [e, b0, blk_cons, if_neg tl, blk_cons, if_pos rfl]
    rfl
  have ok2 : ∀ k, k = ("take" : Str) ∨ k = "lay" → RowOk ⟨k, 7, ["block"]⟩ := fun k hk => by
    refine ⟨?_, numB_block hk (by show (1 : Int) ≤ 7; decide) (by show (7 : Int) ≤ 999999999; decide), (fun z => by cases z), fun a ha => ?_⟩
    · rcases hk with rfl | rfl <;> (show _ ∈ plainK ++ blockK; decide +kernel)
    · rw [List.mem_singleton.mp ha]
      exact wb
  have two : ∀ r ∈ ([⟨"take", 7, ["block"]⟩, ⟨"lay", 7, ["block"]⟩] : List RowD), r = ⟨"take", 7, ["block"]⟩ ∨ r = ⟨"lay", 7, ["block"]⟩ := fun r hr => by
    simp only [List.mem_cons, List.not_mem_nil, or_false] at hr
    exact hr
  refine ⟨fun r hr => ?_, fun r hr hk => ?_, ?_, ?_, ?_, ?_, ?_, fun r hr x hx => ?_⟩
  · rcases List.mem_append.mp hr with z | z
    · exact h.ok r z
    · rcases two r z with z | z
      · rw [z]
        exact ok2 _ (.inl rfl)
      · rw [z]
        exact ok2 _ (.inr rfl)
  · rcases List.mem_append.mp hr with z | z
    · exact h.num r z hk
    · rcases two r z with z | z
      · rw [z]
        exact .inl (by show (7 : Int) < _; decide)
      · rw [z]
        exact .inl (by show (7 : Int) < _; decide)
  · rw [b2]
    simp
  · rw [b2, b3]
    exact List.Perm.refl _
  · rw [wordsOf_append, List.length_append]
    have : (wordsOf oldK [⟨"take", 7, ["block"]⟩, ⟨"lay", 7, ["block"]⟩]).length = 1 := by decide +kernel
    omega
  · rw [wordsOf_append, List.length_append]
    have : (wordsOf newK [⟨"take", 7, ["block"]⟩, ⟨"lay", 7, ["block"]⟩]).length = 1 := by decide +kernel
    omega
  · rw [List.length_append]
    show rs.length + 2 ≤ 40
    omega
  · rcases List.mem_append.mp hr with z | z
    · exact h.nb r z x hx
    · have nb : ("block" : Str).cps.toList ≠ behL := by decide +kernel
      rcases two r z with z | z
      · rw [z] at hx
        rw [List.mem_singleton.mp hx]
        exact nb
      · rw [z] at hx
        rw [List.mem_singleton.mp hx]
        exact nb
theorem inV_ints (k : Int) : ∀ l : List Int, inV (.int k) (l.map V.int) = decide (k ∈ l) := by
  intro l
  unfold inV
  induction l with
  | nil => rfl
  | cons a r ih =>
    rw [List.map_cons, List.any_cons, ih]
    have e : eqV (V.int a) (V.int k) = decide (k = a) := by
      show decide (a = k) = decide (k = a)
      by_cases h : a = k
      · rw [decide_eq_true h, decide_eq_true h.symm]
      · rw [decide_eq_false h, decide_eq_false (Ne.symm h)]
    rw [e]
    by_cases h : k = a
    · rw [decide_eq_true h, decide_eq_true (show k ∈ a :: r from h ▸ List.mem_cons_self)]
      rfl
    · by_cases h2 : k ∈ r
      · rw [decide_eq_true h2, decide_eq_true (List.mem_cons_of_mem _ h2), Bool.or_true]
      · rw [decide_eq_false h, decide_eq_false h2, decide_eq_false (fun z => (List.mem_cons.mp z).elim h h2)]
        rfl
theorem flat_ints : ∀ l : List Int, (l.map V.int).all flatV = true := by
  intro l
  induction l with
  | nil => rfl
  | cons a r ih =>
    rw [List.map_cons, List.all_cons, ih]
    rfl
/-- the faults that want a block -/
def wants (fl : Nat) : Prop := fl = 4 ∨ fl = 5 ∨ fl = 6 ∨ fl = 12 ∨ fl = 13
theorem wants_in (fl : Nat) : (wants fl ∧ inV (.int (fl : Int)) [.int 4, .int 5, .int 6, .int 12, .int 13] = true) ∨ (¬ wants fl ∧ inV (.int (fl : Int)) [.int 4, .int 5, .int 6, .int 12, .int 13] = false) := by
  have e := inV_ints (fl : Int) [4, 5, 6, 12, 13]
  have e : inV (.int (fl : Int)) [.int 4, .int 5, .int 6, .int 12, .int 13] = decide ((fl : Int) ∈ ([4, 5, 6, 12, 13] : List Int)) := e
  rw [e]
  have m : ((fl : Int) ∈ ([4, 5, 6, 12, 13] : List Int)) ↔ wants fl := by
    simp only [List.mem_cons, List.not_mem_nil, or_false]
    unfold wants
    omega
  by_cases h : wants fl
  · exact .inl ⟨h, decide_eq_true (m.mpr h)⟩
  · exact .inr ⟨h, decide_eq_false fun z => h (m.mp z)⟩
theorem eqv_empty (l : List PyData) : PyData.eqv (.list l) (.list []) = decide (l = []) := by
  cases l with
  | nil => rfl
  | cons a r => rfl
theorem blk_take {k : Str} {rs : List RowD} {i : Nat} {r : RowD} (h : rs[i]? = some r) : blk k (rs.take (i + 1)) = if r.kind = k then blk k (rs.take i) ++ [r] else blk k (rs.take i) := by
  rw [take_snoc h, blk_snoc]
section
variable {P : Program} {w : World} {K : PySem.W.Frag} {mg : Str → Option Value} {base : Heap}
abbrev rfN : List Str := ["_law_script", "_law_fault", "_law_rows", "_law_row"]
theorem scRowsFor : FnScope rfN ["_law_script", "_law_fault"] (defScope sRowsFor) := ⟨rfl, rfl, rfl, by decide +kernel, rfl, by decide +kernel, by decide +kernel⟩
def spRowsFor (K : PySem.W.Frag) : Sp := fun vs H Q _ => ∃ (a : Addr) (ns : List Int) (fl : Nat), vs = [.ref a, .int (fl : Int)] ∧ SqL K H a (ns.map V.int) ∧
  ∀ (H' : Hp) (D : Addr) (xs : List V) (rs : List RowD), Same H H' → H D = none → H' D = some (.lst xs) → RowsT K H' xs rs → Tl rs → (wants fl → ∃ r ∈ rs, r.kind = "lay") → Q (.ref D) H'
theorem ok_rows_for {f fB : Addr} {fd fdB : FuncData} (F : FnP K "_law_rows_for" sRowsFor f fd)
    (GB : FnOk P w K mg base (L2.CX P w) 4 fB fdB ["_law_script", "_law_many"] (spBuilt K)) (kB : PySem.W.keepIn K (.ref fB) = true) (bB : Binds K fdB ["_law_script", "_law_many"] []) (gB : mg "_law_built" = some (.ref fB)) :
    FnOk P w K mg base (L2.CX P w) 5 f fd ["_law_script", "_law_fault"] (spRowsFor K) := by
  refine F.ok scRowsFor (fun vs H Q E h => ?_) (fun cdv A outer s H vs Q E hr h => ?_)
  · obtain ⟨a, ns, fl, rfl, _⟩ := h
    rfl
  · obtain ⟨a, ns, fl, rfl, hS, q⟩ := h
    refine ⟨_, pss_cons (ps_set (i := 2) scRowsFor.nd rfl (.inl rfl) (pe_call GB hr (by rfl) gB kB bB .nil passL (pa_cons (pv 0) (pa_cons pe_int pa_nil))))
      (pss_cut (ps_if (PW.pt (pw_and (pt_cmpR op_in_seq (pv 1) (pe_tup (pa_cons pe_int (pa_cons pe_int (pa_cons pe_int (pa_cons pe_int (pa_cons pe_int pa_nil)))))) (by rfl))
          (pw_and1 (pt_cmpR (op_eqD hr.units) (pe_lc (own := [("_law_row", 3)]) (g := gName 3) rfl scRowsFor.nd (pi_list (pv 2)) (blkOk_by (N := rfN) (sc := defScope sRowsFor) (by decide +kernel))
            (fun _ _ _ _ _ => pg_name (i := 3) scRowsFor.nd rfl (Or.inl rfl)) (fun _ _ _ _ _ => pts_one (pt_cmpR op_eq (pe_ix (r := rIxT K) ix_tup (pv 3) pe_int (fun _ _ => rfl)) pe_str (nomark _))) (fun _ _ _ _ _ => pv 3)) (pe_lst pa_nil) (by rfl)))))
        (pss_one (ps_set (i := 2) scRowsFor.nd rfl (.inl rfl) (pe_op op_cat (pv 2) (pe_lst (pa_cons (pe_tup (pa_cons pe_str (pa_cons pe_int (pa_cons (pe_tup (pa_cons pe_str pa_nil)) pa_nil)))) (pa_cons (pe_tup (pa_cons pe_str (pa_cons pe_int (pa_cons (pe_tup (pa_cons pe_str pa_nil)) pa_nil)))) pa_nil)))))) pss_nil)
      (pss_one (ps_ret (pv 2)))), ?_⟩
    refine ⟨_, rfl, a, ns, 16, rfl, hS, by decide, fun H1 R xs rs0 wt n s1 nR hR hX hn hg nb => ?_⟩
    have tl := tl_good hg hn nb
    have ho : (wordsOf oldK (rs0 ++ wt)).length ≤ 48 := by
      have := hg.gl.old
      omega
    have hw : (wordsOf newK (rs0 ++ wt)).length ≤ 48 := by
      have := hg.gl.new
      omega
    have hln : (rs0 ++ wt).length ≤ 32 := by
      rw [List.length_append]
      have := hg.len2
      omega
    generalize rs0 ++ wt = rs at hX tl ho hw hln
    have xl := hX.1
    refine ⟨fun σ' H' => ∃ D xs rs, σ' = [some (.ref a), some (.int (fl : Int)), some (.ref D), none] ∧ Same H H' ∧ H D = none ∧ H' D = some (.lst xs) ∧ RowsT K H' xs rs ∧ Tl rs ∧ (wants fl → ∃ r ∈ rs, r.kind = "lay"), ?_, fun σ1 H2 hM => ?_⟩
    · refine ⟨_, rfl, by show 5 ≤ sizeLine; decide, fun T nT => ?_⟩
      have uT := same_upd nT (o := .tup [.int 4, .int 5, .int 6, .int 12, .int 13])
      refine ⟨T, _, rfl, .inr (.inl (.inl upd_same)), rfl, rfl, _, rfl, ?_⟩
      have s2 := s1.trans uT
      have hR2 := uT _ _ hR
      have hX2 := hX.same uT
      generalize upd H1 T (.tup [.int 4, .int 5, .int 6, .int 12, .int 13]) = H2 at uT s2 hR2 hX2 ⊢
      show if inV (.int (fl : Int)) [.int 4, .int 5, .int 6, .int 12, .int 13] = true then _ else _
      rcases wants_in fl with ⟨hw2, e⟩ | ⟨hw2, e⟩
      · rw [e]
        refine iteT ⟨_, rfl, R, rfl, ⟨_, .inl (.inl hR2)⟩, fun B nB => ?_⟩
        refine lc_list (xs := xs) (fun i H5 => Same H2 H5 ∧ ∃ us, H5 B = some (.lst us) ∧ us.length ≤ i ∧ RowsT K H5 us (blk "lay" (rs.take i))) ⟨same_upd nB, [], upd_same, Nat.le_refl _, ⟨rfl, fun i v e => by cases e⟩⟩ (fun i H5 _ hp5 => .inl (.inl (hp5.1 _ _ hR2))) (fun i x H5 hx hp5 => ?_) (fun H5 hp5 => ?_)
        · obtain ⟨s5, us, hE, ul, hU⟩ := hp5
          obtain ⟨r, h1, h2⟩ := hX2.2 i x hx
          have h2 := h2.same s5
          obtain ⟨T, W, rfl, hT, hW⟩ := id h2
          have hi := (List.getElem?_eq_some_iff.mp hx).1
          have e1 := blk_take (k := "lay") h1
          refine ⟨rfl, _, rfl, T, _, _, _, rfl, rfl, hT, at_of (j := 0) rfl rfl, rfl, _, rfl, ite2 (fun e => ?_) (fun e => ?_)⟩
          · have ek : r.kind = "lay" := V.str.inj (of_decide_eq_true e)
            rw [if_pos ek] at e1
            refine ⟨_, rfl, us, hE, Nat.lt_of_le_of_lt (show us.length ≤ 1000 by omega) (by decide), same_set s5 nB, us ++ [.ref T], upd_same, ?_, ?_⟩
            · rw [List.length_append]
              exact Nat.succ_le_succ ul
            · rw [e1]
              exact RowsT.set (noTup hE) (hU.snoc h2)
          · have nk : ¬ r.kind = "lay" := fun z => e (decide_eq_true (congrArg V.str z))
            rw [if_neg nk] at e1
            exact ⟨s5, us, hE, by omega, by rw [e1]; exact hU⟩
        · obtain ⟨s5, us, hE, ul, hU⟩ := hp5
          rw [List.take_of_length_le (by rw [xl]; exact Nat.le_refl _)] at hU
          refine ⟨by show 0 ≤ sizeLine; decide, fun Z nZ => ?_⟩
          have uZ := same_upd nZ (o := .lst [])
          refine ⟨_, _, .lst (.inl (.inl (uZ _ _ hE))) (dpRows (hU.same uZ).at), .lst (.inl (.inl upd_same)) .nil, shaped_rows fun r hr => tl.ok r (List.mem_filter.mp hr).1, rfl, _, rfl, ?_⟩
          rw [eqv_empty]
          have s6 := s2.trans (s5.trans uZ)
          have hR6 := uZ _ _ (s5 _ _ hR2)
          have hX6 := (hX2.same s5).same uZ
          generalize upd H5 Z (.lst []) = H6 at s6 hR6 hX6 ⊢
          by_cases c : blk "lay" rs = []
          · rw [decide_eq_true (by rw [c]; rfl)]
            have no : ∀ r ∈ rs, r.kind ≠ "lay" := fun r hr z => by
              have : r ∈ blk "lay" rs := List.mem_filter.mpr ⟨hr, decide_eq_true z⟩
              rw [c] at this
              cases this
            refine iteT ⟨_, rfl, by show 1 ≤ sizeLine; decide, fun W1 nW1 => ⟨by show 3 ≤ sizeLine; decide, fun T1 nT1 => ⟨by show 1 ≤ sizeLine; decide, fun W2 nW2 => ⟨by show 3 ≤ sizeLine; decide, fun T2 nT2 => ⟨by show 2 ≤ sizeLine; decide, fun L nL => ?_⟩⟩⟩⟩⟩
            have u1 := same_upd nW1 (o := .tup [.str "block"])
            have u2 := same_upd nT1 (o := .tup [.str "take", .int 7, .ref W1])
            have u3 := same_upd nW2 (o := .tup [.str "block"])
            have u4 := same_upd nT2 (o := .tup [.str "lay", .int 7, .ref W2])
            have u5 := same_upd nL (o := .lst [.ref T1, .ref T2])
            have u35 := u3.trans (u4.trans u5)
            have two : RowsT K (upd (upd (upd (upd (upd H6 W1 (.tup [.str "block"])) T1 (.tup [.str "take", .int 7, .ref W1])) W2 (.tup [.str "block"])) T2 (.tup [.str "lay", .int 7, .ref W2])) L (.lst [.ref T1, .ref T2])) ([.ref T1] ++ [.ref T2]) ([⟨"take", 7, ["block"]⟩] ++ [⟨"lay", 7, ["block"]⟩]) :=
              (RowsT.one ⟨T1, W1, rfl, sameT u35 (.inl (.inl upd_same)), u35 _ _ (u2 _ _ upd_same)⟩).app (RowsT.one ⟨T2, W2, rfl, sameT u5 (.inl (.inl upd_same)), u5 _ _ (u4 _ _ upd_same)⟩)
            have gL : (upd (upd (upd (upd (upd H6 W1 (.tup [.str "block"])) T1 (.tup [.str "take", .int 7, .ref W1])) W2 (.tup [.str "block"])) T2 (.tup [.str "lay", .int 7, .ref W2])) L (.lst [.ref T1, .ref T2])) L = some (.lst [.ref T1, .ref T2]) := upd_same
            have u15 := u1.trans (u2.trans u35)
            generalize upd (upd (upd (upd (upd H6 W1 (.tup [.str "block"])) T1 (.tup [.str "take", .int 7, .ref W1])) W2 (.tup [.str "block"])) T2 (.tup [.str "lay", .int 7, .ref W2])) L (.lst [.ref T1, .ref T2]) = H7 at two gL u15 ⊢
            refine ⟨R, L, _, _, rfl, rfl, u15 _ _ hR6, gL, Nat.le_trans (show xs.length + 2 ≤ 1000 by omega) (by decide), fun D nD => ?_⟩
            have s7 := s6.trans u15
            have uD := same_upd nD (o := .lst (xs ++ [.ref T1, .ref T2]))
            exact ⟨D, _, _, rfl, s7.trans uD, s7.free nD, upd_same, ((hX6.same u15).app two).same uD, tl_block tl no (by omega) (by omega) (by omega), fun _ => ⟨⟨"lay", 7, ["block"]⟩, List.mem_append_right _ (.tail _ (.head _)), rfl⟩⟩
          · rw [decide_eq_false (fun z => c (List.map_eq_nil_iff.mp z))]
            refine iteF ⟨R, xs, rs, rfl, s6, nR, hR6, hX6, tl, fun _ => ?_⟩
            obtain ⟨r, hr⟩ := List.exists_mem_of_ne_nil _ c
            exact ⟨r, (List.mem_filter.mp hr).1, of_decide_eq_true (List.mem_filter.mp hr).2⟩
      · rw [e]
        exact iteF ⟨R, xs, rs, rfl, s2, nR, hR2, hX2, tl, fun z => absurd z hw2⟩
    · obtain ⟨D, xs, rs, rfl, s2, nD, hD, hX, tl, hw⟩ := hM
      exact ⟨_, rfl, q H2 D xs rs s2 nD hD hX tl hw⟩
end
/-! ### the faults, plainly -/
theorem eqv_word {l m : List Str} (h : PyData.eqv (.tuple (l.map PyData.str)) (.tuple (m.map PyData.str)) = true) : l = m := by
  rw [eqv_tstrs] at h
  exact of_decide_eq_true h
theorem data_find {k : Int} {e : PyData} : ∀ {l : List RowD}, Dm.dataAt (l.map fun r => ((.inl r.num : Key), PyData.tuple (r.ws.map PyData.str))) (.inl k) = some e → ∃ r ∈ l, r.num = k ∧ e = .tuple (r.ws.map PyData.str)
  | [], h => by cases h
  | r :: l, h => by
    unfold Dm.dataAt at h
    rw [List.map_cons] at h
    by_cases c : r.num = k
    · rw [List.find?_cons_of_pos (p := fun kv : Key × PyData => decide (kv.1 = (.inl k : Key))) (decide_eq_true (by rw [c]))] at h
      exact ⟨r, List.mem_cons_self, c, (Option.some.inj h).symm⟩
    · rw [List.find?_cons_of_neg (by
        have : ¬ (Sum.inl r.num : Key) = Sum.inl k := fun z => c (Sum.inl.inj z)
        simpa using this)] at h
      obtain ⟨r', h1, h2⟩ := data_find (l := l) h
      exact ⟨r', List.mem_cons_of_mem _ h1, h2⟩
theorem hit_at {ld : List (Key × PyData)} : ∀ {kd : List (Key × PyData)}, Dm.hitB ld kd = true → ∀ p ∈ kd, ∃ e, Dm.dataAt ld p.1 = some e ∧ p.2.eqv e = true
  | [], _, p, hp => by cases hp
  | q :: r, h, p, hp => by
    unfold Dm.hitB at h
    cases e : Dm.dataAt ld q.1 with
    | none =>
      rw [e] at h
      cases h
    | some x =>
      rw [e] at h
      have h : (q.2.eqv x && Dm.hitB ld r) = true := h
      rw [Bool.and_eq_true] at h
      rcases List.mem_cons.mp hp with z | z
      · rw [z]
        exact ⟨x, e, h.1⟩
      · exact hit_at h.2 p z
theorem fit_take {rs : List RowD} {old : List Str} (h : FitO rs old) : ∀ t ∈ rs, t.kind = "take" → ∃ l ∈ rs, l.kind = "lay" ∧ l.num = t.num ∧ l.ws = t.ws := fun t ht hk => by
  have h4 := h.2.2.2
  unfold Dm.sameB at h4
  rw [Bool.and_eq_true] at h4
  have hm : ((.inl t.num : Key), PyData.tuple (t.ws.map PyData.str)) ∈ blkData "take" rs := List.mem_map.mpr ⟨t, List.mem_filter.mpr ⟨ht, decide_eq_true hk⟩, rfl⟩
  obtain ⟨e, h5, h6⟩ := hit_at h4.2 _ hm
  obtain ⟨r, h7, h8, h9⟩ := data_find h5
  have h7 := List.mem_filter.mp h7
  rw [h9] at h6
  exact ⟨r, h7.1, of_decide_eq_true h7.2, h8, (eqv_word h6).symm⟩
theorem fit_len {rs : List RowD} {old : List Str} (h : FitO rs old) : (blk "take" rs).length = (blk "lay" rs).length := by
  have h4 := h.2.2.2
  unfold Dm.sameB at h4
  rw [Bool.and_eq_true] at h4
  have := eq_of_beq h4.1
  unfold blkData at this
  rw [List.length_map, List.length_map] at this
  exact this
theorem Tl.fit0 {rs : List RowD} (h : Tl rs) : Fit rs := ⟨h.ok, by have := h.old; omega, by have := h.new; omega, by have := h.len; omega, h.nd, h.perm⟩
theorem Tl.fit {rs : List RowD} (h : Tl rs) : FitO rs (wordsOf oldK rs) := ⟨rfl, h.nd, h.fit0.nd2, h.fit0.same⟩
theorem Tl.lays {rs : List RowD} (h : Tl rs) {i j : Nat} {r s : RowD} (hi : rs[i]? = some r) (hj : rs[j]? = some s) (kr : r.kind = "lay") (ks : s.kind = "lay") (ne : i ≠ j) : r.num ≠ s.num := by
  have nd := h.fit0.nd2
  unfold blk at nd
  have pw : (rs.filter fun r => decide (r.kind = ("lay" : Str))).Pairwise fun a b => a.num ≠ b.num := List.pairwise_map.mp nd
  have pw := List.pairwise_filter.mp pw
  have pw := List.pairwise_iff_getElem.mp pw
  obtain ⟨hi1, hi2⟩ := List.getElem?_eq_some_iff.mp hi
  obtain ⟨hj1, hj2⟩ := List.getElem?_eq_some_iff.mp hj
  rcases Nat.lt_or_gt_of_ne ne with lt | lt
  · have := pw i j hi1 hj1 lt (by rw [hi2]; exact decide_eq_true kr) (by rw [hj2]; exact decide_eq_true ks)
    rw [hi2, hj2] at this
    exact this
  · have := pw j i hj1 hi1 lt (by rw [hj2]; exact decide_eq_true ks) (by rw [hi2]; exact decide_eq_true kr)
    rw [hi2, hj2] at this
    exact this.symm
theorem Tl.has_take {rs : List RowD} (h : Tl rs) {r : RowD} (hr : r ∈ rs) (hk : r.kind = "lay") : ∃ t ∈ rs, t.kind = "take" ∧ t.num = r.num ∧ t.ws = r.ws := by
  have hm : prR r ∈ (blk "lay" rs).map prR := List.mem_map.mpr ⟨r, List.mem_filter.mpr ⟨hr, decide_eq_true hk⟩, rfl⟩
  obtain ⟨t, h1, h2⟩ := List.mem_map.mp (h.perm.mem_iff.mpr hm)
  have h1 := List.mem_filter.mp h1
  exact ⟨t, h1.1, of_decide_eq_true h1.2, congrArg Prod.fst h2, congrArg Prod.snd h2⟩
theorem mem_takeN {α : Type} {l : List α} {n : Nat} {x : α} (h : x ∈ l.take n) : ∃ j, j < n ∧ l[j]? = some x := by
  obtain ⟨j, hj⟩ := List.getElem?_of_mem h
  rw [List.getElem?_take] at hj
  split at hj
  · rename_i lt
    exact ⟨j, lt, hj⟩
  · cases hj
theorem mem_dropN {α : Type} {l : List α} {n : Nat} {x : α} (h : x ∈ l.drop n) : ∃ j, n ≤ j ∧ l[j]? = some x := by
  obtain ⟨j, hj⟩ := List.getElem?_of_mem h
  rw [List.getElem?_drop] at hj
  exact ⟨n + j, by omega, hj⟩
theorem mem_not {α : Type} {l : List α} {n k : Nat} {x : α} (h : l[k]? = some x) (ne : k ≠ n) : x ∈ l.take n ∨ x ∈ l.drop (n + 1) := by
  rcases Nat.lt_or_gt_of_ne ne with lt | lt
  · left
    refine List.mem_of_getElem? (i := k) ?_
    rw [List.getElem?_take, if_pos lt]
    exact h
  · right
    refine List.mem_of_getElem? (i := k - (n + 1)) ?_
    rw [List.getElem?_drop]
    rw [show n + 1 + (k - (n + 1)) = k by omega]
    exact h
/-- another lay in the place of one: the take has none -/
theorem no_fit_mid {rs : List RowD} (h : Tl rs) {n : Nat} {r g : RowD} (hr : rs[n]? = some r) (hk : r.kind = "lay") (hg : ¬ (g.num = r.num ∧ g.ws = r.ws)) (gk : g.kind = "lay") (old : List Str) : ¬ FitO (rs.take n ++ [g] ++ rs.drop (n + 1)) old := fun f => by
  obtain ⟨t, h1, h2, h3, h4⟩ := h.has_take (List.mem_of_getElem? hr) hk
  obtain ⟨k, hk2⟩ := List.getElem?_of_mem h1
  have tl : ("take" : Str) ≠ "lay" := by decide +kernel
  have ne : k ≠ n := fun z => by
    rw [z, hr] at hk2
    cases hk2
    exact tl (h2.symm.trans hk)
  have tin : t ∈ rs.take n ++ [g] ++ rs.drop (n + 1) := by
    rcases mem_not hk2 ne with z | z
    · exact List.mem_append_left _ (List.mem_append_left _ z)
    · exact List.mem_append_right _ z
  obtain ⟨l, h5, h6, h7, h8⟩ := fit_take f t tin h2
  have other : ∀ j, j ≠ n → rs[j]? = some l → False := fun j nj hj => h.lays hj hr h6 hk nj (h7.trans h3)
  rcases List.mem_append.mp h5 with z | z
  · rcases List.mem_append.mp z with z | z
    · obtain ⟨j, h9, h10⟩ := mem_takeN z
      exact other j (by omega) h10
    · rw [List.mem_singleton.mp z] at h7 h8
      exact hg ⟨h7.trans h3, h8.trans h4⟩
  · obtain ⟨j, h9, h10⟩ := mem_dropN z
    exact other j (by omega) h10
theorem blk_app (k : Str) (X Y : List RowD) : blk k (X ++ Y) = blk k X ++ blk k Y := by
  unfold blk
  rw [List.filter_append]
theorem no_fit_spoilt {rs : List RowD} (h : Tl rs) {fl n : Nat} {r : RowD} (hw : wants fl) (hr : rs[n]? = some r) (hk : r.kind = "lay") (old : List Str) : ¬ FitO (spoilt fl n r rs) old := by
  have hn : n < rs.length := (List.getElem?_eq_some_iff.mp hr).1
  have hl := h.len
  have tl : ¬ ("take" : Str) = "lay" := by decide +kernel
  have lt : ¬ ("lay" : Str) = "take" := by decide +kernel
  have rm := List.mem_of_getElem? hr
  unfold spoilt
  by_cases e4 : fl = 4
  · rw [if_pos e4]
    intro f
    have f2 := fit_len f
    have f3 := fit_len h.fit
    have e : rs = rs.take n ++ ([r] ++ rs.drop (n + 1)) := by
      have e1 := List.take_append_drop n rs
      rw [List.drop_eq_getElem_cons hn] at e1
      rw [(List.getElem?_eq_some_iff.mp hr).2] at e1
      exact e1.symm
    have b1 := congrArg (fun z => (blk "take" z).length) e
    have b2 := congrArg (fun z => (blk "lay" z).length) e
    have b1 : (blk "take" rs).length = (blk "take" (rs.take n ++ ([r] ++ rs.drop (n + 1)))).length := b1
    have b2 : (blk "lay" rs).length = (blk "lay" (rs.take n ++ ([r] ++ rs.drop (n + 1)))).length := b2
    have c1 : blk "take" [r] = [] := by
      rw [blk_cons, if_neg (fun z => tl (z.symm.trans hk))]
      rfl
    have c2 : blk "lay" [r] = [r] := by
      rw [blk_cons, if_pos hk]
      rfl
    rw [blk_app, blk_app, c1, List.length_append, List.nil_append] at b1
    rw [blk_app, blk_app, c2, List.length_append, List.length_append] at b2
    rw [blk_app, blk_app, List.length_append, List.length_append] at f2
    have : [r].length = 1 := rfl
    omega
  rw [if_neg e4]
  by_cases e12 : fl = 12
  · rw [if_pos e12]
    refine no_fit_mid h hr hk (fun z => ?_) rfl old
    obtain ⟨t, h1, h2, h3, h4⟩ := h.has_take rm hk
    have h5 := h.num t h1 h2
    have z1 : 500000000 + (n : Int) = r.num := z.1
    omega
  rw [if_neg e12]
  by_cases e13 : fl = 13
  · rw [if_pos e13]
    intro f
    have f2 := f.2.1
    unfold ndB at f2
    obtain ⟨t, h1, h2, h3, h4⟩ := h.has_take rm hk
    rw [blk_app, blk_app, List.map_append, List.map_append] at f2
    have := (List.nodup_append.mp f2).2.2 t.num (List.mem_append_right _ (List.mem_map_of_mem (f := fun r : RowD => r.num) (List.mem_filter.mpr ⟨h1, decide_eq_true h2⟩))) r.num
    refine this ?_ h3
    rw [blk_cons, if_pos rfl]
    exact List.mem_cons_self
  rw [if_neg e13]
  by_cases e5 : fl = 5
  · rw [if_pos e5]
    intro f
    have f2 := f.2.2.1
    unfold ndB at f2
    rw [blk_app, List.map_append] at f2
    have := (List.nodup_append.mp f2).2.2 r.num (List.mem_map_of_mem (f := fun r : RowD => r.num) (List.mem_filter.mpr ⟨rm, decide_eq_true hk⟩)) r.num
    refine this ?_ rfl
    rw [blk_cons, if_pos hk]
    exact List.mem_cons_self
  rw [if_neg e5]
  refine no_fit_mid h hr hk (fun z => ?_) rfl old
  have z2 : r.ws ++ [("more" : Str)] = r.ws := z.2
  have := congrArg List.length z2
  rw [List.length_append] at this
  have e : [("more" : Str)].length = 1 := rfl
  omega
theorem mem_set' {α : Type} {l : List α} {i : Nat} {g x : α} (h : x ∈ l.set i g) : x = g ∨ ∃ k, k ≠ i ∧ l[k]? = some x := by
  obtain ⟨k, hk⟩ := List.getElem?_of_mem h
  rw [List.getElem?_set] at hk
  by_cases c : i = k
  · rw [if_pos c] at hk
    split at hk
    · cases hk
      exact .inl rfl
    · cases hk
  · rw [if_neg c] at hk
    exact .inr ⟨k, fun z => c z.symm, hk⟩
theorem no_fit_exch {rs : List RowD} (h : Tl rs) {i j : Nat} {t : List Nat} {r s : RowD} (hi : rs[i]? = some r) (hj : rs[j]? = some s) (kr : r.kind = "lay") (ks : s.kind = "lay") (ne : i ≠ j) (nw : r.ws ≠ s.ws) (old : List Str) : ¬ FitO (exch (i :: j :: t) rs) old := by
  rw [exch_two hi hj, if_neg nw]
  intro f
  obtain ⟨x, h1, h2, h3, h4⟩ := h.has_take (List.mem_of_getElem? hi) kr
  obtain ⟨k, hk⟩ := List.getElem?_of_mem h1
  have tl : ("take" : Str) ≠ "lay" := by decide +kernel
  have ki : i ≠ k := fun z => by
    rw [← z, hi] at hk
    cases hk
    exact tl (h2.symm.trans kr)
  have kj : j ≠ k := fun z => by
    rw [← z, hj] at hk
    cases hk
    exact tl (h2.symm.trans ks)
  have xin : x ∈ (rs.set i ⟨"lay", s.num, r.ws⟩).set j ⟨"lay", r.num, s.ws⟩ := by
    refine List.mem_of_getElem? (i := k) ?_
    rw [List.getElem?_set, if_neg kj, List.getElem?_set, if_neg ki]
    exact hk
  obtain ⟨l, h5, h6, h7, h8⟩ := fit_take f x xin h2
  rcases mem_set' h5 with z | ⟨k2, n2, z⟩
  · rw [z] at h8
    exact nw (h8.trans h4).symm
  · rw [List.getElem?_set] at z
    by_cases c : i = k2
    · rw [if_pos c] at z
      split at z
      · cases z
        exact h.lays hj hi ks kr (fun z => ne z.symm) (h7.trans h3)
      · cases z
    · rw [if_neg c] at z
      exact h.lays z hi h6 kr (fun z => c z.symm) (h7.trans h3)
/-! ### what stands in the law's middle, plainly -/
theorem row_eqv {r s : RowD} (h : PyData.eqv (rowData r) (rowData s) = true) : r = s := by
  have h : (decide (r.kind = s.kind) && (decide (r.num = s.num) && (PyData.eqv (.tuple (r.ws.map PyData.str)) (.tuple (s.ws.map PyData.str)) && true))) = true := h
  rw [Bool.and_eq_true, Bool.and_eq_true, Bool.and_eq_true] at h
  obtain ⟨h1, h2, h3, _⟩ := h
  have h1 := of_decide_eq_true h1
  have h2 := of_decide_eq_true h2
  have h3 := eqv_word h3
  cases r
  cases s
  simp only at h1 h2 h3
  rw [h1, h2, h3]
theorem rows_eqv : ∀ {rs qs : List RowD}, PyData.eqvAll (rs.map rowData) (qs.map rowData) = true → rs = qs
  | [], [], _ => rfl
  | [], q :: qs, h => by cases h
  | r :: rs, [], h => by cases h
  | r :: rs, q :: qs, h => by
    have h : (PyData.eqv (rowData r) (rowData q) && PyData.eqvAll (rs.map rowData) (qs.map rowData)) = true := h
    rw [Bool.and_eq_true] at h
    rw [row_eqv h.1, rows_eqv h.2]
def isLay (rs : List RowD) (k : Nat) : Bool := match rs[k]? with
  | some r => decide (r.kind = "lay")
  | none => false
def laysTo (rs : List RowD) : Nat → List Nat
  | 0 => []
  | i + 1 => if isLay rs i = true then laysTo rs i ++ [i] else laysTo rs i
theorem isLay_at {rs : List RowD} {k : Nat} {r : RowD} (h : rs[k]? = some r) : isLay rs k = decide (r.kind = "lay") := by
  unfold isLay
  rw [h]
theorem lay_of {rs : List RowD} {k : Nat} (h : isLay rs k = true) : ∃ r, rs[k]? = some r ∧ r.kind = "lay" := by
  unfold isLay at h
  cases e : rs[k]? with
  | none =>
    rw [e] at h
    cases h
  | some r =>
    rw [e] at h
    exact ⟨r, rfl, of_decide_eq_true h⟩
theorem mem_laysTo {rs : List RowD} {k : Nat} : ∀ {i : Nat}, k ∈ laysTo rs i ↔ k < i ∧ isLay rs k = true
  | 0 => ⟨(fun h => by cases h), fun h => absurd h.1 (Nat.not_lt_zero _)⟩
  | i + 1 => by
    have ih := mem_laysTo (rs := rs) (k := k) (i := i)
    unfold laysTo
    by_cases c : isLay rs i = true
    · rw [if_pos c, List.mem_append, ih, List.mem_singleton]
      constructor
      · rintro (⟨h1, h2⟩ | h)
        · exact ⟨by omega, h2⟩
        · rw [h]
          exact ⟨Nat.lt_succ_self _, c⟩
      · rintro ⟨h1, h2⟩
        by_cases e : k = i
        · exact .inr e
        · exact .inl ⟨by omega, h2⟩
    · rw [if_neg c, ih]
      constructor
      · rintro ⟨h1, h2⟩
        exact ⟨by omega, h2⟩
      · rintro ⟨h1, h2⟩
        refine ⟨?_, h2⟩
        by_cases e : k = i
        · rw [e] at h2
          exact absurd h2 c
        · omega
theorem nodup_laysTo {rs : List RowD} : ∀ {i : Nat}, (laysTo rs i).Nodup
  | 0 => List.nodup_nil
  | i + 1 => by
    have ih := nodup_laysTo (rs := rs) (i := i)
    unfold laysTo
    by_cases c : isLay rs i = true
    · rw [if_pos c]
      exact List.nodup_append.mpr ⟨ih, by simp, fun a ha b hb => by
        rw [List.mem_singleton.mp hb]
        have := (mem_laysTo.mp ha).1
        omega⟩
    · rw [if_neg c]
      exact ih
theorem len_laysTo {rs : List RowD} : ∀ {i : Nat}, (laysTo rs i).length ≤ i
  | 0 => Nat.le_refl _
  | i + 1 => by
    have ih := len_laysTo (rs := rs) (i := i)
    unfold laysTo
    split
    · rw [List.length_append]
      exact Nat.succ_le_succ ih
    · omega
theorem laysTo_some {rs : List RowD} (h : ∃ r ∈ rs, r.kind = "lay") : laysTo rs rs.length ≠ [] := fun z => by
  obtain ⟨r, h1, h2⟩ := h
  obtain ⟨k, hk⟩ := List.getElem?_of_mem h1
  have : k ∈ laysTo rs rs.length := mem_laysTo.mpr ⟨(List.getElem?_eq_some_iff.mp hk).1, by rw [isLay_at hk]; exact decide_eq_true h2⟩
  rw [z] at this
  cases this
structure Md (rs : List RowD) : Prop where
  ok : ∀ r ∈ rs, RowOk r
  wl : wlen rs ≤ 299
  len : rs.length ≤ 60
theorem Tl.md {rs : List RowD} (h : Tl rs) : Md rs := ⟨h.ok, by have := h.wl; omega, by have := h.len; omega⟩
def OkW (ws : List Str) : Prop := ∀ a ∈ ws, wordB a = true
theorem OkW.app {l m : List Str} (h : OkW l) (g : OkW m) : OkW (l ++ m) := fun a ha => (List.mem_append.mp ha).elim (h a) (g a)
theorem okW_rep {n : Nat} {a : Str} (h : wordB a = true) : OkW (List.replicate n a) := fun x hx => by
  rw [List.eq_of_mem_replicate hx]
  exact h
theorem okW_one {a : Str} (h : wordB a = true) : OkW [a] := fun x hx => by
  rw [List.mem_singleton.mp hx]
  exact h
theorem behind_ok : wordB "behind" = true := by decide +kernel
theorem more_ok : wordB "more" = true := by decide +kernel
theorem q_ok : wordB "q" = true := by decide +kernel
theorem nb_words {ks : List Str} {rs : List RowD} (h : NB rs) : ("behind" : Str) ∉ wordsOf ks rs := fun z => by
  unfold wordsOf at z
  obtain ⟨r, h1, h2⟩ := List.mem_flatMap.mp z
  exact h r (List.mem_filter.mp h1).1 _ h2 beh_codes
/-- behind the first: the old text spoilt -/
def I1 (fl : Nat) (rs : List RowD) (old : List Str) (d : Nat) : Prop := OkW old ∧ old.length ≤ 62 ∧ ((d = 0 ∧ old = wordsOf oldK rs) ∨ (d = 3 ∧ (fl = 1 ∨ fl = 2 ∨ fl = 3) ∧ old ≠ wordsOf oldK rs ∧ old ++ [("behind" : Str)] ≠ wordsOf oldK rs))
theorem ne_len {α : Type} {l m : List α} (h : l.length ≠ m.length) : l ≠ m := fun z => h (congrArg List.length z)
theorem i1_none {fl : Nat} {rs : List RowD} (h : Tl rs) : I1 fl rs (wordsOf oldK rs) 0 := ⟨wordsOf_ok h.ok, by have := h.old; omega, .inl ⟨rfl, rfl⟩⟩
theorem i1_more {rs : List RowD} (h : Tl rs) : I1 1 rs (wordsOf oldK rs ++ [("more" : Str)]) 3 := by
  have ho := h.old
  refine ⟨OkW.app (wordsOf_ok h.ok) (okW_one more_ok), ?_, .inr ⟨rfl, .inl rfl, ne_len ?_, ne_len ?_⟩⟩
  · rw [List.length_append]
    show _ + 1 ≤ 62
    omega
  · rw [List.length_append]
    show _ + 1 ≠ _
    omega
  · rw [List.length_append, List.length_append]
    show _ + 1 + 1 ≠ _
    omega
theorem okW_take {l : List Str} {n : Nat} (h : OkW l) : OkW (l.take n) := fun a ha => h a (List.mem_of_mem_take ha)
theorem okW_drop {l : List Str} {n : Nat} (h : OkW l) : OkW (l.drop n) := fun a ha => h a (List.mem_of_mem_drop ha)
theorem i1_less {rs : List RowD} (h : Tl rs) {n : Nat} (hn : n < (wordsOf oldK rs).length) : I1 2 rs ((wordsOf oldK rs).take n ++ (wordsOf oldK rs).drop (n + 1)) 3 := by
  have ho := h.old
  have hw : OkW (wordsOf oldK rs) := wordsOf_ok h.ok
  refine ⟨OkW.app (okW_take hw) (okW_drop hw), ?_, .inr ⟨rfl, .inr (.inl rfl), ne_len ?_, fun z => ?_⟩⟩
  · rw [List.length_append, List.length_take, List.length_drop]
    omega
  · rw [List.length_append, List.length_take, List.length_drop]
    omega
  · refine nb_words (ks := oldK) h.nb ?_
    rw [← z]
    exact List.mem_append_right _ List.mem_cons_self
theorem i1_other {rs : List RowD} (h : Tl rs) {n : Nat} (hn : n < (wordsOf oldK rs).length) {o : Str} (ho : o = "z" ∨ o = "y") (ne : (wordsOf oldK rs)[n]? ≠ some o) : I1 3 rs ((wordsOf oldK rs).take n ++ [o] ++ (wordsOf oldK rs).drop (n + 1)) 3 := by
  have hl := h.old
  have hw : OkW (wordsOf oldK rs) := wordsOf_ok h.ok
  have wo : wordB o = true := by
    rcases ho with rfl | rfl <;> decide +kernel
  have el : ((wordsOf oldK rs).take n ++ [o] ++ (wordsOf oldK rs).drop (n + 1)).length = (wordsOf oldK rs).length := by
    rw [List.length_append, List.length_append, List.length_take, List.length_drop]
    show _ + 1 + _ = _
    omega
  refine ⟨OkW.app (OkW.app (okW_take hw) (okW_one wo)) (okW_drop hw), by omega, .inr ⟨rfl, .inr (.inr rfl), fun z => ne ?_, ne_len ?_⟩⟩
  · rw [← z, List.getElem?_append_left (by rw [List.length_append, List.length_take]; show n < _ + 1; omega), List.getElem?_append_right (by rw [List.length_take]; omega), List.length_take, Nat.min_eq_left (by omega), Nat.sub_self]
    rfl
  · rw [List.length_append, el]
    show _ + 1 ≠ _
    omega
/-- behind the blocks -/
def I3 (fl ln : Nat) (rs : List RowD) (old : List Str) (d : Nat) : Prop := Md rs ∧ OkW old ∧ old.length ≤ 64 ∧ (fl = 9 → Tl rs ∧ ln = (wordsOf newK rs).length) ∧ ((d = 0 ∧ FitO rs old ∧ (wordsOf newK rs).length ≤ 120) ∨ (d = 3 ∧ ¬ FitO rs old ∧ ¬ FitO rs (old ++ [("behind" : Str)])))
theorem i3_of {fl ln : Nat} {rs : List RowD} {old : List Str} {d : Nat} (h : Tl rs) (i : I1 fl rs old d) (e : ln = (wordsOf newK rs).length) : I3 fl ln rs old d := by
  obtain ⟨h1, h2, h3⟩ := i
  refine ⟨h.md, h1, by omega, fun _ => ⟨h, e⟩, ?_⟩
  rcases h3 with ⟨e1, e2⟩ | ⟨e1, _, e2, e3⟩
  · exact .inl ⟨e1, by rw [e2]; exact h.fit, by have := h.new; omega⟩
  · exact .inr ⟨e1, fun f => e2 f.1.symm, fun f => e3 f.1.symm⟩
theorem take_wlen (rs : List RowD) (n : Nat) : wlen (rs.take n) + wlen (rs.drop n) = wlen rs := by
  rw [← wlen_app, List.take_append_drop]
theorem ws_le {rs : List RowD} (h : Tl rs) {r : RowD} (hr : r ∈ rs) : r.ws.length ≤ 120 := Nat.le_trans (wlen_mem hr) h.wl
theorem mid_ok {rs : List RowD} {n : Nat} {g : RowD} (h : ∀ r ∈ rs, RowOk r) (hg : RowOk g) : ∀ r ∈ rs.take n ++ [g] ++ rs.drop (n + 1), RowOk r := fun r hr => by
  rcases List.mem_append.mp hr with z | z
  · rcases List.mem_append.mp z with z | z
    · exact h r (List.mem_of_mem_take z)
    · rw [List.mem_singleton.mp z]
      exact hg
  · exact h r (List.mem_of_mem_drop z)
theorem wlen_take_drop (rs : List RowD) (n : Nat) : wlen (rs.take n) + wlen (rs.drop (n + 1)) ≤ wlen rs := by
  have h1 := take_wlen rs n
  have h2 := take_wlen (rs.drop n) 1
  rw [List.drop_drop] at h2
  omega
theorem lay_num {r : RowD} (h : RowOk r) (hk : r.kind = "lay") : 1 ≤ r.num ∧ r.num ≤ 999999999 := by
  have h1 := h.num
  unfold numB at h1
  rw [inV_strs, decide_eq_true (show r.kind ∈ blockK by rw [hk]; decide +kernel), if_pos rfl, Bool.and_eq_true] at h1
  exact ⟨of_decide_eq_true h1.1, of_decide_eq_true h1.2⟩
theorem rowOk_blk {k : Str} {n : Int} {ws : List Str} (hk : k = "take" ∨ k = "lay") (h1 : 1 ≤ n) (h2 : n ≤ 999999999) (ne : ws ≠ []) (hw : OkW ws) : RowOk ⟨k, n, ws⟩ :=
  ⟨by
    have key : ∀ k, k = ("take" : Str) ∨ k = "lay" → k ∈ plainK ++ blockK := by
      intro k hk
      rcases hk with rfl | rfl <;> decide +kernel
    exact key k hk, numB_block hk h1 h2, ne, hw⟩
theorem md_mid {rs : List RowD} (h : Tl rs) {n : Nat} {g : RowD} (hn : n < rs.length) (hg : RowOk g) (gl : g.ws.length ≤ 150) : Md (rs.take n ++ [g] ++ rs.drop (n + 1)) := by
  refine ⟨mid_ok h.ok hg, ?_, ?_⟩
  · rw [wlen_app, wlen_app]
    have h1 := wlen_take_drop rs n
    have h2 := h.wl
    have : wlen [g] = g.ws.length := by
      rw [wlen_cons]
      rfl
    omega
  · rw [List.length_append, List.length_append, List.length_take, List.length_drop]
    have := h.len
    show _ + 1 + _ ≤ 60
    omega
theorem md_spoilt {rs : List RowD} (h : Tl rs) {fl n : Nat} {r : RowD} (hr : rs[n]? = some r) (hk : r.kind = "lay") : Md (spoilt fl n r rs) := by
  have hn : n < rs.length := (List.getElem?_eq_some_iff.mp hr).1
  have hl := h.len
  have rm := List.mem_of_getElem? hr
  have ok := h.ok r rm
  have nn := lay_num ok hk
  have hws := ws_le h rm
  have one : ∀ g : RowD, wlen [g] = g.ws.length := fun g => by
    rw [wlen_cons]
    rfl
  unfold spoilt
  by_cases e4 : fl = 4
  · rw [if_pos e4]
    refine ⟨fun r hr => ?_, ?_, ?_⟩
    · rcases List.mem_append.mp hr with z | z
      · exact h.ok r (List.mem_of_mem_take z)
      · exact h.ok r (List.mem_of_mem_drop z)
    · rw [wlen_app]
      have h1 := wlen_take_drop rs n
      have h2 := h.wl
      omega
    · rw [List.length_append, List.length_take, List.length_drop]
      omega
  rw [if_neg e4]
  by_cases e12 : fl = 12
  · rw [if_pos e12]
    exact md_mid h hn (rowOk_blk (.inr rfl) (by omega) (by omega) ok.some ok.words) (by show r.ws.length ≤ 150; omega)
  rw [if_neg e12]
  by_cases e13 : fl = 13
  · rw [if_pos e13]
    refine ⟨fun x hx => ?_, ?_, ?_⟩
    · rcases List.mem_append.mp hx with z | z
      · rcases List.mem_append.mp z with z | z
        · rw [List.mem_singleton.mp z]
          exact rowOk_blk (.inr rfl) nn.1 nn.2 (fun z => by cases z) (okW_one q_ok)
        · exact h.ok x z
      · rw [List.mem_singleton.mp z]
        exact rowOk_blk (.inl rfl) nn.1 nn.2 (fun z => by cases z) (okW_one q_ok)
    · rw [wlen_app, wlen_app, one, one]
      have h2 := h.wl
      show 1 + _ + 1 ≤ _
      omega
    · rw [List.length_append, List.length_append]
      show 1 + _ + 1 ≤ 60
      omega
  rw [if_neg e13]
  by_cases e5 : fl = 5
  · rw [if_pos e5]
    refine ⟨fun x hx => ?_, ?_, ?_⟩
    · rcases List.mem_append.mp hx with z | z
      · exact h.ok x z
      · rw [List.mem_singleton.mp z]
        exact ok
    · rw [wlen_app, one]
      have h2 := h.wl
      omega
    · rw [List.length_append]
      show _ + 1 ≤ 60
      omega
  rw [if_neg e5]
  refine md_mid h hn (rowOk_blk (.inr rfl) nn.1 nn.2 (fun z => by cases (List.append_eq_nil_iff.mp z).2) (OkW.app ok.words (okW_one more_ok))) ?_
  show (r.ws ++ [("more" : Str)]).length ≤ 150
  rw [List.length_append]
  show _ + 1 ≤ 150
  omega
theorem i3_spoilt {fl ln n : Nat} {rs : List RowD} {old : List Str} {r : RowD} (h : Tl rs) (hw : wants fl) (hr : rs[n]? = some r) (hk : r.kind = "lay") (ho : OkW old) (hl : old.length ≤ 64) : I3 fl ln (spoilt fl n r rs) old 3 :=
  ⟨md_spoilt h hr hk, ho, hl, (fun z => by unfold wants at hw; omega), .inr ⟨rfl, no_fit_spoilt h hw hr hk _, no_fit_spoilt h hw hr hk _⟩⟩
theorem wlen_set : ∀ (rs : List RowD) (i : Nat) (g : RowD), wlen (rs.set i g) ≤ wlen rs + g.ws.length
  | [], _, _ => by
    show wlen [] ≤ _
    have : wlen [] = 0 := rfl
    omega
  | r :: rs, 0, g => by
    show wlen (g :: rs) ≤ _
    rw [wlen_cons, wlen_cons]
    omega
  | r :: rs, i + 1, g => by
    have := wlen_set rs i g
    show wlen (r :: rs.set i g) ≤ _
    rw [wlen_cons, wlen_cons]
    omega
/-- the exchange: the rows stay, or nothing fits -/
theorem exch_cases {rs : List RowD} (h : Tl rs) : exch (laysTo rs rs.length) rs = rs ∨ (Md (exch (laysTo rs rs.length) rs) ∧ ∀ old, ¬ FitO (exch (laysTo rs rs.length) rs) old) := by
  have nd := nodup_laysTo (rs := rs) (i := rs.length)
  have mem : ∀ k ∈ laysTo rs rs.length, ∃ r, rs[k]? = some r ∧ r.kind = "lay" := fun k hk => lay_of (mem_laysTo.mp hk).2
  generalize laysTo rs rs.length = ls at nd mem
  match ls, nd, mem with
  | [], _, _ => exact .inl rfl
  | [i], _, _ => exact .inl rfl
  | i :: j :: t, nd, mem =>
    obtain ⟨r, hi, kr⟩ := mem i List.mem_cons_self
    obtain ⟨s, hj, ks⟩ := mem j (List.mem_cons_of_mem _ List.mem_cons_self)
    have ne : i ≠ j := fun z => by
      have := (List.nodup_cons.mp nd).1
      rw [z] at this
      exact this List.mem_cons_self
    by_cases c : r.ws = s.ws
    · left
      rw [exch_two hi hj, if_pos c]
    · right
      refine ⟨?_, no_fit_exch h hi hj kr ks ne c⟩
      have rm := List.mem_of_getElem? hi
      have sm := List.mem_of_getElem? hj
      have ok1 := h.ok r rm
      have ok2 := h.ok s sm
      have n1 := lay_num ok1 kr
      have n2 := lay_num ok2 ks
      rw [exch_two hi hj, if_neg c]
      refine ⟨fun x hx => ?_, ?_, ?_⟩
      · rcases List.mem_or_eq_of_mem_set hx with z | z
        · rcases List.mem_or_eq_of_mem_set z with z | z
          · exact h.ok x z
          · rw [z]
            exact rowOk_blk (.inr rfl) n2.1 n2.2 ok1.some ok1.words
        · rw [z]
          exact rowOk_blk (.inr rfl) n1.1 n1.2 ok2.some ok2.words
      · have w1 := wlen_set rs i ⟨"lay", s.num, r.ws⟩
        have w2 := wlen_set (rs.set i ⟨"lay", s.num, r.ws⟩) j ⟨"lay", r.num, s.ws⟩
        have w3 : r.ws.length + s.ws.length ≤ wlen rs := by
          have e : ∀ {X : List RowD} {i j : Nat}, i < j → X[i]? = some r → X[j]? = some s → r.ws.length + s.ws.length ≤ wlen X := fun {X i j} lt hi hj => by
            have e1 := take_wlen X (i + 1)
            have e2 : r.ws.length ≤ wlen (X.take (i + 1)) := wlen_mem (List.mem_of_getElem? (i := i) (by rw [List.getElem?_take, if_pos (Nat.lt_succ_self _)]; exact hi))
            have e3 : s.ws.length ≤ wlen (X.drop (i + 1)) := wlen_mem (List.mem_of_getElem? (i := j - (i + 1)) (by rw [List.getElem?_drop, show i + 1 + (j - (i + 1)) = j by omega]; exact hj))
            omega
          have e' : ∀ {X : List RowD} {i j : Nat}, i < j → X[i]? = some s → X[j]? = some r → r.ws.length + s.ws.length ≤ wlen X := fun {X i j} lt hi hj => by
            have e1 := take_wlen X (i + 1)
            have e2 : s.ws.length ≤ wlen (X.take (i + 1)) := wlen_mem (List.mem_of_getElem? (i := i) (by rw [List.getElem?_take, if_pos (Nat.lt_succ_self _)]; exact hi))
            have e3 : r.ws.length ≤ wlen (X.drop (i + 1)) := wlen_mem (List.mem_of_getElem? (i := j - (i + 1)) (by rw [List.getElem?_drop, show i + 1 + (j - (i + 1)) = j by omega]; exact hj))
            omega
          rcases Nat.lt_or_gt_of_ne ne with lt | lt
          · exact e lt hi hj
          · exact e' lt hj hi
        have hwl := h.wl
        dsimp only at w1 w2
        omega
      · rw [List.length_set, List.length_set]
        have := h.len
        omega
theorem i3_exch {ln : Nat} {rs : List RowD} {old : List Str} {d : Nat} (h : Tl rs) (i : I1 14 rs old d) : d = 0 ∧ ((exch (laysTo rs rs.length) rs = rs ∧ I3 14 ln (exch (laysTo rs rs.length) rs) old 0) ∨ (exch (laysTo rs rs.length) rs ≠ rs ∧ I3 14 ln (exch (laysTo rs rs.length) rs) old 3)) := by
  obtain ⟨h1, h2, h3⟩ := i
  rcases h3 with ⟨e1, e2⟩ | ⟨_, z, _⟩
  · refine ⟨e1, ?_⟩
    rcases exch_cases h with e | ⟨md, nf⟩
    · refine .inl ⟨e, ?_⟩
      rw [e]
      exact ⟨h.md, h1, by omega, (fun z => absurd z (by decide)), .inl ⟨rfl, by rw [e2]; exact h.fit, by have := h.new; omega⟩⟩
    · exact .inr ⟨fun z => nf (wordsOf oldK rs) (by rw [z]; exact h.fit), md, h1, by omega, (fun z => absurd z (by decide)), .inr ⟨rfl, nf _, nf _⟩⟩
  · omega
/-- behind the word more -/
def I4 (fl ln : Nat) (rs : List RowD) (old : List Str) (d : Nat) : Prop := Md rs ∧ OkW old ∧ old.length ≤ 65 ∧ (fl = 9 → Tl rs ∧ ln = (wordsOf newK rs).length) ∧ ((d = 0 ∧ FitO rs old ∧ (wordsOf newK rs).length ≤ 120) ∨ (d = 3 ∧ ¬ FitO rs old))
theorem i4_same {fl ln : Nat} {rs : List RowD} {old : List Str} {d : Nat} (h : I3 fl ln rs old d) : I4 fl ln rs old d := by
  obtain ⟨h1, h2, h3, h4, h5⟩ := h
  exact ⟨h1, h2, by omega, h4, h5.imp id fun z => ⟨z.1, z.2.1⟩⟩
theorem i4_odd {fl ln : Nat} {rs : List RowD} {old : List Str} {d : Nat} (h : I3 fl ln rs old d) : I4 fl ln rs (old ++ [("behind" : Str)]) 3 := by
  obtain ⟨h1, h2, h3, h4, h5⟩ := h
  refine ⟨h1, h2.app (okW_one behind_ok), by rw [List.length_append]; show _ + 1 ≤ 65; omega, h4, .inr ⟨rfl, ?_⟩⟩
  rcases h5 with ⟨_, f, _⟩ | ⟨_, _, f⟩
  · intro g
    refine ne_len ?_ (f.1.symm.trans g.1)
    rw [List.length_append]
    show _ ≠ _ + 1
    omega
  · exact f
/-- behind the words put -/
def I5 (rs : List RowD) (old : List Str) (d : Nat) : Prop := Md rs ∧ OkW old ∧ old.length ≤ 65 ∧ ((d = 0 ∧ FitO rs old ∧ (wordsOf newK rs).length ≤ 120) ∨ (d = 3 ∧ ¬ FitO rs old) ∨ (d = 4 ∧ FitO rs old ∧ ¬ (wordsOf newK rs).length ≤ 120))
theorem i5_same {fl ln : Nat} {rs : List RowD} {old : List Str} {d : Nat} (h : I4 fl ln rs old d) : I5 rs old d := by
  obtain ⟨h1, h2, h3, h4, h5⟩ := h
  exact ⟨h1, h2, h3, h5.imp id .inl⟩
theorem put_rows {k : Nat} {ws : List Str} (rs : List RowD) : wordsOf oldK (rs.take k ++ [⟨"put", 0, ws⟩] ++ rs.drop k) = wordsOf oldK rs ∧ (wordsOf newK (rs.take k ++ [⟨"put", 0, ws⟩] ++ rs.drop k)).length = (wordsOf newK rs).length + ws.length ∧ ∀ b ∈ blockK, blk b (rs.take k ++ [⟨"put", 0, ws⟩] ++ rs.drop k) = blk b rs := by
  have e := List.take_append_drop k rs
  have po : ("put" : Str) ∉ oldK := by decide +kernel
  have pn : ("put" : Str) ∈ newK := by decide +kernel
  refine ⟨?_, ?_, fun b hb => ?_⟩
  · rw [wordsOf_append, wordsOf_append, wordsOf_cons, if_neg po]
    show wordsOf oldK (rs.take k) ++ [] ++ _ = _
    rw [List.append_nil, ← wordsOf_append, e]
  · rw [wordsOf_append, wordsOf_append, wordsOf_cons, if_pos pn, List.length_append, List.length_append]
    have h1 := congrArg (fun z => (wordsOf newK z).length) e
    have h1 : (wordsOf newK (rs.take k ++ rs.drop k)).length = (wordsOf newK rs).length := h1
    rw [wordsOf_append, List.length_append] at h1
    have h2 : (ws ++ wordsOf newK []).length = ws.length := by
      rw [show wordsOf newK [] = [] from rfl, List.append_nil]
    show _ + (ws ++ wordsOf newK []).length + _ = _
    omega
  · rw [blk_app, blk_app, blk_cons, if_neg (fun z => by
      have key : ("put" : Str) ∉ blockK := by decide +kernel
      exact key ((show ("put" : Str) = b from z) ▸ hb))]
    show blk b (rs.take k) ++ [] ++ _ = _
    rw [List.append_nil, ← blk_app, e]
theorem fit_put {k : Nat} {ws : List Str} {rs : List RowD} {old : List Str} : FitO (rs.take k ++ [⟨"put", 0, ws⟩] ++ rs.drop k) old ↔ FitO rs old := by
  obtain ⟨h1, h2, h3⟩ := put_rows (k := k) (ws := ws) rs
  have bt := h3 "take" (by decide +kernel)
  have bl := h3 "lay" (by decide +kernel)
  unfold FitO ndB blkData
  rw [h1, bt, bl]
theorem i5_put {ln k : Nat} {rs : List RowD} {old : List Str} {d : Nat} (h : I4 9 ln rs old d) : I5 (rs.take k ++ [⟨"put", 0, List.replicate (121 - ln) "w"⟩] ++ rs.drop k) old (if d = 3 then 3 else 4) := by
  obtain ⟨h1, h2, h3, h4, h5⟩ := h
  obtain ⟨tl, el⟩ := h4 rfl
  have hn := tl.new
  obtain ⟨p1, p2, p3⟩ := put_rows (k := k) (ws := List.replicate (121 - ln) "w") rs
  rw [List.length_replicate] at p2
  have ww : wordB "w" = true := by decide +kernel
  have pk : ("put" : Str) ∈ plainK := by decide +kernel
  have okp : RowOk ⟨"put", 0, List.replicate (121 - ln) "w"⟩ := rowOk_plain pk (fun z => by
    have := congrArg List.length z
    rw [List.length_replicate, List.length_nil] at this
    omega) (okW_rep ww)
  refine ⟨⟨fun r hr => ?_, ?_, ?_⟩, h2, h3, ?_⟩
  · rcases List.mem_append.mp hr with z | z
    · rcases List.mem_append.mp z with z | z
      · exact tl.ok r (List.mem_of_mem_take z)
      · rw [List.mem_singleton.mp z]
        exact okp
    · exact tl.ok r (List.mem_of_mem_drop z)
  · rw [wlen_app, wlen_app]
    have h6 := take_wlen rs k
    have h7 := tl.wl
    have h8 : wlen [(⟨"put", 0, List.replicate (121 - ln) "w"⟩ : RowD)] = 121 - ln := by
      rw [wlen_cons]
      show (List.replicate (121 - ln) ("w" : Str)).length + 0 = _
      rw [List.length_replicate]
      rfl
    omega
  · rw [List.length_append, List.length_append, List.length_take, List.length_drop]
    have := tl.len
    show _ + 1 + _ ≤ 60
    omega
  · rw [fit_put, p2]
    rcases h5 with ⟨e, f, _⟩ | ⟨e, f⟩
    · rw [e]
      exact .inr (.inr ⟨rfl, f, by omega⟩)
    · rw [e]
      exact .inr (.inl ⟨rfl, f⟩)
/-- behind the words of the old text -/
def I6 (rs : List RowD) (old : List Str) (d : Nat) : Prop := Md rs ∧ OkW old ∧ old.length ≤ 200 ∧ ((120 < old.length ∧ d = 4) ∨ (old.length ≤ 120 ∧ ((¬ FitO rs old ∧ d = 3) ∨ (FitO rs old ∧ ¬ (wordsOf newK rs).length ≤ 120 ∧ d = 4) ∨ (FitO rs old ∧ (wordsOf newK rs).length ≤ 120 ∧ d = 0))))
theorem i6_same {rs : List RowD} {old : List Str} {d : Nat} (h : I5 rs old d) : I6 rs old d := by
  obtain ⟨h1, h2, h3, h4⟩ := h
  refine ⟨h1, h2, by omega, .inr ⟨by omega, ?_⟩⟩
  rcases h4 with ⟨e, f, n⟩ | ⟨e, f⟩ | ⟨e, f, n⟩
  · exact .inr (.inr ⟨f, n, e⟩)
  · exact .inl ⟨f, e⟩
  · exact .inr (.inl ⟨f, n, e⟩)
theorem i6_long {rs : List RowD} {old : List Str} {d : Nat} (h : I5 rs old d) : I6 rs (old ++ List.replicate 121 ("behind" : Str)) 4 := by
  obtain ⟨h1, h2, h3, h4⟩ := h
  have e : (old ++ List.replicate 121 ("behind" : Str)).length = old.length + 121 := by
    rw [List.length_append, List.length_replicate]
  exact ⟨h1, h2.app (okW_rep behind_ok), by omega, .inl ⟨by omega, rfl⟩⟩
theorem wordsOf_wlen (ks : List Str) : ∀ rs : List RowD, (wordsOf ks rs).length ≤ wlen rs
  | [] => Nat.le_refl _
  | r :: rs => by
    have ih := wordsOf_wlen ks rs
    rw [wordsOf_cons, wlen_cons]
    split
    · rw [List.length_append]
      omega
    · omega
theorem Md.tell {K : PySem.W.Frag} {H : Hp} {R : Addr} {xs : List V} {rs : List RowD} (h : Md rs) (hR : H R = some (.lst xs)) (hX : RowsT K H xs rs) : TellG K H (.ref R) rs := by
  have h1 := h.wl
  have h2 := h.len
  exact ⟨R, xs, rfl, .inl (.inl hR), hX, ⟨h.ok, by omega, Nat.le_trans (kW_le _ _) h1⟩, by omega⟩
/-- what the old text is in the end: words, or something that is no text -/
def TB (K : PySem.W.Frag) (H : Hp) (u : V) (rs : List RowD) (d : Nat) : Prop := (∃ (O : Addr) (old : List Str), u = .ref O ∧ H O = some (.lst (old.map V.str)) ∧ I6 rs old d) ∨ (d = 2 ∧ ∃ o, TextV K H u o ∧ wordsB o = false)
theorem TB.done {K : PySem.W.Frag} {H : Hp} {R : Addr} {xs : List V} {rs : List RowD} {u : V} {d : Nat} (md : Md rs) (hR : H R = some (.lst xs)) (hX : RowsT K H xs rs) (h : TB K H u rs d) : DoneD K H (.ref R) u d := by
  have h1 := md.wl
  have h2 := md.len
  have w1 := wordsOf_wlen oldK rs
  have w2 := wordsOf_wlen newK rs
  refine .inr ⟨R, xs, rs, rfl, .inl (.inl hR), hX.at, md.ok, by have := hX.1; omega, by omega, by omega, ?_⟩
  rcases h with ⟨O, old, rfl, hO, _, how, hl, h⟩ | ⟨e, o, ho, hb⟩
  · rcases h with ⟨h3, e⟩ | ⟨h3, h⟩
    · refine .inl ⟨_, TextV.of_words (.inl (.inl hO)) how (by omega), .inr ⟨?_, ?_, e⟩⟩
      · show (old.map V.str).all isW = true
        rw [all_isW]
        exact List.all_eq_true.mpr how
      · show decide ((old.map V.str).length ≤ 120) = false
        rw [List.length_map]
        exact decide_eq_false (by omega)
    · exact .inr ⟨O, old, rfl, .inl (.inl hO), how, h3, h⟩
  · exact .inl ⟨o, ho, .inl ⟨hb, e⟩⟩
/-! ### no row among the rows -/
mutual
def headB : PyData → Bool
  | .list ds => headL ds && headsB ds
  | .tuple ds => headsB ds
  | _ => true
def headsB : List PyData → Bool
  | [] => true
  | d :: ds => headB d && headsB ds
def headL : List PyData → Bool
  | .str _ :: _ => true
  | .int _ :: _ => true
  | _ => false
end
theorem noRows_heads : noRows.all headB = true := by decide +kernel
def RefsV (xs : List V) : Prop := ∀ x ∈ xs, ∃ T, x = .ref T
theorem RowsT.refs {K : PySem.W.Frag} {H : Hp} {xs : List V} {rs : List RowD} (h : RowsT K H xs rs) : RefsV xs := fun x hx => by
  obtain ⟨i, hi⟩ := List.getElem?_of_mem hx
  obtain ⟨r, _, T, W, e, _⟩ := h.2 i x hi
  exact ⟨T, e⟩
theorem head_no {K : PySem.W.Frag} {H : Hp} {ys : List V} {ds : List PyData} (h : DpAll K H ys ds) (hh : headL ds = true) (hr : RefsV ys) : False := by
  cases h with
  | nil => cases hh
  | @cons v vs d ds h t =>
    obtain ⟨T, e⟩ := hr v List.mem_cons_self
    subst e
    cases h with
    | lst h a => cases hh
    | tup h a => cases hh
mutual
theorem dp_set {K : PySem.W.Frag} {H : Hp} {R : Addr} {xs : List V} {o : HO} (hR : H R = some (.lst xs)) (hx : RefsV xs) : ∀ {v : V} {d : PyData}, Dp K H v d → headB d = true → Dp K (upd H R o) v d
  | _, _, .non, _ => .non
  | _, _, .bl b, _ => .bl b
  | _, _, .int i, _ => .int i
  | _, _, .str x, _ => .str x
  | _, _, .lst (a := a) (xs := ys) (ds := ds) h l, e => by
    have e : (headL ds && headsB ds) = true := by
      unfold headB at e
      exact e
    rw [Bool.and_eq_true] at e
    refine .lst ?_ (dps_set hR hx l e.2)
    rcases h with h | h
    · by_cases c : a = R
      · exfalso
        subst c
        rcases h with h | ⟨o2, h⟩
        · rw [hR] at h
          have := HO.lst.inj (Option.some.inj h)
          subst this
          exact head_no l e.1 hx
        · rw [hR] at h
          cases h
      · refine .inl ?_
        rcases h with h | ⟨o2, h⟩
        · exact .inl (by rw [upd_ne c]; exact h)
        · exact .inr ⟨o2, by rw [upd_ne c]; exact h⟩
    · exact .inr h
  | _, _, .tup (ds := ds) h l, e => by
    have e : headsB ds = true := by
      unfold headB at e
      exact e
    exact .tup (sqT_set (noTup hR) h) (dps_set hR hx l e)
theorem dps_set {K : PySem.W.Frag} {H : Hp} {R : Addr} {xs : List V} {o : HO} (hR : H R = some (.lst xs)) (hx : RefsV xs) : ∀ {vs : List V} {ds : List PyData}, DpAll K H vs ds → headsB ds = true → DpAll K (upd H R o) vs ds
  | _, _, .nil, _ => .nil
  | _, _, .cons (d := d) (ds := ds) h t, e => by
    have e : (headB d && headsB ds) = true := by
      unfold headsB at e
      exact e
    rw [Bool.and_eq_true] at e
    exact .cons (dp_set hR hx h e.1) (dps_set hR hx t e.2)
end
def RVs (K : PySem.W.Frag) (H : Hp) (xs : List V) (bs : List Bool) : Prop := xs.length = bs.length ∧ ∀ (i : Nat) (x : V), xs[i]? = some x → ∃ b, bs[i]? = some b ∧ RV K H x b
theorem RVs.one {K : PySem.W.Frag} {H : Hp} {v : V} {b : Bool} (h : RV K H v b) : RVs K H [v] [b] := ⟨rfl, fun i x e => by
  cases i with
  | zero => cases e; exact ⟨b, rfl, h⟩
  | succ i => cases e⟩
theorem RVs.app {K : PySem.W.Frag} {H : Hp} {xs ys : List V} {bs cs : List Bool} (h : RVs K H xs bs) (g : RVs K H ys cs) : RVs K H (xs ++ ys) (bs ++ cs) := by
  refine ⟨by rw [List.length_append, List.length_append, h.1, g.1], fun i v e => ?_⟩
  rcases Nat.lt_or_ge i xs.length with c | c
  · rw [List.getElem?_append_left c] at e
    obtain ⟨r, h1, h2⟩ := h.2 i v e
    exact ⟨r, by rw [List.getElem?_append_left (by rw [← h.1]; exact c)]; exact h1, h2⟩
  · rw [List.getElem?_append_right c] at e
    obtain ⟨r, h1, h2⟩ := g.2 _ v e
    exact ⟨r, by rw [List.getElem?_append_right (by rw [← h.1]; exact c), ← h.1]; exact h1, h2⟩
theorem RVs.of_rows {K : PySem.W.Frag} {H : Hp} {xs : List V} {rs : List RowD} (h : RowsT K H xs rs) (ok : ∀ r ∈ rs, RowOk r) : RVs K H xs (List.replicate xs.length true) :=
  ⟨by rw [List.length_replicate], fun i x e => by
    obtain ⟨r, h1, h2⟩ := h.2 i x e
    exact ⟨true, by rw [List.getElem?_replicate, if_pos (List.getElem?_eq_some_iff.mp e).1], RV.of_row h2.at (ok r (List.mem_of_getElem? h1))⟩⟩
/-- a telling with something that is no row in it -/
theorem rows_ins {K : PySem.W.Frag} {H : Hp} {R : Addr} {xs : List V} {rs : List RowD} {v : V} {d : PyData} (hR : H R = some (.lst xs)) (hX : RowsT K H xs rs) (ok : ∀ r ∈ rs, RowOk r) (hl : xs.length ≤ 900) (hv : Dp K H v d) (hd : d ∈ noRows) (k : Nat) :
    TellX K (upd H R (.lst (xs.take k ++ [v] ++ xs.drop k))) (.ref R) := by
  have nv := row_no (dp_set (o := .lst (xs.take k ++ [v] ++ xs.drop k)) hR hX.refs hv (List.all_eq_true.mp noRows_heads d hd)) (List.all_eq_true.mp noRows_all d hd)
  have hX2 : RowsT K (upd H R (.lst (xs.take k ++ [v] ++ xs.drop k))) xs rs := RowsT.set (noTup hR) hX
  have r1 := RVs.of_rows (rowsT_take hX2 k) fun r hr => ok r (List.mem_of_mem_take hr)
  have r2 := RVs.of_rows (rowsT_drop hX2 k) fun r hr => ok r (List.mem_of_mem_drop hr)
  have r3 := (r1.app (RVs.one nv)).app r2
  refine ⟨some _, ⟨R, _, rfl, .inl (.inl upd_same), r3.1, ?_, r3.2⟩, ?_⟩
  · rw [List.length_append, List.length_append, List.length_take, List.length_drop]
    show _ + 1 + _ ≤ 1000
    omega
  · show (List.replicate _ true ++ [false] ++ List.replicate _ true).all id = false
    rw [List.all_append, List.all_append]
    simp
/-! ### the law: tellings refused -/
structure Fr (K : PySem.W.Frag) (H H' : Hp) (R O N : Addr) (xs zs : List V) (rs : List RowD) (old : List Str) : Prop where
  sm : Same H H'
  nR : H R = none
  hR : H' R = some (.lst xs)
  hX : RowsT K H' xs rs
  ne : O ≠ R
  hO : H' O = some (.lst (old.map V.str))
  hN : H' N = some (.lst zs)
  neN : N ≠ R
theorem Fr.step {K : PySem.W.Frag} {H H' H2 : Hp} {R O N : Addr} {xs zs : List V} {rs : List RowD} {old : List Str} (f : Fr K H H' R O N xs zs rs old) (s : Same H' H2) : Fr K H H2 R O N xs zs rs old :=
  ⟨f.sm.trans s, f.nR, s _ _ f.hR, f.hX.same s, f.ne, s _ _ f.hO, s _ _ f.hN, f.neN⟩
theorem Fr.newO {K : PySem.W.Frag} {H H' H2 : Hp} {R O N D : Addr} {xs zs : List V} {rs : List RowD} {old old2 : List Str} (f : Fr K H H' R O N xs zs rs old) (s : Same H' H2) (nD : H' D = none) (hD : H2 D = some (.lst (old2.map V.str))) : Fr K H H2 R D N xs zs rs old2 :=
  ⟨f.sm.trans s, f.nR, s _ _ f.hR, f.hX.same s, (ne_of_none f.hR nD).symm, hD, s _ _ f.hN, f.neN⟩
theorem Fr.newR {K : PySem.W.Frag} {H H' H2 : Hp} {R O N D : Addr} {xs zs ys : List V} {rs qs : List RowD} {old : List Str} (f : Fr K H H' R O N xs zs rs old) (s : Same H' H2) (nD : H' D = none) (hD : H2 D = some (.lst ys)) (hY : RowsT K H2 ys qs) : Fr K H H2 D O N ys zs qs old :=
  ⟨f.sm.trans s, f.sm.free nD, hD, hY, ne_of_none f.hO nD, s _ _ f.hO, s _ _ f.hN, ne_of_none f.hN nD⟩
/-- a row put in among the rows -/
theorem Fr.ins {K : PySem.W.Frag} {H H' H2 : Hp} {R O N : Addr} {xs zs : List V} {rs : List RowD} {old : List Str} (f : Fr K H H' R O N xs zs rs old) (s : Same H' H2) {v : V} {g : RowD} (k : Nat) (hg : RowT K H2 v g) : Fr K H (upd H2 R (.lst (xs.take k ++ [v] ++ xs.drop k))) R O N (xs.take k ++ [v] ++ xs.drop k) zs (rs.take k ++ [g] ++ rs.drop k) old :=
  ⟨same_set (f.sm.trans s) f.nR, f.nR, upd_same, RowsT.set (noTup (s _ _ f.hR)) (((rowsT_take (f.hX.same s) k).app (RowsT.one hg)).app (rowsT_drop (f.hX.same s) k)), f.ne, by rw [upd_ne f.ne]; exact s _ _ f.hO, by rw [upd_ne f.neN]; exact s _ _ f.hN, f.neN⟩
theorem small_list {n : Nat} (h : n ≤ 10000) : n ≤ sizeLine := Nat.le_trans h (by decide)
theorem small_lt {n : Nat} (h : n ≤ 10000) : n < sizeLine := Nat.lt_of_le_of_lt h (by decide)
def natD (k : Nat) : PyData := .int (k : Int)
theorem dpNats (H : Hp) (K : PySem.W.Frag) : ∀ ls : List Nat, DpAll K H (ls.map natV) (ls.map natD)
  | [] => .nil
  | k :: r => .cons (.int (k : Int)) (dpNats H K r)
theorem lay_nats : ∀ ls : List Nat, PyData.canLayAll0 (ls.map natD) = true := fun ls => by
  induction ls with
  | nil => rfl
  | cons x r ih =>
    show (PyData.canLay0 (.int (x : Int)) && PyData.canLayAll0 (r.map natD)) = true
    rw [ih]
    rfl
theorem depth_nats : ∀ ls : List Nat, PyData.depthAll (ls.map natD) = 0 := fun ls => by
  induction ls with
  | nil => rfl
  | cons x r ih =>
    show max (PyData.depth (.int (x : Int))) (PyData.depthAll (r.map natD)) = 0
    rw [ih]
    rfl
theorem shaped_nats (ls : List Nat) : SeqAt.shaped (.list (ls.map natD)) = true := by
  show (PyData.canLayAll0 (ls.map natD) && decide (PyData.depthAll (ls.map natD) + 1 ≤ 64)) = true
  rw [lay_nats ls, depth_nats]
  rfl
theorem flat_rep5 (k : Nat) (a : Str) : (List.replicate k [V.str a]).flatten = (List.replicate k a).map V.str := by
  induction k with
  | zero => rfl
  | succ k ih =>
    rw [List.replicate_succ, List.replicate_succ, List.flatten_cons, List.map_cons, ih]
    rfl
/-- behind the exchange -/
def I2 (fl ln : Nat) (ls : List Nat) (rs : List RowD) (old : List Str) (d : Nat) : Prop := (fl ≠ 14 ∧ Tl rs ∧ I1 fl rs old d ∧ ls = laysTo rs rs.length ∧ ln = (wordsOf newK rs).length ∧ (wants fl → ∃ r ∈ rs, r.kind = "lay")) ∨ (fl = 14 ∧ I3 fl ln rs old d)
section
variable {P : Program} {w : World} {K : PySem.W.Frag} {mg : Str → Option Value} {base : Heap}
abbrev l5N : List Str := ["_law_script", "_law_fault", "_law_rows", "_law_old", "_law_new", "_law_place", "_law_due", "_law_laid", "_law_k"]
theorem scLaw : FnScope l5N ["_law_script"] (defScope sLaw) := ⟨rfl, rfl, rfl, by decide +kernel, rfl, by decide +kernel, by decide +kernel⟩
def spLaw (K : PySem.W.Frag) (Ps : List Addr) : Sp := fun vs H Q _ => ∃ (a : Addr) (ns : List Int), vs = [.ref a] ∧ SqL K H a (ns.map V.int) ∧ Tb Ps H ∧ ∀ H', Q (.bl true) H'
theorem ok_law {Ps : List Addr} {f fC fR fW fS fE fB fN fZ fG : Addr} {fd fdC fdR fdW fdS fdE fdB fdN fdZ fdG : FuncData} (F : FnP K "law" sLaw f fd)
    (GC : FnOk P w K mg base (L2.CX P w) 1 fC fdC ["_law_script", "_law_k"] (spCell K)) (kC : PySem.W.keepIn K (.ref fC) = true) (bC : Binds K fdC ["_law_script", "_law_k"] []) (gC : mg "_law_cell_at" = some (.ref fC))
    (GR : FnOk P w K mg base (L2.CX P w) 5 fR fdR ["_law_script", "_law_fault"] (spRowsFor K)) (kR : PySem.W.keepIn K (.ref fR) = true) (bR : Binds K fdR ["_law_script", "_law_fault"] []) (gR : mg "_law_rows_for" = some (.ref fR))
    (GW : FnOk P w K mg base (L2.CX P w) 1 fW fdW ["_law_rows", "_law_kinds_here"] (spWordsOf K)) (kW : PySem.W.keepIn K (.ref fW) = true) (bW : Binds K fdW ["_law_rows", "_law_kinds_here"] []) (gW : mg "_law_words_of" = some (.ref fW))
    (GS : FnOk P w K mg base (L2.CX P w) 1 fS fdS ["_law_old", "_law_fault", "_law_at"] (spOldSpoilt K)) (kS : PySem.W.keepIn K (.ref fS) = true) (bS : Binds K fdS ["_law_old", "_law_fault", "_law_at"] []) (gS : mg "_law_old_spoilt" = some (.ref fS))
    (GE : FnOk P w K mg base (L2.CX P w) 1 fE fdE ["_law_rows", "_law_laid"] (spExchanged K)) (kE : PySem.W.keepIn K (.ref fE) = true) (bE : Binds K fdE ["_law_rows", "_law_laid"] []) (gE : mg "_law_exchanged" = some (.ref fE))
    (GB : FnOk P w K mg base (L2.CX P w) 1 fB fdB ["_law_rows", "_law_fault", "_law_at"] (spBlockSpoilt K)) (kB : PySem.W.keepIn K (.ref fB) = true) (bB : Binds K fdB ["_law_rows", "_law_fault", "_law_at"] []) (gB : mg "_law_block_spoilt" = some (.ref fB))
    (GN : FnOk P w K mg base (L2.CX P w) 1 fN fdN ["_law_old", "_law_place", "_law_many"] (spNoWordIn K)) (kN : PySem.W.keepIn K (.ref fN) = true) (bN : Binds K fdN ["_law_old", "_law_place", "_law_many"] []) (gN : mg "_law_no_word_in" = some (.ref fN))
    (GZ : FnOk P w K mg base (L2.CX P w) 1 fZ fdZ ["_law_cell"] (spNoRow K)) (kZ : PySem.W.keepIn K (.ref fZ) = true) (bZ : Binds K fdZ ["_law_cell"] []) (gZ : mg "_law_no_row" = some (.ref fZ))
    (GG : FnOk P w K mg base (L2.CX P w) 11 fG fdG ["_law_rows", "_law_old", "_law_due", "_law_cell"] (spRight K Ps)) (kG : PySem.W.keepIn K (.ref fG) = true) (bG : Binds K fdG ["_law_rows", "_law_old", "_law_due", "_law_cell"] []) (gG : mg "_law_right" = some (.ref fG))
    (mL : mg "len" = none) (mX : mg "max" = none) (mR : mg "range" = none) (mN : mg "int" = none) (mU : mg "tuple" = none) : FnOk P w K mg base (L2.CX P w) 12 f fd ["_law_script"] (spLaw K Ps) := by
  refine F.ok scLaw (fun vs H Q E h => ?_) (fun cdv A outer s H vs Q E hr h => ?_)
  · obtain ⟨a, ns, rfl, _⟩ := h
    rfl
  · obtain ⟨a, ns, rfl, hS, ht, q⟩ := h
    have r1 : Room 1 (A.deeper (envOfC "law" (defScope sLaw) s.heap.objs.size f cdv)) := hr.mono (by decide)
    have r5 : Room 5 (A.deeper (envOfC "law" (defScope sLaw) s.heap.objs.size f cdv)) := hr.mono (by decide)
    refine ⟨_, (pss_cons (ps_set (i := 1) scLaw.nd rfl (.inl rfl) (pe_op op_mod (pe_op op_add (pe_call GC r1 (by rfl) gC kC bC .nil passL (pa_cons (pv 0) (pa_cons pe_int pa_nil))) (pe_op op_fdiv (pe_call GC r1 (by rfl) gC kC bC .nil passL (pa_cons (pv 0) (pa_cons pe_int pa_nil))) pe_int)) pe_int))
      (pss_cons (ps_set (i := 2) scLaw.nd rfl (.inr rfl) (pe_call GR r5 (by rfl) gR kR bR .nil passL (pa_cons (pv 0) (pa_cons (pv 1) pa_nil))))
      (pss_cons (ps_set (i := 3) scLaw.nd rfl (.inl rfl) (pe_call GW r1 (by rfl) gW kW bW .nil passL (pa_cons (pv 2) (pa_cons (pe_tup (pa_cons pe_str (pa_cons pe_str (pa_cons pe_str pa_nil)))) pa_nil))))
      (pss_cons (ps_set (i := 4) scLaw.nd rfl (.inl rfl) (pe_call GW r1 (by rfl) gW kW bW .nil passL (pa_cons (pv 2) (pa_cons (pe_tup (pa_cons pe_str (pa_cons pe_str (pa_cons pe_str pa_nil)))) pa_nil))))
      (pss_cons (ps_set (i := 5) scLaw.nd rfl (.inl rfl) (pe_call GC r1 (by rfl) gC kC bC .nil passL (pa_cons (pv 0) (pa_cons pe_int pa_nil))))
      (pss_cons (ps_set (i := 6) scLaw.nd rfl (.inl rfl) pe_str)
      (pss_cut (ps_if (PW.pt (pw_or (pt_cmpR op_eq (pv 1) pe_int (nomark _)) (pw_or1 (PW.pt (pw_and (pt_chain op_lt op_lt pe_int (pv 1) pe_int) (pw_and1 (pt_cmpR (op_neD hr.units) (pv 3) (pe_lst pa_nil) (nomark _))))))))
        (pss_cons (ps_set (i := 3) scLaw.nd rfl (.inl rfl) (pe_call GS r1 (by rfl) gS kS bS .nil passL (pa_cons (pv 3) (pa_cons (pv 1) (pa_cons (pe_op op_mod (pv 5) (pe_callB (call_max2 rfl) (by rfl) mX (by decide +kernel) (pa_cons pe_int (pa_cons (pe_callB call_len_seq (by rfl) mL PySem.boot_len (pa_cons (pv 3) pa_nil)) pa_nil)))) pa_nil)))))
        (pss_one (ps_set (i := 6) scLaw.nd rfl (.inl rfl) pe_str))) pss_nil)
      (pss_cons (ps_setLc (i := 7) (own := [("_law_k", 8)]) (g := gName 8) rfl scLaw.nd rfl rfl (sw_true rfl rfl rfl (by decide +kernel)) (pi_range1 (by rfl) mR (pa_cons (pe_callB call_len_seq (by rfl) mL PySem.boot_len (pa_cons (pv 2) pa_nil)) pa_nil)) (blkOk_by (N := l5N) (sc := defScope sLaw) (by decide +kernel))
        (fun _ _ _ _ _ => pg_name (i := 8) scLaw.nd rfl (Or.inl rfl)) (fun _ _ _ _ _ => pts_one (pt_cmpR op_eq (pe_ix (r := rIxT K) ix_tup (pe_ix (r := rIxL K) ix_list (pv 2) (pv 8) (fun _ _ => rfl)) pe_int (fun _ _ => rfl)) pe_str (nomark _)))
        (fun _ _ _ _ _ => pv 8))
      (pss_cut (ps_if (pt_cmpR op_eq (pv 1) pe_int (nomark _))
        (pss_cons (ps_set (i := 6) scLaw.nd rfl (.inl rfl) (pe_ix ix_list (pe_lst (pa_cons pe_str (pa_cons pe_str pa_nil))) (pe_callTy call_int1 (by rfl) mN (by decide +kernel) (pa_cons (pe_cmpR (op_neD hr.units) (pe_call GE r1 (by rfl) gE kE bE .nil passL (pa_cons (pv 2) (pa_cons (pv 7) pa_nil))) (pv 2) (by rfl)) pa_nil)) (fun _ _ => rfl)))
        (pss_one (ps_set (i := 2) scLaw.nd rfl (.inr rfl) (pe_call GE r1 (by rfl) gE kE bE .nil passL (pa_cons (pv 2) (pa_cons (pv 7) pa_nil)))))) pss_nil)
      (pss_cut (ps_if (PW.pt (pw_and (pt_cmpR op_in_seq (pv 1) (pe_tup (pa_cons pe_int (pa_cons pe_int (pa_cons pe_int (pa_cons pe_int (pa_cons pe_int pa_nil)))))) (by rfl)) (pw_and1 (pt_cmpR (op_neD hr.units) (pv 7) (pe_lst pa_nil) (nomark _)))))
        (pss_cons (ps_set (i := 2) scLaw.nd rfl (.inr rfl) (pe_call GB r1 (by rfl) gB kB bB .nil passL (pa_cons (pv 2) (pa_cons (pv 1) (pa_cons (pe_ix ix_list (pv 7) (pe_op op_mod (pv 5) (pe_callB call_len_seq (by rfl) mL PySem.boot_len (pa_cons (pv 7) pa_nil))) (fun _ _ => rfl)) pa_nil)))))
        (pss_cons (ps_set (i := 3) scLaw.nd rfl (.inl rfl) (pe_op op_cat (pv 3) (pe_op op_rep (pe_lst (pa_cons pe_str pa_nil)) (pe_callTy call_int1 (by rfl) mN (by decide +kernel) (pa_cons (pe_cmpR op_eq (pv 1) pe_int (nomark _)) pa_nil)))))
        (pss_one (ps_set (i := 6) scLaw.nd rfl (.inl rfl) pe_str)))) pss_nil)
      (pss_cut (ps_if (pt_cmpR op_eq (pe_op op_mod (pe_call GC r1 (by rfl) gC kC bC .nil passL (pa_cons (pv 0) (pa_cons pe_int pa_nil))) pe_int) pe_int (nomark _))
        (pss_cons (ps_set (i := 3) scLaw.nd rfl (.inl rfl) (pe_op op_cat (pv 3) (pe_lst (pa_cons pe_str pa_nil))))
        (pss_one (ps_set (i := 6) scLaw.nd rfl (.inl rfl) pe_str))) pss_nil)
      (pss_cut (ps_if (pt_cmpR op_eq (pv 1) pe_int (nomark _))
        (pss_cons (ps_expr (pe_bm PySem.F.plainAttrs_list PySem.F.slot_list_insert PySem.F.type_list_insert mt_insert (pv 2) (pa_cons (pe_op op_mod (pv 5) (pe_op op_add (pe_callB call_len_seq (by rfl) mL PySem.boot_len (pa_cons (pv 2) pa_nil)) pe_int))
          (pa_cons (pe_tup (pa_cons pe_str (pa_cons pe_int (pa_cons (pe_op op_repT (pe_tup (pa_cons pe_str pa_nil)) (pe_op op_sub pe_int (pe_callB call_len_seq (by rfl) mL PySem.boot_len (pa_cons (pv 4) pa_nil)))) pa_nil)))) pa_nil))))
        (pss_one (ps_set (i := 6) scLaw.nd rfl (.inl rfl) (pe_ix ix_list (pe_lst (pa_cons pe_str (pa_cons pe_str pa_nil))) (pe_callTy call_int1 (by rfl) mN (by decide +kernel) (pa_cons (pe_cmpR op_eq (pv 6) pe_str (nomark _)) pa_nil)) (fun _ _ => rfl))))) pss_nil)
      (pss_cut (ps_if (pt_cmpR op_eq (pv 1) pe_int (nomark _))
        (pss_cons (ps_set (i := 3) scLaw.nd rfl (.inl rfl) (pe_op op_cat (pv 3) (pe_op op_rep (pe_lst (pa_cons pe_str pa_nil)) pe_int)))
        (pss_one (ps_set (i := 6) scLaw.nd rfl (.inl rfl) pe_str))) pss_nil)
      (pss_cut (ps_if (PW.pt (pw_or (pt_cmpR op_eq (pv 1) pe_int (nomark _)) (pw_or1 (pt_cmpR op_eq (pv 1) pe_int (nomark _)))))
        (pss_cons (ps_set (i := 3) scLaw.nd rfl (.inl rfl) (pe_call GN r1 (by rfl) gN kN bN .nil passL (pa_cons (pv 3) (pa_cons (pv 5) (pa_cons (pe_op op_mul pe_int (pe_callTy call_int1 (by rfl) mN (by decide +kernel) (pa_cons (pe_and (pe_cmpR op_eq (pv 1) pe_int (nomark _)) (pe_one (pe_cmpR op_eq (pe_op op_mod (pv 5) pe_int) pe_int (nomark _)))) pa_nil))) pa_nil)))))
        (pss_one (ps_set (i := 6) scLaw.nd rfl (.inl rfl) pe_str))) pss_nil)
      (pss_cut (ps_if (pt_cmpR op_eq (pe_op op_mod (pe_op op_fdiv (pe_call GC r1 (by rfl) gC kC bC .nil passL (pa_cons (pv 0) (pa_cons pe_int pa_nil))) pe_int) pe_int) pe_int (nomark _))
        (pss_cons (ps_set (i := 3) scLaw.nd rfl (.inl rfl) (pe_ix ix_list (pe_lst (pa_cons (pe_callTy call_tuple_of (by rfl) mU (by decide +kernel) (pa_cons (pv 3) pa_nil)) (pa_cons pe_non (pa_cons pe_str (pa_cons pe_int (pa_cons pe_dnewK pa_nil)))))) (pe_op op_mod (pv 5) pe_int) (fun _ _ => rfl)))
        (pss_one (ps_set (i := 6) scLaw.nd rfl (.inl rfl) pe_str))) pss_nil)
      (pss_cut (ps_if (PW.pt (pw_or (pt_cmpR op_eq (pv 1) pe_int (nomark _)) (pw_or1 (pt_cmpR op_eq (pv 1) pe_int (nomark _)))))
        (pss_cons (ps_expr (pe_bm PySem.F.plainAttrs_list PySem.F.slot_list_insert PySem.F.type_list_insert mt_insert (pv 2) (pa_cons (pe_op op_mod (pv 5) (pe_op op_add (pe_callB call_len_seq (by rfl) mL PySem.boot_len (pa_cons (pv 2) pa_nil)) pe_int))
          (pa_cons (pe_call GZ r1 (by rfl) gZ kZ bZ .nil passL (pa_cons (pe_call GC r1 (by rfl) gC kC bC .nil passL (pa_cons (pv 0) (pa_cons pe_int pa_nil))) pa_nil)) pa_nil))))
        (pss_one (ps_set (i := 6) scLaw.nd rfl (.inl rfl) pe_str))) pss_nil)
      (pss_cut (ps_if (pt_cmpR op_eq (pe_op op_mod (pe_op op_fdiv (pe_call GC r1 (by rfl) gC kC bC .nil passL (pa_cons (pv 0) (pa_cons pe_int pa_nil))) pe_int) pe_int) pe_int (nomark _))
        (pss_cons (ps_set (i := 2) scLaw.nd rfl (.inr rfl) (pe_ix ix_list (pe_lst (pa_cons (pe_callTy call_tuple_of (by rfl) mU (by decide +kernel) (pa_cons (pv 2) pa_nil)) (pa_cons pe_non (pa_cons pe_str (pa_cons pe_int (pa_cons pe_dnewK pa_nil)))))) (pe_op op_mod (pv 5) pe_int) (fun _ _ => rfl)))
        (pss_one (ps_set (i := 6) scLaw.nd rfl (.inl rfl) pe_str))) pss_nil)
      (pss_one (ps_ret (pe_call GG hr (by rfl) gG kG bG .nil passL (pa_cons (pv 2) (pa_cons (pv 3) (pa_cons (pv 6) (pa_cons (pe_call GC r1 (by rfl) gC kC bC .nil passL (pa_cons (pv 0) (pa_cons pe_int pa_nil))) pa_nil)))))))))))))))))))))))), ?_⟩
    -- the fault, the rows, the texts
    refine ⟨_, rfl, a, ns, 20, rfl, hS, _, rfl, a, ns, 3, rfl, hS, _, _, rfl, rfl, ⟨by decide, by decide⟩, _, _, rfl, rfl, _, _, rfl, rfl, (by show (0 : Int) < 15; decide), ?_⟩
    dsimp only
    obtain ⟨fl, hfl, efl⟩ : ∃ fl : Nat, fl < 15 ∧ (L2.cellOf ns 20 + L2.cellOf ns 3 / 4) % 15 = (fl : Int) := ⟨((L2.cellOf ns 20 + L2.cellOf ns 3 / 4) % 15).toNat, by omega, by omega⟩
    rw [efl]
    refine ⟨_, rfl, _, rfl, a, ns, fl, rfl, hS, fun H1 R xs rs s1 nR hR hX tl hw => ?_⟩
    have xl := hX.1
    have tol := tl.old
    have tnl := tl.new
    have tle := tl.len
    refine ⟨_, rfl, by show 3 ≤ sizeLine; decide, fun T1 n1 => ?_⟩
    have t1 := same_upd n1 (o := .tup [.str "keep", .str "cut", .str "take"])
    refine ⟨R, T1, xs, rs, oldK, rfl, .inl (.inl (t1 _ _ hR)), (hX.same t1).at, .inl (.inl upd_same), by omega, fun H2 O' s2 nO hO => ?_⟩
    refine ⟨_, rfl, by show 3 ≤ sizeLine; decide, fun T2 n2 => ?_⟩
    have t2 := same_upd n2 (o := .tup [.str "keep", .str "put", .str "lay"])
    have u2 := t1.trans (s2.trans t2)
    refine ⟨R, T2, xs, rs, newK, rfl, .inl (.inl (u2 _ _ hR)), (hX.same u2).at, .inl (.inl upd_same), by omega, fun H3 N s3 nN hN => ?_⟩
    have u3 := u2.trans s3
    have fr : Fr K H H3 R O' N xs ((wordsOf newK rs).map V.str) rs (wordsOf oldK rs) := ⟨s1.trans u3, nR, u3 _ _ hR, hX.same u3, (ne_of_none (t1 _ _ hR) nO).symm, s3 _ _ (t2 _ _ hO), hN, (ne_of_none (u2 _ _ hR) nN).symm⟩
    obtain ⟨zs, ezs⟩ : ∃ zs, zs = (wordsOf newK rs).map V.str := ⟨_, rfl⟩
    have zl : zs.length = (wordsOf newK rs).length := by rw [ezs, List.length_map]
    rw [← ezs] at fr
    clear ezs hN hO
    refine ⟨_, rfl, a, ns, 21, rfl, fr.sm.seq hS, ?_⟩
    generalize L2.cellOf ns 21 = pl
    -- the old text spoilt
    refine ⟨fun σ' H' => ∃ O old d, σ' = [some (.ref a), some (.int (fl : Int)), some (.ref R), some (.ref O), some (.ref N), some (.int pl), some (.str (dueT d)), none, none] ∧ Fr K H H' R O N xs zs rs old ∧ I1 fl rs old d, ?_, fun σ1 H4 hM => ?_⟩
    · have lo : ((wordsOf oldK rs).map V.str).length = (wordsOf oldK rs).length := by rw [List.length_map]
      obtain ⟨n, hn0, en⟩ : ∃ n : Nat, ((wordsOf oldK rs) ≠ [] → n < (wordsOf oldK rs).length) ∧ pl % (if (((wordsOf oldK rs).map V.str).length : Int) > 1 then (((wordsOf oldK rs).map V.str).length : Int) else 1) = (n : Int) := by
        by_cases c : (((wordsOf oldK rs).map V.str).length : Int) > 1
        · rw [if_pos c]
          have b1 := Int.emod_nonneg pl (show (((wordsOf oldK rs).map V.str).length : Int) ≠ 0 by omega)
          have b2 := Int.emod_lt_of_pos pl (show (0 : Int) < (((wordsOf oldK rs).map V.str).length : Int) by omega)
          exact ⟨(pl % (((wordsOf oldK rs).map V.str).length : Int)).toNat, fun _ => by omega, by omega⟩
        · rw [if_neg c]
          refine ⟨0, fun z => ?_, by omega⟩
          exact List.length_pos_iff.mpr z
      have stay : ∀ G, Same H3 G → ∃ O old d, ([some (.ref a), some (.int (fl : Int)), some (.ref R), some (.ref O'), some (.ref N), some (.int pl), some (.str ""), none, none] : L2.St) = [some (.ref a), some (.int (fl : Int)), some (.ref R), some (.ref O), some (.ref N), some (.int pl), some (.str (dueT d)), none, none] ∧ Fr K H G R O N xs zs rs old ∧ I1 fl rs old d :=
        fun G u => ⟨O', wordsOf oldK rs, 0, rfl, fr.step u, i1_none tl⟩
      refine ⟨_, rfl, rfl, _, rfl, ite2 (fun e => ?g1) (fun e => ⟨_, rfl, _, _, rfl, rfl, _, rfl, ite2 (fun e2 => ⟨_, _, rfl, rfl, _, rfl, ite2 (fun e3 => ⟨_, rfl, by show 0 ≤ sizeLine; decide, fun Z nZ => ?g2⟩) (fun _ => stay H3 (Same.refl _))⟩) (fun _ => ⟨_, rfl, iteF (stay H3 (Same.refl _))⟩)⟩)⟩
      case g2 =>
        have uZ := same_upd nZ (o := .lst [])
        have shw := shaped_words (ws := wordsOf oldK rs) fun x hx => strOk_word (wordsOf_ok tl.ok x hx)
        refine ⟨_, _, .lst (.inl (.inl (uZ _ _ fr.hO))) (dpStrs _ K _), .lst (.inl (.inl upd_same)) .nil, shw, rfl, _, rfl, ?_⟩
        rw [eqv_empty]
        have b2 := of_decide_eq_true e2
        have b3 := of_decide_eq_true e3
        have f23 : fl = 2 ∨ fl = 3 := by omega
        by_cases c : wordsOf oldK rs = []
        · rw [decide_eq_true (by rw [c]; rfl)]
          exact iteF (stay _ uZ)
        · rw [decide_eq_false (fun z => c (List.map_eq_nil_iff.mp z))]
          refine iteT ⟨_, rfl, _, rfl, _, rfl, _, rfl, O', _, rfl, .inl (.inl (.inl (uZ _ _ fr.hO))), _, _, rfl, _, _, rfl, rfl, ?_, ?_⟩
          · show (0 : Int) < if (((wordsOf oldK rs).map V.str).length : Int) > 1 then (((wordsOf oldK rs).map V.str).length : Int) else 1
            split <;> omega
          dsimp only
          rw [en]
          have hn := hn0 c
          refine ⟨O', _, fl, n, rfl, uZ _ _ fr.hO, by omega, .inr ⟨f23, hn⟩, (fun z => by omega), fun z H5 D s5 nD hD => ?_, fun z H5 D o s5 nD ho hne hD => ?_⟩
          · subst z
            exact ⟨D, _, 3, rfl, fr.newO (uZ.trans s5) (uZ.free nD) hD, i1_less tl hn⟩
          · subst z
            exact ⟨D, _, 3, rfl, fr.newO (uZ.trans s5) (uZ.free nD) hD, i1_other tl hn ho hne⟩
      case g1 =>
        have f1 : fl = 1 := by
          have := V.int.inj (of_decide_eq_true e)
          omega
        refine ⟨_, rfl, _, rfl, _, rfl, _, rfl, O', _, rfl, .inl (.inl (.inl fr.hO)), _, _, rfl, _, _, rfl, rfl, ?_, ?_⟩
        · show (0 : Int) < if (((wordsOf oldK rs).map V.str).length : Int) > 1 then (((wordsOf oldK rs).map V.str).length : Int) else 1
          split <;> omega
        dsimp only
        rw [en]
        refine ⟨O', _, fl, n, rfl, fr.hO, by omega, .inl f1, fun z H5 D s5 nD hD => ?_, (fun z => by omega), (fun z => by omega)⟩
        subst z
        exact ⟨D, _, 3, rfl, fr.newO s5 nD hD, i1_more tl⟩
    obtain ⟨O, old, d, rfl, fr, i1⟩ := hM
    clear nO
    -- the lays
    refine ⟨_, rfl, R, _, rfl, .inl (.inl (.inl fr.hR)), (xs.length : Int), rfl, by omega, by omega, fun D nD => ?_⟩
    refine lc_range (lo := 0) (n := ((xs.length : Int)).toNat) (fun i H5 => Same H4 H5 ∧ H5 D = some (.lst ((laysTo rs i).map natV))) ⟨same_upd nD, upd_same⟩ (fun i H5 hi hp5 => ?_) (fun H5 hp5 => ?_)
    · obtain ⟨s5, hE⟩ := hp5
      rw [Int.toNat_natCast] at hi
      have hir : rs[i]? = some (rs[i]'(by omega)) := List.getElem?_eq_getElem (by omega)
      generalize rs[i]'(by omega) = r at hir
      obtain ⟨T, W, hx, hT, hW⟩ := rowsT_at (fr.hX.same s5) hir
      have il := isLay_at hir
      have ll := len_laysTo (rs := rs) (i := i)
      refine ⟨rfl, _, rfl, _, rfl, R, _, _, _, rfl, rfl, .inl (.inl (s5 _ _ fr.hR)), by rw [show (0 : Int) + (i : Int) = (i : Int) by omega]; exact atI_nat hx, T, _, _, _, rfl, rfl, hT, at_of (j := 0) rfl rfl, rfl, _, rfl, ite2 (fun e => ?_) (fun e => ?_)⟩
      · have ek : r.kind = "lay" := V.str.inj (of_decide_eq_true e)
        refine ⟨_, rfl, _, hE, small_lt (by rw [List.length_map]; omega), same_set s5 nD, ?_⟩
        rw [upd_same]
        show some (HO.lst _) = some (HO.lst ((if isLay rs i = true then laysTo rs i ++ [i] else laysTo rs i).map natV))
        rw [if_pos (il.trans (decide_eq_true ek)), List.map_append, show (0 : Int) + (i : Int) = (i : Int) by omega]
        rfl
      · have nk : ¬ r.kind = "lay" := fun z => e (decide_eq_true (congrArg V.str z))
        refine ⟨s5, ?_⟩
        show H5 D = some (HO.lst ((if isLay rs i = true then laysTo rs i ++ [i] else laysTo rs i).map natV))
        rw [if_neg (fun z => nk (of_decide_eq_true (il.symm.trans z)))]
        exact hE
    obtain ⟨s5, hE⟩ := hp5
    rw [Int.toNat_natCast, xl] at hE
    have fr5 := fr.step s5
    clear fr nD s5
    -- the exchange
    refine ⟨fun σ' H' => ∃ R O xs rs old ls d, σ' = [some (.ref a), some (.int (fl : Int)), some (.ref R), some (.ref O), some (.ref N), some (.int pl), some (.str (dueT d)), some (.ref D), none] ∧ Fr K H H' R O N xs zs rs old ∧ H' D = some (.lst ((ls : List Nat).map natV)) ∧ I2 fl zs.length ls rs old d, ?_, fun σ1 H6 hM => ?_⟩
    · refine ⟨_, rfl, rfl, _, rfl, ite2 (fun e => ?_) (fun e => ⟨R, O, xs, rs, old, _, d, rfl, fr5, hE, .inl ⟨fun z => e (decide_eq_true (by rw [z]; rfl)), tl, i1, rfl, zl, hw⟩⟩)⟩
      have f14 : fl = 14 := by
        have := V.int.inj (of_decide_eq_true e)
        omega
      subst f14
      obtain ⟨d0, ex⟩ := i3_exch (ln := zs.length) tl i1
      have i3 : ∃ d', I3 14 zs.length (exch (laysTo rs rs.length) rs) old d' ∧ atI ([.str "", .str "no fit"] : List V) (if (!PyData.eqv (.list ((exch (laysTo rs rs.length) rs).map rowData)) (.list (rs.map rowData))) = true then 1 else 0) = some (.str (dueT d')) := by
        rcases ex with ⟨e1, e2⟩ | ⟨e1, e2⟩
        · refine ⟨0, e2, ?_⟩
          rw [e1, SeqAt.eqv_refl _ (SeqAt.canLay_of_shaped (shaped_rows tl.ok))]
          rfl
        · refine ⟨3, e2, ?_⟩
          have ev : PyData.eqv (.list ((exch (laysTo rs rs.length) rs).map rowData)) (.list (rs.map rowData)) = false := by
            cases hc : PyData.eqv (.list ((exch (laysTo rs rs.length) rs).map rowData)) (.list (rs.map rowData)) with
            | false => rfl
            | true => exact absurd (rows_eqv hc) e1
          rw [ev]
          rfl
      obtain ⟨d', i3, hat⟩ := i3
      have lsl : ∀ k ∈ laysTo rs rs.length, k < rs.length := fun k hk => (mem_laysTo.mp hk).1
      refine ⟨by show 2 ≤ sizeLine; decide, fun L nL => ?_⟩
      have uL := same_upd nL (o := .lst [.str "", .str "no fit"])
      have gL : (upd H5 L (.lst [.str "", .str "no fit"])) L = some (.lst [.str "", .str "no fit"]) := upd_same
      generalize upd H5 L (.lst [.str "", .str "no fit"]) = G at uL gL ⊢
      have frG := fr5.step uL
      refine ⟨_, rfl, _, rfl, R, D, xs, rs, _, rfl, frG.hR, frG.hX, tl.ok, uL _ _ hE, lsl, by omega, fun G1 E1 ys1 v1 nE1 hE1 hY1 => ?_⟩
      have frG1 := frG.step v1
      refine ⟨_, rfl, _, _, .lst (.inl (.inl hE1)) (dpRows hY1.at), .lst (.inl (.inl frG1.hR)) (dpRows frG1.hX.at), shaped_rows i3.1.ok, shaped_rows tl.ok, .inr ⟨_, rfl, L, _, _, _, rfl, rfl, .inl (.inl (v1 _ _ gL)), hat, ?_⟩⟩
      refine ⟨_, rfl, _, rfl, R, D, xs, rs, _, rfl, frG1.hR, frG1.hX, tl.ok, v1 _ _ (uL _ _ hE), lsl, by omega, fun G2 E2 ys2 v2 nE2 hE2 hY2 => ?_⟩
      exact ⟨E2, O, ys2, _, old, _, d', rfl, frG1.newR v2 nE2 hE2 hY2, v2 _ _ (v1 _ _ (uL _ _ hE)), .inr ⟨rfl, i3⟩⟩
    obtain ⟨R, O, xs, rs, old, ls, d, rfl, fr, hLs, i2⟩ := hM
    clear fr5 hE i1 nR hR hX tl hw zl tol tnl tle xl
    -- the blocks spoilt
    refine ⟨fun σ' H' => ∃ R O xs rs old d y7, σ' = [some (.ref a), some (.int (fl : Int)), some (.ref R), some (.ref O), some (.ref N), some (.int pl), some (.str (dueT d)), y7, none] ∧ Fr K H H' R O N xs zs rs old ∧ I3 fl zs.length rs old d, ?_, fun σ1 H7 hM => ?_⟩
    · refine ⟨_, rfl, by show 5 ≤ sizeLine; decide, fun T nT => ?_⟩
      have uT := same_upd nT (o := .tup [.int 4, .int 5, .int 6, .int 12, .int 13])
      refine ⟨T, _, rfl, .inr (.inl (.inl upd_same)), rfl, rfl, _, rfl, ?_⟩
      have frT := fr.step uT
      have hLT := uT _ _ hLs
      generalize upd H6 T (.tup [.int 4, .int 5, .int 6, .int 12, .int 13]) = G at uT frT hLT ⊢
      show if inV (.int (fl : Int)) [.int 4, .int 5, .int 6, .int 12, .int 13] = true then _ else _
      rcases wants_in fl with ⟨hw, e⟩ | ⟨hw, e⟩
      · rw [e]
        have n14 : fl ≠ 14 := fun z => by
          unfold wants at hw
          omega
        rcases i2 with ⟨_, tl, i1, els, _, hlay⟩ | ⟨z, _⟩
        case inr => exact absurd z n14
        obtain ⟨how, hol, _⟩ := i1
        have lsn : ls ≠ [] := by
          rw [els]
          exact laysTo_some (hlay hw)
        refine iteT ⟨_, rfl, by show 0 ≤ sizeLine; decide, fun Z nZ => ?_⟩
        have uZ := same_upd nZ (o := .lst [])
        refine ⟨_, _, .lst (.inl (.inl (uZ _ _ hLT))) (dpNats _ K ls), .lst (.inl (.inl upd_same)) .nil, shaped_nats ls, rfl, _, rfl, ?_⟩
        have frZ := frT.step uZ
        have hLZ := uZ _ _ hLT
        generalize upd G Z (.lst []) = G1 at frZ hLZ ⊢
        rw [eqv_empty, decide_eq_false (fun z => lsn (List.map_eq_nil_iff.mp z))]
        have lp : 0 < (ls.map natV).length := by
          rw [List.length_map]
          exact List.length_pos_iff.mpr lsn
        have lt := ltM (c := pl) lp
        obtain ⟨k, hk⟩ : ∃ k, ls[(pl % ((ls.map natV).length : Int)).toNat]? = some k := ⟨_, List.getElem?_eq_getElem (by rw [List.length_map] at lt ⊢; exact lt)⟩
        obtain ⟨r, hr, hrk⟩ : ∃ r, rs[k]? = some r ∧ r.kind = "lay" := lay_of (mem_laysTo.mp (by rw [← els]; exact List.mem_of_getElem? hk)).2
        have rm := List.mem_of_getElem? hr
        have rw1 := ws_le tl rm
        have tle := tl.len
        refine iteT ⟨_, rfl, _, rfl, _, rfl, _, rfl, _, rfl, D, _, rfl, .inl (.inl (.inl hLZ)), _, _, rfl, rfl, (by omega), D, _, _, natV k, rfl, rfl, .inl (.inl hLZ), atM lp (by rw [List.getElem?_map, hk]; rfl), R, xs, rs, fl, k, r, rfl, frZ.hR, frZ.hX, hr, by omega, by omega, (tl.ok r rm).some, fun G2 E1 ys v1 nE1 hE1 hY => ?_⟩
        have fr2 := frZ.newR v1 nE1 hE1 hY
        obtain ⟨kk, hkk, ekk⟩ : ∃ kk : Nat, kk ≤ 1 ∧ (if decide (V.int (fl : Int) = V.int 13) = true then (1 : Int) else 0) = (kk : Int) := by
          by_cases c : decide (V.int (fl : Int) = V.int 13) = true
          · exact ⟨1, Nat.le_refl _, by rw [if_pos c]; rfl⟩
          · exact ⟨0, by omega, by rw [if_neg c]; rfl⟩
        refine ⟨_, rfl, by show 1 ≤ sizeLine; decide, fun L nL => ?_⟩
        have uL := same_upd nL (o := .lst [.str "q"])
        refine ⟨_, rfl, rfl, .inr ⟨_, rfl, ?_⟩⟩
        rw [ekk]
        refine ⟨L, (kk : Int), _, rfl, rfl, upd_same, by omega, by omega, small_list (by show 1 * _ ≤ _; omega), fun L2 nL2 => ?_⟩
        rw [Int.toNat_natCast, flat_rep5] at *
        have uL2 := same_upd nL2 (o := .lst ((List.replicate kk ("q" : Str)).map V.str))
        have u2 := uL.trans uL2
        refine ⟨O, L2, _, _, rfl, rfl, u2 _ _ fr2.hO, upd_same, small_list (by rw [List.length_map, List.length_map, List.length_replicate]; omega), fun D2 nD2 => ?_⟩
        have u3 := u2.trans (same_upd nD2 (o := .lst (old.map V.str ++ (List.replicate kk ("q" : Str)).map V.str)))
        refine ⟨E1, D2, ys, _, old ++ List.replicate kk ("q" : Str), 3, _, rfl, fr2.newO u3 (u2.free nD2) (by rw [upd_same, List.map_append]), i3_spoilt tl hw hr hrk (how.app (okW_rep q_ok)) ?_⟩
        rw [List.length_append, List.length_replicate]
        omega
      · rw [e]
        refine iteF ⟨R, O, xs, rs, old, d, _, rfl, frT, ?_⟩
        rcases i2 with ⟨_, tl, i1, els, ezl, hlay⟩ | ⟨_, i3⟩
        · exact i3_of tl i1 ezl
        · exact i3
    obtain ⟨R, O, xs, rs, old, d, y7, rfl, fr, i3⟩ := hM
    clear i2 hLs
    have hS7 := fr.sm.seq hS
    -- a word more
    refine ⟨fun σ' H' => ∃ O old d, σ' = [some (.ref a), some (.int (fl : Int)), some (.ref R), some (.ref O), some (.ref N), some (.int pl), some (.str (dueT d)), y7, none] ∧ Fr K H H' R O N xs zs rs old ∧ I4 fl zs.length rs old d, ?_, fun σ1 H8 hM => ?_⟩
    · refine ⟨_, rfl, a, ns, 22, rfl, hS7, _, _, rfl, rfl, (by show (0 : Int) < 2; decide), rfl, _, rfl, ite2 (fun _ => ?_) (fun _ => ⟨O, old, d, rfl, fr, i4_same i3⟩)⟩
      refine ⟨_, rfl, by show 1 ≤ sizeLine; decide, fun L nL => ?_⟩
      have uL := same_upd nL (o := .lst [.str "behind"])
      have ol := i3.2.2.1
      refine ⟨O, L, _, _, rfl, rfl, uL _ _ fr.hO, upd_same, small_list (by rw [List.length_map]; show _ + 1 ≤ _; omega), fun D2 nD2 => ?_⟩
      have u3 := uL.trans (same_upd nD2 (o := .lst (old.map V.str ++ [.str "behind"])))
      exact ⟨D2, old ++ [("behind" : Str)], 3, rfl, fr.newO u3 (uL.free nD2) (by rw [upd_same, List.map_append]; rfl), i4_odd i3⟩
    obtain ⟨O, old, d, rfl, fr, i4⟩ := hM
    clear i3 hS7
    -- the words put
    refine ⟨fun σ' H' => ∃ xs rs d, σ' = [some (.ref a), some (.int (fl : Int)), some (.ref R), some (.ref O), some (.ref N), some (.int pl), some (.str (dueT d)), y7, none] ∧ Fr K H H' R O N xs zs rs old ∧ I5 rs old d, ?_, fun σ1 H9 hM => ?_⟩
    · refine ⟨_, rfl, rfl, _, rfl, ite2 (fun e => ?_) (fun e => ⟨xs, rs, d, rfl, fr, i5_same i4⟩)⟩
      have f9 : fl = 9 := by
        have := V.int.inj (of_decide_eq_true e)
        omega
      subst f9
      obtain ⟨tl, ezl⟩ := i4.2.2.2.1 rfl
      have tnl := tl.new
      have tle := tl.len
      have xl := fr.hX.1
      have pos : (0 : Int) < (xs.length : Int) + 1 := by omega
      have a1 := Int.emod_nonneg pl (show ((xs.length : Int) + 1) ≠ 0 by omega)
      have a2 := Int.emod_lt_of_pos pl pos
      refine ⟨_, rfl, .inl ⟨rfl, _, .inl (.inl fr.hR)⟩, _, rfl, _, rfl, R, xs, rfl, .inl (.inl (.inl fr.hR)), _, _, rfl, rfl, _, _, rfl, rfl, pos, by show 1 ≤ sizeLine; decide, fun A nA => ?_⟩
      have uA := same_upd nA (o := .tup [.str "w"])
      have ek : (121 : Int) - (zs.length : Int) = ((121 - zs.length : Nat) : Int) := by omega
      refine ⟨_, rfl, N, _, rfl, .inl (.inl (.inl (uA _ _ fr.hN))), _, _, rfl, rfl, A, ((121 - zs.length : Nat) : Int), [.str "w"], rfl, congrArg V.int ek, .inl (.inl upd_same), (fun z => by cases z), by omega, by omega, by decide, fun W nW => ⟨by show 3 ≤ sizeLine; decide, fun T nT => ?_⟩⟩
      have uW := same_upd nW (o := .tup (List.replicate (((121 - zs.length : Nat) : Int)).toNat [V.str "w"]).flatten)
      have uT := same_upd nT (o := .tup [.str "put", .int 0, .ref W])
      have row : RowT K (upd (upd (upd H8 A (.tup [.str "w"])) W (.tup (List.replicate (((121 - zs.length : Nat) : Int)).toNat [V.str "w"]).flatten)) T (.tup [.str "put", .int 0, .ref W])) (.ref T) ⟨"put", 0, List.replicate (121 - zs.length) "w"⟩ := by
        refine ⟨T, W, rfl, .inl (.inl upd_same), uT _ _ ?_⟩
        rw [upd_same, Int.toNat_natCast, flat_rep5]
      have u3 := uA.trans (uW.trans uT)
      generalize upd (upd (upd H8 A (.tup [.str "w"])) W (.tup (List.replicate (((121 - zs.length : Nat) : Int)).toNat [V.str "w"]).flatten)) T (.tup [.str "put", .int 0, .ref W]) = G at u3 row ⊢
      have fi := fr.ins u3 (pl % ((xs.length : Int) + 1)).toNat row
      have i5 := i5_put (k := (pl % ((xs.length : Int) + 1)).toNat) i4
      refine ⟨R, xs, _, _, rfl, rfl, u3 _ _ fr.hR, small_lt (by omega), a1, by omega, ?_⟩
      generalize upd G R (.lst (xs.take (pl % ((xs.length : Int) + 1)).toNat ++ [V.ref T] ++ xs.drop (pl % ((xs.length : Int) + 1)).toNat)) = G2 at fi ⊢
      have hat : atI ([.str "too long", .str "no fit"] : List V) (if decide (V.str (dueT d) = V.str "no fit") = true then 1 else 0) = some (.str (dueT (if d = 3 then 3 else 4))) := by
        rcases i4.2.2.2.2 with ⟨e0, _⟩ | ⟨e0, _⟩
        · rw [e0]
          have : decide (V.str (dueT 0) = V.str "no fit") = false := decide_eq_false fun z => absurd (V.str.inj z) (by decide +kernel)
          rw [this]
          rfl
        · rw [e0]
          have : decide (V.str (dueT 3) = V.str "no fit") = true := decide_eq_true rfl
          rw [this]
          rfl
      refine ⟨by show 2 ≤ sizeLine; decide, fun L nL => ⟨_, rfl, rfl, .inr ⟨_, rfl, L, _, _, _, rfl, rfl, .inl (.inl upd_same), hat, ?_⟩⟩⟩
      exact ⟨_, _, _, rfl, fi.step (same_upd nL), i5⟩
    obtain ⟨xs, rs, d, rfl, fr, i5⟩ := hM
    clear i4
    -- too many words
    refine ⟨fun σ' H' => ∃ O old d, σ' = [some (.ref a), some (.int (fl : Int)), some (.ref R), some (.ref O), some (.ref N), some (.int pl), some (.str (dueT d)), y7, none] ∧ Fr K H H' R O N xs zs rs old ∧ I6 rs old d, ?_, fun σ1 H10 hM => ?_⟩
    · refine ⟨_, rfl, rfl, _, rfl, ite2 (fun e => ?_) (fun e => ⟨O, old, d, rfl, fr, i6_same i5⟩)⟩
      refine ⟨_, rfl, by show 1 ≤ sizeLine; decide, fun L nL => ?_⟩
      have uL := same_upd nL (o := .lst [.str "behind"])
      refine ⟨L, 121, _, rfl, rfl, upd_same, by omega, by omega, small_list (by show 1 * 121 ≤ _; omega), fun L2 nL2 => ?_⟩
      have el : (List.replicate ((121 : Int)).toNat [V.str "behind"]).flatten = (List.replicate 121 ("behind" : Str)).map V.str := flat_rep5 121 "behind"
      rw [el] at *
      have uL2 := same_upd nL2 (o := .lst ((List.replicate 121 ("behind" : Str)).map V.str))
      have u2 := uL.trans uL2
      have ol := i5.2.2.1
      refine ⟨O, L2, _, _, rfl, rfl, u2 _ _ fr.hO, upd_same, small_list (by rw [List.length_map, List.length_map, List.length_replicate]; omega), fun D2 nD2 => ?_⟩
      have u3 := u2.trans (same_upd nD2 (o := .lst (old.map V.str ++ (List.replicate 121 ("behind" : Str)).map V.str)))
      exact ⟨D2, _, 4, rfl, fr.newO u3 (u2.free nD2) (by rw [upd_same, List.map_append]), i6_long i5⟩
    obtain ⟨O', old, d', rfl, fr, i6⟩ := hM
    clear i5
    have md := i6.1
    have nR0 := fr.nR
    -- a word that is none
    refine ⟨fun σ' H' => ∃ O us d, σ' = [some (.ref a), some (.int (fl : Int)), some (.ref R), some (.ref O), some (.ref N), some (.int pl), some (.str (dueT d)), y7, none] ∧ Same H H' ∧ H' R = some (.lst xs) ∧ RowsT K H' xs rs ∧ H' O = some (.lst us) ∧ TB K H' (.ref O) rs d, ?_, fun σ1 H11 hM => ?_⟩
    · have stay : ∃ O us d, ([some (.ref a), some (.int (fl : Int)), some (.ref R), some (.ref O'), some (.ref N), some (.int pl), some (.str (dueT d')), y7, none] : L2.St) = [some (.ref a), some (.int (fl : Int)), some (.ref R), some (.ref O), some (.ref N), some (.int pl), some (.str (dueT d)), y7, none] ∧ Same H H10 ∧ H10 R = some (.lst xs) ∧ RowsT K H10 xs rs ∧ H10 O = some (.lst us) ∧ TB K H10 (.ref O) rs d :=
        ⟨O', _, d', rfl, fr.sm, fr.hR, fr.hX, fr.hO, .inl ⟨O', old, rfl, fr.hO, i6⟩⟩
      have fin : ∀ (H' : Hp) (D : Addr) (us : List V), Same H10 H' → H10 D = none → H' D = some (.lst us) → (∀ x ∈ us, WV K H' x) → us.length ≤ 1000 → us.all isW = false →
          ∃ O us2 d, ([some (.ref a), some (.int (fl : Int)), some (.ref R), some (.ref D), some (.ref N), some (.int pl), some (.str "no word"), y7, none] : L2.St) = [some (.ref a), some (.int (fl : Int)), some (.ref R), some (.ref O), some (.ref N), some (.int pl), some (.str (dueT d)), y7, none] ∧ Same H H' ∧ H' R = some (.lst xs) ∧ RowsT K H' xs rs ∧ H' O = some (.lst us2) ∧ TB K H' (.ref O) rs d :=
        fun H' D us sm nD hD hw hl hb => ⟨D, us, 2, rfl, fr.sm.trans sm, sm _ _ fr.hR, fr.hX.same sm, hD, .inr ⟨rfl, some us, ⟨D, rfl, .inl (.inl hD), hw, hl⟩, hb⟩⟩
      have how : ∀ a ∈ old, wordB a = true := i6.2.1
      have hol := i6.2.2.1
      refine ⟨_, rfl, rfl, _, rfl, ite2 (fun e => ?g1) (fun e => ⟨_, rfl, rfl, _, rfl, ite2 (fun e2 => ?g2) (fun e2 => stay)⟩)⟩
      case g1 =>
        refine ⟨_, rfl, _, rfl, _, rfl, rfl, ?_⟩
        rw [e]
        refine ⟨true, rfl, _, rfl, _, _, rfl, rfl, (by show (0 : Int) < 4; decide), rfl, ?_⟩
        by_cases c : decide (V.int (pl % 4) = V.int 1) = true
        · rw [c]
          exact .inr ⟨_, rfl, _, _, rfl, rfl, .inl ⟨by decide, by decide⟩, O', old, pl, 121, rfl, fr.hO, how, by omega, by decide, fin⟩
        · rw [show decide (V.int (pl % 4) = V.int 1) = false by simpa using c]
          exact .inr ⟨_, rfl, _, _, rfl, rfl, .inl ⟨by decide, by decide⟩, O', old, pl, 0, rfl, fr.hO, how, by omega, by decide, fin⟩
      case g2 =>
        refine ⟨_, rfl, _, rfl, _, rfl, rfl, ?_⟩
        rw [show decide (V.int (fl : Int) = V.int 8) = false by simpa using e]
        exact ⟨false, rfl, .inr ⟨_, rfl, _, _, rfl, rfl, .inl ⟨by decide, by decide⟩, O', old, pl, 0, rfl, fr.hO, how, by omega, by decide, fin⟩⟩
    clear fr i6
    obtain ⟨O, us, d, rfl, sm, hR, hX, hO, tb⟩ := hM
    have xl := hX.1
    have rl := md.len
    -- no list at all
    refine ⟨fun σ' H' => ∃ u d, σ' = [some (.ref a), some (.int (fl : Int)), some (.ref R), some u, some (.ref N), some (.int pl), some (.str (dueT d)), y7, none] ∧ Same H H' ∧ H' R = some (.lst xs) ∧ RowsT K H' xs rs ∧ TB K H' u rs d, ?_, fun σ1 H12 hM => ?_⟩
    · refine ⟨_, rfl, a, ns, 22, rfl, sm.seq hS, _, _, rfl, rfl, ⟨by decide, by decide⟩, _, _, rfl, rfl, (by show (0 : Int) < 8; decide), rfl, _, rfl, ite2 (fun _ => ?_) (fun _ => ⟨.ref O, d, rfl, sm, hR, hX, tb⟩)⟩
      refine ⟨_, rfl, O, _, rfl, .inl ⟨.inl (.inl hO), fun T nT => ?_⟩⟩
      have v1 := same_upd nT (o := .tup us)
      have gT1 : (upd H11 T (.tup us)) T = some (.tup us) := upd_same
      generalize upd H11 T (.tup us) = G1 at v1 gT1 ⊢
      refine fun B nB => ⟨by show 5 ≤ sizeLine; decide, fun L nL => ?_⟩
      have v2 := same_upd nB (o := .dK [])
      have gB : (upd G1 B (.dK [])) B = some (.dK []) := upd_same
      generalize upd G1 B (.dK []) = G2 at v2 gB nL ⊢
      have v3 := same_upd nL (o := .lst [.ref T, .non, .str "a b", .int 7, .ref B])
      have gL : (upd G2 L (.lst [.ref T, .non, .str "a b", .int 7, .ref B])) L = some (.lst [.ref T, .non, .str "a b", .int 7, .ref B]) := upd_same
      generalize upd G2 L (.lst [.ref T, .non, .str "a b", .int 7, .ref B]) = G3 at v3 gL ⊢
      have v13 := v1.trans (v2.trans v3)
      have all : ∀ x ∈ ([.ref T, .non, .str "a b", .int 7, .ref B] : List V), NoList K G3 x := fun x hx => by
        simp only [List.mem_cons, List.not_mem_nil, or_false] at hx
        rcases hx with rfl | rfl | rfl | rfl | rfl
        · exact .tup (.inl (.inl ((v2.trans v3) _ _ gT1)))
        · exact .non
        · exact .str _
        · exact .int _
        · exact .dic (v3 _ _ gB)
      have lt := ltM (c := pl) (n := 5) (by decide)
      obtain ⟨x, hx⟩ : ∃ x, ([.ref T, .non, .str "a b", .int 7, .ref B] : List V)[(pl % ((5 : Nat) : Int)).toNat]? = some x := ⟨_, List.getElem?_eq_getElem (show (pl % ((5 : Nat) : Int)).toNat < ([.ref T, .non, .str "a b", .int 7, .ref B] : List V).length from lt)⟩
      refine ⟨_, rfl, _, _, rfl, rfl, (by show (0 : Int) < 5; decide), L, _, _, x, rfl, rfl, .inl (.inl gL), atM (n := 5) (by decide) hx, ?_⟩
      exact ⟨x, 2, rfl, sm.trans v13, v13 _ _ hR, hX.same v13, .inr ⟨rfl, none, all x (List.mem_of_getElem? hx), rfl⟩⟩
    clear sm hR hX hO tb
    obtain ⟨u, d, rfl, sm, hR, hX, tb⟩ := hM
    -- no row among the rows
    refine ⟨fun σ' H' => ∃ xs d, σ' = [some (.ref a), some (.int (fl : Int)), some (.ref R), some u, some (.ref N), some (.int pl), some (.str (dueT d)), y7, none] ∧ Same H H' ∧ H' R = some (.lst xs) ∧ ((RowsT K H' xs rs ∧ TB K H' u rs d) ∨ (d = 1 ∧ TellX K H' (.ref R))), ?_, fun σ1 H13 hM => ?_⟩
    · have pos : (0 : Int) < (xs.length : Int) + 1 := by omega
      have a1 := Int.emod_nonneg pl (show ((xs.length : Int) + 1) ≠ 0 by omega)
      have a2 := Int.emod_lt_of_pos pl pos
      refine ⟨_, rfl, rfl, _, rfl, ite2 (fun e => ?g1) (fun e => ⟨_, rfl, rfl, _, rfl, ite2 (fun e2 => ?g2) (fun e2 => ⟨xs, d, rfl, sm, hR, .inl ⟨hX, tb⟩⟩)⟩)⟩
      all_goals
        refine ⟨_, rfl, .inl ⟨rfl, _, .inl (.inl hR)⟩, _, rfl, _, rfl, R, xs, rfl, .inl (.inl (.inl hR)), _, _, rfl, rfl, _, _, rfl, rfl, pos, _, rfl, a, ns, 23, rfl, sm.seq hS, _, rfl, fun G v dd s3 hv hd => ?_⟩
        have s4 := sm.trans s3
        refine ⟨R, xs, _, v, rfl, rfl, s3 _ _ hR, small_lt (by omega), a1, by omega, ?_⟩
        exact ⟨_, 1, rfl, same_set s4 nR0, upd_same, .inr ⟨rfl, rows_ins (s3 _ _ hR) (hX.same s3) md.ok (by omega) hv hd _⟩⟩
    clear sm hR hX tb xl
    obtain ⟨xs, d, rfl, sm, hR, tb⟩ := hM
    -- no list of rows
    refine ⟨fun σ' H' => ∃ v d, σ' = [some (.ref a), some (.int (fl : Int)), some v, some u, some (.ref N), some (.int pl), some (.str (dueT d)), y7, none] ∧ Same H H' ∧ ((∃ xs, v = .ref R ∧ H' R = some (.lst xs) ∧ RowsT K H' xs rs ∧ TB K H' u rs d) ∨ (d = 1 ∧ TellX K H' v)), ?_, fun σ1 H14 hM => ?_⟩
    · refine ⟨_, rfl, a, ns, 22, rfl, sm.seq hS, _, _, rfl, rfl, ⟨by decide, by decide⟩, _, _, rfl, rfl, (by show (0 : Int) < 8; decide), rfl, _, rfl, ite2 (fun _ => ?_) (fun _ => ⟨.ref R, d, rfl, sm, tb.imp (fun z => ⟨xs, rfl, hR, z.1, z.2⟩) id⟩)⟩
      refine ⟨_, rfl, R, _, rfl, .inl ⟨.inl (.inl hR), fun T nT => ?_⟩⟩
      have v1 := same_upd nT (o := .tup xs)
      have gT1 : (upd H13 T (.tup xs)) T = some (.tup xs) := upd_same
      generalize upd H13 T (.tup xs) = G1 at v1 gT1 ⊢
      refine fun B nB => ⟨by show 5 ≤ sizeLine; decide, fun L nL => ?_⟩
      have v2 := same_upd nB (o := .dK [])
      have gB : (upd G1 B (.dK [])) B = some (.dK []) := upd_same
      generalize upd G1 B (.dK []) = G2 at v2 gB nL ⊢
      have v3 := same_upd nL (o := .lst [.ref T, .non, .str "keep", .int 7, .ref B])
      have gL : (upd G2 L (.lst [.ref T, .non, .str "keep", .int 7, .ref B])) L = some (.lst [.ref T, .non, .str "keep", .int 7, .ref B]) := upd_same
      generalize upd G2 L (.lst [.ref T, .non, .str "keep", .int 7, .ref B]) = G3 at v3 gL ⊢
      have v13 := v1.trans (v2.trans v3)
      have all : ∀ x ∈ ([.ref T, .non, .str "keep", .int 7, .ref B] : List V), NoList K G3 x := fun x hx => by
        simp only [List.mem_cons, List.not_mem_nil, or_false] at hx
        rcases hx with rfl | rfl | rfl | rfl | rfl
        · exact .tup (.inl (.inl ((v2.trans v3) _ _ gT1)))
        · exact .non
        · exact .str _
        · exact .int _
        · exact .dic (v3 _ _ gB)
      have lt := ltM (c := pl) (n := 5) (by decide)
      obtain ⟨x, hx⟩ : ∃ x, ([.ref T, .non, .str "keep", .int 7, .ref B] : List V)[(pl % ((5 : Nat) : Int)).toNat]? = some x := ⟨_, List.getElem?_eq_getElem (show (pl % ((5 : Nat) : Int)).toNat < ([.ref T, .non, .str "keep", .int 7, .ref B] : List V).length from lt)⟩
      refine ⟨_, rfl, _, _, rfl, rfl, (by show (0 : Int) < 5; decide), L, _, _, x, rfl, rfl, .inl (.inl gL), atM (n := 5) (by decide) hx, ?_⟩
      exact ⟨x, 1, rfl, sm.trans v13, .inr ⟨rfl, none, all x (List.mem_of_getElem? hx), rfl⟩⟩
    clear sm hR tb
    obtain ⟨v, d, rfl, sm, tb⟩ := hM
    -- what is answered
    refine ⟨_, rfl, _, rfl, _, rfl, _, rfl, a, ns, 23, rfl, sm.seq hS, v, u, d, _, rfl, ?_, ?_, ht.same sm, q⟩
    · rcases tb with ⟨xs, rfl, hR, hX, tb⟩ | ⟨e, tx⟩
      · exact tb.done md hR hX
      · exact .inl ⟨e, tx⟩
    · intro n1
      rcases tb with ⟨xs, rfl, hR, hX, tb⟩ | ⟨e, tx⟩
      · exact ⟨rs, md.tell hR hX⟩
      · exact absurd e n1
end
/-! ### the head: facts by names, the run -/
def dd (x : Str) (i : Nat) : He.DefD := ⟨(x, none), x, x, defArgs (top i), defBody (top i), defScope (top i), [], []⟩
def fn : List He.DefD := [dd "is_sign" 9, dd "is_word" 10, dd "check_words" 11, dd "check_length" 12, dd "check_text" 13, dd "is_number" 22, dd "is_row_of_words" 23, dd "is_row" 24, dd "check_rows" 25, dd "words_of" 26, dd "blocks_of" 27, dd "check_fit" 28, dd "done" 29, dd "turned" 30, dd "cost" 31, dd "check_no_blocks" 33, dd "places_in" 34, dd "run_at" 35, dd "has_run" 36, dd "longest_run" 37, dd "is_free" 38, dd "use" 39, dd "next_free" 40, dd "put_places_of" 41, dd "pairs_of" 42, dd "row_parted" 43, dd "with_pairs" 44, dd "with_blocks" 45, dd "written_row" 48, dd "written" 49, dd "_law_cell_at" 51, dd "_law_sign_by" 52, dd "_law_word_by" 53, dd "_law_near" 54, dd "_law_menu" 55, dd "_law_built_row" 56, dd "_law_built" 57, dd "_law_words_of" 58, dd "_law_no_row" 59, dd "_law_tried" 60, dd "_law_kinds" 61, dd "_law_none_priced" 62, dd "_law_others" 63, dd "_law_old_spoilt" 64, dd "_law_block_spoilt" 65, dd "_law_no_word_in" 66, dd "_law_exchanged" 67, dd "_law_right" 68, dd "_law_rows_for" 69, dd "law" 70]
def fa : List He.Fa := [.glo "is_sign",
  .glo "is_word",
  .glo "check_words",
  .glo "check_length",
  .glo "check_text",
  .glo "is_number",
  .glo "is_row_of_words",
  .glo "is_row",
  .glo "check_rows",
  .glo "words_of",
  .glo "blocks_of",
  .glo "check_fit",
  .glo "done",
  .glo "turned",
  .glo "cost",
  .glo "check_no_blocks",
  .glo "places_in",
  .glo "run_at",
  .glo "has_run",
  .glo "longest_run",
  .glo "is_free",
  .glo "use",
  .glo "next_free",
  .glo "put_places_of",
  .glo "pairs_of",
  .glo "row_parted",
  .glo "with_pairs",
  .glo "with_blocks",
  .glo "written_row",
  .glo "written",
  .glo "_law_cell_at",
  .glo "_law_sign_by",
  .glo "_law_word_by",
  .glo "_law_near",
  .glo "_law_menu",
  .glo "_law_built_row",
  .glo "_law_built",
  .glo "_law_words_of",
  .glo "_law_no_row",
  .glo "_law_tried",
  .glo "_law_kinds",
  .glo "_law_none_priced",
  .glo "_law_others",
  .glo "_law_old_spoilt",
  .glo "_law_block_spoilt",
  .glo "_law_no_word_in",
  .glo "_law_exchanged",
  .glo "_law_right",
  .glo "_law_rows_for",
  .glo "law",
  .int "LONGEST" 40,
  .int "MOST" 120,
  .int "PRICE" 3,
  .int "LAST_BLOCK" 999999999,
  .free "isinstance",
  .free "str",
  .free "all",
  .free "len",
  .free "enumerate",
  .free "list",
  .free "bool",
  .free "int",
  .free "tuple",
  .free "range",
  .free "reversed",
  .free "sorted",
  .free "max",
  .free "ValueError",
  .glo "PLAIN_KINDS",
  .glo "BLOCK_KINDS",
  .glo "OLD_KINDS",
  .glo "NEW_KINDS",
  .glo "WAY_BACK",
  .glo "SIGNS",
  .glo "NoWord",
  .glo "TooLong",
  .glo "NoRow",
  .glo "NoFit",
  .exc "NoWord",
  .exc "TooLong",
  .exc "NoRow",
  .exc "NoFit",
  .exm "NoRow" "NoRow" true,
  .exm "NoWord" "NoRow" false,
  .exm "NoWord" "NoWord" true,
  .exm "NoFit" "NoRow" false,
  .exm "NoFit" "NoWord" false,
  .exm "NoFit" "NoFit" true,
  .exm "TooLong" "NoRow" false,
  .exm "TooLong" "NoWord" false,
  .exm "TooLong" "NoFit" false,
  .exm "TooLong" "TooLong" true,
  .exm "NoRow" "RedraftError" true,
  .exm "NoWord" "RedraftError" true,
  .exm "NoFit" "RedraftError" true,
  .exm "TooLong" "RedraftError" true,
  .glo "RedraftError"]
def tf : List He.Defn := [("is_word", none), ("is_row_of_words", none)]
def ts : List He.Tab := [(fun K => He.ga K "WAY_BACK", ["keep", "cut", "put", "take", "lay"]), (fun K => He.ga K "SIGNS", ["keep", "cut", "put", "take", "lay"])]
def kv_WAY_BACK : List (Str × He.Dv) := [("keep", .str "keep"), ("cut", .str "put"), ("put", .str "cut"), ("take", .str "lay"), ("lay", .str "take")]
def kv_SIGNS : List (Str × He.Dv) := [("keep", .str "="), ("cut", .str "-"), ("put", .str "+"), ("take", .str "<"), ("lay", .str ">")]
def ex (K : PySem.W.Frag) : Bool := tupB K (He.ga K "PLAIN_KINDS") plainK && tupB K (He.ga K "BLOCK_KINDS") blockK && tupB K (He.ga K "OLD_KINDS") oldK && tupB K (He.ga K "NEW_KINDS") newK && He.valsB K (He.ga K "WAY_BACK") kv_WAY_BACK && He.valsB K (He.ga K "SIGNS") kv_SIGNS && excB K (He.ga K "NoRow") && excB K (He.ga K "NoWord") && excB K (He.ga K "NoFit") && excB K (He.ga K "TooLong") && kit4 K (He.ga K "NoRow") (He.ga K "NoWord") (He.ga K "NoFit") (He.ga K "TooLong")
abbrev R : PySem.W.OpenRow := PySem.W.OpenLaw.row PySem.Challenge.rw_redraft_k05_tellings_refused
abbrev hk : PySem.W.Hook := He.hookX 4 fa fn ts tf ex
def ob (s : PySem.W.SharedT) : He.AlX := He.obsX 4 fa fn ts tf ex (HandSHeadRun.getT s)
theorem ob_eq (s : PySem.W.SharedT) : ob s = hk.obs s.abs := He.obsX_eq (HandSHeadRun.getT_eq s)
abbrev loose0 : List Str := ["RedraftError", "NoWord", "TooLong", "NoRow", "NoFit", "is_sign", "is_word", "check_words", "check_length", "check_text", "is_number", "is_row_of_words", "is_row", "check_rows", "words_of", "blocks_of", "check_fit", "done", "turned", "cost", "check_no_blocks", "places_in", "run_at", "has_run", "longest_run", "is_free", "use", "next_free", "put_places_of", "pairs_of"]
abbrev loose1 : List Str := ["row_parted", "with_pairs", "with_blocks", "written_row", "written", "_law_cell_at", "_law_sign_by", "_law_word_by", "_law_near", "_law_menu", "_law_built_row", "_law_built", "_law_words_of", "_law_no_row", "_law_tried", "_law_kinds", "_law_none_priced", "_law_others", "_law_old_spoilt", "_law_block_spoilt", "_law_no_word_in", "_law_exchanged", "_law_right", "_law_rows_for", "LONGEST", "MOST", "PRICE", "LAST_BLOCK", "PLAIN_KINDS", "BLOCK_KINDS"]
abbrev loose2 : List Str := ["OLD_KINDS", "NEW_KINDS", "WAY_BACK", "SIGNS"]
abbrev loose : List Str := loose0 ++ loose1 ++ loose2
theorem run (w : World) : HandSHeadRun.RunEq R (PySem.W.view R.prog [70]) hk ob 4000 loose w := by
  revert w
  exact PySem.W.byRow2 "special-get-raises" (fun w => by
    intro os
    kernel_rfl) (fun w => by
    intro os
    kernel_rfl)
theorem facts {w : World} {h : Heap} {K : PySem.W.Frag} {mg : Str → Option Value} {f : Addr} (X : K.In h) (G : h.Ns mainGlobals mg) (hfa : mg ("law" : Str) = some (.ref f)) (c : He.SaysX fa fn ts tf ex w h K) :
    LamX.LawAtS PySem.Challenge.rw_redraft_k05_tellings_refused w K (L2.CX PySem.Challenge.rw_redraft_k05_tellings_refused.prog w) 12 63 "_law_script" mg f h := by
  have d := c.t.d
  obtain ⟨d_is_sign, F_is_sign⟩ := d.def_ 0 (d := dd "is_sign" 9) rfl
  obtain ⟨d_is_word, F_is_word⟩ := d.def_ 1 (d := dd "is_word" 10) rfl
  obtain ⟨d_check_words, F_check_words⟩ := d.def_ 2 (d := dd "check_words" 11) rfl
  obtain ⟨d_check_length, F_check_length⟩ := d.def_ 3 (d := dd "check_length" 12) rfl
  obtain ⟨d_check_text, F_check_text⟩ := d.def_ 4 (d := dd "check_text" 13) rfl
  obtain ⟨d_is_number, F_is_number⟩ := d.def_ 5 (d := dd "is_number" 22) rfl
  obtain ⟨d_is_row_of_words, F_is_row_of_words⟩ := d.def_ 6 (d := dd "is_row_of_words" 23) rfl
  obtain ⟨d_is_row, F_is_row⟩ := d.def_ 7 (d := dd "is_row" 24) rfl
  obtain ⟨d_check_rows, F_check_rows⟩ := d.def_ 8 (d := dd "check_rows" 25) rfl
  obtain ⟨d_words_of, F_words_of⟩ := d.def_ 9 (d := dd "words_of" 26) rfl
  obtain ⟨d_blocks_of, F_blocks_of⟩ := d.def_ 10 (d := dd "blocks_of" 27) rfl
  obtain ⟨d_check_fit, F_check_fit⟩ := d.def_ 11 (d := dd "check_fit" 28) rfl
  obtain ⟨d_done, F_done⟩ := d.def_ 12 (d := dd "done" 29) rfl
  obtain ⟨d_turned, F_turned⟩ := d.def_ 13 (d := dd "turned" 30) rfl
  obtain ⟨d_cost, F_cost⟩ := d.def_ 14 (d := dd "cost" 31) rfl
  obtain ⟨d_check_no_blocks, F_check_no_blocks⟩ := d.def_ 15 (d := dd "check_no_blocks" 33) rfl
  obtain ⟨d_places_in, F_places_in⟩ := d.def_ 16 (d := dd "places_in" 34) rfl
  obtain ⟨d_run_at, F_run_at⟩ := d.def_ 17 (d := dd "run_at" 35) rfl
  obtain ⟨d_has_run, F_has_run⟩ := d.def_ 18 (d := dd "has_run" 36) rfl
  obtain ⟨d_longest_run, F_longest_run⟩ := d.def_ 19 (d := dd "longest_run" 37) rfl
  obtain ⟨d_is_free, F_is_free⟩ := d.def_ 20 (d := dd "is_free" 38) rfl
  obtain ⟨d_use, F_use⟩ := d.def_ 21 (d := dd "use" 39) rfl
  obtain ⟨d_next_free, F_next_free⟩ := d.def_ 22 (d := dd "next_free" 40) rfl
  obtain ⟨d_put_places_of, F_put_places_of⟩ := d.def_ 23 (d := dd "put_places_of" 41) rfl
  obtain ⟨d_pairs_of, F_pairs_of⟩ := d.def_ 24 (d := dd "pairs_of" 42) rfl
  obtain ⟨d_row_parted, F_row_parted⟩ := d.def_ 25 (d := dd "row_parted" 43) rfl
  obtain ⟨d_with_pairs, F_with_pairs⟩ := d.def_ 26 (d := dd "with_pairs" 44) rfl
  obtain ⟨d_with_blocks, F_with_blocks⟩ := d.def_ 27 (d := dd "with_blocks" 45) rfl
  obtain ⟨d_written_row, F_written_row⟩ := d.def_ 28 (d := dd "written_row" 48) rfl
  obtain ⟨d_written, F_written⟩ := d.def_ 29 (d := dd "written" 49) rfl
  obtain ⟨d__law_cell_at, F__law_cell_at⟩ := d.def_ 30 (d := dd "_law_cell_at" 51) rfl
  obtain ⟨d__law_sign_by, F__law_sign_by⟩ := d.def_ 31 (d := dd "_law_sign_by" 52) rfl
  obtain ⟨d__law_word_by, F__law_word_by⟩ := d.def_ 32 (d := dd "_law_word_by" 53) rfl
  obtain ⟨d__law_near, F__law_near⟩ := d.def_ 33 (d := dd "_law_near" 54) rfl
  obtain ⟨d__law_menu, F__law_menu⟩ := d.def_ 34 (d := dd "_law_menu" 55) rfl
  obtain ⟨d__law_built_row, F__law_built_row⟩ := d.def_ 35 (d := dd "_law_built_row" 56) rfl
  obtain ⟨d__law_built, F__law_built⟩ := d.def_ 36 (d := dd "_law_built" 57) rfl
  obtain ⟨d__law_words_of, F__law_words_of⟩ := d.def_ 37 (d := dd "_law_words_of" 58) rfl
  obtain ⟨d__law_no_row, F__law_no_row⟩ := d.def_ 38 (d := dd "_law_no_row" 59) rfl
  obtain ⟨d__law_tried, F__law_tried⟩ := d.def_ 39 (d := dd "_law_tried" 60) rfl
  obtain ⟨d__law_kinds, F__law_kinds⟩ := d.def_ 40 (d := dd "_law_kinds" 61) rfl
  obtain ⟨d__law_none_priced, F__law_none_priced⟩ := d.def_ 41 (d := dd "_law_none_priced" 62) rfl
  obtain ⟨d__law_others, F__law_others⟩ := d.def_ 42 (d := dd "_law_others" 63) rfl
  obtain ⟨d__law_old_spoilt, F__law_old_spoilt⟩ := d.def_ 43 (d := dd "_law_old_spoilt" 64) rfl
  obtain ⟨d__law_block_spoilt, F__law_block_spoilt⟩ := d.def_ 44 (d := dd "_law_block_spoilt" 65) rfl
  obtain ⟨d__law_no_word_in, F__law_no_word_in⟩ := d.def_ 45 (d := dd "_law_no_word_in" 66) rfl
  obtain ⟨d__law_exchanged, F__law_exchanged⟩ := d.def_ 46 (d := dd "_law_exchanged" 67) rfl
  obtain ⟨d__law_right, F__law_right⟩ := d.def_ 47 (d := dd "_law_right" 68) rfl
  obtain ⟨d__law_rows_for, F__law_rows_for⟩ := d.def_ 48 (d := dd "_law_rows_for" 69) rfl
  obtain ⟨d_law, F_law⟩ := d.def_ 49 (d := dd "law" 70) rfl
  have e := hfa.symm.trans (He.glo_ok X G (d.fact 49 (f := .glo "law") rfl))
  cases e
  have g_is_sign := He.glo_ok X G (d.fact 0 (f := .glo "is_sign") rfl)
  have g_is_word := He.glo_ok X G (d.fact 1 (f := .glo "is_word") rfl)
  have g_check_words := He.glo_ok X G (d.fact 2 (f := .glo "check_words") rfl)
  have g_check_length := He.glo_ok X G (d.fact 3 (f := .glo "check_length") rfl)
  have g_check_text := He.glo_ok X G (d.fact 4 (f := .glo "check_text") rfl)
  have g_is_number := He.glo_ok X G (d.fact 5 (f := .glo "is_number") rfl)
  have g_is_row_of_words := He.glo_ok X G (d.fact 6 (f := .glo "is_row_of_words") rfl)
  have g_is_row := He.glo_ok X G (d.fact 7 (f := .glo "is_row") rfl)
  have g_check_rows := He.glo_ok X G (d.fact 8 (f := .glo "check_rows") rfl)
  have g_words_of := He.glo_ok X G (d.fact 9 (f := .glo "words_of") rfl)
  have g_blocks_of := He.glo_ok X G (d.fact 10 (f := .glo "blocks_of") rfl)
  have g_check_fit := He.glo_ok X G (d.fact 11 (f := .glo "check_fit") rfl)
  have g_done := He.glo_ok X G (d.fact 12 (f := .glo "done") rfl)
  have g_turned := He.glo_ok X G (d.fact 13 (f := .glo "turned") rfl)
  have g_cost := He.glo_ok X G (d.fact 14 (f := .glo "cost") rfl)
  have g_check_no_blocks := He.glo_ok X G (d.fact 15 (f := .glo "check_no_blocks") rfl)
  have g_places_in := He.glo_ok X G (d.fact 16 (f := .glo "places_in") rfl)
  have g_run_at := He.glo_ok X G (d.fact 17 (f := .glo "run_at") rfl)
  have g_has_run := He.glo_ok X G (d.fact 18 (f := .glo "has_run") rfl)
  have g_longest_run := He.glo_ok X G (d.fact 19 (f := .glo "longest_run") rfl)
  have g_is_free := He.glo_ok X G (d.fact 20 (f := .glo "is_free") rfl)
  have g_use := He.glo_ok X G (d.fact 21 (f := .glo "use") rfl)
  have g_next_free := He.glo_ok X G (d.fact 22 (f := .glo "next_free") rfl)
  have g_put_places_of := He.glo_ok X G (d.fact 23 (f := .glo "put_places_of") rfl)
  have g_pairs_of := He.glo_ok X G (d.fact 24 (f := .glo "pairs_of") rfl)
  have g_row_parted := He.glo_ok X G (d.fact 25 (f := .glo "row_parted") rfl)
  have g_with_pairs := He.glo_ok X G (d.fact 26 (f := .glo "with_pairs") rfl)
  have g_with_blocks := He.glo_ok X G (d.fact 27 (f := .glo "with_blocks") rfl)
  have g_written_row := He.glo_ok X G (d.fact 28 (f := .glo "written_row") rfl)
  have g_written := He.glo_ok X G (d.fact 29 (f := .glo "written") rfl)
  have g__law_cell_at := He.glo_ok X G (d.fact 30 (f := .glo "_law_cell_at") rfl)
  have g__law_sign_by := He.glo_ok X G (d.fact 31 (f := .glo "_law_sign_by") rfl)
  have g__law_word_by := He.glo_ok X G (d.fact 32 (f := .glo "_law_word_by") rfl)
  have g__law_near := He.glo_ok X G (d.fact 33 (f := .glo "_law_near") rfl)
  have g__law_menu := He.glo_ok X G (d.fact 34 (f := .glo "_law_menu") rfl)
  have g__law_built_row := He.glo_ok X G (d.fact 35 (f := .glo "_law_built_row") rfl)
  have g__law_built := He.glo_ok X G (d.fact 36 (f := .glo "_law_built") rfl)
  have g__law_words_of := He.glo_ok X G (d.fact 37 (f := .glo "_law_words_of") rfl)
  have g__law_no_row := He.glo_ok X G (d.fact 38 (f := .glo "_law_no_row") rfl)
  have g__law_tried := He.glo_ok X G (d.fact 39 (f := .glo "_law_tried") rfl)
  have g__law_kinds := He.glo_ok X G (d.fact 40 (f := .glo "_law_kinds") rfl)
  have g__law_none_priced := He.glo_ok X G (d.fact 41 (f := .glo "_law_none_priced") rfl)
  have g__law_others := He.glo_ok X G (d.fact 42 (f := .glo "_law_others") rfl)
  have g__law_old_spoilt := He.glo_ok X G (d.fact 43 (f := .glo "_law_old_spoilt") rfl)
  have g__law_block_spoilt := He.glo_ok X G (d.fact 44 (f := .glo "_law_block_spoilt") rfl)
  have g__law_no_word_in := He.glo_ok X G (d.fact 45 (f := .glo "_law_no_word_in") rfl)
  have g__law_exchanged := He.glo_ok X G (d.fact 46 (f := .glo "_law_exchanged") rfl)
  have g__law_right := He.glo_ok X G (d.fact 47 (f := .glo "_law_right") rfl)
  have g__law_rows_for := He.glo_ok X G (d.fact 48 (f := .glo "_law_rows_for") rfl)
  obtain ⟨t_LONGEST, m_LONGEST⟩ := He.int_ok X G (d.fact 50 (f := .int "LONGEST" 40) rfl)
  obtain ⟨t_MOST, m_MOST⟩ := He.int_ok X G (d.fact 51 (f := .int "MOST" 120) rfl)
  obtain ⟨t_PRICE, m_PRICE⟩ := He.int_ok X G (d.fact 52 (f := .int "PRICE" 3) rfl)
  obtain ⟨t_LAST_BLOCK, m_LAST_BLOCK⟩ := He.int_ok X G (d.fact 53 (f := .int "LAST_BLOCK" 999999999) rfl)
  have m_isinstance := He.free_ok X G (d.fact 54 (f := .free "isinstance") rfl)
  have m_str := He.free_ok X G (d.fact 55 (f := .free "str") rfl)
  have m_all := He.free_ok X G (d.fact 56 (f := .free "all") rfl)
  have m_len := He.free_ok X G (d.fact 57 (f := .free "len") rfl)
  have m_enumerate := He.free_ok X G (d.fact 58 (f := .free "enumerate") rfl)
  have m_list := He.free_ok X G (d.fact 59 (f := .free "list") rfl)
  have m_bool := He.free_ok X G (d.fact 60 (f := .free "bool") rfl)
  have m_int := He.free_ok X G (d.fact 61 (f := .free "int") rfl)
  have m_tuple := He.free_ok X G (d.fact 62 (f := .free "tuple") rfl)
  have m_range := He.free_ok X G (d.fact 63 (f := .free "range") rfl)
  have m_reversed := He.free_ok X G (d.fact 64 (f := .free "reversed") rfl)
  have m_sorted := He.free_ok X G (d.fact 65 (f := .free "sorted") rfl)
  have m_max := He.free_ok X G (d.fact 66 (f := .free "max") rfl)
  have m_ValueError := He.free_ok X G (d.fact 67 (f := .free "ValueError") rfl)
  have m_PLAIN_KINDS := He.glo_ok X G (d.fact 68 (f := .glo "PLAIN_KINDS") rfl)
  have m_BLOCK_KINDS := He.glo_ok X G (d.fact 69 (f := .glo "BLOCK_KINDS") rfl)
  have m_OLD_KINDS := He.glo_ok X G (d.fact 70 (f := .glo "OLD_KINDS") rfl)
  have m_NEW_KINDS := He.glo_ok X G (d.fact 71 (f := .glo "NEW_KINDS") rfl)
  have m_WAY_BACK := He.glo_ok X G (d.fact 72 (f := .glo "WAY_BACK") rfl)
  have m_SIGNS := He.glo_ok X G (d.fact 73 (f := .glo "SIGNS") rfl)
  have m_NoWord := He.glo_ok X G (d.fact 74 (f := .glo "NoWord") rfl)
  have m_TooLong := He.glo_ok X G (d.fact 75 (f := .glo "TooLong") rfl)
  have m_NoRow := He.glo_ok X G (d.fact 76 (f := .glo "NoRow") rfl)
  have m_NoFit := He.glo_ok X G (d.fact 77 (f := .glo "NoFit") rfl)
  have X_NoWord : ExcC K mg "NoWord" (He.ga K "NoWord") := by
    obtain ⟨e1, e2, e3, e4⟩ := He.exc_ok (d.fact 78 (f := .exc "NoWord") rfl)
    exact ⟨m_NoWord, e1, e2, e3, e4⟩
  have X_TooLong : ExcC K mg "TooLong" (He.ga K "TooLong") := by
    obtain ⟨e1, e2, e3, e4⟩ := He.exc_ok (d.fact 79 (f := .exc "TooLong") rfl)
    exact ⟨m_TooLong, e1, e2, e3, e4⟩
  have X_NoRow : ExcC K mg "NoRow" (He.ga K "NoRow") := by
    obtain ⟨e1, e2, e3, e4⟩ := He.exc_ok (d.fact 80 (f := .exc "NoRow") rfl)
    exact ⟨m_NoRow, e1, e2, e3, e4⟩
  have X_NoFit : ExcC K mg "NoFit" (He.ga K "NoFit") := by
    obtain ⟨e1, e2, e3, e4⟩ := He.exc_ok (d.fact 81 (f := .exc "NoFit") rfl)
    exact ⟨m_NoFit, e1, e2, e3, e4⟩
  have E_NoRow_NoRow := He.exm_ok (d.fact 82 (f := .exm "NoRow" "NoRow" true) rfl)
  have E_NoWord_NoRow := He.exm_ok (d.fact 83 (f := .exm "NoWord" "NoRow" false) rfl)
  have E_NoWord_NoWord := He.exm_ok (d.fact 84 (f := .exm "NoWord" "NoWord" true) rfl)
  have E_NoFit_NoRow := He.exm_ok (d.fact 85 (f := .exm "NoFit" "NoRow" false) rfl)
  have E_NoFit_NoWord := He.exm_ok (d.fact 86 (f := .exm "NoFit" "NoWord" false) rfl)
  have E_NoFit_NoFit := He.exm_ok (d.fact 87 (f := .exm "NoFit" "NoFit" true) rfl)
  have E_TooLong_NoRow := He.exm_ok (d.fact 88 (f := .exm "TooLong" "NoRow" false) rfl)
  have E_TooLong_NoWord := He.exm_ok (d.fact 89 (f := .exm "TooLong" "NoWord" false) rfl)
  have E_TooLong_NoFit := He.exm_ok (d.fact 90 (f := .exm "TooLong" "NoFit" false) rfl)
  have E_TooLong_TooLong := He.exm_ok (d.fact 91 (f := .exm "TooLong" "TooLong" true) rfl)
  have E_NoRow_RedraftError := He.exm_ok (d.fact 92 (f := .exm "NoRow" "RedraftError" true) rfl)
  have E_NoWord_RedraftError := He.exm_ok (d.fact 93 (f := .exm "NoWord" "RedraftError" true) rfl)
  have E_NoFit_RedraftError := He.exm_ok (d.fact 94 (f := .exm "NoFit" "RedraftError" true) rfl)
  have E_TooLong_RedraftError := He.exm_ok (d.fact 95 (f := .exm "TooLong" "RedraftError" true) rfl)
  have c_RedraftError := He.glo_ok X G (d.fact 96 (f := .glo "RedraftError") rfl)
  have more := c.more
  unfold ex at more
  simp only [Bool.and_eq_true] at more
  obtain ⟨⟨⟨⟨⟨⟨⟨⟨⟨⟨x_PLAIN_KINDS, x_BLOCK_KINDS⟩, x_OLD_KINDS⟩, x_NEW_KINDS⟩, y_WAY_BACK⟩, y_SIGNS⟩, E1⟩, E2⟩, E3⟩, E4⟩, E5⟩ := more
  have k_PLAIN_KINDS := tupB_ok x_PLAIN_KINDS
  have k_BLOCK_KINDS := tupB_ok x_BLOCK_KINDS
  have k_OLD_KINDS := tupB_ok x_OLD_KINDS
  have k_NEW_KINDS := tupB_ok x_NEW_KINDS
  obtain ⟨es_WAY_BACK, n_WAY_BACK, D_WAY_BACK⟩ := c.t.tab 0 (t := (fun K => He.ga K "WAY_BACK", ["keep", "cut", "put", "take", "lay"])) rfl
  have k_WAY_BACK : ∀ q ∈ kv_WAY_BACK, KDct K w (He.ga K "WAY_BACK") q.1 (He.Dv.v K q.2) := fun q hq => by
    obtain ⟨u, h1, h2⟩ := He.valsB_ok y_WAY_BACK hq
    exact ⟨es_WAY_BACK, n_WAY_BACK, u, D_WAY_BACK.at_, D_WAY_BACK.lit, h1, h2⟩
  obtain ⟨es_SIGNS, n_SIGNS, D_SIGNS⟩ := c.t.tab 1 (t := (fun K => He.ga K "SIGNS", ["keep", "cut", "put", "take", "lay"])) rfl
  have k_SIGNS : ∀ q ∈ kv_SIGNS, KDct K w (He.ga K "SIGNS") q.1 (He.Dv.v K q.2) := fun q hq => by
    obtain ⟨u, h1, h2⟩ := He.valsB_ok y_SIGNS hq
    exact ⟨es_SIGNS, n_SIGNS, u, D_SIGNS.at_, D_SIGNS.lit, h1, h2⟩
  have b_is_sign : Binds K d_is_sign ["sign"] [] := F_is_sign.bindsN fun _ _ _ _ _ _ us hl => match us, hl with | [_], _ => rfl
  have b_is_word : Binds K d_is_word ["word"] [] := F_is_word.bindsN fun _ _ _ _ _ _ us hl => match us, hl with | [_], _ => rfl
  have b_check_words : Binds K d_check_words ["words"] [] := F_check_words.bindsN fun _ _ _ _ _ _ us hl => match us, hl with | [_], _ => rfl
  have b_check_length : Binds K d_check_length ["words"] [] := F_check_length.bindsN fun _ _ _ _ _ _ us hl => match us, hl with | [_], _ => rfl
  have b_check_text : Binds K d_check_text ["words"] [] := F_check_text.bindsN fun _ _ _ _ _ _ us hl => match us, hl with | [_], _ => rfl
  have b_is_number : Binds K d_is_number ["kind", "number"] [] := F_is_number.bindsN fun _ _ _ _ _ _ us hl => match us, hl with | [_, _], _ => rfl
  have b_is_row_of_words : Binds K d_is_row_of_words ["words"] [] := F_is_row_of_words.bindsN fun _ _ _ _ _ _ us hl => match us, hl with | [_], _ => rfl
  have b_is_row : Binds K d_is_row ["row"] [] := F_is_row.bindsN fun _ _ _ _ _ _ us hl => match us, hl with | [_], _ => rfl
  have b_check_rows : Binds K d_check_rows ["rows"] [] := F_check_rows.bindsN fun _ _ _ _ _ _ us hl => match us, hl with | [_], _ => rfl
  have b_words_of : Binds K d_words_of ["rows", "kinds"] [] := F_words_of.bindsN fun _ _ _ _ _ _ us hl => match us, hl with | [_, _], _ => rfl
  have b_blocks_of : Binds K d_blocks_of ["rows", "block_kind"] [] := F_blocks_of.bindsN fun _ _ _ _ _ _ us hl => match us, hl with | [_, _], _ => rfl
  have b_check_fit : Binds K d_check_fit ["rows", "old"] [] := F_check_fit.bindsN fun _ _ _ _ _ _ us hl => match us, hl with | [_, _], _ => rfl
  have b_done : Binds K d_done ["rows", "old"] [] := F_done.bindsN fun _ _ _ _ _ _ us hl => match us, hl with | [_, _], _ => rfl
  have b_turned : Binds K d_turned ["rows"] [] := F_turned.bindsN fun _ _ _ _ _ _ us hl => match us, hl with | [_], _ => rfl
  have b_cost : Binds K d_cost ["rows"] [] := F_cost.bindsN fun _ _ _ _ _ _ us hl => match us, hl with | [_], _ => rfl
  have b_check_no_blocks : Binds K d_check_no_blocks ["rows"] [] := F_check_no_blocks.bindsN fun _ _ _ _ _ _ us hl => match us, hl with | [_], _ => rfl
  have b_places_in : Binds K d_places_in ["rows", "kind", "length"] [] := F_places_in.bindsN fun _ _ _ _ _ _ us hl => match us, hl with | [_, _, _], _ => rfl
  have b_run_at : Binds K d_run_at ["rows", "place", "length"] [] := F_run_at.bindsN fun _ _ _ _ _ _ us hl => match us, hl with | [_, _, _], _ => rfl
  have b_has_run : Binds K d_has_run ["rows", "length"] [] := F_has_run.bindsN fun _ _ _ _ _ _ us hl => match us, hl with | [_, _], _ => rfl
  have b_longest_run : Binds K d_longest_run ["rows"] [] := F_longest_run.bindsN fun _ _ _ _ _ _ us hl => match us, hl with | [_], _ => rfl
  have b_is_free : Binds K d_is_free ["used", "place", "length"] [] := F_is_free.bindsN fun _ _ _ _ _ _ us hl => match us, hl with | [_, _, _], _ => rfl
  have b_use : Binds K d_use ["used", "place", "length"] [] := F_use.bindsN fun _ _ _ _ _ _ us hl => match us, hl with | [_, _, _], _ => rfl
  have b_next_free : Binds K d_next_free ["places", "used", "length"] [] := F_next_free.bindsN fun _ _ _ _ _ _ us hl => match us, hl with | [_, _, _], _ => rfl
  have b_put_places_of : Binds K d_put_places_of ["rows", "length"] [] := F_put_places_of.bindsN fun _ _ _ _ _ _ us hl => match us, hl with | [_, _], _ => rfl
  have b_pairs_of : Binds K d_pairs_of ["rows", "length"] [] := F_pairs_of.bindsN fun _ _ _ _ _ _ us hl => match us, hl with | [_, _], _ => rfl
  have b_row_parted : Binds K d_row_parted ["row", "block_kind", "blocks", "length"] [] := F_row_parted.bindsN fun _ _ _ _ _ _ us hl => match us, hl with | [_, _, _, _], _ => rfl
  have b_with_pairs : Binds K d_with_pairs ["rows", "pairs", "length", "first_number"] [] := F_with_pairs.bindsN fun _ _ _ _ _ _ us hl => match us, hl with | [_, _, _, _], _ => rfl
  have b_with_blocks : Binds K d_with_blocks ["rows"] [] := F_with_blocks.bindsN fun _ _ _ _ _ _ us hl => match us, hl with | [_], _ => rfl
  have b_written_row : Binds K d_written_row ["row"] [] := F_written_row.bindsN fun _ _ _ _ _ _ us hl => match us, hl with | [_], _ => rfl
  have b_written : Binds K d_written ["rows"] [] := F_written.bindsN fun _ _ _ _ _ _ us hl => match us, hl with | [_], _ => rfl
  have b__law_cell_at : Binds K d__law_cell_at ["_law_script", "_law_k"] [] := F__law_cell_at.bindsN fun _ _ _ _ _ _ us hl => match us, hl with | [_, _], _ => rfl
  have b__law_sign_by : Binds K d__law_sign_by ["_law_cell"] [] := F__law_sign_by.bindsN fun _ _ _ _ _ _ us hl => match us, hl with | [_], _ => rfl
  have b__law_word_by : Binds K d__law_word_by ["_law_cell"] [] := F__law_word_by.bindsN fun _ _ _ _ _ _ us hl => match us, hl with | [_], _ => rfl
  have b__law_near : Binds K d__law_near ["_law_word", "_law_cell"] [] := F__law_near.bindsN fun _ _ _ _ _ _ us hl => match us, hl with | [_, _], _ => rfl
  have b__law_menu : Binds K d__law_menu ["_law_script"] [] := F__law_menu.bindsN fun _ _ _ _ _ _ us hl => match us, hl with | [_], _ => rfl
  have b__law_built_row : Binds K d__law_built_row ["_law_menu_here", "_law_cell", "_law_rows", "_law_waiting"] [] := F__law_built_row.bindsN fun _ _ _ _ _ _ us hl => match us, hl with | [_, _, _, _], _ => rfl
  have b__law_built : Binds K d__law_built ["_law_script", "_law_many"] [] := F__law_built.bindsN fun _ _ _ _ _ _ us hl => match us, hl with | [_, _], _ => rfl
  have b__law_words_of : Binds K d__law_words_of ["_law_rows", "_law_kinds_here"] [] := F__law_words_of.bindsN fun _ _ _ _ _ _ us hl => match us, hl with | [_, _], _ => rfl
  have b__law_no_row : Binds K d__law_no_row ["_law_cell"] [] := F__law_no_row.bindsN fun _ _ _ _ _ _ us hl => match us, hl with | [_], _ => rfl
  have b__law_tried : Binds K d__law_tried ["_law_rows", "_law_old"] [] := F__law_tried.bindsN fun _ _ _ _ _ _ us hl => match us, hl with | [_, _], _ => rfl
  have b__law_kinds : Binds K d__law_kinds ["_law_rows", "_law_old"] [] := F__law_kinds.bindsN fun _ _ _ _ _ _ us hl => match us, hl with | [_, _], _ => rfl
  have b__law_none_priced : Binds K d__law_none_priced ["_law_cell"] [] := F__law_none_priced.bindsN fun _ _ _ _ _ _ us hl => match us, hl with | [_], _ => rfl
  have b__law_others : Binds K d__law_others ["_law_rows"] [] := F__law_others.bindsN fun _ _ _ _ _ _ us hl => match us, hl with | [_], _ => rfl
  have b__law_old_spoilt : Binds K d__law_old_spoilt ["_law_old", "_law_fault", "_law_at"] [] := F__law_old_spoilt.bindsN fun _ _ _ _ _ _ us hl => match us, hl with | [_, _, _], _ => rfl
  have b__law_block_spoilt : Binds K d__law_block_spoilt ["_law_rows", "_law_fault", "_law_at"] [] := F__law_block_spoilt.bindsN fun _ _ _ _ _ _ us hl => match us, hl with | [_, _, _], _ => rfl
  have b__law_no_word_in : Binds K d__law_no_word_in ["_law_old", "_law_place", "_law_many"] [] := F__law_no_word_in.bindsN fun _ _ _ _ _ _ us hl => match us, hl with | [_, _, _], _ => rfl
  have b__law_exchanged : Binds K d__law_exchanged ["_law_rows", "_law_laid"] [] := F__law_exchanged.bindsN fun _ _ _ _ _ _ us hl => match us, hl with | [_, _], _ => rfl
  have b__law_right : Binds K d__law_right ["_law_rows", "_law_old", "_law_due", "_law_cell"] [] := F__law_right.bindsN fun _ _ _ _ _ _ us hl => match us, hl with | [_, _, _, _], _ => rfl
  have b__law_rows_for : Binds K d__law_rows_for ["_law_script", "_law_fault"] [] := F__law_rows_for.bindsN fun _ _ _ _ _ _ us hl => match us, hl with | [_, _], _ => rfl
  have bL := FunD.bindsA (ps := ["_law_script"]) F_law fun _ _ _ _ _ _ us hl => match us, hl with | [_], _ => rfl
  have TT : ∀ q ∈ tf, (He.cT K q).2 ∈ tf.map fun q => (He.cT K q).2 := fun q hq => List.mem_map_of_mem (f := fun q => (He.cT K q).2) hq
  refine ⟨d_law, tf.map (He.cT K), spLaw K (tf.map fun q => (He.cT K q).2), fun p hp => ?_, fun p hp => ?_, fun p hp => ?_, fun s u => bL s [u] rfl, fun H a ns hl _ hT hS => ⟨a, ns, rfl, hS, fun P hP => ?_, fun _ => rfl⟩, fun base KB GB TBs => ?_⟩
  · obtain ⟨q, hq, rfl⟩ := List.mem_map.mp hp
    exact c.empty q hq
  · obtain ⟨q, hq, rfl⟩ := List.mem_map.mp hp
    exact c.out q hq
  · obtain ⟨q, hq, rfl⟩ := List.mem_map.mp hp
    exact PySem.W.codeHd_of_K X (c.hd q hq)
  · obtain ⟨q, hq, rfl⟩ := List.mem_map.mp hP
    exact ⟨#[], hT _ (List.mem_map_of_mem hq), trivial⟩
  · have TB : ∀ q ∈ tf, GxR.TabB base mg (He.codeOf K q) (He.cT K q).2 := fun q hq => by
      have tb := TBs _ (List.mem_map_of_mem (f := He.cT K) hq)
      exact ⟨tb.code, tb.bm, tb.gP⟩
    have q_is_word : (("is_word", none) : He.Defn) ∈ tf := by unfold tf; simp
    have q_is_row_of_words : (("is_row_of_words", none) : He.Defn) ∈ tf := by unfold tf; simp
    have kSI : ∀ k ∈ plainK ++ blockK, KDct K w (He.ga K "SIGNS") k (.str (signK k)) := fun k hk => by
      have key : ∀ k ∈ plainK ++ blockK, (k, He.Dv.str (signK k)) ∈ kv_SIGNS := by
        intro k hk
        have hk : k ∈ (["keep", "cut", "put", "take", "lay"] : List Str) := hk
        unfold kv_SIGNS
        simp only [List.mem_cons, List.not_mem_nil, or_false] at hk
        rcases hk with rfl | rfl | rfl | rfl | rfl
        · exact .head _
        · exact .tail _ (.head _)
        · exact .tail _ (.tail _ (.head _))
        · exact .tail _ (.tail _ (.tail _ (.head _)))
        · exact .tail _ (.tail _ (.tail _ (.tail _ (.head _))))
      exact k_SIGNS _ (key k hk)
    have kWB : ∀ k ∈ plainK ++ blockK, KDct K w (He.ga K "WAY_BACK") k (.str (wayB k)) := fun k hk => by
      have key : ∀ k ∈ plainK ++ blockK, (k, He.Dv.str (wayB k)) ∈ kv_WAY_BACK := by
        intro k hk
        have hk : k ∈ (["keep", "cut", "put", "take", "lay"] : List Str) := hk
        unfold kv_WAY_BACK
        simp only [List.mem_cons, List.not_mem_nil, or_false] at hk
        rcases hk with rfl | rfl | rfl | rfl | rfl
        · exact .head _
        · exact .tail _ (.head _)
        · exact .tail _ (.tail _ (.head _))
        · exact .tail _ (.tail _ (.tail _ (.head _)))
        · exact .tail _ (.tail _ (.tail _ (.tail _ (.head _))))
      exact k_WAY_BACK _ (key k hk)
    have GW := ok_is_word (P := PySem.Challenge.rw_redraft_k05_tellings_refused.prog) (w := w) (mg := mg) (base := base) F_is_word rfl (TT _ q_is_word) (TB _ q_is_word) F_is_sign b_is_sign g_is_sign m_isinstance m_str m_len m_all m_LONGEST
    have GWX := ok_is_wordX (P := PySem.Challenge.rw_redraft_k05_tellings_refused.prog) (w := w) (mg := mg) (base := base) F_is_word rfl (TT _ q_is_word) (TB _ q_is_word) F_is_sign b_is_sign g_is_sign m_isinstance m_str m_len m_all m_LONGEST
    have GCWX := ok_check_wordsX F_check_words GWX F_is_word.kp b_is_word g_is_word X_NoWord m_isinstance m_list m_enumerate
    have GCLX := ok_check_lengthX (P := PySem.Challenge.rw_redraft_k05_tellings_refused.prog) (w := w) (mg := mg) (base := base) F_check_length X_TooLong m_len m_MOST
    have GCTX := ok_check_textX F_check_text GCWX F_check_words.kp b_check_words g_check_words GCLX F_check_length.kp b_check_length g_check_length
    have GN := ok_is_number (P := PySem.Challenge.rw_redraft_k05_tellings_refused.prog) (w := w) (mg := mg) (base := base) F_is_number m_isinstance m_int m_bool m_BLOCK_KINDS k_BLOCK_KINDS m_LAST_BLOCK
    have GRW := ok_row_words F_is_row_of_words rfl (TT _ q_is_row_of_words) (TB _ q_is_row_of_words) GW F_is_word.kp b_is_word g_is_word m_isinstance m_tuple m_len m_all
    have GR := ok_is_row F_is_row GN F_is_number.kp b_is_number g_is_number GRW F_is_row_of_words.kp b_is_row_of_words g_is_row_of_words m_isinstance m_tuple m_len m_PLAIN_KINDS k_PLAIN_KINDS m_BLOCK_KINDS k_BLOCK_KINDS
    have GC := ok_check_rows F_check_rows GR F_is_row.kp b_is_row g_is_row m_isinstance m_list m_enumerate
    have GU := ok_turned F_turned GC F_check_rows.kp b_check_rows g_check_rows m_WAY_BACK kWB
    have GP := ok_cost F_cost GC F_check_rows.kp b_check_rows g_check_rows m_len m_PRICE
    have GWO := ok_words_of (P := PySem.Challenge.rw_redraft_k05_tellings_refused.prog) (w := w) (mg := mg) (base := base) F_words_of
    have GCe := ok_cell_at (P := PySem.Challenge.rw_redraft_k05_tellings_refused.prog) (w := w) (mg := mg) (base := base) F__law_cell_at m_len
    have GS := ok_sign_by (P := PySem.Challenge.rw_redraft_k05_tellings_refused.prog) (w := w) (mg := mg) (base := base) F__law_sign_by
    have GWB := ok_word_by (P := PySem.Challenge.rw_redraft_k05_tellings_refused.prog) (w := w) (mg := mg) (base := base) F__law_word_by F__law_sign_by b__law_sign_by g__law_sign_by m_range
    have GNe := ok_near F__law_near GS F__law_sign_by.kp b__law_sign_by g__law_sign_by m_len m_list m_reversed
    have GM := ok_menu F__law_menu GCe F__law_cell_at.kp b__law_cell_at g__law_cell_at GWB F__law_word_by.kp b__law_word_by g__law_word_by GNe F__law_near.kp b__law_near g__law_near m_range
    have GNB := ok_no_blocks F_check_no_blocks GC F_check_rows.kp b_check_rows g_check_rows X_NoRow m_enumerate m_BLOCK_KINDS k_BLOCK_KINDS
    have GPl := ok_places (P := PySem.Challenge.rw_redraft_k05_tellings_refused.prog) (w := w) (mg := mg) (base := base) F_places_in m_enumerate m_range m_len
    have GRu := ok_run_at (P := PySem.Challenge.rw_redraft_k05_tellings_refused.prog) (w := w) (mg := mg) (base := base) F_run_at
    have GHR := ok_has_run F_has_run GPl F_places_in.kp b_places_in g_places_in GRu F_run_at.kp b_run_at g_run_at
    have GLR := ok_longest F_longest_run GHR F_has_run.kp b_has_run g_has_run
    have GIF := ok_is_free (P := PySem.Challenge.rw_redraft_k05_tellings_refused.prog) (w := w) (mg := mg) (base := base) F_is_free
    have GUs := ok_use (P := PySem.Challenge.rw_redraft_k05_tellings_refused.prog) (w := w) (mg := mg) (base := base) F_use m_range
    have GNF := ok_next_free F_next_free GIF F_is_free.kp b_is_free g_is_free m_len
    have GPP := ok_put_places F_put_places_of GPl F_places_in.kp b_places_in g_places_in GRu F_run_at.kp b_run_at g_run_at m_reversed
    have GPO := ok_pairs_of F_pairs_of GPl F_places_in.kp b_places_in g_places_in GRu F_run_at.kp b_run_at g_run_at GPP F_put_places_of.kp b_put_places_of g_put_places_of GIF F_is_free.kp b_is_free g_is_free GNF F_next_free.kp b_next_free g_next_free GUs F_use.kp b_use g_use
    have GRP := ok_row_parted (P := PySem.Challenge.rw_redraft_k05_tellings_refused.prog) (w := w) (mg := mg) (base := base) F_row_parted m_sorted m_len
    have GWP := ok_with_pairs F_with_pairs GRP F_row_parted.kp b_row_parted g_row_parted m_enumerate
    have GWi := ok_with_blocks F_with_blocks GNB F_check_no_blocks.kp b_check_no_blocks g_check_no_blocks GLR F_longest_run.kp b_longest_run g_longest_run GPO F_pairs_of.kp b_pairs_of g_pairs_of GWP F_with_pairs.kp b_with_pairs g_with_pairs m_list m_len
    
    have GRWX := ok_row_wordsX F_is_row_of_words rfl (TT _ q_is_row_of_words) (TB _ q_is_row_of_words) GWX F_is_word.kp b_is_word g_is_word m_isinstance m_tuple m_len m_all
    have GNX := ok_is_numberX (P := PySem.Challenge.rw_redraft_k05_tellings_refused.prog) (w := w) (mg := mg) (base := base) F_is_number m_isinstance m_int m_bool m_BLOCK_KINDS k_BLOCK_KINDS m_LAST_BLOCK
    have GRX := ok_is_rowX F_is_row GNX F_is_number.kp b_is_number g_is_number GRWX F_is_row_of_words.kp b_is_row_of_words g_is_row_of_words m_isinstance m_tuple m_len m_PLAIN_KINDS k_PLAIN_KINDS m_BLOCK_KINDS k_BLOCK_KINDS
    have GCX := ok_check_rowsX F_check_rows GRX F_is_row.kp b_is_row g_is_row X_NoRow m_isinstance m_list m_enumerate
    have GBOX := ok_blocks_ofX (P := PySem.Challenge.rw_redraft_k05_tellings_refused.prog) (w := w) (mg := mg) (base := base) F_blocks_of X_NoFit
    have GFX := ok_check_fitX F_check_fit X_NoFit GWO F_words_of.kp b_words_of g_words_of GBOX F_blocks_of.kp b_blocks_of g_blocks_of m_OLD_KINDS k_OLD_KINDS
    have GDX := ok_doneX F_done GCX F_check_rows.kp b_check_rows g_check_rows GCTX F_check_text.kp b_check_text g_check_text GFX F_check_fit.kp b_check_fit g_check_fit GWO F_words_of.kp b_words_of g_words_of GCLX F_check_length.kp b_check_length g_check_length m_NEW_KINDS k_NEW_KINDS
    have GDD := done_ask GDX
    have GWr := ok_written_row (P := PySem.Challenge.rw_redraft_k05_tellings_refused.prog) (w := w) (mg := mg) (base := base) F_written_row m_SIGNS kSI m_BLOCK_KINDS k_BLOCK_KINDS m_str
    have GWt := ok_written F_written GC F_check_rows.kp b_check_rows g_check_rows GWr F_written_row.kp b_written_row g_written_row
    have GCoX := ok_costX F_cost GCX F_check_rows.kp b_check_rows g_check_rows
    have GUX := ok_turnedX F_turned GCX F_check_rows.kp b_check_rows g_check_rows
    have GWtX := ok_writtenX F_written GCX F_check_rows.kp b_check_rows g_check_rows
    have GNBX := ok_no_blocksX F_check_no_blocks GCX F_check_rows.kp b_check_rows g_check_rows
    have GWiX := ok_with_blocksX F_with_blocks GNBX F_check_no_blocks.kp b_check_no_blocks g_check_no_blocks
    have OC := oth_cost GP GCoX
    have OT := oth_turned GU GUX
    have OW := oth_written GWt GWtX
    have OB := oth_blocks GWi GWiX
    have GOt := ok_others F__law_others OC F_cost.kp b_cost g_cost OT F_turned.kp b_turned g_turned OW F_written.kp b_written g_written OB F_with_blocks.kp b_with_blocks g_with_blocks X_NoRow.g E_NoRow_NoRow
    have GTr := ok_tried F__law_tried GDD F_done.kp b_done g_done X_NoRow.g X_NoWord.g X_NoFit.g X_TooLong.g E_NoRow_NoRow E_NoWord_NoRow E_NoWord_NoWord E_NoFit_NoRow E_NoFit_NoWord E_NoFit_NoFit E_TooLong_NoRow E_TooLong_NoWord E_TooLong_NoFit E_TooLong_TooLong
    have xE : ∀ p ∈ cls4 (He.ga K "NoRow") (He.ga K "NoWord") (He.ga K "NoFit") (He.ga K "TooLong"), PySem.W.exmOne K (.ref p.1) (.ref (He.ga K "RedraftError")) = some true := fun p hp => by
      unfold cls4 at hp
      simp only [List.mem_cons, List.not_mem_nil, or_false] at hp
      rcases hp with h | h | h | h <;> subst h
      · exact E_NoRow_RedraftError
      · exact E_NoWord_RedraftError
      · exact E_NoFit_RedraftError
      · exact E_TooLong_RedraftError
    have CC : ∀ p ∈ cls4 (He.ga K "NoRow") (He.ga K "NoWord") (He.ga K "NoFit") (He.ga K "TooLong"), L2.ExcC K p.1 ∧ PySem.W.kitOne K (.ref p.1) (.type "ValueError") = some true := fun p hp => by
      unfold cls4 at hp
      simp only [List.mem_cons, List.not_mem_nil, or_false] at hp
      rcases hp with h | h | h | h <;> subst h
      · exact excB_ok E1
      · exact excB_ok E2
      · exact excB_ok E3
      · exact excB_ok E4
    have GKi := ok_kinds F__law_kinds GDD F_done.kp b_done g_done X_NoRow.g X_NoWord.g X_NoFit.g X_TooLong.g c_RedraftError xE (kit4_ok E5) CC m_isinstance m_ValueError
    have GNo := ok_no_row (P := PySem.Challenge.rw_redraft_k05_tellings_refused.prog) (w := w) (mg := mg) (base := base) F__law_no_row
    have GNP := ok_none_priced F__law_none_priced OC F_cost.kp b_cost g_cost GNo F__law_no_row.kp b__law_no_row g__law_no_row X_NoRow.g E_NoRow_NoRow m_range
    have GRi := ok_right F__law_right GOt F__law_others.kp b__law_others g__law_others GNP F__law_none_priced.kp b__law_none_priced g__law_none_priced GTr F__law_tried.kp b__law_tried g__law_tried GKi F__law_kinds.kp b__law_kinds g__law_kinds m_int
    have GOS := ok_old_spoilt (P := PySem.Challenge.rw_redraft_k05_tellings_refused.prog) (w := w) (mg := mg) (base := base) F__law_old_spoilt m_int
    have GBS := ok_block_spoilt (P := PySem.Challenge.rw_redraft_k05_tellings_refused.prog) (w := w) (mg := mg) (base := base) F__law_block_spoilt
    have GEx := ok_exchanged (P := PySem.Challenge.rw_redraft_k05_tellings_refused.prog) (w := w) (mg := mg) (base := base) F__law_exchanged m_len m_list
    have GNW := ok_no_word_in (P := PySem.Challenge.rw_redraft_k05_tellings_refused.prog) (w := w) (mg := mg) (base := base) F__law_no_word_in m_len
    have GBR := ok_built_row (P := PySem.Challenge.rw_redraft_k05_tellings_refused.prog) (w := w) (mg := mg) (base := base) F__law_built_row m_tuple m_range m_len
    have GB := ok_built F__law_built GM F__law_menu.kp b__law_menu g__law_menu GBR F__law_built_row.kp b__law_built_row g__law_built_row
    have GRF := ok_rows_for F__law_rows_for GB F__law_built.kp b__law_built g__law_built
    have GLW := ok_law_words_of (P := PySem.Challenge.rw_redraft_k05_tellings_refused.prog) (w := w) (mg := mg) (base := base) F__law_words_of m_list
    exact ok_law F_law GCe F__law_cell_at.kp b__law_cell_at g__law_cell_at GRF F__law_rows_for.kp b__law_rows_for g__law_rows_for GLW F__law_words_of.kp b__law_words_of g__law_words_of GOS F__law_old_spoilt.kp b__law_old_spoilt g__law_old_spoilt GEx F__law_exchanged.kp b__law_exchanged g__law_exchanged GBS F__law_block_spoilt.kp b__law_block_spoilt g__law_block_spoilt GNW F__law_no_word_in.kp b__law_no_word_in g__law_no_word_in GNo F__law_no_row.kp b__law_no_row g__law_no_row GRi F__law_right.kp b__law_right g__law_right m_len m_max m_range m_int m_tuple
end Rd
open PySem PySem.W PySem.Calls PyProof.Rows
set_option maxHeartbeats 0 in
theorem PySem.Challenge.cw_redraft_k05_tellings_refused_holds : PySem.Challenge.rw_redraft_k05_tellings_refused.Holds := by
  w_on; o_law
  refine HandSHeadRun.head_any (r := OpenLaw.row PySem.Challenge.rw_redraft_k05_tellings_refused) (q := view (OpenLaw.row PySem.Challenge.rw_redraft_k05_tellings_refused).prog [70]) (H := Rd.hk) (ob := Rd.ob) (M := 4000) (loose := Rd.loose) (d := HandSHeadRun.topDef (OpenLaw.row PySem.Challenge.rw_redraft_k05_tellings_refused).prog 70) (kwd := []) Rd.ob_eq
    (by kernel_rfl) (fun s => by kernel_rfl) Rd.run (by kernel_rfl) (by kernel_rfl) (by kernel_rfl) (by rfl) (by first | assumption | decide +kernel) (by decide +kernel) ⟨rfl, rfl, rfl, rfl, rfl, by decide +kernel⟩ ?hw ?hc
  case hw => w_witness2
  case hc =>
    refine LamX.walk_ofTsE (l := PySem.Challenge.rw_redraft_k05_tellings_refused) (n := 63) (k := 12) (x := "_law_script") (CX := fun w => L2.CX PySem.Challenge.rw_redraft_k05_tellings_refused.prog w) rfl (by decide) (by kernel_rfl) ⟨rfl, by decide, by decide⟩ ?F fun w H s e s' z => ?z
    case z =>
      obtain ⟨_, _, _, _, _, _, _, _, _, _, _, _, z⟩ := z
      exact z
    case F =>
      intro w mg fa h Y G hmg0
      obtain ⟨K, KX, c⟩ := Y
      have hmg : mg ("law" : PySem.Str) = some (.ref fa) := by
        have e : (HandSHeadRun.topDef (OpenLaw.row PySem.Challenge.rw_redraft_k05_tellings_refused).prog 70).name = ("law" : PySem.Str) := by kernel_rfl
        rw [← e]
        exact hmg0
      exact ⟨K, KX, Rd.facts KX G hmg c⟩

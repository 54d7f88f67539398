import PyProof.Rows.All
import Wide.All
import OpenK.AllK
import Wide.FinOn
import HandS.ForMost
import HandS.ForExc
import HandS.AnyAll
import HandS.GenOver
import HandS.GenList
import HandS.More
import HandS.Defaults
import HandS.HeadHook4
import HandS.IsInst
import HandS.Iter
import HandS.Text
import HandS.Rev
import HandS.RevTup
import HandS.Deep
import HandS.List
import KE.GoesRaise
import HandS.Comp
import HandS.ExcOwn
import HandS.Exc
import HandS.Head0
import HandS.Head1
import HandS.Head2
import HandS.HeadEnd
import HandS.HeadHook1
import HandS.HeadHook2
import HandS.HeadHook3
import HandS.HeadWalk
import HandS.LawCells
import HandS.Codes
import HandS.TupMul
import HandS.FStr
import HandS.RaiseMore
import HandS.Star
import HandS.StrMore
import HandS.TryOnly
import HandS.ExcIs
import PySem.Challenge.RW_redraft_k12_read
set_option Elab.async false
set_option linter.all false
set_option maxRecDepth 100000
set_option maxHeartbeats 4000000
/-! all(elt for x in iter if ..), any(..): the element any expression that the layer reads (calls of defs, too), the walked thing any that the layer walks -/
namespace Rd
open PySem PySem.Spec PyProof.Rows L2 GxR

/-- the frame of a generator expression of X, made at s -/
abbrev gcx (X : Cx) (s : Shared) (H : Hp) (sc : Scope) (ce : Env) (fp : List Addr) (a : Addr) (o : Obj) (B : Around) : Cx :=
  { X with A := B, s_0 := s, H_0 := H, env := ce, outer := X.stack, stack := ce :: X.stack, ex := fp, fn := fun x => sc.names.lookup x == some .cell, calm := true, pn := [(a, o)], xe := fun _ _ => False }

theorem not_in_frs {X : Cx} {pins : List (Addr × Obj)} {σ : L2.St} {H : Hp} {s : Shared} (I : Inv X pins σ H s) {b : Addr} (hb : s.heap.objs.size ≤ b) : b ∉ frs X.stack := fun hm => by
  obtain ⟨_, o, ho, _⟩ := I.stack.mem hm
  exact Nat.lt_irrefl _ (Nat.lt_of_lt_of_le (Heap.lt_size ho) hb)

theorem gen_start {X : Cx} {pins : List (Addr × Obj)} {σ : L2.St} {H : Hp} {s s' : Shared} {sc : Scope} {own : List (Str × Nat)} {fp : List Addr} {ce : Env} {a : Addr} {o : Obj} {B : Around}
    (I : Inv X pins σ H s) (ok : BlkOk X.N X.env.scope sc own) (nc : ∀ y ∈ sc.names, y.2 ≠ .cell) (hN : X.N.Nodup) (hfp : ∀ b ∈ fp, FpOk X pins H b ∧ b < s.heap.objs.size)
    (e1 : ce.scope = sc) (e2 : ce.locals = s.heap.objs.size) (e3 : ce.globals = X.env.globals) (e4 : ce.builtins = builtinsNs) (e5 : ce.cells = cloFrom X.env.cells sc.names []) (e6 : ce.frame = some s.heap.objs.size)
    (hB : B.frames = some (ce :: X.stack)) (hh : B.handled = none)
    (os : s'.os = s.os) (gb : AllBare s'.gens) (kp : ∀ b u, s.heap.get? b = some u → s'.heap.get? b = some u) (ns : ∃ m, s'.heap.Ns s.heap.objs.size m) (ha : s'.heap.get? a = some o) (hlt : s.heap.objs.size < a) (hod : ∀ v, o.data ≠ .cell v) :
    Inv (gcx X s H sc ce fp a o B) [] (wipe σ (own.map (·.2))) H s' := by
  have nocell : ∀ y, sc.names.lookup y ≠ some .cell := fun y z => nc _ (PySem.mem_of_lookup z) rfl
  have clo : ∀ {y c}, ce.cells.lookup y = some c → X.env.cells.lookup y = some c ∧ c < s.heap.objs.size := fun {y c} e => by
    rw [e5] at e
    rcases cloFrom_mem (PySem.mem_of_lookup e) with hm | ⟨hy, rfl⟩
    · cases hm
    · have h1 : ∃ c, X.env.cells.lookup y = some c := by
        rcases ok.free _ hy rfl with k | k
        · exact I.ok.has _ (.inl k)
        · exact I.ok.has _ (.inr k)
      obtain ⟨c1, h2⟩ := h1
      rw [h2]
      obtain ⟨v, z⟩ := I.cell _ _ h2
      exact ⟨rfl, z.lt⟩
  have has : ∀ {y}, sc.names.lookup y = some .free → ∃ c, ce.cells.lookup y = some c := fun {y} hy => by
    obtain ⟨c, hc⟩ := mem_lookup (cloFrom_has (cells := X.env.cells) (acc := []) (PySem.mem_of_lookup hy))
    exact ⟨c, by rw [e5]; exact hc⟩
  have okB : (gcx X s H sc ce fp a o B).Ok := by
    refine ⟨I.ok.mod, ?_, ?_, e4, ?_, fun y z c h1 h2 => I.ok.inj y z c (clo h1).1 (clo h2).1, fun y hy => ?_, fun y c z _ => ?_, fun _ => hh, hB, .inr ⟨rfl, ?_⟩, fun b hb => ⟨?_, fun y c e z => ?_⟩, I.bs, Nat.le_trans I.ok.bsz I.sz, fun b u e hb => ?_, fun b hb z => ?_, I.stack, I.stkFree⟩
    · show ce.scope.kind = _
      rw [e1]
      exact ok.kind
    · show ce.globals = _
      rw [e3]
      exact I.ok.glob
    · show s.heap.objs.size ≤ ce.locals
      rw [e2]
      exact Nat.le_refl _
    · show ∃ c, ce.cells.lookup y = some c
      rcases hy with hy | hy
      · have hy : ce.scope.names.lookup y = some .cell := hy
        rw [e1] at hy
        exact absurd hy (nocell y)
      · have hy : ce.scope.names.lookup y = some .free := hy
        rw [e1] at hy
        exact has hy
    · have z : (sc.names.lookup y == some NameKind.cell) = true := z
      exact absurd (by simpa using z) (nocell y)
    · show ce.frame = some ce.locals
      rw [e6, e2]
    · show b ≠ ce.locals
      rw [e2]
      exact Nat.ne_of_lt (hfp b hb).2
    · exact (hfp b hb).1.2.2.2.2.1 y c (clo e).1 z
    · rcases (hfp b hb).1.2.2.2.1 with z | z
      · exact I.ok.noex b u e z
      · exact absurd (Nat.lt_of_lt_of_le (Heap.lt_size e) (Nat.le_trans I.ok.bsz z)) (Nat.lt_irrefl _)
    · rcases List.mem_cons.mp (I.stkSub b z) with z | z
      · exact (hfp b hb).1.2.1 z
      · exact (hfp b hb).1.2.2.1 z
  obtain ⟨m1, hm1⟩ := ns
  refine ⟨okB, os, gb, Un.kept kp, ⟨m1, ?_, fun i y av q1 q2 q3 => ?_⟩, fun y c e => ?_, ?_, fun y c e => I.freeC y c (clo e).1, fun p hp => ?_, I.hok.kept kp, by rw [wipe_length]; exact I.len⟩
  · show Heap.Ns _ ce.locals _
    rw [e2]
    exact hm1
  · obtain ⟨q2, hne⟩ := wipe_some q2
    have q3 : Vis ce.scope y := q3
    rw [e1] at q3
    have q1 : X.N[i]? = some y := q1
    have no : ∀ k, sc.names.lookup y = some k → k = .local ∨ k = .cell → False := fun k e hk => by
      rcases ok.own _ (PySem.mem_of_lookup e) hk with z | z
      · obtain ⟨p, hp, hpy⟩ := List.mem_map.mp z
        have z2 := ok.ix p hp
        have hpy : p.1 = y := hpy
        rw [hpy] at z2
        exact hne (List.mem_map.mpr ⟨p, hp, nodup_ix hN z2 q1⟩)
      · exact z (List.mem_of_getElem? q1)
    have hf : sc.names.lookup y = some .free := by
      rcases q3 with z | z | z
      · exact (no _ z (.inl rfl)).elim
      · exact (no _ z (.inr rfl)).elim
      · exact z
    obtain ⟨m, hn, hl⟩ := I.loc
    have hk := ok.free _ (PySem.mem_of_lookup hf) rfl
    obtain ⟨u, r, q⟩ := hl i y av q1 q2 (hk.elim (fun k => .inr (.inl k)) fun k => .inr (.inr k))
    refine ⟨u, r, .inr ⟨.inr ?_, ?_⟩⟩
    · show ce.scope.names.lookup y = some .free
      rw [e1]
      exact hf
    · obtain ⟨c, hc⟩ := has hf
      rcases q with ⟨k, _⟩ | ⟨_, c', e', z⟩
      · have k : X.env.scope.names.lookup y = some .local := k
        rcases hk with hk | hk <;> rw [show X.env.scope.names.lookup y = _ from hk] at k <;> cases k
      · have hc' := (clo hc).1
        rw [hc'] at e'
        cases e'
        exact ⟨c, hc, z.keeps kp⟩
  · obtain ⟨v, z⟩ := I.cell y c (clo e).1
    exact ⟨v, z.keeps kp⟩
  · show H ce.locals = none
    rw [e2]
    exact I.hok.fresh (Nat.le_refl _)
  · have hp : p = (a, o) := by simpa using hp
    subst hp
    refine ⟨ha, I.hok.fresh (Nat.le_of_lt hlt), ?_, not_in_frs I (Nat.le_of_lt hlt), hod⟩
    show a ≠ ce.locals
    rw [e2]
    exact Nat.ne_of_gt hlt

theorem inv_gens {X : Cx} {pins : List (Addr × Obj)} {σ : L2.St} {H : Hp} {s : Shared} {G : Array GenState} (I : Inv X pins σ H s) (hG : AllBare G) : Inv X pins σ H { s with gens := G } :=
  ⟨I.ok, I.os, hG, I.base, I.loc, I.cell, I.free, I.freeC, I.pin, I.hok, I.len⟩

/-- the reading: J what is walked, k the answer that goes on (True for all, False for any) -/
def tGen (k : Bool) (P : Addr) (wi : TI) (g : TG) (tt : TT) (te : TE) (vs : List Nat) : TE := fun σ H Q => wi σ H fun J H1 => TabG H1 P ∧ ∀ H2, Tabbed P H1 H2 →
  ∃ W : Nat → Nat → Hp → Prop, (∃ m, W 0 m H2) ∧ ∀ i m H, W i m H →
    (J.stop i H ∧ Q (.bl k) H) ∨ (J.go i H ∧ ∃ Nx : Hp → Prop, (∀ H', Nx H' → ∃ m', m' < m ∧ W (i + 1) m' H') ∧ ∀ x H', J.yld i H x H' → g x (wipe σ vs) H' fun σ2 H2 => wipe σ2 vs = wipe σ vs ∧ tt σ2 H2 fun b H3 =>
      if b = true then te σ2 H3 fun y H4 => ∃ c, y = .bl c ∧ (c = k → Nx H4) ∧ (c = (!k) → Q (.bl (!k)) H4) else Nx H3)

/-- the answer is known -/
def Fin (X : Cx) (pins : List (Addr × Obj)) (σ : L2.St) (Q : VK) (b : Bool) (s : Shared) : Prop := ∃ H, Inv X pins σ H s ∧ Q (.bl b) H
theorem Fin.gens {X : Cx} {pins : List (Addr × Obj)} {σ : L2.St} {Q : VK} {b : Bool} {s : Shared} {G : Array GenState} (h : Fin X pins σ Q b s) (hG : AllBare G) : Fin X pins σ Q b { s with gens := G } :=
  let ⟨H, I, q⟩ := h; ⟨H, inv_gens I hG, q⟩
theorem Fin.kept {X : Cx} {pins : List (Addr × Obj)} {σ : L2.St} {Q : VK} {b : Bool} {s : Shared} {h' : Heap} (h : Fin X pins σ Q b s) (k : ∀ c u, s.heap.get? c = some u → h'.get? c = some u) : Fin X pins σ Q b { s with heap := h' } :=
  let ⟨H, I, q⟩ := h; ⟨H, I.kept (t' := s.toks) k, q⟩
/-- the generator's end -/
abbrev GR1 (X : Cx) (pins : List (Addr × Obj)) (σ : L2.St) (Q : VK) (k : Bool) : GenEnd := fun _ _ r s => r = .ok .next ∧ (AllBare s.gens ∧ Fin X pins σ Q k s)
/-- an item comes out -/
abbrev GY1 (X : Cx) (pins : List (Addr × Obj)) (σ : L2.St) (Q : VK) (k : Bool) (a : Addr) (g : Nat) : Protocol := fun _ _ v s kap =>
  ∃ b, v = .bool b ∧ s.heap.IsGen a g ∧ s.heap.NoLimit ∧ AllBare s.gens ∧ (b = (!k) → Fin X pins σ Q (!k) s) ∧ (b = k → ∀ G, AllBare G → kap (.send .none) { s with gens := G })
/-- a generator that is to be asked -/
def Live (X : Cx) (pins : List (Addr × Obj)) (σ : L2.St) (Q : VK) (k : Bool) (a : Addr) (g n : Nat) (s : Shared) : Prop :=
  s.heap.IsGen a g ∧ s.heap.NoLimit ∧ AllBare s.gens ∧ ∃ gs, s.gens[g]? = some gs ∧ gs.Goes (model X.prog X.w) X.A.in1.in1 (GR1 X pins σ Q k) (GY1 X pins σ Q k a g) n (.send .none) (s.setGen g .running)

section
variable {X : Cx} {pins : List (Addr × Obj)} {σ : L2.St} {Q : VK} {a : Addr} {g : Nat}
/-- what a step of the consumer finds -/
theorem next_live {k : Bool} {n : Nat} {s : Shared} {Q' : Option Value → Shared → Prop} {E : Value → Shared → Prop} (hh : X.A.handled = none) (hd : X.A.depth < recursionLimit) (h : Live X pins σ Q k a g n s)
    (hy : ∀ (b : Bool) (s' : Shared), (b = (!k) → Fin X pins σ Q (!k) s') → (b = k → ∃ m, m < n ∧ Live X pins σ Q k a g m s') → Q' (some (.bool b)) s') (he : ∀ s', Fin X pins σ Q k s' → Q' none s') :
    wpAny (model X.prog X.w) X.A.in1 (pyNext (.ref a)) Q' E s := by
  obtain ⟨hg, hl, hb0, gs, hgs, hgo⟩ := h
  have hgl : g < s.gens.size := (Array.getElem?_eq_some_iff.mp hgs).1
  refine GenW.wpAny_gsz (n := g + 1) hgl (wpAny_pyNext_genexpQ (A := X.A.in1) (P := fun _ _ s => AllBare s.gens ∧ Fin X pins σ Q k s) hh hl hd hg hgs hgo (fun v s1 gs1 hbare hv => ?_) fun s1 hp h1 hk => ?_)
  · intro hsz
    obtain ⟨b, rfl, hg1, hl1, hb1, q1, q2⟩ := hv
    have hG : AllBare (s1.setGen g gs1).gens := allBare_setGen hb1 hbare
    have es : s1.setGen g gs1 = { s1 with gens := (s1.setGen g gs1).gens } := rfl
    refine hy b _ (fun e => by rw [es]; exact (q1 e).gens hG) fun e => ?_
    have hsz1 : g < s1.gens.size := by
      have z : (s1.setGen g gs1).gens.size = s1.gens.size := GenW.setGen_size _ _ _
      have z2 : g + 1 ≤ (s1.setGen g gs1).gens.size := hsz
      omega
    cases n with
    | zero => exact False.elim (q2 e s1.gens hb1)
    | succ m =>
      refine ⟨m, Nat.lt_succ_self m, hg1, hl1, hG, gs1, setGen_at hsz1, ?_⟩
      exact q2 e ((s1.setGen g gs1).setGen g .running).gens (allBare_setGen hG rfl)
  · intro _
    have z := (Fin.gens (G := (s1.setGen g .finished).gens) hp.2 (allBare_setGen hp.1 rfl)).kept hk
    exact he _ z

theorem all_loop {R : Result → Shared → Prop} (hh : X.A.handled = none) (hd : X.A.depth < recursionLimit) (hR : ∀ b s, Fin X pins σ Q b s → R (.ok (.ret (.bool b))) s) :
    ∀ (n : Nat) (s : Shared), Live X pins σ Q true a g n s → codeAny (model X.prog X.w) X.A (.builtin "all.loop" ⟨[.ref a], []⟩) R s := by
  intro n
  induction n using Nat.strongRecOn with
  | ind n ih =>
    intro s h
    refine codeAny_builtin F.entry_all_loop ?_
    rw [Around.under_plainId F.plain_all_loop _]
    show wpAny _ X.A.in1 (pyNext (.ref a) >>= _) _ _ s
    refine wpAny_bind (next_live hh hd h (fun b s1 q1 q2 => ?_) fun s1 q => ?_)
    · refine wpAny_bind (wpAny_holding (wpAny_truthy_bool ?_))
      refine wpAny_bind (wpAny_letGo ?_)
      cases b with
      | true =>
        simp only [if_true]
        obtain ⟨m, hm, hL⟩ := q2 rfl
        exact wpAny_pure ⟨plainId_quiet F.plain_all_loop _, ih m hm _ hL⟩
      | false =>
        simp only [Bool.false_eq_true, if_false]
        exact wpAny_bind (wpAny_rule (wpAny_pure (hR _ _ (q1 rfl))))
    · exact wpAny_bind (wpAny_rule (wpAny_pure (hR _ _ q)))
theorem any_loop {R : Result → Shared → Prop} (hh : X.A.handled = none) (hd : X.A.depth < recursionLimit) (hR : ∀ b s, Fin X pins σ Q b s → R (.ok (.ret (.bool b))) s) :
    ∀ (n : Nat) (s : Shared), Live X pins σ Q false a g n s → codeAny (model X.prog X.w) X.A (.builtin "any.loop" ⟨[.ref a], []⟩) R s := by
  intro n
  induction n using Nat.strongRecOn with
  | ind n ih =>
    intro s h
    refine codeAny_builtin F.entry_any_loop ?_
    rw [Around.under_plainId F.plain_any_loop _]
    show wpAny _ X.A.in1 (pyNext (.ref a) >>= _) _ _ s
    refine wpAny_bind (next_live hh hd h (fun b s1 q1 q2 => ?_) fun s1 q => ?_)
    · refine wpAny_bind (wpAny_holding (wpAny_truthy_bool ?_))
      refine wpAny_bind (wpAny_letGo ?_)
      cases b with
      | false =>
        simp only [Bool.false_eq_true, if_false]
        obtain ⟨m, hm, hL⟩ := q2 rfl
        exact wpAny_pure ⟨plainId_quiet F.plain_any_loop _, ih m hm _ hL⟩
      | true =>
        simp only [if_true]
        exact wpAny_bind (wpAny_rule (wpAny_pure (hR _ _ (q1 rfl))))
    · exact wpAny_bind (wpAny_rule (wpAny_pure (hR _ _ q)))
theorem call_all_live {n : Nat} {s : Shared} {Q' : Value → Shared → Prop} {E : Value → Shared → Prop} (hh : X.A.handled = none) (hd : X.A.depth < recursionLimit) (h : Live X pins σ Q true a g n s) (hQ : ∀ b s', Fin X pins σ Q b s' → Q' (.bool b) s') :
    wpAny (model X.prog X.w) X.A (call (.builtin "all") [.ref a]) Q' E s := by
  refine call_function_tree F.kind_all F.plain_all F.entry_all (F.args_all1 _) ?_
  unfold Builtin.«all»
  refine wpAny_bind (m := oneArg "all" _) (wpAny_pure ?_)
  refine wpAny_bind (wpAny_pyIter_gen h.1 ?_)
  exact wpAny_pure ⟨plainId_quiet F.plain_all_loop _, all_loop hh hd (fun b s' q => hQ b s' q) n s h⟩
theorem call_any_live {n : Nat} {s : Shared} {Q' : Value → Shared → Prop} {E : Value → Shared → Prop} (hh : X.A.handled = none) (hd : X.A.depth < recursionLimit) (h : Live X pins σ Q false a g n s) (hQ : ∀ b s', Fin X pins σ Q b s' → Q' (.bool b) s') :
    wpAny (model X.prog X.w) X.A (call (.builtin "any") [.ref a]) Q' E s := by
  refine call_function_tree F.kind_any F.plain_any F.entry_any (F.args_any1 _) ?_
  unfold Builtin.«any»
  refine wpAny_bind (m := oneArg "any" _) (wpAny_pure ?_)
  refine wpAny_bind (wpAny_pyIter_gen h.1 ?_)
  exact wpAny_pure ⟨plainId_quiet F.plain_any_loop _, any_loop hh hd (fun b s' q => hQ b s' q) n s h⟩
end

/-! ### the generator's own turns -/
theorem mono_no {α : Type} {t : Sem α} {Q Q' : α → Shared → Prop} {M : Model} {A : Around} {E : Value → Shared → Prop} {s : Shared} (h : wpAny M A t Q (fun _ _ => False) s) (hQ : ∀ a s, Q a s → Q' a s) : wpAny M A t Q' E s :=
  wpAny_mono h hQ fun _ _ z => False.elim z

section
variable {X : Cx} {pins : List (Addr × Obj)} {σ : L2.St} {Q : VK} {k : Bool} {a : Addr} {g : Nat} {o : Obj} {s4 : Shared} {H3 : Hp} {sc : Scope} {own : List (Str × Nat)} {ce : Env} {fp : List Addr} {it : Addr} {tn : Nat → Heap → Prop} {J : It} {B : Around}
  {elt tg iter : Expr} {ifs : List Expr} {pos : Pos} {gt : TG} {tt : TT} {te : TE} {W : Nat → Nat → Hp → Prop}
theorem gen_turns (hB : B = X.A.in1.in1.over (.compLoop (.GeneratorExp elt [⟨tg, iter, ifs, 0⟩] sc pos) 0 (.ref it) .none ce) []) (hco : ce.scope.isCoroutine = false)
    (I4 : Inv X pins σ H3 s4) (T : Turn X.prog X.w X.K tg J fp it tn) (ffp : ∀ b ∈ fp, FpOk X pins H3 b) (hafp : ∀ b ∈ fp, b ≠ a) (hgo : ∃ nm qn, o.cls = .type "generator" ∧ o.data = .fields #[.int g 0, nm, qn] ∧ o.slots = #[])
    (pg : PG (gcx X s4 H3 sc ce fp a o B) tg gt) (pt : PTs (gcx X s4 H3 sc ce fp a o B) ifs tt) (pe : PE (gcx X s4 H3 sc ce fp a o B) elt te)
    (turn : ∀ i m H, W i m H → (J.stop i H ∧ Q (.bl k) H) ∨ (J.go i H ∧ ∃ Nx : Hp → Prop, (∀ H', Nx H' → ∃ m', m' < m ∧ W (i + 1) m' H') ∧ ∀ x H', J.yld i H x H' → gt x (wipe σ (own.map (·.2))) H' fun σ2 H2 => wipe σ2 (own.map (·.2)) = wipe σ (own.map (·.2)) ∧ tt σ2 H2 fun b H3 =>
      if b = true then te σ2 H3 fun y H4 => ∃ c, y = .bl c ∧ (c = k → Nx H4) ∧ (c = (!k) → Q (.bl (!k)) H4) else Nx H3)) :
    ∀ (m n i : Nat) (s0 s : Shared) (H : Hp), m < n → Inv (gcx X s4 H3 sc ce fp a o B) [] (wipe σ (own.map (·.2))) H s → tn i s.heap → (∀ b ∈ fp, H b = none) → W i m H →
      Seg (model X.prog X.w) X.A.in1.in1 (GR1 X pins σ Q k) (GY1 X pins σ Q k a g) n s0 (.compLoop (.GeneratorExp elt [⟨tg, iter, ifs, 0⟩] sc pos) 0 (.ref it) .none ce)
        ((model X.prog X.w).den (.compLoop (.GeneratorExp elt [⟨tg, iter, ifs, 0⟩] sc pos) 0 (.ref it) .none ce)) [] s := by
  have stat : ∀ {σ' : L2.St} {H' : Hp} {s' : Shared}, Inv (gcx X s4 H3 sc ce fp a o B) [] σ' H' s' → (∀ b ∈ fp, H' b = none) → ∀ b ∈ fp, FpOk (gcx X s4 H3 sc ce fp a o B) [] H' b := fun {σ' H' s'} I' hn b hb =>
    ⟨hn b hb, (I'.ok.exf b hb).1, I'.ok.exfs b hb, .inl hb, fun x c e => (I'.ok.exf b hb).2 x c e, fun p hp z => by
      have hp : p = (a, o) := by simpa using hp
      subst hp
      exact hafp b hb z.symm⟩
  -- back in the def's context
  have back : ∀ {σ' : L2.St} {H' : Hp} {s' : Shared} {ps : List (Addr × Obj)}, Inv (gcx X s4 H3 sc ce fp a o B) ps σ' H' s' → Inv X pins σ H' s' := fun {σ' H' s' ps} I6 =>
    I4.call' (ch := fp) I6.os I6.base I6.hok I6.bare fun b hb => ⟨(ffp b hb).2.2.2.1, (ffp b hb).2.1, (ffp b hb).2.2.2.2.1, (ffp b hb).2.2.2.2.2⟩
  have isg : ∀ {σ' : L2.St} {H' : Hp} {s' : Shared} {ps : List (Addr × Obj)}, Inv (gcx X s4 H3 sc ce fp a o B) ps σ' H' s' → s'.heap.IsGen a g := fun {σ' H' s' ps} I6 => by
    obtain ⟨nm, qn, h1, h2, h3⟩ := hgo
    exact ⟨o, nm, qn, (I6.pin (a, o) (by simp)).1, h1, h2, h3⟩
  have hy : ∀ v, yieldOut ce v = yieldValue v := fun v => by simp only [yieldOut, hco, Bool.false_eq_true, if_false]
  intro m
  induction m using Nat.strongRecOn with
  | ind m ih =>
    intro n i s0 s H hmn I st nf w
    show Seg _ X.A.in1.in1 _ _ _ s0 _ ((compTurn (.GeneratorExp elt [⟨tg, iter, ifs, 0⟩] sc pos) 0 (.ref it) .none ce).onRaise (leaving ce)) [] s
    rw [compTurn_gen, Sem.onRaise_eq_wrap]
    refine seg_bind_wrap (wpAny_standAt ?_)
    rcases turn i m H w with ⟨stop, q⟩ | ⟨go, Nx, hNx, step⟩
    · refine seg_bind_wrap ?_
      rw [← hB]
      refine mono_no (T.done (gcx X s4 H3 sc ce fp a o B) rfl rfl rfl rfl i [] s _ H (fun _ _ => False) I (stat I nf) st stop) fun r s6 hr => ?_
      obtain ⟨hr, I6⟩ := hr
      subst hr
      exact seg_end (.ok .next) ⟨rfl, I6.bare, H, back I6, q⟩
    · refine seg_bind_wrap ?_
      rw [← hB]
      refine mono_no (T.item (gcx X s4 H3 sc ce fp a o B) rfl rfl rfl rfl i [] s _ H (fun _ _ => False) I (stat I nf) st go) fun r s6 hr => ?_
      obtain ⟨u, hr, h6⟩ := hr
      subst hr
      refine seg_bind_wrap ?_
      rw [← hB]
      refine mono_no h6 fun _ s7 h7 => ?_
      obtain ⟨x, H7, I7, r7, y7, st7, n7⟩ := h7
      have I7' := I7.pinned (stat I7 n7) (T.obj _ _ st7)
      refine seg_bind_wrap ?_
      rw [← hB]
      refine mono_no (pg.run _ s7 _ H7 x u _ I7' r7 (step x H7 y7)) fun _ s8 h8 => ?_
      obtain ⟨σ8, H8, I8, hw8, q8⟩ := h8
      refine seg_bind_wrap ?_
      rw [← hB]
      refine mono_no (pt.run _ s8 σ8 H8 _ I8 q8) fun b s9 h9 => ?_
      obtain ⟨H9, I9, q9⟩ := h9
      -- the turn's end
      have fin : ∀ {s' : Shared} {H' : Hp}, Inv (gcx X s4 H3 sc ce fp a o B) ([] ++ pinsAt fp s7.heap) σ8 H' s' → Nx H' → ∃ m', m' < m ∧ Inv (gcx X s4 H3 sc ce fp a o B) [] (wipe σ (own.map (·.2))) H' s' ∧ tn (i + 1) s'.heap ∧ (∀ b ∈ fp, H' b = none) ∧ W (i + 1) m' H' := fun {s' H'} I' nx => by
        obtain ⟨m', hm, w'⟩ := hNx H' nx
        have pin' : ∀ b ∈ fp, ∀ ob, s7.heap.get? b = some ob → s'.heap.get? b = some ob ∧ H' b = none := fun b hb ob e => by
          have z := I'.pin (b, ob) (List.mem_append_right _ (List.mem_append_right _ (mem_pinsAt hb e)))
          exact ⟨z.1, z.2.1⟩
        have hl : (wipe σ (own.map (·.2))).length = σ8.length := by rw [← hw8, wipe_length]
        refine ⟨m', hm, (I'.unpinned (pins := [])).weak hl (fun j v e => ?_), T.keep _ _ _ st7 fun b hb ob e => (pin' b hb ob e).1, fun b hb => ?_, w'⟩
        · rw [← hw8] at e
          exact (wipe_some e).1
        · obtain ⟨ob, e, _⟩ := T.obj _ _ st7 b hb
          exact (pin' b hb ob e).2
      cases b with
      | false =>
        simp only [Bool.false_eq_true, if_false] at q9 ⊢
        obtain ⟨m', hm, J1, J2, J3, J4⟩ := fin I9 q9
        exact seg_again rfl (ih m' hm n (i + 1) s0 s9 H9 (Nat.lt_trans hm hmn) J1 J2 J3 J4)
      | true =>
        simp only [if_true] at q9 ⊢
        simp only [hy]
        rw [Sem.bind_eq_wrap', Sem.bind_eq_wrap', Sem.wrap_wrap, Sem.wrap_wrap]
        refine seg_wrap ?_
        rw [← hB]
        refine mono_no (pe.run _ s9 σ8 H9 _ I9 q9) fun z s10 h10 => ?_
        obtain ⟨y, H10, I10, r10, c, rfl, c1, c2⟩ := h10
        obtain rfl : z = Value.bool c := r10
        obtain ⟨n', rfl⟩ : ∃ n', n = n' + 1 := ⟨n - 1, by omega⟩
        refine seg_at (seg_yield rfl rfl rfl ⟨c, rfl, isg I10, I10.nolimit, I10.bare, fun e => ⟨H10, back I10, c2 e⟩, fun e G hG => ?_⟩)
        obtain ⟨m', hm, J1, J2, J3, J4⟩ := fin I10 (c1 e)
        exact seg_again rfl (ih m' hm n' (i + 1) _ _ H10 (by omega) (inv_gens J1 hG) J2 J3 J4)

/-- .. from its start -/
theorem gen_begins (hB : B = X.A.in1.in1.over (.compLoop (.GeneratorExp elt [⟨tg, iter, ifs, 0⟩] sc pos) 0 (.ref it) .none ce) []) (hco : ce.scope.isCoroutine = false)
    (I4 : Inv X pins σ H3 s4) (T : Turn X.prog X.w X.K tg J fp it tn) (ffp : ∀ b ∈ fp, FpOk X pins H3 b) (hafp : ∀ b ∈ fp, b ≠ a) (hgo : ∃ nm qn, o.cls = .type "generator" ∧ o.data = .fields #[.int g 0, nm, qn] ∧ o.slots = #[])
    (pg : PG (gcx X s4 H3 sc ce fp a o B) tg gt) (pt : PTs (gcx X s4 H3 sc ce fp a o B) ifs tt) (pe : PE (gcx X s4 H3 sc ce fp a o B) elt te)
    (turn : ∀ i m H, W i m H → (J.stop i H ∧ Q (.bl k) H) ∨ (J.go i H ∧ ∃ Nx : Hp → Prop, (∀ H', Nx H' → ∃ m', m' < m ∧ W (i + 1) m' H') ∧ ∀ x H', J.yld i H x H' → gt x (wipe σ (own.map (·.2))) H' fun σ2 H2 => wipe σ2 (own.map (·.2)) = wipe σ (own.map (·.2)) ∧ tt σ2 H2 fun b H3 =>
      if b = true then te σ2 H3 fun y H4 => ∃ c, y = .bl c ∧ (c = k → Nx H4) ∧ (c = (!k) → Q (.bl (!k)) H4) else Nx H3))
    {m : Nat} {s0 s : Shared} {H : Hp} (I : Inv (gcx X s4 H3 sc ce fp a o B) [] (wipe σ (own.map (·.2))) H s) (st : tn 0 s.heap) (nf : ∀ b ∈ fp, H b = none) (w : W 0 m H) :
      Seg (model X.prog X.w) X.A.in1.in1 (GR1 X pins σ Q k) (GY1 X pins σ Q k a g) (m + 1) s0 (.compStart (.GeneratorExp elt [⟨tg, iter, ifs, 0⟩] sc pos) 0 (.ref it) .none ce)
        ((model X.prog X.w).den (.compStart (.GeneratorExp elt [⟨tg, iter, ifs, 0⟩] sc pos) 0 (.ref it) .none ce)) [] s := by
  have loop := gen_turns (W := W) hB hco I4 T ffp hafp hgo pg pt pe turn m (m + 1) 0 s0 s H (Nat.lt_succ_self m) I st nf w
  show Seg _ X.A.in1.in1 _ _ _ s0 _ ((compStart (.GeneratorExp elt [⟨tg, iter, ifs, 0⟩] sc pos) 0 (.ref it) .none ce).onRaise (leaving ce)) [] s
  unfold compStart
  rw [Sem.onRaise_eq_wrap]
  show Seg _ X.A.in1.in1 _ _ _ s0 _ ((ask >>= _).wrap _ _ _ _) [] s
  refine seg_bind_wrap (wpAny_askSetting ?_)
  split
  · exact seg_again rfl loop
  · first
      | exact seg_bind_wrap (wpAny_rule (seg_bind_wrap (wpAny_standAt (seg_bind_wrap (T.self _ 0 s _ _ st (seg_again rfl loop))))))
      | (refine seg_bind_wrap (wpAny_rule ?_); show Seg _ X.A.in1.in1 _ _ _ s0 _ ((standAt iter.pos >>= _).wrap _ _ _ _) [] s; exact seg_bind_wrap (wpAny_standAt (seg_bind_wrap (T.self _ 0 s _ _ st (seg_again rfl loop)))))
end

/-- the generator expression's own scope -/
structure GScp (X : Cx) (sc : Scope) (own : List (Str × Nat)) : Prop where
  co : sc.isCoroutine = false
  cell : ∀ y ∈ sc.names, y.2 ≠ .cell
  dot : sc.names.lookup (".0" : Str) = some NameKind.local
  blk : BlkOk X.N X.env.scope sc own

section
variable {X : Cx} {pins : List (Addr × Obj)} {σ : L2.St} {H : Hp} {s : Shared} {Q : VK} {k : Bool} {j : Nat} {c P : Addr} {sc : Scope} {own : List (Str × Nat)} {elt tg iter : Expr} {ifs : List Expr} {gpos p pos : Pos} {wi : TI} {gt : TG} {tt : TT} {te : TE}
theorem gen_room {X : Cx} {j : Nat} {code : Code} (hr : Room (j + 1) X.A) (h1 : code.weight = 1) (h2 : code.cUnits ≤ 3) : Room j (X.A.in1.in1.over code []) := by
  refine ⟨hr.hd, ?_, ?_⟩
  · have e : (X.A.in1.in1.over code []).depth = X.A.depth + 0 + code.weight := rfl
    have := hr.dp
    rw [e, h1]
    omega
  · have e : (X.A.in1.in1.over code []).units = X.A.units + 1 + 1 + 0 + code.cUnits := rfl
    have := hr.un
    rw [e]
    omega
theorem gen_frames {A : Around} {l : List Env} {ce : Env} {iv acc : Value} (h : A.frames = some l) : (A.in1.in1.over (.compLoop (.GeneratorExp elt [⟨tg, iter, ifs, 0⟩] sc gpos) 0 iv acc ce) []).frames = some (ce :: l) := by
  have e : A.in1.in1.frames = some l := h
  have e2 : (A.in1.in1.over (.compLoop (.GeneratorExp elt [⟨tg, iter, ifs, 0⟩] sc gpos) 0 iv acc ce) []).frames = pushEnvs (Code.envs (.compLoop (.GeneratorExp elt [⟨tg, iter, ifs, 0⟩] sc gpos) 0 iv acc ce)) (pushEnvs (envsOf []) A.in1.in1.frames) := rfl
  rw [e2, e]
  rfl
theorem gen_made {Q' : Value → Shared → Prop} (hr : Room (j + 1) X.A) (hN : X.N.Nodup) (TB : TabB X.base X.mg c P) (hcode : X.env.code = .ref c) (S : GScp X sc own) (hi : PI X tg iter wi)
    (hg : ∀ (s : Shared) (H : Hp) (cl : List (Str × Addr)) (C : Addr) (code : Value) (fp : List Addr) (a : Addr) (o : Obj) (B : Around), PG (gcx X s H sc (genEnv sc cl C code builtinsNs X.env) fp a o B) tg gt)
    (ht : ∀ (s : Shared) (H : Hp) (cl : List (Str × Addr)) (C : Addr) (code : Value) (fp : List Addr) (a : Addr) (o : Obj) (B : Around), Room j B → PTs (gcx X s H sc (genEnv sc cl C code builtinsNs X.env) fp a o B) ifs tt)
    (he : ∀ (s : Shared) (H : Hp) (cl : List (Str × Addr)) (C : Addr) (code : Value) (fp : List Addr) (a : Addr) (o : Obj) (B : Around), Room j B → PE (gcx X s H sc (genEnv sc cl C code builtinsNs X.env) fp a o B) elt te)
    (hs : ∀ v, genFold iter X.env v = pure v) (I : Inv X pins σ H s) (h : tGen k P wi gt tt te (own.map (·.2)) σ H Q) (hQ : ∀ a g n s5, Live X pins σ Q k a g n s5 → Q' (.ref a) s5) :
    wpAny (model X.prog X.w) X.A (eval (.GeneratorExp elt [⟨tg, iter, ifs, 0⟩] sc gpos) X.env) Q' X.xe s := by
  have hfree : ∀ y ∈ sc.names, y.2 = .free → ∃ c, X.env.cells.lookup y.1 = some c := fun y hy e => by
    rcases S.blk.free y hy e with k | k
    · exact I.ok.has _ (.inl k)
    · exact I.ok.has _ (.inr k)
  refine wpAny_GeneratorExp_make S.co (closure_ok hfree) S.cell S.dot S.blk.kind (by have := hr.dp; omega) ?_ hs
  refine thn (hi.run pins s σ H _ I h) fun xv s1 hx => thn hx fun itv s2 h2 => ?_
  obtain ⟨it, fp, tn, J, H2, rfl, I2, T, st2, f2, ⟨ps, hP, hTr⟩, q⟩ := h2
  have hPs : s2.heap.get? P = some { cls := .none, data := .fields ps } := I2.hok P _ hP
  have cd : PySem.W.CodeHd s2.heap c P := TB.code.keeps fun b u e => I2.bk b u e
  refine ⟨I2.nolimit, ?_⟩
  have nP : ∀ b, H2 b = none → b ≠ P := fun b e z => by
    rw [z, hP] at e
    cases e
  have szf : ∀ b ∈ fp, b < s2.heap.objs.size := fun b hb => by
    obtain ⟨u, e, _⟩ := T.obj _ _ st2 b hb
    exact Heap.lt_size e
  have cont : ∀ (code : Value) (h3 : Heap) (tk : Nat) (ps' : Array Value), Heap.ExtBut P s2.heap h3 → s2.heap.objs.size ≤ h3.objs.size → h3.get? P = some { cls := .none, data := .fields ps' } → (∃ more, ps' = ps ++ more) → TriplesOk ps'.toList →
      wpAny (model X.prog X.w) X.A (builtinsFor X.env.globals X.env.builtins) (fun bi s₄ =>
        ∀ h', h'.Ns s₄.heap.objs.size (fun y => if y = ".0" then some (.ref it) else none) → Heap.SameBut s₄.heap.objs.size (s₄.heap.push { cls := .type "frame", data := .dict #[] }) h' →
          Q' (.ref h'.objs.size) { s₄ with
            gens := s₄.gens.push (.fresh (.compStart (.GeneratorExp elt [⟨tg, iter, ifs, 0⟩] sc gpos) 0 (.ref it) .none (genEnv sc (cloFrom X.env.cells sc.names []) s₄.heap.objs.size code bi X.env))),
            toks := s₄.toks + 1 + 1 + 1,
            heap := h'.push { cls := .type "generator", data := .fields #[.int s₄.gens.size 0, .str "<genexpr>" (s₄.toks + 1), .str (X.env.qual ++ "<genexpr>") (s₄.toks + 1 + 1)] } }) X.xe { s2 with heap := h3, toks := tk } := by
    intro code h3 tk ps' hx3 hsz3 hP3 hmore ht3
    have I3 : Inv X pins σ (upd H2 P (.tbl ps')) { s2 with heap := h3, toks := tk } := by
      obtain ⟨more, rfl⟩ := hmore
      exact inv_tab (more := more) (h' := h3) (g' := s2.gens) (d' := s2.drawn) (t' := tk) I2 hP (fun b u hb e => hx3 b u hb e) hP3 I2.bare
    generalize hH3 : upd H2 P (.tbl ps') = H3 at I3
    have hT3 : Tabbed P H2 H3 := by
      rw [← hH3]
      exact ⟨⟨ps', upd_same, ht3⟩, fun b hb => upd_ne hb⟩
    obtain ⟨W, ⟨m0, w0⟩, turn⟩ := q H3 hT3
    obtain ⟨bm, ob, e1, e2, e3, e4, e5, e6, e7, e8⟩ := TB.bm
    refine wpAny_builtinsFor (m := X.mg) (by rw [I3.ok.glob]; exact I3.mod.glob.keeps I3.bk) e1 e2 (I3.bk _ _ e5) e6 e7 e8 ?_
    intro h' hn' hs'
    have hsz : h'.objs.size = h3.objs.size + 1 := by
      rw [hs'.1, Heap.size_push]
    have keep' : ∀ b u, h3.get? b = some u → h'.get? b = some u := fun b u e => hs'.extBut b u (Nat.ne_of_lt (Heap.lt_size e)) (Heap.get?_push_of_some _ e)
    have hlt : h3.objs.size < h'.objs.size := by
      have hsz' : h'.objs.size = h3.objs.size + 1 := hsz
      omega
    have f3 : ∀ b ∈ fp, FpOk X pins H3 b := fun b hb => by
      have z := f2 b hb
      exact ⟨(hT3.2 b (nP b z.1)).trans z.1, z.2⟩
    have st3 : tn 0 h3 := T.keep _ _ _ st2 fun b hb u e => hx3 b u (nP b (f2 b hb).1) e
    have gb : AllBare (s2.gens.push (.fresh (.compStart (.GeneratorExp elt [⟨tg, iter, ifs, 0⟩] sc gpos) 0 (.ref it) .none (genEnv sc (cloFrom X.env.cells sc.names []) h3.objs.size code builtinsNs X.env)))) := I2.bare.push rfl
    have hsz2 : ∀ b ∈ fp, b < h3.objs.size := fun b hb => Nat.lt_of_lt_of_le (szf b hb) hsz3
    have keep5 : ∀ (u : Obj) b v, h3.get? b = some v → (h'.push u).get? b = some v := fun u b v e => Heap.get?_push_of_some _ (keep' b v e)
    refine hQ _ s2.gens.size (m0 + 1) _ ⟨⟨_, _, _, Heap.get?_push_size _ rfl, rfl, rfl, rfl⟩, I3.nolimit.keeps (keep5 _), gb, _, Array.getElem?_push_size .., rfl, ?_⟩
    refine gen_begins (own := own) (fp := fp) (tn := tn) (J := J) (W := W) (H3 := H3) (s4 := { s2 with heap := h3, toks := tk }) rfl S.co I3 T f3 (fun b hb z => ?_) ⟨_, _, rfl, rfl, rfl⟩ (hg _ _ _ _ _ _ _ _ _) (ht _ _ _ _ _ _ _ _ _ (gen_room hr rfl (by show (3 : Nat) ≤ 3; decide))) (he _ _ _ _ _ _ _ _ _ (gen_room hr rfl (by show (3 : Nat) ≤ 3; decide))) turn
      (inv_gens (gen_start (s' := { s2 with heap := h'.push _, toks := tk + 1 + 1 + 1, gens := s2.gens.push _ }) (a := h'.objs.size) I3 S.blk S.cell hN (fun b hb => ⟨f3 b hb, hsz2 b hb⟩) rfl rfl rfl rfl rfl rfl ?_ hr.hd rfl gb (keep5 _) ⟨_, Heap.Ns.push hn' _⟩ (Heap.get?_push_size _ rfl) hlt (fun v z => by cases z)) (allBare_setGen (s := { s2 with heap := h'.push _, toks := tk + 1 + 1 + 1, gens := s2.gens.push _ }) gb rfl))
      (T.keep _ _ _ st3 fun b hb u e => keep5 _ b u e) (fun b hb => (f3 b hb).1) w0
    · have h1 := hsz2 b hb
      rw [z] at h1
      exact absurd (Nat.lt_trans h1 hlt) (Nat.lt_irrefl _)
    · exact gen_frames I3.ok.frames
  cases hf : codeAmong gpos ps.toList with
  | none =>
    refine wpAny_genexprCodeX hcode (cd.code hPs hTr) (cd.tab hPs) hf fun c' h' tk hx hge hlt hco' _ htab' _ => ?_
    obtain ⟨o1, vs, f1, tf, fl, tg1, inF, tx, tt1, op, _, _, _, _, _, _, _, _, _, htr, _⟩ := hco'
    exact cont _ h' tk _ hx (Nat.le_trans hge (Nat.le_of_lt hlt)) htab'.2 ⟨_, rfl⟩ htr
  | some cv =>
    refine wpAny_genexprCode_hit hcode (cd.code hPs hTr) hf ?_
    exact cont cv s2.heap s2.toks ps (Heap.ExtBut.refl _ _) (Nat.le_refl _) hPs ⟨#[], by simp⟩ hTr

/-- all(elt for tg in iter if ..) -/
theorem pe_allG (hr : Room (j + 1) X.A) (hN : X.N.Nodup) (hgl : Gl X "all") (hm : X.mg "all" = none) (hb : bootBuiltins "all" = some (.builtin "all")) (TB : TabB X.base X.mg c P) (hcode : X.env.code = .ref c) (S : GScp X sc own) (hi : PI X tg iter wi)
    (hg : ∀ (s : Shared) (H : Hp) (cl : List (Str × Addr)) (C : Addr) (code : Value) (fp : List Addr) (a : Addr) (o : Obj) (B : Around), PG (gcx X s H sc (genEnv sc cl C code builtinsNs X.env) fp a o B) tg gt)
    (ht : ∀ (s : Shared) (H : Hp) (cl : List (Str × Addr)) (C : Addr) (code : Value) (fp : List Addr) (a : Addr) (o : Obj) (B : Around), Room j B → PTs (gcx X s H sc (genEnv sc cl C code builtinsNs X.env) fp a o B) ifs tt)
    (he : ∀ (s : Shared) (H : Hp) (cl : List (Str × Addr)) (C : Addr) (code : Value) (fp : List Addr) (a : Addr) (o : Obj) (B : Around), Room j B → PE (gcx X s H sc (genEnv sc cl C code builtinsNs X.env) fp a o B) elt te)
    (hs : ∀ v, genFold iter X.env v = pure v := by intro _; rfl)
    (hst : starEach [.GeneratorExp elt [⟨tg, iter, ifs, 0⟩] sc gpos] X.env = (false, eval (.GeneratorExp elt [⟨tg, iter, ifs, 0⟩] sc gpos) X.env) :: starEach [] X.env := by rfl) :
    PE X (.Call (.Name "all" p) [.GeneratorExp elt [⟨tg, iter, ifs, 0⟩] sc gpos] [] pos) (tGen true P wi gt tt te (own.map (·.2))) := by
  refine ⟨fun pins s σ H Q I h => ?_⟩
  refine wpAny_Call_Name_kw (ld_blt I hgl hm hb ?_)
  refine PyProof.Rows.callWith_builtin1 ?_ hst (by rfl)
  rw [hst]
  show wpAny _ _ (spliced ((false, eval (.GeneratorExp elt [⟨tg, iter, ifs, 0⟩] sc gpos) X.env) :: backTo pos (starEach [] X.env))) _ _ s
  refine Calls.spliced_cons (gen_made hr hN TB hcode S hi hg ht he hs I h fun a g n s5 hL => ?_)
  refine Calls.spliced_nil ?_
  refine call_all_live hr.hd (by have := hr.dp; omega) hL fun b s' hf => ?_
  obtain ⟨H', I', q⟩ := hf
  exact ⟨.bl b, H', I', rfl, q⟩
/-- any(elt for tg in iter if ..) -/
theorem pe_anyG (hr : Room (j + 1) X.A) (hN : X.N.Nodup) (hgl : Gl X "any") (hm : X.mg "any" = none) (hb : bootBuiltins "any" = some (.builtin "any")) (TB : TabB X.base X.mg c P) (hcode : X.env.code = .ref c) (S : GScp X sc own) (hi : PI X tg iter wi)
    (hg : ∀ (s : Shared) (H : Hp) (cl : List (Str × Addr)) (C : Addr) (code : Value) (fp : List Addr) (a : Addr) (o : Obj) (B : Around), PG (gcx X s H sc (genEnv sc cl C code builtinsNs X.env) fp a o B) tg gt)
    (ht : ∀ (s : Shared) (H : Hp) (cl : List (Str × Addr)) (C : Addr) (code : Value) (fp : List Addr) (a : Addr) (o : Obj) (B : Around), Room j B → PTs (gcx X s H sc (genEnv sc cl C code builtinsNs X.env) fp a o B) ifs tt)
    (he : ∀ (s : Shared) (H : Hp) (cl : List (Str × Addr)) (C : Addr) (code : Value) (fp : List Addr) (a : Addr) (o : Obj) (B : Around), Room j B → PE (gcx X s H sc (genEnv sc cl C code builtinsNs X.env) fp a o B) elt te)
    (hs : ∀ v, genFold iter X.env v = pure v := by intro _; rfl)
    (hst : starEach [.GeneratorExp elt [⟨tg, iter, ifs, 0⟩] sc gpos] X.env = (false, eval (.GeneratorExp elt [⟨tg, iter, ifs, 0⟩] sc gpos) X.env) :: starEach [] X.env := by rfl) :
    PE X (.Call (.Name "any" p) [.GeneratorExp elt [⟨tg, iter, ifs, 0⟩] sc gpos] [] pos) (tGen false P wi gt tt te (own.map (·.2))) := by
  refine ⟨fun pins s σ H Q I h => ?_⟩
  refine wpAny_Call_Name_kw (ld_blt I hgl hm hb ?_)
  refine PyProof.Rows.callWith_builtin1 ?_ hst (by rfl)
  rw [hst]
  show wpAny _ _ (spliced ((false, eval (.GeneratorExp elt [⟨tg, iter, ifs, 0⟩] sc gpos) X.env) :: backTo pos (starEach [] X.env))) _ _ s
  refine Calls.spliced_cons (gen_made hr hN TB hcode S hi hg ht he hs I h fun a g n s5 hL => ?_)
  refine Calls.spliced_nil ?_
  refine call_any_live hr.hd (by have := hr.dp; omega) hL fun b s' hf => ?_
  obtain ⟨H', I', q⟩ := hf
  exact ⟨.bl b, H', I', rfl, q⟩
end
end Rd

namespace Rd
open PySem PySem.Spec PyProof.Rows L2 GxR

/-! ### heaps: all that was tracked is as it was, but for the tables of the defs that hold a generator expression -/
def Tb (Ps : List Addr) (H : Hp) : Prop := ∀ P ∈ Ps, TabG H P
def Kp (Ps : List Addr) (H H' : Hp) : Prop := Tb Ps H' ∧ ∀ b o, b ∉ Ps → H b = some o → H' b = some o
theorem Kp.refl {Ps : List Addr} {H : Hp} (t : Tb Ps H) : Kp Ps H H := ⟨t, fun _ _ _ e => e⟩
theorem Kp.trans {Ps : List Addr} {H H1 H2 : Hp} (a : Kp Ps H H1) (b : Kp Ps H1 H2) : Kp Ps H H2 := ⟨b.1, fun c o hc e => b.2 c o hc (a.2 c o hc e)⟩
theorem Tb.notin {Ps : List Addr} {H : Hp} (t : Tb Ps H) {b : Addr} {o : HO} (e : H b = some o) (ho : ∀ ps, o ≠ .tbl ps) : b ∉ Ps := fun hb => by
  obtain ⟨ps, h1, _⟩ := t b hb
  rw [e] at h1
  exact ho ps (Option.some.inj h1)
theorem Tb.none {Ps : List Addr} {H : Hp} (t : Tb Ps H) {b : Addr} (e : H b = Option.none) : b ∉ Ps := fun hb => by
  obtain ⟨ps, h1, _⟩ := t b hb
  rw [e] at h1
  cases h1
theorem Tb.same {Ps : List Addr} {H H' : Hp} (t : Tb Ps H) (s : Same H H') : Tb Ps H' := fun P hP => by
  obtain ⟨ps, h1, h2⟩ := t P hP
  exact ⟨ps, s _ _ h1, h2⟩
theorem Kp.same {Ps : List Addr} {H H' : Hp} (t : Tb Ps H) (s : Same H H') : Kp Ps H H' := ⟨t.same s, fun b o _ e => s b o e⟩
theorem Kp.at {Ps : List Addr} {H H' : Hp} (t : Tb Ps H) (k : Kp Ps H H') {b : Addr} {o : HO} (e : H b = some o) (ho : ∀ ps, o ≠ .tbl ps) : H' b = some o := k.2 b o (t.notin e ho) e
theorem Kp.seq {Ps : List Addr} {H H' : Hp} {K : PySem.W.Frag} {a : Addr} {xs : List V} (t : Tb Ps H) (k : Kp Ps H H') (h : SqL K H a xs) : SqL K H' a xs := by
  rcases h with (h | ⟨o, h⟩) | h
  · exact .inl (.inl (k.at t h fun _ z => by cases z))
  · exact .inl (.inr ⟨o, k.at t h fun _ z => by cases z⟩)
  · exact .inr h
theorem Kp.seqT {Ps : List Addr} {H H' : Hp} {K : PySem.W.Frag} {a : Addr} {xs : List V} (t : Tb Ps H) (k : Kp Ps H H') (h : SqT K H a xs) : SqT K H' a xs := by
  rcases h with (h | ⟨o, h⟩) | h
  · exact .inl (.inl (k.at t h fun _ z => by cases z))
  · exact .inl (.inr ⟨o, k.at t h fun _ z => by cases z⟩)
  · exact .inr h
theorem same_upd {H : Hp} {p : Addr} {o : HO} (h : H p = Option.none) : Same H (upd H p o) := fun b x e => by
  rw [upd_ne (ne_of_none e h)]
  exact e
theorem Kp.new {Ps : List Addr} {H : Hp} (t : Tb Ps H) {p : Addr} {o : HO} (h : H p = Option.none) : Kp Ps H (upd H p o) := Kp.same t (same_upd h)
theorem Kp.tab {Ps : List Addr} {P : Addr} {H H' : Hp} (t : Tb Ps H) (hP : P ∈ Ps) (h : Tabbed P H H') : Kp Ps H H' := by
  refine ⟨fun p hp => ?_, fun b o hb e => ?_⟩
  · by_cases z : p = P
    · rw [z]
      exact h.1
    · obtain ⟨ps, h1, h2⟩ := t p hp
      exact ⟨ps, (h.2 p z).trans h1, h2⟩
  · have z : b ≠ P := fun z => hb (by rw [z]; exact hP)
    exact (h.2 b z).trans e
/-- what was free before is free or new -/
theorem Kp.free {Ps : List Addr} {H H' : Hp} (t : Tb Ps H) (k : Kp Ps H H') {l : Addr} (h : H' l = Option.none) : H l = Option.none := by
  cases q : H l with
  | none => rfl
  | some o =>
    by_cases hl : l ∈ Ps
    · obtain ⟨ps, h1, _⟩ := k.1 l hl
      rw [h] at h1
      cases h1
    · rw [k.2 l o hl q] at h
      cases h

/-! ### a def whose code object is known -/
theorem okC {CX : CXT} {P : Program} {w : World} {K : PySem.W.Frag} {mg : Str → Option Value} {base : Heap} {x qual : Str} {params : Arguments} {body : List Stmt} {scope : Scope} {f : Addr} {fd : FuncData} {N ps : List Str} {k : Nat} {sp : Sp} {p : He.Defn}
    (F : FunD K x qual params body scope [] [] f fd) (hf : f = He.fAd K p) (S : FnScope N ps scope) (len : ∀ vs H Q E, sp vs H Q E → vs.length = ps.length)
    (hbody : ∀ (A : Around) (outer : List Env) (s : Shared) (H : Hp) (vs : List V) (Q : VK) (E : XK), Room k (A.deeper (envOfC qual scope s.heap.objs.size f (.ref (He.codeOf K p)))) → sp vs H Q E →
      ∃ t, PSs (cxOf CX P w K mg base N qual scope f (.ref (He.codeOf K p)) A outer s H E) body t ∧ t { nx := fun _ H' => Q .non H', rt := Q } (start N vs) H) : FnOk P w K mg base CX (k + 1) f fd ps sp := by
  obtain ⟨oc, od, dV, kV, doc, pm, an, cdv, ct, osl, rfl, lk, hcd, _, _⟩ := F.ex
  obtain ⟨c, rfl⟩ := He.codeIn_ref hcd
  have e : He.codeOf K p = c := He.codeOf_eq (by rw [← hf]; exact lk) rfl
  rw [e] at hbody
  exact fn_of lk hcd S len fun A outer s H vs Q E hr hsp => hbody A outer s H vs Q E hr hsp

/-! ### readings of generator expressions -/
theorem take_all {α : Type} {l : List α} {pb : α → Bool} {i : Nat} {x : α} (h : l[i]? = some x) (ht : (l.take i).all pb = true) : (l.take (i + 1)).all pb = pb x := by
  rw [List.take_add_one, List.all_append, ht, h]
  simp
theorem all_fail {α : Type} {l : List α} {pb : α → Bool} {i : Nat} {x : α} (h : l[i]? = some x) (hx : pb x = false) : l.all pb = false := by
  cases e : l.all pb with
  | false => rfl
  | true =>
    have := List.all_eq_true.mp e x (List.mem_of_getElem? h)
    rw [hx] at this
    cases this
/-- all(.. for x in text) -/
theorem read_all_str {x : Str} {pb : Nat → Bool} {Pv : Hp → Prop} {g : TG} {te : TE} {vs : List Nat} {σ : L2.St} {H2 : Hp} {Q : VK} (h0 : Pv H2)
    (he : ∀ (i c : Nat) (H : Hp) (R : V → Hp → Prop), x.cps.toList[i]? = some c → Pv H → (∀ H4, Pv H4 → R (.bl (pb c)) H4) → g (.str ⟨#[c]⟩) (wipe σ vs) H fun σ2 H2 => wipe σ2 vs = wipe σ vs ∧ te σ2 H2 R) (hd : ∀ H, Pv H → Q (.bl (x.cps.toList.all pb)) H) :
    ∃ W : Nat → Nat → Hp → Prop, (∃ m, W 0 m H2) ∧ ∀ i m H, W i m H →
      ((Its x).stop i H ∧ Q (.bl true) H) ∨ ((Its x).go i H ∧ ∃ Nx : Hp → Prop, (∀ H', Nx H' → ∃ m', m' < m ∧ W (i + 1) m' H') ∧ ∀ v H', (Its x).yld i H v H' → g v (wipe σ vs) H' fun σ2 H2 => wipe σ2 vs = wipe σ vs ∧ tYes σ2 H2 fun b H3 =>
        if b = true then te σ2 H3 fun y H4 => ∃ c, y = .bl c ∧ (c = true → Nx H4) ∧ (c = (!true) → Q (.bl (!true)) H4) else Nx H3) := by
  have esz : x.cps.size = x.cps.toList.length := by simp
  refine ⟨fun i m H => m = x.cps.size - i ∧ i ≤ x.cps.size ∧ Pv H ∧ (x.cps.toList.take i).all pb = true, ⟨x.cps.size, by simp, Nat.zero_le _, h0, rfl⟩, ?_⟩
  rintro i m H ⟨rfl, hi, hp, ha⟩
  by_cases hlt : i < x.cps.size
  · refine .inr ⟨hlt, fun H' => Pv H' ∧ (x.cps.toList.take (i + 1)).all pb = true, fun H' q => ⟨x.cps.size - (i + 1), by omega, rfl, hlt, q⟩, fun v H' y => ?_⟩
    obtain ⟨rfl, c, hc, rfl⟩ := y
    have hc' : x.cps.toList[i]? = some c := by rw [Array.getElem?_toList]; exact hc
    refine he i c H' _ hc' hp fun H4 p4 => ⟨pb c, rfl, fun z => ⟨p4, ?_⟩, fun z => ?_⟩
    · rw [take_all hc' ha]
      exact z
    · have z : pb c = false := z
      have q5 := hd H4 p4
      rw [all_fail hc' z] at q5
      exact q5
  · have e : i = x.cps.size := by omega
    subst e
    refine .inl ⟨Nat.le_refl _, ?_⟩
    have q := hd H hp
    rw [List.take_of_length_le (by omega)] at ha
    rw [ha] at q
    exact q
/-- all(.. for x in xs), xs a tuple -/
theorem read_all_tup {K : PySem.W.Frag} {a : Addr} {xs : List V} {pb : V → Bool} {Pv : Hp → Prop} {g : TG} {te : TE} {vs : List Nat} {σ : L2.St} {H2 : Hp} {Q : VK} (h0 : Pv H2) (hl : ∀ H, Pv H → SqT K H a xs)
    (he : ∀ (i : Nat) (v : V) (H : Hp) (R : V → Hp → Prop), xs[i]? = some v → Pv H → (∀ H4, Pv H4 → R (.bl (pb v)) H4) → g v (wipe σ vs) H fun σ2 H2 => wipe σ2 vs = wipe σ vs ∧ te σ2 H2 R) (hd : ∀ H, Pv H → Q (.bl (xs.all pb)) H) :
    ∃ W : Nat → Nat → Hp → Prop, (∃ m, W 0 m H2) ∧ ∀ i m H, W i m H →
      ((Itt K a).stop i H ∧ Q (.bl true) H) ∨ ((Itt K a).go i H ∧ ∃ Nx : Hp → Prop, (∀ H', Nx H' → ∃ m', m' < m ∧ W (i + 1) m' H') ∧ ∀ v H', (Itt K a).yld i H v H' → g v (wipe σ vs) H' fun σ2 H2 => wipe σ2 vs = wipe σ vs ∧ tYes σ2 H2 fun b H3 =>
        if b = true then te σ2 H3 fun y H4 => ∃ c, y = .bl c ∧ (c = true → Nx H4) ∧ (c = (!true) → Q (.bl (!true)) H4) else Nx H3) := by
  refine ⟨fun i m H => m = xs.length - i ∧ i ≤ xs.length ∧ Pv H ∧ (xs.take i).all pb = true, ⟨xs.length, by simp, Nat.zero_le _, h0, rfl⟩, ?_⟩
  rintro i m H ⟨rfl, hi, hp, ha⟩
  by_cases hlt : i < xs.length
  · refine .inr ⟨⟨xs, xs[i], hl H hp, List.getElem?_eq_getElem hlt⟩, fun H' => Pv H' ∧ (xs.take (i + 1)).all pb = true, fun H' q => ⟨xs.length - (i + 1), by omega, rfl, hlt, q⟩, fun v H' y => ?_⟩
    obtain ⟨rfl, y⟩ := y
    have hc' : xs[i]? = some v := y xs (hl H' hp)
    refine he i v H' _ hc' hp fun H4 p4 => ⟨pb v, rfl, fun z => ⟨p4, ?_⟩, fun z => ?_⟩
    · rw [take_all hc' ha]
      exact z
    · have z : pb v = false := z
      have q5 := hd H4 p4
      rw [all_fail hc' z] at q5
      exact q5
  · have e : i = xs.length := by omega
    subst e
    refine .inl ⟨⟨xs, hl H hp, Nat.le_refl _⟩, ?_⟩
    have q := hd H hp
    rw [List.take_of_length_le (Nat.le_refl _)] at ha
    rw [ha] at q
    exact q
end Rd

/-! list(reversed(text)) -/
namespace Rs
open PySem PySem.Spec PyProof.Rows RT
theorem norev_str : typeLookup (.type "str") "__reversed__" = pure none := by rw [typeLookup_type, builtinLookup_eq_fast]; kernel_rfl
theorem item_str : typeLookup (.type "str") "__getitem__" = pure (some (.builtin "str.__getitem__")) := by rw [typeLookup_type, builtinLookup_eq_fast]; kernel_rfl
theorem nolen_rev : typeLookup (.type "reversed") "__len__" = pure none := by rw [typeLookup_type, builtinLookup_eq_fast]; kernel_rfl
theorem hint_rev : typeLookup (.type "reversed") "__length_hint__" = pure (some (.builtin "reversed.__length_hint__")) := by rw [typeLookup_type, builtinLookup_eq_fast]; kernel_rfl
theorem slot_hint : Slot "reversed" "__length_hint__" "reversed.__length_hint__" :=
  .of (owner := "reversed") (n := "__length_hint__") hint_rev (by decide +kernel) (by decide +kernel) (by decide +kernel) (by first | exact .inl (by decide +kernel) | exact .inr (by decide +kernel)) (by rw [isSubtype_type]; kernel_rfl)
theorem entry_hint : entryFor table "reversed.__length_hint__" = some Builtin.«reversed.__length_hint__» := entryFor_of_tree (by kernel_rfl)
theorem args_hint (a : Value) : argsOk "reversed.__length_hint__" ⟨[a], []⟩ := by
  unfold argsOk
  rw [signature?_of (id := "reversed.__length_hint__") (n := ['_', '_', 't', 'n', 'i', 'h', '_', 'h', 't', 'g', 'n', 'e', 'l', '_', '_']) (o := ['d', 'e', 's', 'r', 'e', 'v', 'e', 'r']) (by kernel_rfl) owner_rt]
  kernel_rfl
theorem desc_hint : typeOf (.builtin "reversed.__length_hint__") = pure (.type "method_descriptor") := by show builtinType _ = _; rw [builtinType_eq_fast]; kernel_rfl
theorem sub_str_dict : isSubtype (.type "str") (.type "dict") = pure false := by rw [isSubtype_type]; kernel_rfl
def rsObj (x : Str) (t : Tok) (i : Int) : Obj := { cls := .type "reversed", data := .fields #[.str x t, rawInt i] }
def IsRs (h : Heap) (a : Addr) (x : Str) (t : Tok) (i : Int) : Prop := ∃ o, h.get? a = some o ∧ o.cls = .type "reversed" ∧ o.data = .fields #[.str x t, rawInt i]
theorem IsRs.at {h h' : Heap} {a : Addr} {x : Str} {t : Tok} {i : Int} (z : IsRs h a x t i) (e : ∀ o, h.get? a = some o → h'.get? a = some o) : IsRs h' a x t i := let ⟨o, ho, r⟩ := z; ⟨o, e _ ho, r⟩
section
variable {prog : Program} {w : World} {A : Around} {E : Value → Shared → Prop} {s : Shared} {x : Str} {t : Tok}
theorem IsRs.typeIs {a : Addr} {i : Int} (z : IsRs s.heap a x t i) : s.TypeIs (.ref a) "reversed" := let ⟨o, ho, hc, _⟩ := z; ⟨o, ho, hc⟩
theorem line_index {n : Nat} (h : n ≤ sizeLine) : ¬ ((n : Int) ≥ 2 ^ 63) := by
  rw [sizeLine_eq] at h
  omega
theorem code_rs {Q1 : Value → Shared → Prop} (hz : x.length ≤ sizeLine) (h : Q1 (.ref s.heap.objs.size) { s with heap := s.heap.push (rsObj x t ((x.length : Int) - 1)), toks := s.toks + 1 + 1 }) :
    codeAny (model prog w) A (.call (.builtin "reversed.__new__") ⟨[.type "reversed", .str x t], []⟩) (wants Q1 E) s := by
  have hT : s.TypeIs (.str x t) "str" := rfl
  refine codeAny_of_tree ?_
  show wpAny _ A.in1 (do checkBuiltinCall "reversed.__new__" ⟨[.type "reversed", .str x t], []⟩; again (.builtin "reversed.__new__" ⟨[.type "reversed", .str x t], []⟩)) _ _ s
  refine wpAny_bind (wpAny_of_eq (F.newCall_reversed_1 _) (wpAny_pure ⟨plainId_quiet F.plain_reversed_new _, codeAny_builtin F.entry_reversed_new ?_⟩))
  rw [Around.under_plainId F.plain_reversed_new _]
  unfold Builtin.«reversed.__new__»
  refine wpAny_bind (wpAny_of_eq (newClass_reversed _) ?_)
  try dsimp only
  refine wpAny_bind (wpAny_of_eq (a := ()) (by first | rfl | kernel_rfl) ?_)
  try dsimp only
  refine wpAny_bind (wpAny_of_eq (a := ()) (by first | rfl | kernel_rfl) ?_)
  try dsimp only
  refine wpAny_bind (wpAny_specialOf hT norev_str ?_)
  try dsimp only
  refine wpAny_bind ?_
  wp_delta
  refine wpAny_bind (wpAny_isInstance (T := "str") (U := "dict") (b := false) hT sub_str_dict ?_)
  try dsimp only
  try rw [if_neg Bool.false_ne_true]
  try dsimp only
  refine wpAny_bind (wpAny_specialOf hT item_str ?_)
  try dsimp only
  try rw [if_pos (by decide +kernel)]
  refine wpAny_pure ?_
  try dsimp only
  try rw [if_neg (by decide)]
  try dsimp only
  refine wpAny_bind (len_str (line_index hz) ?_)
  refine wpAny_bind (wpAny_of_eq (a := some ((x.length : Nat) : Int)) rfl ?_)
  try dsimp only
  refine wpAny_bind ?_
  show wpAny _ _ (newObj (.type "reversed") (.fields #[.str x t, rawInt ((x.length : Int) - 1)])) _ _ _
  refine wpAny_newObj_type ?_
  exact wpAny_pure h
theorem call_rs {Q : Value → Shared → Prop} (hz : x.length ≤ sizeLine) (h : Q (.ref s.heap.objs.size) { s with heap := s.heap.push (rsObj x t ((x.length : Int) - 1)), toks := s.toks + 1 + 1 }) :
    wpAny (model prog w) A (call (.type "reversed") [.str x t]) Q E s := by
  refine callType_codes (Q₁ := fun obj s₁ => s₁.TypeIs obj "reversed" ∧ Q obj s₁) called_rt (F.typeCall_reversed_1 _) F.entry_object_init (code_rs (A := A.in1) hz ⟨⟨_, Heap.get?_push_size _ rfl, rfl⟩, h⟩) fun obj s1 h1 => ?_
  exact ⟨h1.1, F.args_object_init_2 obj _, object_init_meets called_rt.init.lookup called_rt.made (by decide) prog w A.in1 _ s1 ⟨h1.1, rfl, h1.2⟩⟩
theorem next_rs {it : Addr} {i : Nat} {c : Nat} {Q : Option Value → Shared → Prop} (hit : IsRs s.heap it x t (i : Int)) (hc0 : x.cps[i]? = some c) (hz : x.length ≤ sizeLine)
    (hQ : ∀ h' u k, IsRs h' it x t ((i : Int) - 1) → Heap.SameBut it s.heap h' → Q (some (.str ⟨#[c]⟩ u)) { s with heap := h', toks := k }) : wpAny (model prog w) A (pyNext (.ref it)) Q E s := by
  obtain ⟨o, ho, hc, hd⟩ := id hit
  have hi : i < x.cps.size := (Array.getElem?_eq_some_iff.mp hc0).1
  have hT : s.TypeIs (.str x t) "str" := rfl
  have hz2 := hz
  rw [sizeLine_eq] at hz2
  have hi2 : i < x.length := hi
  unfold pyNext
  refine wpAny_bind (wpAny_attempt (wpAny_callSpecial?_slot (name := Str.ofString "__next__") hit.typeIs slot_rt_next (wpAny_call_entry slot_rt_next hit.typeIs entry_rt_next ?_ (args_rt_next _))))
  unfold Builtin.«reversed.__next__»
  refine wpAny_bind (wpAny_of_eq (a := (Value.ref it, [])) rfl ?_)
  try dsimp only
  refine wpAny_bind (wpAny_field ho hd (x := .str x t) rfl ?_)
  try dsimp only
  refine wpAny_bind (wpAny_field ho hd (x := rawInt (i : Int)) rfl ?_)
  show wpAny _ _ (if (i : Int) < 0 then _ else _) _ _ s
  rw [if_neg (by omega)]
  try dsimp only
  refine wpAny_bind (wpAny_specialOf hT item_str ?_)
  try dsimp only
  try rw [if_neg (by decide)]
  try dsimp only
  refine wpAny_bind (wpAny_mkInt ?_)
  refine wpAny_bind (wpAny_attempt ?_)
  have fin : seqIndex? (i : Int) x.length = some i := seqIndex_of (by omega) (by omega)
  refine getItem_str (s := { s with toks := s.toks + 1 }) (c := c) (by rw [decide_eq_false (by omega), decide_eq_false (by omega)]; rfl) (by rw [fin]; exact hc0) ?_
  try dsimp only
  refine wpAny_bind (wpAny_field (s := { s with toks := s.toks + 1 + 1 }) ho hd (x := rawInt (i : Int)) rfl ?_)
  try dsimp only
  refine wpAny_bind (wpAny_setField (s := { s with toks := s.toks + 1 + 1 }) ho hd (by simp) ?_)
  first
  | refine wpAny_pure ⟨_, rfl, wpAny_pure (hQ _ _ _ ?_ (Heap.SameBut.update ..))⟩
  | refine wpAny_bind (wpAny_pure (wpAny_pure ⟨_, rfl, wpAny_pure (hQ _ _ _ ?_ (Heap.SameBut.update ..))⟩))
  exact ⟨_, Heap.get?_update_self _ ho (Obj.isFreed_of_fields (Obj.data_mapFields hd _)), (Obj.cls_mapFields ..).trans hc, by
    rw [Obj.data_mapFields hd]; simp⟩
theorem end_rs {it : Addr} {Q : Option Value → Shared → Prop} (hh : A.handled = none) (hit : IsRs s.heap it x t (-1)) (hQ : ∀ h', Heap.ExtBut it s.heap h' → Q none { s with heap := h' }) : wpAny (model prog w) A (pyNext (.ref it)) Q E s := by
  obtain ⟨o, ho, hc, hd⟩ := id hit
  unfold pyNext
  refine wpAny_bind (wpAny_attempt (wpAny_callSpecial?_slot (name := Str.ofString "__next__") hit.typeIs slot_rt_next (wpAny_call_entry slot_rt_next hit.typeIs entry_rt_next ?_ (args_rt_next _))))
  unfold Builtin.«reversed.__next__»
  refine wpAny_bind (wpAny_of_eq (a := (Value.ref it, [])) rfl ?_)
  try dsimp only
  refine wpAny_bind (wpAny_field ho hd (x := .str x t) rfl ?_)
  try dsimp only
  refine wpAny_bind (wpAny_field ho hd (x := rawInt (-1)) rfl ?_)
  show wpAny _ _ (if (-1 : Int) < 0 then _ else _) _ _ s
  rw [if_pos (by decide)]
  try dsimp only
  refine wpAny_bind (wpAny_rule ?_)
  refine wpAny_bind ?_
  wp_delta
  refine wpAny_bind (wpAny_setField ho hd (by simp) ?_)
  have ho2 := Heap.get?_update_self (Obj.mapFields (·.setIfInBounds 1 (rawInt (-1)))) ho (Obj.isFreed_of_fields (Obj.data_mapFields hd _))
  refine wpAny_setField (s := { s with heap := s.heap.update it (Obj.mapFields (·.setIfInBounds 1 (rawInt (-1)))) }) ho2 (Obj.data_mapFields hd _) (by simp) ?_
  try dsimp only
  first
  | show wpAny _ _ (newExc (.type "StopIteration") [] >>= _) _ _ _
  | (refine wpAny_bind ?_; show wpAny _ _ (newExc (.type "StopIteration") [] >>= _) _ _ _)
  | (refine wpAny_bind ?_; wp_delta; show wpAny _ _ (newExc (.type "StopIteration") [] >>= _) _ _ _)
  refine wpAny_bind ?_
  simp only [newExc, newTuple]
  refine wpAny_bind (wpAny_newObj_type ?_ (by size_fits))
  refine wpAny_bind (m := firstArgMember _ _) (wpAny_of_eq (a := Value.none) (by first | rfl | (simp only [firstArgMember]; rfl)) ?_)
  refine wpAny_newObj_type ?_ (by size_fits)
  simp only [raiseNew]
  refine wpAny_bind (wpAny_handled ?_)
  first | rw [show A.in1.handled = none from hh] | rw [hh]
  refine wpAny_bind (wpAny_pure (wpAny_throw ?_))
  refine wpAny_bind (wpAny_isInstance (T := "StopIteration") (b := true) ⟨_, Heap.get?_push_size _ rfl, rfl⟩ isSubtype_stop ?_)
  refine wpAny_pure (hQ _ ?_)
  refine ((?_ : Heap.ExtBut it s.heap _).push _).push _
  exact fun b ob hb e => (Heap.get?_update_other _ _ (Ne.symm hb)).trans ((Heap.get?_update_other _ _ (Ne.symm hb)).trans e)
theorem iter_rs {it : Addr} {i : Int} {Q : Value → Shared → Prop} (hit : IsRs s.heap it x t i) (h : Q (.ref it) s) : wpAny (model prog w) A (pyIter (.ref it)) Q E s := by
  refine wpAny_pyIter_slot hit.typeIs slot_rt_iter (wpAny_call_entry slot_rt_iter hit.typeIs entry_rt_iter ?_ (args_rt_iter _))
  show wpAny _ _ (ret (.ref it)) _ _ s
  exact wpAny_pure ⟨_, rfl, "reversed", _, hit.typeIs, slot_rt_next.lookup, h⟩
end
theorem walks_rs {prog : Program} {w : World} {A : Around} (hh : A.handled = none) (it : Addr) (x : Str) (t : Tok) (hz : x.length ≤ sizeLine) :
    Walks prog w A it [it] [it] x.cps.size (fun i v => ∃ c u, x.cps[x.cps.size - 1 - i]? = some c ∧ v = .str ⟨#[c]⟩ u) (fun i h => i ≤ x.cps.size ∧ IsRs h it x t ((x.cps.size : Int) - 1 - (i : Int))) where
  sub := fun b hb => hb
  frame := fun _ _ _ z hk => ⟨z.1, z.2.at fun o e => hk it (by simp) o e⟩
  item := fun i s Q E hi z hQ => by
    have e : (x.cps.size : Int) - 1 - (i : Int) = ((x.cps.size - 1 - i : Nat) : Int) := by omega
    have hit := z.2
    rw [e] at hit
    have hx : x.cps[x.cps.size - 1 - i]? = some (x.cps[x.cps.size - 1 - i]'(by omega)) := Array.getElem?_eq_getElem (by omega)
    refine next_rs hit hx hz fun h' u k hit' hs' => ?_
    have e2 : ((x.cps.size - 1 - i : Nat) : Int) - 1 = (x.cps.size : Int) - 1 - ((i + 1 : Nat) : Int) := by omega
    rw [e2] at hit'
    exact hQ _ h' k ⟨_, _, hx, rfl⟩ ⟨hi, hit'⟩ fun b o hb eo => hs'.extBut b o (fun h => hb (by simp [h])) eo
  done := fun s Q E z hQ => by
    have e : (x.cps.size : Int) - 1 - (x.cps.size : Int) = -1 := by omega
    have hit := z.2
    rw [e] at hit
    exact end_rs hh hit fun h' he' => hQ h' s.toks fun b o hb eo => he' b o (fun h => hb (by simp [h])) eo
  self := fun _ _ _ _ z hQ => iter_rs z.2 hQ

section
variable {prog : Program} {w : World} {A : Around} {E : Value → Shared → Prop} {s : Shared} {x : Str} {t : Tok}
theorem code_hint {it : Addr} {i : Nat} {Q : Value → Shared → Prop} (hit : IsRs s.heap it x t (i : Int)) (hi : i < x.length) (hz : x.length ≤ sizeLine) (hQ : ∀ u k, Q (.int ((i : Int) + 1) u) { s with toks := k }) :
    wpAny (model prog w) A (call (.builtin "reversed.__length_hint__") [.ref it]) Q E s := by
  obtain ⟨o, ho, hc, hd⟩ := id hit
  have hz2 := hz
  rw [sizeLine_eq] at hz2
  refine wpAny_call_entry slot_hint hit.typeIs entry_hint ?_ (args_hint _)
  unfold Builtin.«reversed.__length_hint__»
  refine wpAny_bind (wpAny_of_eq (a := Value.ref it) rfl ?_)
  try dsimp only
  refine wpAny_bind (wpAny_field ho hd (x := .str x t) rfl ?_)
  try dsimp only
  try rw [if_neg (by decide)]
  try dsimp only
  refine wpAny_bind (len_str (line_index hz) ?_)
  refine wpAny_bind (wpAny_of_eq (a := some ((x.length : Nat) : Int)) rfl ?_)
  try dsimp only
  refine wpAny_bind (wpAny_field (s := { s with toks := s.toks + 1 + 1 }) ho hd (x := rawInt (i : Int)) rfl ?_)
  show wpAny _ _ (if ((x.length : Nat) : Int) < (i : Int) + 1 then _ else _) _ _ _
  rw [if_neg (by omega)]
  show wpAny _ _ (retInt ((i : Int) + 1)) _ _ _
  exact wpAny_bind (wpAny_mkInt (wpAny_pure ⟨_, rfl, hQ _ _⟩))
/-- the length hint -/
theorem hint_rs {it : Addr} {i : Nat} {Q : Bool → Shared → Prop} (hit : IsRs s.heap it x t (i : Int)) (hi : i < x.length) (hz : x.length ≤ 1000000) (hQ : ∀ k, Q true { s with toks := k }) : wpAny (model prog w) A (Builtin.List.listLengthHint (.ref it)) Q E s := by
  obtain ⟨o, ho, hc, hd⟩ := id hit
  unfold Builtin.List.listLengthHint
  refine wpAny_bind (wpAny_specialOf hit.typeIs nolen_rev ?_)
  show wpAny _ _ (specialOf (Value.ref it) (Str.ofString "__length_hint__") >>= _) _ _ _
  refine wpAny_bind (wpAny_specialOf hit.typeIs hint_rev ?_)
  generalize hid : ("reversed.__length_hint__" : String) = id0
  wp_delta
  rw [show splitId id0 = some ("reversed", "__length_hint__") from by subst hid; decide +kernel]
  subst hid
  refine wpAny_bind (wpAny_isInstance (b := true) hit.typeIs (by rw [isSubtype_type]; kernel_rfl) ?_)
  try dsimp only
  rw [if_neg (show ¬ (!true) = true by decide)]
  rw [if_neg (by decide +kernel)]
  refine wpAny_bind (wpAny_rule ?_)
  refine wpAny_bind ?_
  unfold bindSpecial
  refine wpAny_bind (wpAny_of_eq desc_hint ?_)
  rw [if_pos (by decide +kernel)]
  refine wpAny_pure ?_
  try dsimp only
  refine wpAny_bind (wpAny_attempt (code_hint hit hi (Nat.le_trans hz (by decide)) fun u k => ?_))
  try dsimp only
  obtain ⟨j, hj⟩ : ∃ j : Int, j = (i : Int) + 1 := ⟨_, rfl⟩
  rw [← hj]
  refine wpAny_bind (wpAny_of_eq (show asInt? (.int j u) = pure (some j) from rfl) ?_)
  try dsimp only
  have h1 : Builtin.List.listFitsIndex j = true := by
    unfold Builtin.List.listFitsIndex
    rw [Bool.and_eq_true]
    exact ⟨decide_eq_true (by omega), decide_eq_true (by omega)⟩
  have h2 : Builtin.List.listTooLong j.toNat = false := by
    unfold Builtin.List.listTooLong
    exact decide_eq_false (by rw [sizeLine_eq]; omega)
  rw [if_neg (by rw [h1]; decide), if_neg (by omega), if_neg (by rw [h2]; decide)]
  have h3 : (j != 0) = true := by
    rw [bne_iff_ne]
    omega
  rw [h3]
  exact wpAny_pure (hQ k)
end

section
variable {prog : Program} {w : World} {A : Around} {E : Value → Shared → Prop} {s : Shared} {x : Str} {t : Tok}
/-- what is collected -/
abbrev RevAt (x : Str) (i : Nat) (v : Value) : Prop := ∃ c u, x.cps[x.cps.size - 1 - i]? = some c ∧ v = .str ⟨#[c]⟩ u
theorem extend_rs {R : Result → Shared → Prop} (hh : A.handled = none) {it S : Addr} {res : Value} {c0 : Nat} (hit : IsRs s.heap it x t ((x.cps.size : Int) - 1)) (h1 : 1 ≤ x.length) (hz : x.length ≤ 1000000) (hSI : S ≠ it) (hS : s.heap.get? S = some { cls := .type "list", data := .seq #[] c0 })
    (hR : ∀ h' tk acc' c', (∀ b o, b ≠ S → b ≠ it → s.heap.get? b = some o → h'.get? b = some o) → h'.get? S = some { cls := .type "list", dict := none, data := .seq acc' c', slots := #[] } → ItemsOf (RevAt x) acc' x.cps.size → R (.ok (.ret res)) { s with heap := h', toks := tk }) :
    wpAny (model prog w) A.in1 (Builtin.List.listExtendWith (.ref S) (.ref it) res)
      (fun fin s' => match fin with | .done f => R (.ok f) s' | .again c' => c'.quiet = true ∧ codeAny (model prog w) A c' R s') (fun e s' => R (.error e) s') s := by
  have hz2 : x.length ≤ sizeLine := Nat.le_trans hz (by decide)
  have W := (walks_rs (prog := prog) (w := w) (A := A.in1) hh it x t hz2).toS
  have hSf : S ∉ [it] := fun hm => hSI (List.mem_singleton.mp hm)
  have hx1 : 1 ≤ x.cps.size := h1
  have e0 : (x.cps.size : Int) - 1 = ((x.cps.size - 1 : Nat) : Int) := by omega
  unfold Builtin.List.listExtendWith
  refine wpAny_bind (wpAny_typeOf hit.typeIs ?_)
  have q1 : Builtin.List.listSameRef (.ref S) (.ref it) = false := by simp [Builtin.List.listSameRef, hSI]
  have q2 : (Value.type "reversed" == Value.type "list") = false := by decide
  have q3 : (Value.type "reversed" == Value.type "tuple") = false := by decide
  simp only [q1, q2, q3, Bool.or_false, Bool.false_eq_true, if_false]
  refine wpAny_bind (iter_rs hit ?_)
  refine wpAny_bind (wpAny_holding ?_)
  refine hint_rs (i := x.cps.size - 1) (by rw [← e0]; exact hit) (by show x.cps.size - 1 < x.cps.size; omega) hz fun k => ?_
  show wpAny _ A.in1 (rule "list.extend.makes-room" >>= fun _ => Builtin.List.listTouch (.ref S) >>= fun _ => again (.builtin "list.extend.loop" ⟨[.ref S, .ref it, res], []⟩)) _ _ _
  refine wpAny_bind (wpAny_rule ?_)
  refine wpAny_bind ?_
  show wpAny _ A.in1 (updateSeq S (·.push .none) >>= fun _ => updateSeq S (·.pop)) _ _ _
  refine wpAny_bind (wpAny_updateSeq (s := { s with toks := k }) hS rfl ?_)
  have hS2 := Heap.get?_update_self (Obj.mapSeq (·.push Value.none)) hS rfl
  refine wpAny_updateSeq (hz := by seq_fits) hS2 rfl ?_
  have hS3 := Heap.get?_update_self (Obj.mapSeq (·.pop)) hS2 rfl
  have oth : ∀ b o, b ≠ S → s.heap.get? b = some o → ((s.heap.update S (Obj.mapSeq (·.push Value.none))).update S (Obj.mapSeq (·.pop))).get? b = some o :=
    fun b o hb e => (Heap.get?_update_other _ _ (Ne.symm hb)).trans ((Heap.get?_update_other _ _ (Ne.symm hb)).trans e)
  have ez : (x.cps.size : Int) - 1 - ((0 : Nat) : Int) = (x.cps.size : Int) - 1 := by omega
  refine wpAny_pure ⟨plainId_quiet F.plain_extend_loop _, codeAny_extend_loopS W hz2 _ hSf _ x.cps.size 0 _ _ _ rfl (Nat.zero_le _) ⟨Nat.zero_le _, by rw [ez]; exact hit.at fun o e => oth it o (Ne.symm hSI) e⟩ hS3 (ItemsOf.nil _) fun s' acc' c' hm hS' hacc => ?_⟩
  rw [Moved.eq_with hm]
  refine hR s'.heap s'.toks acc' c' (fun b ob hb hi e => hm.heap b ob (fun hmem => ?_) (oth b ob hb e)) hS' hacc
  rcases List.mem_cons.mp hmem with e' | hmem
  · exact hb e'
  · exact hi (List.mem_singleton.mp hmem)
theorem call_list_rs {Q : Value → Shared → Prop} (hh : A.handled = none) {it : Addr} (hit : IsRs s.heap it x t ((x.cps.size : Int) - 1)) (h1 : 1 ≤ x.length) (hz : x.length ≤ 1000000)
    (hQ : ∀ h' tk acc' c', (∀ b o, b ≠ it → s.heap.get? b = some o → h'.get? b = some o) → h'.get? s.heap.objs.size = some { cls := .type "list", dict := none, data := .seq acc' c', slots := #[] } → ItemsOf (RevAt x) acc' x.cps.size → Q (.ref s.heap.objs.size) { s with heap := h', toks := tk }) :
    wpAny (model prog w) A (call (.type "list") [.ref it]) Q E s := by
  have hlt : it < s.heap.objs.size := let ⟨_, ho, _⟩ := hit; Heap.lt_size ho
  refine callType_codes (Q₁ := fun obj s₁ => obj = .ref s.heap.objs.size ∧ s₁ = { s with heap := s.heap.push { cls := .type "list", data := .seq #[] } }) F.called_list (F.typeCall_list_1 _) F.entry_list_init
    (code_list_new _ ⟨rfl, rfl⟩) fun obj s1 hs1 => ?_
  obtain ⟨rfl, rfl⟩ := hs1
  have hS : (s.heap.push { cls := .type "list", data := .seq #[] }).get? s.heap.objs.size = some { cls := .type "list", data := .seq #[] } := Heap.get?_push_size _ rfl
  refine ⟨⟨_, hS, rfl⟩, F.args_list_init_2 _ _, ?_⟩
  show wpAny _ A.in1.in1 (do let old ← Builtin.List.listItems (.ref s.heap.objs.size); Builtin.List.listUpdate (.ref s.heap.objs.size) (fun _ => #[]); letGo old.toList.reverse; Builtin.List.listExtendWith (.ref s.heap.objs.size) (.ref it) .none) _ _ _
  refine wpAny_bind ?_
  unfold Builtin.List.listItems
  refine wpAny_bind (wpAny_seqItems hS rfl (wpAny_pure ?_))
  show wpAny _ A.in1.in1 (updateSeq s.heap.objs.size (fun _ => #[]) >>= fun _ => letGo (#[] : Array Value).toList.reverse >>= fun _ => Builtin.List.listExtendWith (.ref s.heap.objs.size) (.ref it) .none) _ _ _
  refine wpAny_bind (wpAny_updateSeq hS rfl ?_)
  have hS2 := Heap.get?_update_self (Obj.mapSeq (fun _ => (#[] : Array Value))) hS rfl
  have oth : ∀ b o, b ≠ s.heap.objs.size → (s.heap.push { cls := .type "list", data := .seq #[] }).get? b = some o → ((s.heap.push { cls := .type "list", data := .seq #[] }).update s.heap.objs.size (Obj.mapSeq (fun _ => (#[] : Array Value)))).get? b = some o :=
    fun b o hb e => (Heap.get?_update_other _ _ (Ne.symm hb)).trans e
  have old : ∀ b o, s.heap.get? b = some o → ((s.heap.push { cls := .type "list", data := .seq #[] }).update s.heap.objs.size (Obj.mapSeq (fun _ => (#[] : Array Value)))).get? b = some o :=
    fun b o e => oth b o (Nat.ne_of_lt (Heap.lt_size e)) (Heap.get?_push_of_some _ e)
  refine wpAny_bind (wpAny_letGo ?_)
  refine extend_rs (A := A.in1) hh (hit.at fun o e => old it o e) h1 hz (Nat.ne_of_gt hlt) hS2 fun h' tk acc' c' hk hS' hacc => ?_
  exact ⟨rfl, hQ h' tk acc' c' (fun b o hb e => hk b o (Nat.ne_of_lt (Heap.lt_size e)) hb (old b o e)) hS' hacc⟩
end
theorem vals_rs {x : Str} {acc : Array Value} (h : ItemsOf (RevAt x) acc x.cps.size) : L2.Vals (x.cps.toList.reverse.map fun c => L2.V.str ⟨#[c]⟩) acc.toList := by
  have key : ∀ (l : List L2.V) (us : List Value), l.length = us.length → (∀ (i : Nat) (v : L2.V) (u : Value), l[i]? = some v → us[i]? = some u → L2.RelV v u) → L2.Vals l us := by
    intro l
    induction l with
    | nil =>
      intro us hl _
      cases us with
      | nil => exact .nil
      | cons _ _ => cases hl
    | cons v r ih =>
      intro us hl hr
      cases us with
      | nil => cases hl
      | cons u us => exact .cons (hr 0 v u rfl rfl) (ih us (Nat.succ.inj hl) fun i a b h1 h2 => hr (i + 1) a b h1 h2)
  have hs : acc.toList.length = x.cps.size := by rw [Array.length_toList]; exact h.1
  refine key _ _ (by rw [List.length_map, List.length_reverse, Array.length_toList, hs]) fun i v u h1 h2 => ?_
  rw [Array.getElem?_toList] at h2
  obtain ⟨c, tk, hc, rfl⟩ := h.2 i u h2
  have hi : i < x.cps.size := by
    have := (Array.getElem?_eq_some_iff.mp h2).1
    rw [h.1] at this
    exact this
  rw [List.getElem?_map, List.getElem?_reverse (by rw [Array.length_toList]; exact hi), Array.length_toList, Array.getElem?_toList, hc] at h1
  cases h1
  exact ⟨tk, rfl⟩
section
open L2
variable {X : Cx}
/-- list(reversed(x)), x a text: a new list of its signs, from behind -/
def tListRs (te : TE) : TE := fun σ H Q => te σ H fun v H1 => ∃ x : Str, v = .str x ∧ 1 ≤ x.length ∧ x.length ≤ 1000000 ∧ ∀ q, H1 q = none → Q (.ref q) (upd H1 q (.lst (x.cps.toList.reverse.map fun c => V.str ⟨#[c]⟩)))
theorem pe_listRs {e : Expr} {te : TE} {p p2 pos pos2 : Pos} (hc : X.calm = true) (hg : Gl X "list") (hm : X.mg "list" = none) (hg2 : Gl X "reversed") (hm2 : X.mg "reversed" = none) (he : PE X e te)
    (hs : starEach [e] X.env = (false, eval e X.env) :: starEach [] X.env := by rfl)
    (hs2 : starEach [.Call (.Name "reversed" p2) [e] [] pos2] X.env = (false, eval (.Call (.Name "reversed" p2) [e] [] pos2) X.env) :: starEach [] X.env := by rfl) :
    PE X (.Call (.Name "list" p) [.Call (.Name "reversed" p2) [e] [] pos2] [] pos) (tListRs te) := by
  refine ⟨fun pins s σ H Q I h => ?_⟩
  refine Call_ (ld_blt (u := .type "list") I hg hm (by decide +kernel) (PyProof.Rows.callWith_type1 (args_cons (Call_ (ld_blt I hg2 hm2 PyProof.Rows.boot_reversed (PyProof.Rows.callWith_type1 (args_cons (thn (he.run pins s σ H _ I h) fun u s1 hq => args_nil ?_) hs) hs rfl))) hs2) hs2 rfl))
  obtain ⟨v, H1, I1, r1, x, ev, h1, hz, q⟩ := hq
  subst ev
  obtain ⟨t, rfl⟩ := r1
  refine call_rs (Nat.le_trans hz (by decide)) (args_nil ?_)
  have k0 : ∀ b o, s1.heap.get? b = some o → (s1.heap.push (rsObj x t ((x.length : Int) - 1))).get? b = some o := fun b o e => Heap.get?_push_of_some _ e
  have I2 : Inv X pins σ H1 { s1 with heap := s1.heap.push (rsObj x t ((x.length : Int) - 1)), toks := s1.toks + 1 + 1 } := I1.kept k0
  obtain ⟨f0, f1, f2, f3, f4, f5⟩ := I1.fpOk (H' := H1) (b := s1.heap.objs.size) (Nat.le_refl _) (I1.hok.fresh (Nat.le_refl _))
  refine call_list_rs (s := { s1 with heap := s1.heap.push (rsObj x t ((x.length : Int) - 1)), toks := s1.toks + 1 + 1 }) (I1.ok.hd hc) ⟨_, Heap.get?_push_size _ rfl, rfl, rfl⟩ h1 hz fun h' tk acc c' hk hS hi => ?_
  have hne : (s1.heap.push (rsObj x t ((x.length : Int) - 1))).objs.size ≠ s1.heap.objs.size := by
    rw [Heap.size_push]
    exact Nat.succ_ne_self _
  have kp : ∀ b u, s1.heap.get? b = some u → h'.get? b = some u := fun b u e => hk b u (Nat.ne_of_lt (Heap.lt_size e)) (Heap.get?_push_of_some _ e)
  have hD : s1.heap.objs.size ≤ (s1.heap.push (rsObj x t ((x.length : Int) - 1))).objs.size := by
    rw [Heap.size_push]
    exact Nat.le_succ _
  refine ⟨.ref (s1.heap.push (rsObj x t ((x.length : Int) - 1))).objs.size, _, I1.laid (t' := tk) kp hD (show ObjOk X.prog X.w _ h' _ (.lst (x.cps.toList.reverse.map fun c => V.str ⟨#[c]⟩)) from ⟨?_, acc.toList, c', vals_rs hi, ?_⟩), rfl, q _ (I1.hok.fresh hD)⟩
  · rw [List.length_map, List.length_reverse, Array.length_toList]
    exact Nat.le_trans hz (by decide)
  · rw [hS, Array.toArray_toList]
end
end Rs

namespace It2
open PySem PySem.Spec PyProof.Rows L2
/-! ### x in t, x not in t: t a tuple of data, x data -/
def rInTD (K : PySem.W.Frag) (neg : Bool) : R2 := fun x y H Q => ∃ d ds, Dp K H x d ∧ Dp K H y (.tuple ds) ∧ SeqAt.shaped d = true ∧ SeqAt.shaped (.tuple ds) = true ∧ Q (.bl (if neg then !ds.any fun z => PyData.eqv z d else ds.any fun z => PyData.eqv z d)) H
theorem op_notInTD {X : Cx} (hu : X.A.units + 65 < cLine) : OpR X (compareOp .NotIn) (rInTD X.K true) := by
  intro pins s σ H x y v u Q I rx ry h
  obtain ⟨d, ds, hd, he, sd, se, q⟩ := h
  obtain ⟨as, r1⟩ := Dp.reads I d x v hd rx
  obtain ⟨bs, r2⟩ := Dp.reads I (.tuple ds) y u he ry
  exact SeqAt.notIn_tuple_reads r2 r1 (SeqAt.canLay_of_shaped se) (SeqAt.canLay_of_shaped sd) (room_in_shaped sd hu) ⟨.bl (!ds.any fun z => PyData.eqv z d), H, I, rfl, q⟩
theorem op_inTD {X : Cx} (hu : X.A.units + 65 < cLine) : OpR X (compareOp .In) (rInTD X.K false) := by
  intro pins s σ H x y v u Q I rx ry h
  obtain ⟨d, ds, hd, he, sd, se, q⟩ := h
  obtain ⟨as, r1⟩ := Dp.reads I d x v hd rx
  obtain ⟨bs, r2⟩ := Dp.reads I (.tuple ds) y u he ry
  exact SeqAt.in_tuple_reads r2 r1 (SeqAt.canLay_of_shaped se) (SeqAt.canLay_of_shaped sd) (room_in_shaped sd hu) ⟨.bl (ds.any fun z => PyData.eqv z d), H, I, rfl, q⟩
end It2

/-! a list comprehension whose element is a call that may raise: what the call lets out leaves the comprehension -/
namespace Rd
open PySem PySem.Spec PyProof.Rows L2

theorem clo_none {cells : List (Str × Addr)} : ∀ {names : List (Str × NameKind)} {acc : List (Str × Addr)}, (∀ y ∈ names, y.2 ≠ .free) → cloFrom cells names acc = acc
  | [], _, _ => rfl
  | (n, k) :: r, acc, h => by
    unfold cloFrom
    rw [if_neg (show ¬ (k == NameKind.free) = true from by have z := h (n, k) List.mem_cons_self; simpa using z)]
    exact clo_none fun y hy => h y (List.mem_cons_of_mem _ hy)
theorem relabel_none {scope : Scope} {env : Env} (h : ∀ y ∈ scope.names, y.2 ≠ .free) : relabel scope env = scope := by
  have e : scope.names.map (fun (x : Str × NameKind) => match x with | (n, k) => if (k == NameKind.free && env.scope.kind == .function && env.kindOf n == some .cell) then (n, NameKind.cell) else (n, k)) = scope.names := by
    have : ∀ l : List (Str × NameKind), (∀ y ∈ l, y.2 ≠ .free) → l.map (fun (x : Str × NameKind) => match x with | (n, k) => if (k == NameKind.free && env.scope.kind == .function && env.kindOf n == some .cell) then (n, NameKind.cell) else (n, k)) = l := by
      intro l
      induction l with
      | nil => intro _; rfl
      | cons y r ih =>
        intro h
        obtain ⟨n, k⟩ := y
        have z : (k == NameKind.free) = false := by have z := h (n, k) List.mem_cons_self; simpa using z
        rw [List.map_cons, ih fun y hy => h y (List.mem_cons_of_mem _ hy)]
        simp [z]
    exact this _ h
  unfold relabel
  rw [e]

/-- an object hidden, the ground changed -/
theorem frames_but {base B h h' : Heap} {C : Addr} (sb : Heap.SameBut C h h') : ∀ {l : List Env}, h.FunFrames base l → (∀ L ∈ frs l, B.get? L = none ∧ L ≠ C) → h'.FunFrames B l
  | [], _, _ => trivial
  | env :: l, x, hn => by
    obtain ⟨hk, ⟨L, o, hf, _, ho, hd⟩, hr⟩ := x
    have m : L ∈ frs (env :: l) := List.mem_filterMap.mpr ⟨env, List.mem_cons_self, hf⟩
    exact ⟨hk, ⟨L, o, hf, (hn L m).1, (sb.2 L (hn L m).2).trans ho, hd⟩, frames_but sb hr fun b hb => by
      obtain ⟨e, he, q⟩ := List.mem_filterMap.mp hb
      exact hn b (List.mem_filterMap.mpr ⟨e, List.mem_cons_of_mem _ he, q⟩)⟩
/-- held still, when an object of the ground is changed: over the ground without it -/
theorem held_but {B h h' : Heap} {C a L : Addr} {oC : Obj} {l : List Env} {Z : Obj → Prop} (hC : B.get? C = some oC) (x : HandSPX.HeldZ B l a Z L h) (sb : Heap.SameBut C h h') : HandSPX.HeldZ (PySem.W.hideAll B [C]) l a Z L h' := by
  obtain ⟨st, ne, fr, oe, vs, T, oT, ts, he, hz, hd, h1, hnT, hTe, hT, hdT, h3⟩ := x
  have hide : ∀ b o, (PySem.W.hideAll B [C]).get? b = some o → B.get? b = some o := fun b o e => PySem.W.of_hideAll _ e
  have hno : ∀ b, B.get? b = none → (PySem.W.hideAll B [C]).get? b = none := fun b e => by
    cases q : (PySem.W.hideAll B [C]).get? b with
    | none => rfl
    | some o => rw [hide b o q] at e; cases e
  have neC : ∀ b, B.get? b = none → b ≠ C := fun b e z => by rw [z, hC] at e; cases e
  have notC : (PySem.W.hideAll B [C]).get? C = none := PySem.W.hideAll_none _ (by simp)
  refine ⟨fun b o e => ?_, hno a ne, frames_but sb fr fun b hb => ?_, oe, vs, T, oT, ts, (sb.2 a (neC a ne)).trans he, hz, hd, h1, hno T hnT, hTe, (sb.2 T (neC T hnT)).trans hT, hdT, h3⟩
  · have nb : b ≠ C := fun z => by rw [z, notC] at e; cases e
    exact (sb.2 b nb).trans (st b o (hide b o e))
  · obtain ⟨n, _⟩ := fr.mem hb
    exact ⟨hno b n, neC b n⟩

/-- it goes on from the def's own frame -/
theorem passes_on {M : Model} {A : Around} {E : Value → Shared → Prop} {s : Shared} {what : String} {Q : Value → Shared → Prop} {B : Heap} {l : List Env} {a L : Addr} {Z : Obj → Prop} {cenv : Env} (hf : cenv.frame = some L) (x : HandSPX.HeldZ B l a Z L s.heap)
    (h : ∀ h', HandSPX.HeldZ B l a Z L h' → s.heap.UpToSlots h' → E (.ref a) { s with heap := h' }) : wpAny M A (PySem.passOn what (.ref a) cenv : Sem Value) Q E s := by
  obtain ⟨st, ne, fr, oe, vs, T, oT, ts, he, hz, hd, h1, r⟩ := id x
  unfold PySem.passOn
  refine wpAny_bind (wpAny_field he hd h1 ?_)
  rw [if_neg (show ¬ ((Value.ref T == Value.none) = true) from by simp)]
  rw [hf]
  exact wpAny_bind (HandSPX.setFlight_onZ x fun h' x' up => wpAny_throw (h h' x' up))

section
variable {X : Cx} {pins : List (Addr × Obj)} {σ : L2.St} {H3 : Hp} {s3 : Shared}
theorem frs_lt {b : Addr} (I : Inv X pins σ H3 s3) (hb : s3.heap.objs.size ≤ b) : b ∉ frs X.stack := fun hm => by
  obtain ⟨_, o, ho, _⟩ := I.stack.mem hm
  exact Nat.lt_irrefl _ (Nat.lt_of_lt_of_le (Heap.lt_size ho) hb)
theorem fp_frs {b : Addr} (I : Inv X pins σ H3 s3) (f : FpOk X pins H3 b) : b ∉ frs X.stack := fun hm => by
  rcases List.mem_cons.mp (I.stkSub b hm) with z | z
  · exact f.2.1 z
  · exact f.2.2.1 z
/-- what a call in the element lets out, at the comprehension's end: X the def's context, s3 the state at the block's start, C the block's names -/
theorem out_of_block {E0 : XK} {fp : List Addr} {C : Addr} {ce : Env} {σ' : L2.St} {pins' : List (Addr × Obj)} {H' : Hp} {s1 s2 : Shared} {e : Value} {sc : Scope} {xe : Value → Shared → Prop} {Q : Value → Shared → Prop} {what : String}
    (hs : X.stack = X.env :: X.outer) (hf : X.env.frame = some X.env.locals) (tk : Takes X fun cls d _ H => E0 cls d H)
    (I3 : Inv X pins σ H3 s3) (ffp : ∀ b ∈ fp, FpOk X pins H3 b) (hC : s3.heap.objs.size = C) (eL : ce.locals = C) (eF : ce.frame = X.env.frame)
    (I : Inv ((X.blk s3 H3 sc ce fp).tr [] xe) pins' σ' H' s1) (c : L2.CX X.prog X.w X.stack H' s1 E0 e s2) :
    notedBy (model X.prog X.w) X.A ce (fun x s' => ∃ m, s'.heap.Ns C m ∧ ∀ h', Heap.SameBut C s'.heap h' → wpAny (model X.prog X.w) X.A (PySem.passOn what x ce : Sem Value) Q X.xe { s' with heap := h' }) e s2 := by
  obtain ⟨a, B, H'', cls, d, rfl, fl, hok, ub, na, os, ag, hE⟩ := c
  have hfr : X.A.frames = some (X.env :: X.outer) := by rw [I3.ok.frames, hs]
  -- the block's names are in the ground
  obtain ⟨m, hn, _⟩ := I.loc
  have hn : s1.heap.Ns ce.locals m := hn
  rw [eL] at hn
  have nC : H' C = none := by
    have z : H' ce.locals = none := I.free
    rw [eL] at z
    exact z
  have CnF : C ∉ frs X.stack := frs_lt I3 (Nat.le_of_eq hC)
  obtain ⟨oC, es, ep, hoC, hdC, r⟩ := id hn
  have BC : B.get? C = some oC := ub.keep C oC hoC nC CnF
  have hn2 : s2.heap.Ns C m := ⟨oC, es, ep, fl.1 C oC BC, hdC, r⟩
  show wpAny _ _ (noteFrame (.ref a) ce) _ _ s2
  rw [noteFrame_env _ eF]
  rw [hs] at fl
  refine HandSPX.looks_onZ Zc.steady hfr hf fl fun h1 hh up => ?_
  refine ⟨m, up.ns hn2, fun h2 sb => ?_⟩
  have hh2 := held_but BC hh sb
  refine passes_on (L := X.env.locals) (eF.trans hf) hh2 fun h3 hh3 up3 => ?_
  rw [← hs] at hh3
  -- the state without the exception
  obtain ⟨G, g1, g2⟩ := restrict s2.heap fun b => ((PySem.W.hideAll B [C]).get? b).isSome || decide (b ∈ frs X.stack)
  have hide : ∀ b o, (PySem.W.hideAll B [C]).get? b = some o → B.get? b = some o := fun b o e => PySem.W.of_hideAll _ e
  have notC : (PySem.W.hideAll B [C]).get? C = none := PySem.W.hideAll_none _ (by simp)
  have inB : ∀ b o, b ≠ C → B.get? b = some o → (PySem.W.hideAll B [C]).get? b = some o := fun b o hb e => PySem.W.hideAll_get _ e (by simpa using hb)
  have gB : ∀ b o, (PySem.W.hideAll B [C]).get? b = some o → G.get? b = some o := fun b o e => by
    rw [g1 b (by simp [e])]
    exact fl.1 b o (hide b o e)
  have gF : ∀ b, b ∈ frs X.stack → G.get? b = s2.heap.get? b := fun b hb => g1 b (by simp [hb])
  have og : ∀ b o, G.get? b = some o → s2.heap.get? b = some o ∧ (((PySem.W.hideAll B [C]).get? b).isSome = true ∨ b ∈ frs X.stack) := fun b o e => by
    cases q : (((PySem.W.hideAll B [C]).get? b).isSome || decide (b ∈ frs X.stack)) with
    | false => rw [g2 b q] at e; cases e
    | true =>
      rw [g1 b q] at e
      exact ⟨e, by simpa [Bool.or_eq_true] using q⟩
  have old : ∀ b o, s3.heap.get? b = some o → b ≠ C := fun b o e z => by
    have h1 := Heap.lt_size e
    rw [z, ← hC] at h1
    exact absurd h1 (Nat.lt_irrefl _)
  have gC : G.get? C = none := by
    cases q : G.get? C with
    | none => rfl
    | some o =>
      rcases (og C o q).2 with z | z
      · rw [notC] at z; cases z
      · exact absurd z CnF
  have upG : G.UpToSlots h3 := fun b o e hd => by
    obtain ⟨e1, _⟩ := og b o e
    have nb : b ≠ C := fun z => by rw [z, gC] at e; cases e
    obtain ⟨sl1, e2⟩ := up b o e1 hd
    exact up3 b _ ((sb.2 b nb).trans e2) hd |>.imp fun sl q => q
  have HC : H'' C = none := ub.free C oC hoC nC
  -- a frame of the stack at the block's start and now
  have fs1 : ∀ b o, s3.heap.get? b = some o → b ∈ frs X.stack → ∃ sl, s1.heap.get? b = some { o with slots := sl } := fun b o e hb => by
    refine I.base.slot b o e (I3.stkFree b hb) hb fun z => ?_
    exact fp_frs I3 (ffp b z) hb
  have Inew : Inv X pins σ H'' { s2 with heap := G } := by
    refine I3.call' (ch := fp) (os.trans I.os) ⟨fun b o e n hb hc => ?_, fun b o e n hb hc => ?_, fun b o e n hc => ?_, fun b o e hc => ?_, fun b xs e => ?_, fun b o xs e => ?_, fun b ps e => ?_⟩ ?_ ag fun b hb => ⟨(ffp b hb).2.2.2.1, (ffp b hb).2.1, (ffp b hb).2.2.2.2.1, (ffp b hb).2.2.2.2.2⟩
    · exact gB b o (inB b o (old b o e) (ub.keep b o (I.base.keep b o e n hb hc) (I.base.free b o e n hc) hb))
    · obtain ⟨sl, e1⟩ := I.base.slot b o e n hb hc
      obtain ⟨sl2, e2⟩ := ub.slot b _ e1 hb
      exact ⟨sl2, by show G.get? b = _; rw [gF b hb]; exact e2⟩
    · have n1 := I.base.free b o e n hc
      obtain ⟨o1, e1⟩ := I.base.there b o e hc
      exact ub.free b o1 e1 n1
    · obtain ⟨o1, e1⟩ := I.base.there b o e hc
      by_cases hb : b ∈ frs X.stack
      · obtain ⟨sl, q⟩ := ub.slot b o1 e1 hb
        exact ⟨_, by show G.get? b = _; rw [gF b hb]; exact q⟩
      · obtain ⟨o2, e2⟩ := ub.there b o1 e1 hb
        exact ⟨o2, gB b o2 (inB b o2 (old b o e) e2)⟩
    · exact ub.tups b xs (I.base.tups b xs e)
    · exact ub.frzs b o xs (I.base.frzs b o xs e)
    · obtain ⟨more, q⟩ := I.base.tbls b ps e
      obtain ⟨more2, q2⟩ := ub.tbls b _ q
      exact ⟨more ++ more2, by rw [q2, Array.append_assoc]⟩
    · show HOk X.prog X.w H'' G
      exact fun b o q => (hok b o q).stay (fun c u hc r => gB c u (inB c u (fun z => by
        subst z
        rcases hc with hc | hc
        · rw [hc, q] at HC; cases HC
        · rw [hc] at HC; cases HC) r)) (fun _ r => r) fun _ _ r => r
  refine tk _ _ ⟨a, PySem.W.hideAll B [C], { s2 with heap := G }, pins, σ, H'', cls, d, rfl, Inew, fun b o e hb => ?_, upG, .inr (.inr hh3), na, rfl, ag, hE⟩
  obtain ⟨e1, z⟩ := og b o e
  rcases z with z | z
  · obtain ⟨o', q⟩ := Option.isSome_iff_exists.mp z
    have z2 := fl.1 b o' (hide b o' q)
    rw [e1] at z2; cases z2
    exact q
  · exact absurd z hb

/-- [elt for target in iter if ..], the element a call that may raise -/
theorem pe_lcE {E0 : XK} {elt tg iter : Expr} {ifs : List Expr} {scope : Scope} {own : List (Str × Nat)} {pos : Pos} {wi : TI} {g : TG} {tt : TT} {te : TE} (hc : X.calm = true) (hN : X.N.Nodup)
    (hst : X.stack = X.env :: X.outer) (hf : X.env.frame = some X.env.locals) (tk : Takes X fun cls d _ H => E0 cls d H) (hi : PI X tg iter wi) (ok : BlkOk X.N X.env.scope scope own) (nf : ∀ y ∈ scope.names, y.2 ≠ .free)
    (hg : ∀ (s : Shared) (H : Hp) (C : Addr) (cl : List (Str × Addr)) (fp : List Addr) (xe : Value → Shared → Prop), PG ((X.blk s H scope (compEnvC scope cl C X.env) fp).tr [] xe) tg g)
    (ht : ∀ (s : Shared) (H : Hp) (C : Addr) (cl : List (Str × Addr)) (fp : List Addr) (xe : Value → Shared → Prop), PTs ((X.blk s H scope (compEnvC scope cl C X.env) fp).tr [] xe) ifs tt)
    (he : ∀ (s : Shared) (H : Hp) (C : Addr) (cl : List (Str × Addr)) (fp : List Addr) (xe : Value → Shared → Prop), (∀ σ', PassesAt (L2.CX X.prog X.w) ((X.blk s H scope (compEnvC scope cl C X.env) fp).tr [] xe) σ' E0) → PE ((X.blk s H scope (compEnvC scope cl C X.env) fp).tr [] xe) elt te)
    (hs : ∀ x, foldedSetIterable iter X.env x = pure x := by intro _; rfl) :
    PE X (.ListComp elt [⟨tg, iter, ifs, 0⟩] scope pos) (tLc wi g tt te (own.map (·.2))) := by
  refine ⟨fun pins s σ H Q I h => ?_⟩
  have hrel : relabel scope X.env = scope := relabel_none nf
  refine wpAny_ListComp nf ok.kind (fun y hy e => by rw [ok.uniq y hy, e]) ?_ hs
  refine thn (hi.run pins s σ H _ I h) fun xv s1 hx => thn hx fun itv s2 h2 => ?_
  obtain ⟨it, fp, tn, J, H2, e, I2, T, st2, f2, q⟩ := h2
  subst e
  refine wpAny_newObj_type (newEnv_comp ?_) (by show 0 ≤ sizeLine; decide)
  generalize hD : s2.heap.objs.size = D
  have hDn : H2 D = none := I2.hok.fresh (Nat.le_of_eq hD)
  obtain ⟨W, ⟨m0, w0⟩, turn⟩ := q D hDn
  -- the new list
  generalize hs3 : ({ s2 with heap := s2.heap.push { cls := .type "list", data := .seq ([] : List Value).toArray } } : Shared) = s3
  have I3 : Inv X pins σ (upd H2 D (.lst [])) s3 := by
    rw [← hs3]
    refine I2.laid (t' := s2.toks) (fun b o e => Heap.get?_push_of_some _ e) (Nat.le_of_eq hD) ⟨Nat.zero_le _, [], 0, .nil, ?_⟩
    rw [← hD]
    exact Heap.get?_push_size _ rfl
  have h3 : s3.heap = s2.heap.push { cls := .type "list", data := .seq ([] : List Value).toArray } := by rw [← hs3]
  have sz : ∀ b ∈ fp, b < s2.heap.objs.size := fun b hb => by
    obtain ⟨o, e, _⟩ := T.obj _ _ st2 b hb
    exact Heap.lt_size e
  have f3 : ∀ b ∈ fp, FpOk X pins (upd H2 D (.lst [])) b ∧ b < s3.heap.objs.size := fun b hb => by
    have hlt := sz b hb
    refine ⟨⟨?_, (f2 b hb).2⟩, by rw [h3, Heap.size_push]; exact Nat.lt_succ_of_lt hlt⟩
    rw [upd_ne (by rw [← hD]; exact Nat.ne_of_lt hlt)]
    exact (f2 b hb).1
  have st3 : tn 0 s3.heap := T.keep _ _ _ st2 fun b _ o e => by rw [h3]; exact Heap.get?_push_of_some _ e
  have I4 := block_start I3 ok hN f3
  rw [clo_none nf] at I4
  have hce2 : ({ compEnvC scope (cellsFrom (s3.heap.objs.size + 1) scope.names []) s3.heap.objs.size X.env with scope := scope } : Env) = compEnvC scope (cellsFrom (s3.heap.objs.size + 1) scope.names []) s3.heap.objs.size X.env := by
    unfold compEnvC
    rw [hrel]
  have pg := hg s3 (upd H2 D (.lst [])) s3.heap.objs.size (cellsFrom (s3.heap.objs.size + 1) scope.names []) fp
  have pt := ht s3 (upd H2 D (.lst [])) s3.heap.objs.size (cellsFrom (s3.heap.objs.size + 1) scope.names []) fp
  have pe := he s3 (upd H2 D (.lst [])) s3.heap.objs.size (cellsFrom (s3.heap.objs.size + 1) scope.names []) fp
  show codeAny _ _ (.compStart (.ListComp elt [⟨tg, iter, ifs, 0⟩] scope pos) 0 (.ref it) (.ref D) ({ compEnvC scope (cellsFrom (s3.heap.objs.size + 1) scope.names []) s3.heap.objs.size X.env with scope := scope } : Env)) (fun r s' => ∃ m, s'.heap.Ns s3.heap.objs.size m ∧ ∀ h', Heap.SameBut s3.heap.objs.size s'.heap h' →
          match r with | .ok _ => EP X pins σ Q (.ref D) { s' with heap := h' } | .error x => wpAny (model X.prog X.w) X.A (PySem.passOn "comprehension.variables-let-go" x ({ compEnvC scope (cellsFrom (s3.heap.objs.size + 1) scope.names []) s3.heap.objs.size X.env with scope := scope } : Env)) (EP X pins σ Q) X.xe { s' with heap := h' }) { s3 with heap := pushCells (s3.heap.push { cls := .type "dict", data := .dict #[] }) scope.names }
  rw [hce2]
  have nfp : ∀ b ∈ fp, (upd H2 D (.lst [])) b = none := fun b hb => (f3 b hb).1.1
  generalize hce : compEnvC scope (cellsFrom (s3.heap.objs.size + 1) scope.names []) s3.heap.objs.size X.env = ce at I4 pg pt pe ⊢
  have cL : ce.locals = s3.heap.objs.size := by subst hce; rfl
  have cF : ce.frame = X.env.frame := by subst hce; rfl
  generalize hH3 : upd H2 D (.lst []) = H3 at I3 I4 pg pt pe w0 nfp f3
  generalize hs4 : ({ s3 with heap := pushCells (s3.heap.push { cls := .type "dict", data := .dict #[] }) scope.names } : Shared) = s4 at I4 ⊢
  have st4 : tn 0 s4.heap := T.keep _ _ _ st3 fun b _ o e => by rw [← hs4]; exact pushCells_keeps _ _ _ _ (Heap.get?_push_of_some _ e)
  generalize hR : (fun (r : Result) (s' : Shared) => ∃ m, s'.heap.Ns s3.heap.objs.size m ∧ ∀ h', Heap.SameBut s3.heap.objs.size s'.heap h' →
          match r with | .ok _ => EP X pins σ Q (.ref D) { s' with heap := h' } | .error x => wpAny (model X.prog X.w) X.A (PySem.passOn "comprehension.variables-let-go" x ce : Sem Value) (EP X pins σ Q) X.xe { s' with heap := h' }) = R
  generalize hxe : (notedBy (model X.prog X.w) X.A ce fun e s' => R (.error e) s') = xe
  have I4' : Inv ((X.blk s3 H3 scope ce fp).tr [] xe) [] (wipe σ (own.map (·.2))) H3 s4 := I4.toTry xe
  have pass : ∀ σ', PassesAt (L2.CX X.prog X.w) ((X.blk s3 H3 scope ce fp).tr [] xe) σ' E0 := fun σ' pins' H' s1 e s' I c => by
    show xe e s'
    rw [← hxe, ← hR]
    exact out_of_block (xe := xe) hst hf tk I3 (fun b hb => (f3 b hb).1) rfl cL cF I c
  have pg := pg xe
  have pt := pt xe
  have pe := pe xe pass
  have stat : ∀ {σ' : L2.St} {H' : Hp} {s' : Shared}, Inv ((X.blk s3 H3 scope ce fp).tr [] xe) [] σ' H' s' → (∀ b ∈ fp, H' b = none) → ∀ b ∈ fp, FpOk ((X.blk s3 H3 scope ce fp).tr [] xe) [] H' b := fun {σ' H' s'} I' hn b hb =>
    ⟨hn b hb, (I'.ok.exf b hb).1, I'.ok.exfs b hb, .inl hb, fun x c e => (I'.ok.exf b hb).2 x c e, fun p hp => absurd (show p ∈ ([] : List (Addr × Obj)) ++ [] from hp) (by simp)⟩
  have loop : codeAny (model X.prog X.w) X.A (.compLoop (.ListComp elt [⟨tg, iter, ifs, 0⟩] scope pos) 0 (.ref it) (.ref D) ce) R s4 := by
    refine compLoop_any (fun n s' => ∃ i H', Inv ((X.blk s3 H3 scope ce fp).tr [] xe) [] (wipe σ (own.map (·.2))) H' s' ∧ tn i s'.heap ∧ (∀ b ∈ fp, H' b = none) ∧ W i n H') ?_ m0 ⟨0, H3, I4', st4, nfp, w0⟩
    rintro n s5 ⟨i, H5, I5, st5, n5, w5⟩
    rw [hxe]
    rcases turn i n H5 w5 with ⟨stop, qq⟩ | ⟨go, Nx, hNx, step⟩
    · have td := T.done ((X.blk s3 H3 scope ce fp).tr [] xe) rfl rfl rfl hc i [] s5 _ H5 (fun _ _ => False) I5 (stat I5 n5) st5 stop
      refine thnF td fun r s6 ⟨hr, I6⟩ => ?_
      subst hr
      -- back in the def's context
      have I7 : Inv X pins σ H5 s6 := I3.call' (ch := fp) I6.os I6.base I6.hok I6.bare fun b hb => ⟨(f3 b hb).1.2.2.2.1, (f3 b hb).1.2.1, (f3 b hb).1.2.2.2.2.1, (f3 b hb).1.2.2.2.2.2⟩
      have nC : H5 s3.heap.objs.size = none := by
        have z : H5 ce.locals = none := I6.free
        rw [cL] at z
        exact z
      obtain ⟨m, hn, _⟩ := I6.loc
      have hn : s6.heap.Ns ce.locals m := hn
      rw [cL] at hn
      obtain ⟨f0, f1, f2, f3, f4, f5⟩ := I3.fpOk (Nat.le_refl _) nC
      rw [← hR]
      refine ⟨m, hn, fun h'' sb => ?_⟩
      exact ⟨.ref D, H5, I7.turned (t' := s6.toks) (fun b o hb e => (sb.2 b hb).trans e) f0 f1 f3 f4 f5, rfl, qq⟩
    · have ti := T.item ((X.blk s3 H3 scope ce fp).tr [] xe) rfl rfl rfl hc i [] s5 _ H5 (fun _ _ => False) I5 (stat I5 n5) st5 go
      refine thnF ti fun r s6 ⟨u, hr, h6⟩ => ?_
      subst hr
      refine thnF h6 fun _ s7 ⟨x, H7, I7, r7, y7, st7, n7⟩ => ?_
      have I7' := I7.pinned (stat I7 n7) (T.obj _ _ st7)
      refine thn (pg.run _ s7 _ H7 x u _ I7' r7 (step x H7 y7)) fun _ s8 ⟨σ8, H8, I8, hw8, q8⟩ => ?_
      refine thn (pt.run _ s8 σ8 H8 _ I8 q8) fun b s9 ⟨H9, I9, q9⟩ => ?_
      -- the turn's end
      have fin : ∀ {s' : Shared} {H' : Hp}, Inv ((X.blk s3 H3 scope ce fp).tr [] xe) ([] ++ pinsAt fp s7.heap) σ8 H' s' → Nx H' → ∃ m, m < n ∧ ∃ i H', Inv ((X.blk s3 H3 scope ce fp).tr [] xe) [] (wipe σ (own.map (·.2))) H' s' ∧ tn i s'.heap ∧ (∀ b ∈ fp, H' b = none) ∧ W i m H' := fun {s' H'} I' nx => by
        obtain ⟨m', hm, w'⟩ := hNx H' nx
        have pin' : ∀ b ∈ fp, ∀ o, s7.heap.get? b = some o → s'.heap.get? b = some o ∧ H' b = none := fun b hb o e =>
          let z := I'.pin (b, o) (List.mem_append_right _ (List.mem_append_right _ (mem_pinsAt hb e)))
          ⟨z.1, z.2.1⟩
        have hl : (wipe σ (own.map (·.2))).length = σ8.length := by rw [← hw8, wipe_length]
        refine ⟨m', hm, i + 1, H', (I'.unpinned (pins := [])).weak hl (fun j v e => ?_), T.keep _ _ _ st7 fun b hb o e => (pin' b hb o e).1, fun b hb => ?_, w'⟩
        · rw [← hw8] at e
          exact (wipe_some e).1
        · obtain ⟨o, e, _⟩ := T.obj _ _ st7 b hb
          exact (pin' b hb o e).2
      cases b with
      | false =>
        simp only [Bool.false_eq_true, if_false] at q9 ⊢
        exact fin I9 q9
      | true =>
        simp only [if_true] at q9 ⊢
        refine thn (pe.run _ s9 σ8 H9 _ I9 q9) fun z s10 ⟨yv, H10, I10, r10, acc, hD10, hz10, nx⟩ => ?_
        exact app_ok (X := (X.blk s3 H3 scope ce fp).tr [] xe) I10 hD10 hz10 r10 fun s11 I11 => fin I11 nx
  exact codeAny_compStart_list loop (T.self X.A 0 _ _ _ st4 loop)
end
end Rd

namespace Rd
open PySem PySem.Spec PyProof.Rows L2 GxR
open C8 (pss_cut tCut)
/-! ### words, plainly -/
theorem one_lt (a b : Nat) : decide (([a] : List Nat) < [b]) = decide (a < b) := by
  by_cases h : a < b
  · rw [decide_eq_true h]
    exact decide_eq_true (List.cons_lt_cons_iff.mpr (.inl h))
  · rw [decide_eq_false h]
    refine decide_eq_false fun z => ?_
    rcases List.cons_lt_cons_iff.mp z with z | ⟨_, z⟩
    · exact h z
    · exact List.not_lt_nil _ z
def signB (c : Nat) : Bool := (!decide (c < 33) && !decide (36 < c)) || (!decide (c < 38) && !decide (126 < c))
def wordB (a : Str) : Bool := decide ((1 : Int) ≤ (a.length : Int)) && (decide ((a.length : Int) ≤ 40) && a.cps.toList.all signB)
theorem wordB_len {a : Str} (h : wordB a = true) : 1 ≤ a.length ∧ a.length ≤ 40 := by
  unfold wordB at h
  rw [Bool.and_eq_true, Bool.and_eq_true] at h
  obtain ⟨h1, h2, _⟩ := h
  have h1 := of_decide_eq_true h1
  have h2 := of_decide_eq_true h2
  omega
theorem wordB_signs {a : Str} (h : wordB a = true) : ∀ c ∈ a.cps.toList, signB c = true := by
  unfold wordB at h
  rw [Bool.and_eq_true, Bool.and_eq_true] at h
  exact List.all_eq_true.mp h.2.2
theorem small_line {n : Nat} (h : n ≤ 1000000) : n ≤ sizeLine := Nat.le_trans h (by decide)
theorem tyL {K : PySem.W.Frag} {H : Hp} {a : Addr} {xs : List V} (h : SqL K H a xs) : TyX K H (.ref a) (.type "list") := by
  rcases h with (h | ⟨o, h⟩) | ⟨o, its, n, e, c, _⟩
  · exact .base (.lst h)
  · exact .base (.frz h)
  · exact .kList e c
theorem tyT {K : PySem.W.Frag} {H : Hp} {a : Addr} {xs : List V} (h : SqT K H a xs) : TyX K H (.ref a) (.type "tuple") := by
  rcases h with (h | ⟨o, h⟩) | ⟨o, its, n, e, c, _⟩
  · exact .base (.tup h)
  · exact .fTuple h
  · exact .kTuple e c
theorem for_enum {K : PySem.W.Frag} {a : Addr} {xs : List V} {g : TG} {tb : TS} {D : Ends} {σ : L2.St} {H : Hp} (Pv : Nat → L2.St → Hp → Prop) (h0 : Pv 0 σ H) (hl : ∀ i σ H, i ≤ xs.length → Pv i σ H → SqL K H a xs)
    (hs : ∀ (i : Nat) (x : V) (T : Addr) (σ : L2.St) (H : Hp), xs[i]? = some x → H T = none → Pv i σ H → g (.ref T) σ (upd H T (.tup [.int (i : Nat), x])) fun σ2 H2 => tb { D with nx := Pv (i + 1), ct := Pv (i + 1), bk := D.nx } σ2 H2) (hd : ∀ σ H, Pv xs.length σ H → D.nx σ H) :
    ∃ W : Nat → Nat → L2.St → Hp → Prop, (∃ m, W 0 m σ H) ∧ ∀ i m σ H, W i m σ H →
      ((Ite K a).stop i H ∧ D.nx σ H) ∨ ((Ite K a).go i H ∧ ∃ N : L2.St → Hp → Prop, (∀ σ' H', N σ' H' → ∃ m', m' < m ∧ W (i + 1) m' σ' H') ∧ ∀ x H', (Ite K a).yld i H x H' → g x σ H' fun σ2 H2 => tb { D with nx := N, ct := N, bk := D.nx } σ2 H2) := by
  refine ⟨fun i m σ H => m = xs.length - i ∧ i ≤ xs.length ∧ Pv i σ H, ⟨xs.length, by simp, Nat.zero_le _, h0⟩, ?_⟩
  rintro i m σ H ⟨rfl, hi, p⟩
  have q := hl i σ H hi p
  by_cases hlt : i < xs.length
  · refine .inr ⟨⟨xs, xs[i], q, by simp [hlt]⟩, Pv (i + 1), fun σ' H' p' => ⟨xs.length - (i + 1), by omega, rfl, hlt, p'⟩, fun x H' y => ?_⟩
    obtain ⟨T, z, rfl, nT, rfl, hz⟩ := y
    exact hs i z T σ H (hz xs q) nT p
  · have e : i = xs.length := by omega
    subst e
    exact .inl ⟨⟨xs, q, Nat.le_refl _⟩, hd σ H p⟩
theorem yesT {σ : L2.St} {H : Hp} {f g : Hp → Prop} (h : f H) : tYes σ H fun b H3 => if b = true then f H3 else g H3 := by
  show if true = true then f H else g H
  exact iteT h
theorem Kp.set {Ps : List Addr} {H H' : Hp} (t : Tb Ps H) (k : Kp Ps H H') {D : Addr} {o : HO} (h : H D = Option.none) : Kp Ps H (upd H' D o) := by
  have hD := t.none h
  refine ⟨fun P hP => ?_, fun b u hb e => ?_⟩
  · obtain ⟨ps, h1, h2⟩ := k.1 P hP
    exact ⟨ps, by rw [upd_ne (fun z => hD (by rw [← z]; exact hP))]; exact h1, h2⟩
  · rw [upd_ne (ne_of_none e h)]
    exact k.2 b u hb e
theorem take_snoc {α : Type} {l : List α} {i : Nat} {x : α} (h : l[i]? = some x) : l.take (i + 1) = l.take i ++ [x] := by
  rw [List.take_add_one, h]
  rfl
def top (i : Nat) : Stmt := PySem.Challenge.pw_redraft_k12_read.main.body.getD i (.Pass ⟨0, 0, 0, 0⟩)
abbrev sIsSign : Stmt := top 5
abbrev sIsWord : Stmt := top 6
abbrev sRowWords : Stmt := top 9
abbrev sReadNumber : Stmt := top 13
abbrev sReadWords : Stmt := top 14
abbrev sReadRow : Stmt := top 15
abbrev sRead : Stmt := top 16
abbrev sCellAt : Stmt := top 18
abbrev sSignBy : Stmt := top 19
abbrev sWordBy : Stmt := top 20
abbrev sNear : Stmt := top 21
abbrev sMenu : Stmt := top 22
abbrev sWhole : Stmt := top 23
abbrev sTexts : Stmt := top 24
abbrev sRowsTold : Stmt := top 25
abbrev sFigures : Stmt := top 26
abbrev sLine : Stmt := top 27
abbrev sSpoilt : Stmt := top 28
abbrev sNumber : Stmt := top 29
abbrev sWord : Stmt := top 30
abbrev sRow : Stmt := top 31
abbrev sTried : Stmt := top 32
abbrev sAny : Stmt := top 33
abbrev sLaw : Stmt := top 34
/-! ### the program's words -/
section
variable {P : Program} {w : World} {K : PySem.W.Frag} {mg : Str → Option Value} {base : Heap}
abbrev FnP (K : PySem.W.Frag) (x : Str) (st : Stmt) (f : Addr) (fd : FuncData) : Prop := FunD K x x (defArgs st) (defBody st) (defScope st) [] [] f fd
theorem scIsSign : FnScope ["sign"] ["sign"] (defScope sIsSign) := ⟨rfl, rfl, rfl, by decide +kernel, rfl, by decide +kernel, by decide +kernel⟩
theorem scIsWord : FnScope ["word", "sign"] ["word"] (defScope sIsWord) := ⟨rfl, rfl, rfl, by decide +kernel, rfl, by decide +kernel, by decide +kernel⟩
def spIsSign : Sp := fun vs H Q _ => ∃ c : Nat, vs = [.str ⟨#[c]⟩] ∧ Q (.bl (signB c)) H
theorem ok_is_sign {f : Addr} {fd : FuncData} (F : FnP K "is_sign" sIsSign f fd) : FnOk P w K mg base (L2.CX P w) 1 f fd ["sign"] spIsSign := by
  refine F.ok scIsSign (fun vs H Q E h => ?_) (fun cdv A outer s H vs Q E hr h => ?_)
  · obtain ⟨c, rfl, _⟩ := h
    rfl
  · obtain ⟨c, rfl, q⟩ := h
    refine ⟨_, pss_one (ps_ret (pe_or (pe_chain op_le_str op_le_str pe_str (pv 0) pe_str) (pe_one (pe_chain op_le_str op_le_str pe_str (pv 0) pe_str)))), ?_⟩
    have k1 : ("!" : Str).cps.toList = [33] := by decide +kernel
    have k2 : ("$" : Str).cps.toList = [36] := by decide +kernel
    have k3 : ("&" : Str).cps.toList = [38] := by decide +kernel
    have k4 : ("~" : Str).cps.toList = [126] := by decide +kernel
    have kc : (⟨#[c]⟩ : Str).cps.toList = [c] := rfl
    refine ⟨_, rfl, _, _, rfl, rfl, _, rfl, ?_⟩
    rw [k1, kc, one_lt]
    unfold signB at q
    by_cases h1 : c < 33
    · rw [decide_eq_true h1] at q ⊢
      refine iteF ⟨_, rfl, iteF ⟨_, rfl, _, _, rfl, rfl, _, rfl, ?_⟩⟩
      rw [k3, kc, one_lt]
      by_cases h3 : c < 38
      · rw [decide_eq_true h3] at q ⊢
        exact iteF q
      · omega
    · rw [decide_eq_false h1] at q ⊢
      refine iteT ⟨_, _, rfl, rfl, ?_⟩
      rw [k2, kc, one_lt]
      by_cases h2 : 36 < c
      · rw [decide_eq_true h2] at q ⊢
        refine ⟨_, rfl, iteF ⟨_, rfl, _, _, rfl, rfl, _, rfl, ?_⟩⟩
        rw [k3, kc, one_lt]
        by_cases h3 : c < 38
        · rw [decide_eq_true h3] at q ⊢
          exact iteF q
        · rw [decide_eq_false h3] at q ⊢
          refine iteT ⟨_, _, rfl, rfl, ?_⟩
          rw [k4, kc, one_lt]
          exact q
      · rw [decide_eq_false h2] at q ⊢
        exact ⟨_, rfl, iteT q⟩

def spIsWord (Ps : List Addr) : Sp := fun vs H Q _ => ∃ a : Str, vs = [.str a] ∧ a.length ≤ sizeLine ∧ Tb Ps H ∧ ∀ H', Kp Ps H H' → Q (.bl (wordB a)) H'
theorem ok_is_word {Ps : List Addr} {f fS Pw : Addr} {fd fdS : FuncData} (F : FnP K "is_word" sIsWord f fd) (hf : f = He.fAd K ("is_word", none)) (hPw : Pw ∈ Ps) (TB : GxR.TabB base mg (He.codeOf K ("is_word", none)) Pw)
    (FS : FnP K "is_sign" sIsSign fS fdS) (bS : Binds K fdS ["sign"] []) (gS : mg "is_sign" = some (.ref fS)) (mI : mg "isinstance" = none) (mS : mg "str" = none) (mL : mg "len" = none) (mA : mg "all" = none) {tL : Tok} (mN : mg "LONGEST" = some (.int 40 tL)) :
    FnOk P w K mg base (L2.CX P w) 3 f fd ["word"] (spIsWord Ps) := by
  have GS : FnOk P w K mg base (L2.CX P w) 1 fS fdS ["sign"] spIsSign := ok_is_sign FS
  refine okC F hf scIsWord (fun vs H Q E h => ?_) (fun A outer s H vs Q E hr h => ?_)
  · obtain ⟨a, rfl, _⟩ := h
    rfl
  · obtain ⟨a, rfl, hz, ht, q⟩ := h
    refine ⟨_, pss_cons (ps_if (pt_not (pt_val (pe_callB call_isi (by rfl) mI (by decide +kernel) (pa_cons (pv 0) (pa_cons (pe_bltn (v := .ty "str") (by rfl) mS (by decide +kernel) rfl) pa_nil))))) (pss_one (ps_ret pe_bl)) pss_nil)
      (pss_one (ps_ret (pe_and (pe_chain op_le op_le pe_int (pe_callB call_len_str (by rfl) mL PySem.boot_len (pa_cons (pv 0) pa_nil)) (pe_glob (v := .int 40) (by rfl) mN ⟨_, rfl⟩))
        (pe_one (pe_allG (own := [("sign", 1)]) (gt := gName 1) (tt := tYes) (P := Pw) hr scIsWord.nd (by rfl) mA (by decide +kernel) TB rfl ⟨rfl, by decide +kernel, rfl, blkOk_by (N := ["word", "sign"]) (sc := defScope sIsWord) (by decide +kernel)⟩ (pi_str (pv 0))
          (fun _ _ _ _ _ _ _ _ _ => pg_name (i := 1) scIsWord.nd rfl (Or.inl rfl)) (fun _ _ _ _ _ _ _ _ _ _ => pts_nil) (fun _ _ _ _ _ _ _ _ _ hb => pe_call GS hb (by rfl) gS FS.kp bS .nil passL (pa_cons (pv 1) pa_nil))))))), ?_⟩
    refine ⟨_, rfl, .str a, .ty "str", _, _, true, rfl, .ty _, .base (.str a), kit_ty (by decide +kernel), true, rfl, iteF ?_⟩
    refine ⟨_, rfl, a, rfl, hz, 1, (a.length : Int), rfl, rfl, _, rfl, ?_⟩
    have eN : wordB a = (decide ((1 : Int) ≤ (a.length : Int)) && (decide ((a.length : Int) ≤ 40) && a.cps.toList.all signB)) := rfl
    rw [eN] at q
    by_cases h1 : (1 : Int) ≤ (a.length : Int)
    · rw [decide_eq_true h1] at q ⊢
      refine iteT ⟨(a.length : Int), 40, rfl, rfl, _, rfl, ?_⟩
      by_cases h2 : (a.length : Int) ≤ 40
      · rw [decide_eq_true h2] at q ⊢
        refine iteT ⟨_, rfl, a, rfl, ht Pw hPw, fun H2 hT => ?_⟩
        have k2 := Kp.tab ht hPw hT
        refine read_all_str (pb := signB) (Pv := fun H3 => H3 = H2) rfl (fun i c H3 R _ p hR => ?_) (fun H3 p => ?_)
        · subst p
          refine ⟨rfl, _, rfl, c, rfl, hR _ rfl⟩
        · subst p
          exact q _ k2
      · rw [decide_eq_false h2] at q ⊢
        exact iteF (q H (Kp.refl ht))
    · rw [decide_eq_false h1] at q ⊢
      exact iteF ⟨_, rfl, iteF (q H (Kp.refl ht))⟩
end
/-! ### rows, plainly -/
structure RowD where
  kind : Str
  num : Int
  ws : List Str
def plainK : List Str := ["keep", "cut", "put"]
def blockK : List Str := ["take", "lay"]
def oldK : List Str := ["keep", "cut", "take"]
def newK : List Str := ["keep", "put", "lay"]
def numB (k : Str) (n : Int) : Bool := if inV (.str k) (blockK.map V.str) = true then decide (1 ≤ n) && decide (n ≤ 999999999) else decide (V.int n = V.int 0)
structure RowOk (r : RowD) : Prop where
  kind : r.kind ∈ plainK ++ blockK
  num : numB r.kind r.num = true
  some : r.ws ≠ []
  words : ∀ a ∈ r.ws, wordB a = true
def RowAt (K : PySem.W.Frag) (H : Hp) (v : V) (r : RowD) : Prop := ∃ T W, v = .ref T ∧ SqT K H T [.str r.kind, .int r.num, .ref W] ∧ SqT K H W (r.ws.map V.str)
def RowsAt (K : PySem.W.Frag) (H : Hp) (xs : List V) (rs : List RowD) : Prop := xs.length = rs.length ∧ ∀ (i : Nat) (v : V), xs[i]? = some v → ∃ r, rs[i]? = some r ∧ RowAt K H v r
theorem RowAt.kp {K : PySem.W.Frag} {Ps : List Addr} {H H' : Hp} {v : V} {r : RowD} (t : Tb Ps H) (k : Kp Ps H H') (h : RowAt K H v r) : RowAt K H' v r :=
  let ⟨T, W, e, h1, h2⟩ := h; ⟨T, W, e, k.seqT t h1, k.seqT t h2⟩
theorem RowsAt.kp {K : PySem.W.Frag} {Ps : List Addr} {H H' : Hp} {xs : List V} {rs : List RowD} (t : Tb Ps H) (k : Kp Ps H H') (h : RowsAt K H xs rs) : RowsAt K H' xs rs :=
  ⟨h.1, fun i v e => let ⟨r, h1, h2⟩ := h.2 i v e; ⟨r, h1, h2.kp t k⟩⟩
theorem inV_strs (k : Str) : ∀ l : List Str, inV (.str k) (l.map V.str) = decide (k ∈ l) := by
  intro l
  unfold inV
  induction l with
  | nil => rfl
  | cons a r ih =>
    rw [List.map_cons, List.any_cons, ih]
    have e : eqV (V.str a) (V.str k) = decide (k = a) := by
      show decide (a = k) = decide (k = a)
      by_cases h : a = k
      · subst h
        rfl
      · rw [decide_eq_false h, decide_eq_false (Ne.symm h)]
    rw [e]
    by_cases h : k = a
    · rw [decide_eq_true h, decide_eq_true (show k ∈ a :: r from h ▸ List.mem_cons_self)]
      rfl
    · by_cases h2 : k ∈ r
      · rw [decide_eq_true h2, decide_eq_true (List.mem_cons_of_mem _ h2), Bool.or_true]
      · rw [decide_eq_false h, decide_eq_false h2, decide_eq_false (fun z => (List.mem_cons.mp z).elim h h2)]
        rfl
theorem flat_strs : ∀ l : List Str, (l.map V.str).all flatV = true := by
  intro l
  induction l with
  | nil => rfl
  | cons a r ih =>
    rw [List.map_cons, List.all_cons, ih]
    rfl
/-- a tuple of texts that stands at the top -/
def KTup (K : PySem.W.Frag) (a : Addr) (l : List Str) : Prop := ∀ H, SqT K H a (l.map V.str)
def tupB (K : PySem.W.Frag) (a : Addr) (l : List Str) : Bool := match K.lookup a with
  | some ⟨.type c, _, .seq its _, _⟩ => decide (c = "tuple") && (decide (its.size ≤ 100) && He.relAll (l.map V.str) its.toList)
  | _ => false
theorem tupB_ok {K : PySem.W.Frag} {a : Addr} {l : List Str} (h : tupB K a l = true) : KTup K a l := by
  intro H
  unfold tupB at h
  cases q : K.lookup a with
  | none =>
    rw [q] at h
    cases h
  | some o =>
    obtain ⟨oc, od, dt, osl⟩ := o
    rw [q] at h
    cases oc with
    | type c =>
      cases dt with
      | seq its n =>
        have h2 : (decide (c = "tuple") && (decide (its.size ≤ 100) && He.relAll (l.map V.str) its.toList)) = true := h
        rw [Bool.and_eq_true, Bool.and_eq_true] at h2
        obtain ⟨h3, h4, h5⟩ := h2
        refine .inr ⟨_, its, n, q, congrArg Value.type (of_decide_eq_true h3), rfl, Nat.le_trans (of_decide_eq_true h4) (by decide), He.relAll_ok h5⟩
      | _ => cases h
    | _ => cases dt <;> cases h
def strV : V → Bool
  | .str a => wordB a
  | _ => false
theorem all_strV : ∀ ws : List Str, (ws.map V.str).all strV = ws.all wordB := by
  intro ws
  induction ws with
  | nil => rfl
  | cons a r ih =>
    rw [List.map_cons, List.all_cons, List.all_cons, ih]
    rfl
/-! ### the way back, the cost -/
def wayB (k : Str) : Str := if k = "cut" then "put" else if k = "put" then "cut" else if k = "take" then "lay" else if k = "lay" then "take" else "keep"
def cutPut : List Str := ["cut", "put"]
def turnR (r : RowD) : RowD := { r with kind := wayB r.kind }
def rowCost (r : RowD) : Int := if inV (.str r.kind) (cutPut.map V.str) = true then (r.ws.length : Int) else if r.kind = "take" then 3 else 0
def costOf (rs : List RowD) : Int := (rs.map rowCost).sum
theorem RowAt.set {K : PySem.W.Frag} {H : Hp} {D : Addr} {o : HO} {v : V} {r : RowD} (hD : ∀ xs, ¬ Rd H D (.tup xs)) (h : RowAt K H v r) : RowAt K (upd H D o) v r := by
  obtain ⟨T, W, e, h1, h2⟩ := h
  have key : ∀ {a : Addr} {xs : List V}, SqT K H a xs → SqT K (upd H D o) a xs := fun {a xs} h => by
    rcases h with h | h
    · have ne : a ≠ D := fun z => hD xs (by rw [← z]; exact h)
      rcases h with h | ⟨ob, h⟩
      · exact .inl (.inl (by rw [upd_ne ne]; exact h))
      · exact .inl (.inr ⟨ob, by rw [upd_ne ne]; exact h⟩)
    · exact .inr h
  exact ⟨T, W, e, key h1, key h2⟩
theorem noTup {H : Hp} {D : Addr} {ys : List V} (h : H D = some (.lst ys)) : ∀ xs, ¬ Rd H D (.tup xs) := fun xs z => by
  rcases z with z | ⟨o, z⟩
  · rw [h] at z
    cases z
  · rw [h] at z
    cases z
/-! ### rows as data; what the laws say of rows -/
theorem signB_lt' {c : Nat} (h : signB c = true) : c < 127 := by
  unfold signB at h
  rw [Bool.or_eq_true, Bool.and_eq_true, Bool.and_eq_true, Bool.not_eq_true', Bool.not_eq_true', Bool.not_eq_true', Bool.not_eq_true'] at h
  rcases h with ⟨_, h⟩ | ⟨_, h⟩
  · have := of_decide_eq_false h
    omega
  · have := of_decide_eq_false h
    omega
theorem strOk_word {a : Str} (h : wordB a = true) : PyData.strOk a = true := by
  unfold PyData.strOk
  rw [Array.all_eq_true]
  intro i hi
  have h1 : a.cps[i] ∈ a.cps.toList := by simp
  have h2 := signB_lt' (wordB_signs h _ h1)
  exact decide_eq_true (by omega)
theorem dpStrs (H : Hp) (K : PySem.W.Frag) : ∀ ws : List Str, DpAll K H (ws.map V.str) (ws.map PyData.str)
  | [] => .nil
  | x :: r => .cons (.str x) (dpStrs H K r)
theorem lay_strs : ∀ ws : List Str, (∀ a ∈ ws, PyData.strOk a = true) → PyData.canLayAll0 (ws.map PyData.str) = true := fun ws => by
  induction ws with
  | nil => exact fun _ => rfl
  | cons x r ih =>
    intro h
    show (PyData.canLay0 (.str x) && PyData.canLayAll0 (r.map PyData.str)) = true
    rw [ih fun b hb => h b (List.mem_cons_of_mem _ hb), show PyData.canLay0 (.str x) = PyData.strOk x from rfl, h x List.mem_cons_self]
    rfl
theorem depth_strs : ∀ ws : List Str, PyData.depthAll (ws.map PyData.str) = 0 := fun ws => by
  induction ws with
  | nil => rfl
  | cons x r ih =>
    show max (PyData.depth (.str x)) (PyData.depthAll (r.map PyData.str)) = 0
    rw [ih]
    rfl
theorem shaped_words {ws : List Str} (h : ∀ a ∈ ws, PyData.strOk a = true) : SeqAt.shaped (.list (ws.map PyData.str)) = true := by
  show (PyData.canLayAll0 (ws.map PyData.str) && decide (PyData.depthAll (ws.map PyData.str) + 1 ≤ 64)) = true
  rw [lay_strs ws h, depth_strs]
  rfl
def rowData (r : RowD) : PyData := .tuple [.str r.kind, .int r.num, .tuple (r.ws.map PyData.str)]
theorem dpRow {K : PySem.W.Frag} {H : Hp} {v : V} {r : RowD} (h : RowAt K H v r) : Dp K H v (rowData r) := by
  obtain ⟨T, W, rfl, hT, hW⟩ := h
  exact .tup hT (.cons (.str _) (.cons (.int _) (.cons (.tup hW (dpStrs H K r.ws)) .nil)))
theorem dpRows {K : PySem.W.Frag} {H : Hp} : ∀ {xs : List V} {rs : List RowD}, RowsAt K H xs rs → DpAll K H xs (rs.map rowData)
  | [], [], _ => .nil
  | [], _ :: _, h => nomatch h.1
  | _ :: _, [], h => nomatch h.1
  | x :: xs, r :: rs, h => by
    obtain ⟨r', h1, h2⟩ := h.2 0 x rfl
    cases h1
    exact .cons (dpRow h2) (dpRows ⟨Nat.succ.inj h.1, fun i v e => h.2 (i + 1) v e⟩)
theorem kinds_strOk : ∀ k ∈ plainK ++ blockK, PyData.strOk k = true := by decide +kernel
theorem lay_rows : ∀ rs : List RowD, (∀ r ∈ rs, RowOk r) → PyData.canLayAll0 (rs.map rowData) = true := fun rs => by
  induction rs with
  | nil => exact fun _ => rfl
  | cons x r ih =>
    intro h
    have hx := h x List.mem_cons_self
    show (((PyData.strOk x.kind && (true && (PyData.canLayAll0 (x.ws.map PyData.str) && true)))) && PyData.canLayAll0 (r.map rowData)) = true
    rw [ih fun b hb => h b (List.mem_cons_of_mem _ hb), lay_strs x.ws fun a ha => strOk_word (hx.words a ha), kinds_strOk _ hx.kind]
    rfl
theorem depth_rows : ∀ rs : List RowD, PyData.depthAll (rs.map rowData) ≤ 2 := fun rs => by
  induction rs with
  | nil => exact Nat.zero_le _
  | cons x r ih =>
    show max (max (0 : Nat) (max (0 : Nat) (max (PyData.depthAll (x.ws.map PyData.str) + 1) 0)) + 1) (PyData.depthAll (r.map rowData)) ≤ 2
    rw [depth_strs]
    omega
theorem shaped_rows {rs : List RowD} (h : ∀ r ∈ rs, RowOk r) : SeqAt.shaped (.list (rs.map rowData)) = true := by
  show (PyData.canLayAll0 (rs.map rowData) && decide (PyData.depthAll (rs.map rowData) + 1 ≤ 64)) = true
  rw [lay_rows rs h, decide_eq_true (show PyData.depthAll (rs.map rowData) + 1 ≤ 64 by have := depth_rows rs; omega)]
  rfl
theorem noTb {H : Hp} : Tb [] H := fun _ h => by cases h
theorem RowAt.same {K : PySem.W.Frag} {H H' : Hp} {v : V} {r : RowD} (s : Same H H') (h : RowAt K H v r) : RowAt K H' v r := h.kp noTb (Kp.same noTb s)
theorem RowsAt.same {K : PySem.W.Frag} {H H' : Hp} {xs : List V} {rs : List RowD} (s : Same H H') (h : RowsAt K H xs rs) : RowsAt K H' xs rs := h.kp noTb (Kp.same noTb s)
theorem sameT {K : PySem.W.Frag} {H H' : Hp} {a : Addr} {xs : List V} (s : Same H H') (h : SqT K H a xs) : SqT K H' a xs := (Kp.same noTb s).seqT noTb h
theorem atM {α : Type} {l : List α} {c : Int} {n : Nat} {x : α} (hn : 0 < n) (h : l[(c % (n : Int)).toNat]? = some x) : atI l (c % (n : Int)) = some x := by
  have h1 : 0 ≤ c % (n : Int) := Int.emod_nonneg c (by omega)
  have e : c % (n : Int) = (((c % (n : Int)).toNat : Nat) : Int) := (Int.toNat_of_nonneg h1).symm
  rw [e]
  exact atI_nat h
theorem ltM {c : Int} {n : Nat} (hn : 0 < n) : (c % (n : Int)).toNat < n := by
  have h1 : 0 ≤ c % (n : Int) := Int.emod_nonneg c (by omega)
  have h2 : c % (n : Int) < (n : Int) := Int.emod_lt_of_pos c (by omega)
  omega
theorem lay_words {ws : List Str} (h : ∀ a ∈ ws, wordB a = true) : (PyData.tuple (ws.map PyData.str)).canLay0 = true := lay_strs ws fun a ha => strOk_word (h a ha)
theorem shaped_tup {ws : List Str} (h : ∀ a ∈ ws, wordB a = true) : SeqAt.shaped (.tuple (ws.map PyData.str)) = true := by
  show (PyData.canLayAll0 (ws.map PyData.str) && decide (PyData.depthAll (ws.map PyData.str) + 1 ≤ 64)) = true
  rw [lay_strs ws fun a ha => strOk_word (h a ha), depth_strs]
  rfl
theorem same_set {H H' : Hp} (m : Same H H') {D : Addr} {o : HO} (n : H D = none) : Same H (upd H' D o) := fun b u e => by
  rw [upd_ne (ne_of_none e n)]
  exact m b u e
/-! ### more of rows -/
theorem cut30 (xs : List V) : (cutV xs (some 4) (some 34)).length ≤ 30 := by
  unfold cutV
  have h1 : HT.sIx xs.length 0 (some 4) = min 4 xs.length := HT.sIx_nat _ _ 4
  have h2 : HT.sIx xs.length xs.length (some 34) = min 34 xs.length := HT.sIx_nat _ _ 34
  rw [h1, h2, List.length_take, List.length_drop]
  omega
theorem cut_mem {xs : List V} {lo hi : Option Int} {x : V} (h : x ∈ cutV xs lo hi) : x ∈ xs := List.mem_of_mem_drop (List.mem_of_mem_take h)
theorem RowsAt.snoc {K : PySem.W.Frag} {H : Hp} {xs : List V} {rs : List RowD} {v : V} {r : RowD} (h : RowsAt K H xs rs) (h2 : RowAt K H v r) : RowsAt K H (xs ++ [v]) (rs ++ [r]) := by
  refine ⟨by rw [List.length_append, List.length_append, h.1]; rfl, fun i x e => ?_⟩
  by_cases hi : i < xs.length
  · rw [List.getElem?_append_left hi] at e
    obtain ⟨r', h3, h4⟩ := h.2 i x e
    exact ⟨r', by rw [List.getElem?_append_left (by rw [← h.1]; exact hi)]; exact h3, h4⟩
  · have hl := (List.getElem?_eq_some_iff.mp e).1
    rw [List.length_append] at hl
    have hl : i < xs.length + 1 := hl
    have e2 : i = xs.length := by omega
    subst e2
    rw [List.getElem?_append_right (Nat.le_refl _), Nat.sub_self] at e
    cases e
    exact ⟨r, by rw [List.getElem?_append_right (by rw [← h.1]; exact Nat.le_refl _), h.1, Nat.sub_self]; rfl, h2⟩
theorem RowsAt.set {K : PySem.W.Frag} {H : Hp} {D : Addr} {o : HO} {xs : List V} {rs : List RowD} (hD : ∀ xs, ¬ Rd H D (.tup xs)) (h : RowsAt K H xs rs) : RowsAt K (upd H D o) xs rs :=
  ⟨h.1, fun i v e => let ⟨r, h1, h2⟩ := h.2 i v e; ⟨r, h1, h2.set hD⟩⟩
theorem turnR_ok {r : RowD} (h : RowOk r) : RowOk (turnR r) := by
  have key : ∀ k ∈ plainK ++ blockK, wayB k ∈ plainK ++ blockK ∧ (decide (k ∈ blockK) = decide (wayB k ∈ blockK)) := by decide +kernel
  obtain ⟨h1, h2⟩ := key _ h.kind
  refine ⟨h1, ?_, h.some, h.words⟩
  have h3 := h.num
  unfold numB at h3 ⊢
  rw [inV_strs] at h3 ⊢
  show (if decide (wayB r.kind ∈ blockK) = true then _ else _) = true
  rw [← h2]
  exact h3
theorem numB_block {k : Str} {n : Int} (hk : k = "take" ∨ k = "lay") (h1 : 1 ≤ n) (h2 : n ≤ 999999999) : numB k n = true := by
  unfold numB
  rw [inV_strs, decide_eq_true (show k ∈ blockK by rcases hk with rfl | rfl <;> decide +kernel), if_pos rfl, decide_eq_true h1, decide_eq_true h2]
  rfl
theorem numB_plain {k : Str} (h1 : k ≠ "take") (h2 : k ≠ "lay") : numB k 0 = true := by
  unfold numB
  rw [inV_strs, decide_eq_false (show ¬ k ∈ blockK from fun z => by
    rcases List.mem_cons.mp z with z | z
    · exact h1 z
    · rcases List.mem_cons.mp z with z | z
      · exact h2 z
      · cases z), if_neg Bool.false_ne_true]
  rfl
/-! ### whole numbers -/
section
variable {P : Program} {w : World} {K : PySem.W.Frag} {mg : Str → Option Value} {base : Heap}
theorem scWhole : FnScope ["_law_found"] ["_law_found"] (defScope sWhole) := ⟨rfl, rfl, rfl, by decide +kernel, rfl, by decide +kernel, by decide +kernel⟩
def spWhole : Sp := fun vs H Q _ => ∃ n : Int, vs = [.int n] ∧ Q (.bl true) H
theorem ok_whole {f : Addr} {fd : FuncData} (F : FnP K "_law_whole" sWhole f fd) (mI : mg "isinstance" = none) (mN : mg "int" = none) (mO : mg "bool" = none) : FnOk P w K mg base (L2.CX P w) 1 f fd ["_law_found"] spWhole := by
  refine F.ok scWhole (fun vs H Q E h => ?_) (fun cdv A outer s H vs Q E hr h => ?_)
  · obtain ⟨n, rfl, _⟩ := h
    rfl
  · obtain ⟨n, rfl, q⟩ := h
    refine ⟨_, pss_one (ps_ret (pe_and (pe_callB call_isi (by rfl) mI (by decide +kernel) (pa_cons (pv 0) (pa_cons (pe_bltn (v := .ty "int") (by rfl) mN (by decide +kernel) rfl) pa_nil)))
      (pe_one (pe_not (pe_callB call_isi (by rfl) mI (by decide +kernel) (pa_cons (pv 0) (pa_cons (pe_bltn (v := .ty "bool") (by rfl) mO (by decide +kernel) rfl) pa_nil))))))), ?_⟩
    refine ⟨_, rfl, .int n, .ty "int", _, _, true, rfl, .ty _, .base (.int n), kit_ty (by decide +kernel), true, rfl, iteT ?_⟩
    exact ⟨_, rfl, .int n, .ty "bool", _, _, false, rfl, .ty _, .base (.int n), kit_ty (by decide +kernel), _, rfl, q⟩
end
/-! ### the law's own helpers -/
def sg (i : Nat) : Nat := if i < 4 then 33 + i else 34 + i
def sgnOf (c : Int) : Nat := sg (c % 93).toNat
theorem sg_ok {i : Nat} (h : i < 93) : signB (sg i) = true := by
  unfold signB sg
  by_cases h1 : i < 4
  · rw [if_pos h1, decide_eq_false (show ¬ 33 + i < 33 by omega), decide_eq_false (show ¬ 36 < 33 + i by omega)]
    rfl
  · rw [if_neg h1, decide_eq_false (show ¬ 34 + i < 38 by omega), decide_eq_false (show ¬ 126 < 34 + i by omega)]
    exact Bool.or_true _
theorem sgnOf_ok (c : Int) : signB (sgnOf c) = true := sg_ok (by
  have h1 : 0 ≤ c % 93 := Int.emod_nonneg c (by decide)
  have h2 : c % 93 < 93 := Int.emod_lt_of_pos c (by decide)
  omega)
def wMore (c : Int) : Int := (c + 5) * 48271 % 1000003
def wSize (c : Int) : Int := if wMore c / 3 % 3 = 1 then 1 + wMore c / 9 % 40 else 1 + wMore c % 3
def wSign (c : Int) (k : Nat) : Nat := sgnOf ((wMore c + 11 * (0 + (k : Int)) + 1) * (wMore c + 211 * (0 + (k : Int)) + 3) % 1000033)
def wCodes (c : Int) (n : Nat) : List Nat := (List.range n).map (wSign c)
def wordOf (c : Int) : Str := ⟨(wCodes c (wSize c).toNat).toArray⟩
theorem wMore_b (c : Int) : 0 ≤ wMore c ∧ wMore c < 1000003 := ⟨Int.emod_nonneg _ (by decide), Int.emod_lt_of_pos _ (by decide)⟩
theorem wSize_b (c : Int) : 1 ≤ wSize c ∧ wSize c ≤ 40 := by
  have h := wMore_b c
  unfold wSize
  by_cases h1 : wMore c / 3 % 3 = 1
  · rw [if_pos h1]
    omega
  · rw [if_neg h1]
    omega
theorem wordOf_len (c : Int) : (wordOf c).length = (wSize c).toNat := by
  show (wCodes c (wSize c).toNat).toArray.size = _
  rw [List.size_toArray]
  unfold wCodes
  rw [List.length_map, List.length_range]
theorem wordOf_ok (c : Int) : wordB (wordOf c) = true := by
  have h := wSize_b c
  have hl := wordOf_len c
  unfold wordB
  rw [Bool.and_eq_true, Bool.and_eq_true]
  refine ⟨decide_eq_true (by omega), decide_eq_true (by omega), List.all_eq_true.mpr fun x hx => ?_⟩
  have hx : x ∈ wCodes c (wSize c).toNat := hx
  obtain ⟨k, _, rfl⟩ := List.mem_map.mp hx
  exact sgnOf_ok _
/-- signs put together -/
theorem join_signs : ∀ l : List Nat, Txt.join ("" : Str) (l.map fun c => (⟨#[c]⟩ : Str)) = (⟨l.toArray⟩ : Str) := by
  intro l
  show Builtin.Str.glued ("" : Str) (l.map fun c => (⟨#[c]⟩ : Str)) = _
  rw [StrLaws.glued_eq_join]
  have e0 : ("" : Str) = ⟨#[]⟩ := by decide +kernel
  rw [e0]
  induction l with
  | nil => rfl
  | cons c r ih =>
    cases r with
    | nil => rfl
    | cons d r =>
      show (⟨#[c]⟩ : Str) ++ (⟨#[]⟩ : Str) ++ Str.join ⟨#[]⟩ ((d :: r).map fun c => (⟨#[c]⟩ : Str)) = _
      rw [ih]
      refine Str.ext' (Array.toList_inj.mp ?_)
      rw [Str.cps_append, Str.cps_append, Array.toList_append, Array.toList_append]
      simp
section
variable {P : Program} {w : World} {K : PySem.W.Frag} {mg : Str → Option Value} {base : Heap}
theorem scCellAt : FnScope ["_law_script", "_law_k"] ["_law_script", "_law_k"] (defScope sCellAt) := ⟨rfl, rfl, rfl, by decide +kernel, rfl, by decide +kernel, by decide +kernel⟩
theorem scSignBy : FnScope ["_law_cell", "_law_some"] ["_law_cell"] (defScope sSignBy) := ⟨rfl, rfl, rfl, by decide +kernel, rfl, by decide +kernel, by decide +kernel⟩
theorem scWordBy : FnScope ["_law_cell", "_law_more", "_law_size", "_law_k"] ["_law_cell"] (defScope sWordBy) := ⟨rfl, rfl, rfl, by decide +kernel, rfl, by decide +kernel, by decide +kernel⟩
theorem ok_cell_at {f : Addr} {fd : FuncData} (F : FnP K "_law_cell_at" sCellAt f fd) (mL : mg "len" = none) : FnOk P w K mg base (L2.CX P w) 1 f fd ["_law_script", "_law_k"] (spCell K) := by
  refine F.ok scCellAt (fun vs H Q E h => ?_) (fun cdv A outer s H vs Q E hr h => ?_)
  · obtain ⟨l, ns, j, rfl, _⟩ := h
    rfl
  · obtain ⟨l, ns, j, rfl, hS, q⟩ := h
    refine ⟨_, pss_cons (ps_if (pt_cmpR op_lt (pv 1) (pe_callB call_len_seq (by rfl) mL PySem.boot_len (pa_cons (pv 0) pa_nil)) (nomark _)) (pss_one (ps_ret (pe_ix ix_list (pv 0) (pv 1) (fun _ _ => rfl)))) pss_nil) (pss_one (ps_ret pe_int)), ?_⟩
    refine ⟨_, rfl, _, rfl, l, _, rfl, .inl hS, _, _, rfl, rfl, _, rfl, ite2 (fun e => ?_) (fun e => ?_)⟩
    · have e1 := of_decide_eq_true e
      rw [List.length_map] at e1
      exact ⟨_, rfl, _, rfl, l, _, _, _, rfl, rfl, hS, atI_cell (by omega), q⟩
    · have hj : ¬ j < ns.length := fun z => e (decide_eq_true (by rw [List.length_map]; omega))
      rw [cell_out hj] at q
      exact q
def spSignBy : Sp := fun vs H Q _ => ∃ c : Int, vs = [.int c] ∧ Q (.str ⟨#[sgnOf c]⟩) H
theorem ok_sign_by {f : Addr} {fd : FuncData} (F : FnP K "_law_sign_by" sSignBy f fd) : FnOk P w K mg base (L2.CX P w) 1 f fd ["_law_cell"] spSignBy := by
  refine F.ok scSignBy (fun vs H Q E h => ?_) (fun cdv A outer s H vs Q E hr h => ?_)
  · obtain ⟨c, rfl, _⟩ := h
    rfl
  · obtain ⟨c, rfl, q⟩ := h
    refine ⟨_, pss_cons (ps_set (i := 1) scSignBy.nd rfl (.inl rfl) pe_str) (pss_cons (ps_set (i := 1) scSignBy.nd rfl (.inl rfl) (pe_op op_add_str (pv 1) pe_str)) (pss_one (ps_ret (pe_ix ix_str (pv 1) (pe_op op_mod (pv 0) pe_int) (fun _ _ => rfl))))), ?_⟩
    refine ⟨_, rfl, _, _, rfl, rfl, by decide +kernel, ?_⟩
    refine ⟨_, rfl, _, rfl, _, _, rfl, rfl, (by show (0 : Int) < 93; decide), _, _, sgnOf c, rfl, rfl, by decide +kernel, ?_, q⟩
    have h1 : 0 ≤ c % 93 := Int.emod_nonneg c (by decide)
    have h2 : c % 93 < 93 := Int.emod_lt_of_pos c (by decide)
    have e : c % 93 = (((c % 93).toNat : Nat) : Int) := (Int.toNat_of_nonneg h1).symm
    have hn : (c % 93).toNat < 93 := by omega
    unfold sgnOf
    rw [e, Int.toNat_natCast]
    generalize (c % 93).toNat = i at hn
    refine atI_nat ?_
    have key : ∀ i, i < 93 → (("!\"#$&'()*+,-./0123456789:;<=>?@ABCDEFGHIJKLMNOPQRSTUVWXYZ[\\]^_`" : Str) ++ ("abcdefghijklmnopqrstuvwxyz{|}~" : Str)).cps.toList[i]? = some (sg i) := by decide +kernel
    exact key i hn
def spWordBy : Sp := fun vs H Q _ => ∃ c : Int, vs = [.int c] ∧ ∀ H', Same H H' → Q (.str (wordOf c)) H'
theorem ok_word_by {f fS : Addr} {fd fdS : FuncData} (F : FnP K "_law_word_by" sWordBy f fd) (FS : FnP K "_law_sign_by" sSignBy fS fdS) (bS : Binds K fdS ["_law_cell"] []) (gS : mg "_law_sign_by" = some (.ref fS)) (mR : mg "range" = none) :
    FnOk P w K mg base (L2.CX P w) 2 f fd ["_law_cell"] spWordBy := by
  have GS : FnOk P w K mg base (L2.CX P w) 1 fS fdS ["_law_cell"] spSignBy := ok_sign_by FS
  refine F.ok scWordBy (fun vs H Q E h => ?_) (fun cdv A outer s H vs Q E hr h => ?_)
  · obtain ⟨c, rfl, _⟩ := h
    rfl
  · obtain ⟨c, rfl, q⟩ := h
    refine ⟨_, pss_cons (ps_set (i := 1) scWordBy.nd rfl (.inr rfl) (pe_op op_mod (pe_op op_mul (pe_op op_add (pv 0) pe_int) pe_int) pe_int))
      (pss_cons (ps_set (i := 2) scWordBy.nd rfl (.inl rfl) (pe_op op_add pe_int (pe_op op_mod (pv 1) pe_int)))
      (pss_cons (ps_if (pt_cmpR op_eq (pe_op op_mod (pe_op op_fdiv (pv 1) pe_int) pe_int) pe_int (nomark _)) (pss_one (ps_set (i := 2) scWordBy.nd rfl (.inl rfl) (pe_op op_add pe_int (pe_op op_mod (pe_op op_fdiv (pv 1) pe_int) pe_int)))) pss_nil)
      (pss_one (ps_ret (pe_join pe_str (pe_lc (own := [("_law_k", 3)]) (g := gName 3) (tt := tYes) rfl scWordBy.nd (pi_range1 (by rfl) mR (pa_cons (pv 2) pa_nil)) (blkOk_by (N := ["_law_cell", "_law_more", "_law_size", "_law_k"]) (sc := defScope sWordBy) (by decide +kernel))
        (fun _ _ _ _ _ => pg_name (i := 3) scWordBy.nd rfl (Or.inl rfl)) (fun _ _ _ _ _ => pts_nil)
        (fun _ _ _ _ _ => pe_call GS hr (by rfl) gS FS.kp bS .nil passL (pa_cons (pe_op op_mod (pe_op op_mul (pe_op op_add (pe_op op_add (pv 1) (pe_op op_mul pe_int (pv 3))) pe_int) (pe_op op_add (pe_op op_add (pv 1) (pe_op op_mul pe_int (pv 3))) pe_int)) pe_int) pa_nil)))))))), ?_⟩
    have hm := wMore_b c
    have hsz := wSize_b c
    refine ⟨_, rfl, _, _, rfl, rfl, _, _, rfl, rfl, .inr (by decide), _, _, rfl, rfl, (by show (0 : Int) < 1000003; decide), ?_⟩
    refine ⟨_, rfl, _, _, rfl, rfl, (by show (0 : Int) < 3; decide), _, _, rfl, rfl, ?_⟩
    refine ⟨_, rfl, _, _, rfl, rfl, ⟨by decide, by decide⟩, _, _, rfl, rfl, (by show (0 : Int) < 3; decide), rfl, _, rfl, ?_⟩
    -- both ways lead to the size
    have rest : ∀ σ0, σ0 = [some (V.int c), some (.int (wMore c)), some (.int (wSize c)), none] → tRet (tM1 (fun x xs H Q => ∃ a p, ∃ ys : List Str, x = .str a ∧ xs = [.ref p] ∧ (SqL K H p (ys.map V.str) ∨ SqT K H p (ys.map V.str)) ∧
        (ys.map (·.length)).sum + ys.length * a.length ≤ 16777216 ∧ Q (.str (Txt.join a ys)) H) (tC (.str "")) (tLc (iRng1 (tCons (tVar 2) tNil)) (gName 3) tYes
          (tCall spSignBy [] E0 (tCons (tOp (rI (fun _ j => 0 < j) fun i j => .int (i % j)) (tOp (rI CMul fun i j => .int (i * j)) (tOp (rI0 fun i j => .int (i + j)) (tOp (rI0 fun i j => .int (i + j)) (tVar 1) (tOp (rI CMul fun i j => .int (i * j)) (tC (.int 11)) (tVar 3))) (tC (.int 1)))
            (tOp (rI0 fun i j => .int (i + j)) (tOp (rI0 fun i j => .int (i + j)) (tVar 1) (tOp (rI CMul fun i j => .int (i * j)) (tC (.int 211)) (tVar 3))) (tC (.int 3)))) (tC (.int 1000033))) tNil)) [3])) { nx := fun _ H' => Q .non H', rt := Q } σ0 H := by
      rintro _ rfl
      refine ⟨⟨_, rfl⟩, _, rfl, _, rfl, by omega, by omega, fun D nD => ?_⟩
      refine lc_range (lo := 0) (n := (wSize c).toNat) (fun i H' => Same H H' ∧ H' D = some (.lst ((wCodes c i).map fun z => V.str ⟨#[z]⟩))) ⟨same_upd nD, upd_same⟩ (fun i H' hi hp => ?_) (fun H' hp => ?_)
      · obtain ⟨sm, hD⟩ := hp
        refine ⟨rfl, yesT ?_⟩
        refine ⟨_, rfl, _, rfl, _, _, rfl, rfl, .inl (by decide), _, _, rfl, rfl, _, _, rfl, rfl, _, rfl, _, rfl, _, _, rfl, rfl, .inl (by decide), _, _, rfl, rfl, _, _, rfl, rfl, _, _, rfl, rfl, .inl ⟨by omega, by omega⟩, _, _, rfl, rfl, (by show (0 : Int) < 1000033; decide), _, rfl, ?_⟩
        refine ⟨_, hD, ?_, fun b o e => ?_, ?_⟩
        · rw [List.length_map]
          unfold wCodes
          rw [List.length_map, List.length_range]
          exact Nat.lt_of_lt_of_le (show i < 1000 by omega) (by decide)
        · rw [upd_ne (ne_of_none e nD)]
          exact sm b o e
        · rw [upd_same]
          unfold wCodes
          rw [List.range_succ, List.map_append, List.map_append]
          rfl
      · obtain ⟨sm, hD⟩ := hp
        refine ⟨_, _, (wCodes c (wSize c).toNat).map fun z => (⟨#[z]⟩ : Str), rfl, rfl, .inl (.inl (.inl ?_)), ?_, ?_⟩
        · rw [hD, List.map_map]
          rfl
        · have e0 : ("" : Str).length = 0 := by decide +kernel
          rw [e0, Nat.mul_zero, Nat.add_zero]
          have e1 : ∀ l : List Nat, ((l.map fun z => (⟨#[z]⟩ : Str)).map (·.length)).sum = l.length := fun l => by
            induction l with
            | nil => rfl
            | cons a r ih =>
              rw [List.map_cons, List.map_cons, List.sum_cons, ih, List.length_cons]
              show 1 + r.length = _
              omega
          rw [e1]
          unfold wCodes
          rw [List.length_map, List.length_range]
          omega
        · rw [join_signs]
          exact q H' sm
    refine ite2 (fun e => ?_) (fun e => ?_)
    · have e1 : wMore c / 3 % 3 = 1 := V.int.inj (of_decide_eq_true e)
      refine ⟨_, rfl, _, _, rfl, rfl, ⟨by decide, by decide⟩, _, _, rfl, rfl, (by show (0 : Int) < 40; decide), _, _, rfl, rfl, rest _ ?_⟩
      unfold wSize
      rw [if_pos e1]
      rfl
    · have e1 : ¬ wMore c / 3 % 3 = 1 := fun z => e (decide_eq_true (congrArg V.int z))
      refine rest _ ?_
      unfold wSize
      rw [if_neg e1]
      rfl
end
/-! ### near words, the menu -/
theorem wordB_of {b : Str} (h1 : 1 ≤ b.length) (h2 : b.length ≤ 40) (h : ∀ c ∈ b.cps.toList, signB c = true) : wordB b = true := by
  unfold wordB
  rw [Bool.and_eq_true, Bool.and_eq_true]
  exact ⟨decide_eq_true (by omega), decide_eq_true (by omega), List.all_eq_true.mpr h⟩
theorem str_len (a : Str) : a.length = a.cps.toList.length := by simp [Str.length]
theorem cut_lo (a : Str) (k : Nat) (h : k ≤ a.length) : (cutS a none (some (k : Int))).cps.toList = a.cps.toList.take k := by
  unfold cutS
  rw [HT.sIx_none, HT.sIx_nat, Nat.min_eq_left h, Nat.sub_zero]
  rfl
theorem cut_hi (a : Str) (k : Nat) (h : k ≤ a.length) : (cutS a (some (k : Int)) none).cps.toList = a.cps.toList.drop k := by
  unfold cutS
  rw [HT.sIx_none, HT.sIx_nat, Nat.min_eq_left h]
  show (a.cps.toList.drop k).take (a.length - k) = _
  rw [List.take_of_length_le (by rw [List.length_drop, str_len]; exact Nat.le_refl _)]
section
variable {P : Program} {w : World} {K : PySem.W.Frag} {mg : Str → Option Value} {base : Heap}
theorem scNear : FnScope ["_law_word_here", "_law_cell", "_law_at"] ["_law_word_here", "_law_cell"] (defScope sNear) := ⟨rfl, rfl, rfl, by decide +kernel, rfl, by decide +kernel, by decide +kernel⟩
theorem scMenu : FnScope ["_law_script", "_law_base", "_law_k"] ["_law_script"] (defScope sMenu) := ⟨rfl, rfl, rfl, by decide +kernel, rfl, by decide +kernel, by decide +kernel⟩
def spNear : Sp := fun vs H Q _ => ∃ (a : Str) (c : Int), vs = [.str a, .int c] ∧ wordB a = true ∧ ∀ H' b, Same H H' → wordB b = true → Q (.str b) H'
theorem ok_near {f fS : Addr} {fd fdS : FuncData} (F : FnP K "_law_near" sNear f fd) (GS : FnOk P w K mg base (L2.CX P w) 1 fS fdS ["_law_cell"] spSignBy) (kS : PySem.W.keepIn K (.ref fS) = true) (bS : Binds K fdS ["_law_cell"] []) (gS : mg "_law_sign_by" = some (.ref fS))
    (mL : mg "len" = none) (mT : mg "list" = none) (mV : mg "reversed" = none) : FnOk P w K mg base (L2.CX P w) 2 f fd ["_law_word_here", "_law_cell"] spNear := by
  refine F.ok scNear (fun vs H Q E h => ?_) (fun cdv A outer s H vs Q E hr h => ?_)
  · obtain ⟨a, c, rfl, _⟩ := h
    rfl
  · obtain ⟨a, c, rfl, ha, q⟩ := h
    refine ⟨_, pss_cut (ps_set (i := 2) scNear.nd rfl (.inl rfl) (pe_op op_mod (pv 1) (pe_callB call_len_str (by rfl) mL PySem.boot_len (pa_cons (pv 0) pa_nil))))
      (pss_cons (ps_if (pt_cmpR op_eq (pe_op op_mod (pe_op op_fdiv (pv 1) pe_int) pe_int) pe_int (nomark _)) (pss_one (ps_ret (pe_join pe_str (Rs.pe_listRs rfl (by rfl) mT (by rfl) mV (pv 0))))) pss_nil)
      (pss_cut (ps_if (PW.pt (pw_and (pt_cmpR op_eq (pe_op op_mod (pe_op op_fdiv (pv 1) pe_int) pe_int) pe_int (nomark _)) (pw_and1 (pt_cmpR op_gt (pe_callB call_len_str (by rfl) mL PySem.boot_len (pa_cons (pv 0) pa_nil)) pe_int (nomark _)))))
        (pss_one (ps_ret (pe_op op_add_str (pe_slice sl_str (pv 0) po_none (po_some (pv 2))) (pe_slice sl_str (pv 0) (po_some (pe_op op_add (pv 2) pe_int)) po_none)))) pss_nil)
      (pss_one (ps_ret (pe_op op_add_str (pe_op op_add_str (pe_slice sl_str (pv 0) po_none (po_some (pv 2))) (pe_call GS hr (by rfl) gS kS bS .nil passL (pa_cons (pe_op op_fdiv (pv 1) pe_int) pa_nil))) (pe_slice sl_str (pv 0) (po_some (pe_op op_add (pv 2) pe_int)) po_none)))))), ?_⟩
    have hl := wordB_len ha
    have hz : a.length ≤ sizeLine := small_line (by omega)
    have hsg := wordB_signs ha
    have h1 : 0 ≤ c % (a.length : Int) := Int.emod_nonneg c (by omega)
    have h2 : c % (a.length : Int) < (a.length : Int) := Int.emod_lt_of_pos c (by omega)
    obtain ⟨k, hk⟩ : ∃ k : Nat, c % (a.length : Int) = (k : Int) := ⟨(c % (a.length : Int)).toNat, (Int.toNat_of_nonneg h1).symm⟩
    have hka : k < a.length := by omega
    have el := str_len a
    have lo := cut_lo a k (by omega)
    have hi := cut_hi a (k + 1) (by omega)
    have llo : (cutS a none (some (k : Int))).length = k := by
      rw [str_len, lo, List.length_take]
      omega
    have lhi : (cutS a (some ((k + 1 : Nat) : Int)) none).length = a.length - (k + 1) := by
      rw [str_len, hi, List.length_drop]
      omega
    have slo : ∀ x ∈ (cutS a none (some (k : Int))).cps.toList, signB x = true := fun x hx => hsg x (by rw [lo] at hx; exact List.mem_of_mem_take hx)
    have shi : ∀ x ∈ (cutS a (some ((k + 1 : Nat) : Int)) none).cps.toList, signB x = true := fun x hx => hsg x (by rw [hi] at hx; exact List.mem_of_mem_drop hx)
    have ek : ((k : Int) + 1) = ((k + 1 : Nat) : Int) := by omega
    refine ⟨fun σ' H' => σ' = [some (.str a), some (.int c), some (.int (k : Int))] ∧ H' = H, ⟨_, rfl, _, rfl, a, rfl, hz, _, _, rfl, rfl, by omega, ?_, rfl⟩, fun σ' H' hM => ?_⟩
    · show [some (V.str a), some (V.int c), some (V.int (c % (a.length : Int)))] = _
      rw [hk]
    obtain ⟨rfl, rfl⟩ := hM
    refine ⟨_, rfl, _, _, rfl, rfl, ⟨by decide, by decide⟩, _, _, rfl, rfl, (by show (0 : Int) < 3; decide), rfl, _, rfl, ite2 (fun e => ?_) (fun e => ?_)⟩
    · refine ⟨⟨_, rfl⟩, _, rfl, a, rfl, hl.1, by omega, fun p np => ?_⟩
      refine ⟨_, p, a.cps.toList.reverse.map fun c => (⟨#[c]⟩ : Str), rfl, rfl, .inl (.inl (.inl ?_)), ?_, ?_⟩
      · rw [upd_same, List.map_map]
        rfl
      · have e0 : ("" : Str).length = 0 := by decide +kernel
        rw [e0, Nat.mul_zero, Nat.add_zero]
        have e1 : ∀ l : List Nat, ((l.map fun z => (⟨#[z]⟩ : Str)).map (·.length)).sum = l.length := fun l => by
          induction l with
          | nil => rfl
          | cons a r ih =>
            rw [List.map_cons, List.map_cons, List.sum_cons, ih, List.length_cons]
            show 1 + r.length = _
            omega
        rw [e1, List.length_reverse]
        omega
      · rw [join_signs]
        refine q _ _ (same_upd np) (wordB_of ?_ ?_ fun x hx => hsg x ?_)
        · show 1 ≤ (a.cps.toList.reverse.toArray).size
          rw [List.size_toArray, List.length_reverse]
          omega
        · show (a.cps.toList.reverse.toArray).size ≤ 40
          rw [List.size_toArray, List.length_reverse]
          omega
        · exact List.mem_reverse.mp hx
    · refine ⟨fun σ' H2 => σ' = [some (.str a), some (.int c), some (.int (k : Int))] ∧ H2 = H', ?_, fun σ' H2 hM => ?_⟩
      · refine ⟨_, rfl, _, _, rfl, rfl, ⟨by decide, by decide⟩, _, _, rfl, rfl, (by show (0 : Int) < 3; decide), rfl, _, rfl, ?_⟩
        cases decide (V.int (c / 41 % 3) = V.int 1) with
        | false => exact iteF (iteF ⟨rfl, rfl⟩)
        | true =>
          refine iteT ⟨_, rfl, a, rfl, hz, _, _, rfl, rfl, _, rfl, ite2 (fun e => ?_) (fun e => ⟨rfl, rfl⟩)⟩
          have e1 : (1 : Int) < (a.length : Int) := of_decide_eq_true e
          refine ⟨_, rfl, _, rfl, _, rfl, a, rfl, hz, _, rfl, _, rfl, _, _, rfl, rfl, _, rfl, a, rfl, hz, _, _, rfl, rfl, ?_, ?_⟩
          · rw [ek, llo, lhi]
            exact small_line (by omega)
          · rw [ek]
            refine q _ _ (Same.refl _) (wordB_of ?_ ?_ fun x hx => ?_)
            · rw [Str.length_append, llo, lhi]
              omega
            · rw [Str.length_append, llo, lhi]
              omega
            · rw [Str.cps_append, Array.toList_append] at hx
              rcases List.mem_append.mp hx with hx | hx
              · exact slo x hx
              · exact shi x hx
      · obtain ⟨rfl, rfl⟩ := hM
        refine ⟨_, rfl, _, rfl, _, rfl, a, rfl, hz, _, rfl, _, _, rfl, rfl, ⟨by decide, by decide⟩, _, rfl, _, _, rfl, rfl, ?_, _, rfl, _, rfl, _, _, rfl, rfl, _, rfl, a, rfl, hz, _, _, rfl, rfl, ?_, ?_⟩
        · rw [llo]
          exact small_line (by show k + 1 ≤ 1000000; omega)
        · rw [ek, Str.length_append, llo, lhi]
          exact small_line (by show k + 1 + (a.length - (k + 1)) ≤ 1000000; omega)
        · rw [ek]
          refine q _ _ (Same.refl _) (wordB_of ?_ ?_ fun x hx => ?_)
          · rw [Str.length_append, Str.length_append, llo, lhi]
            show 1 ≤ k + 1 + (a.length - (k + 1))
            omega
          · rw [Str.length_append, Str.length_append, llo, lhi]
            show k + 1 + (a.length - (k + 1)) ≤ 40
            omega
          · rw [Str.cps_append, Array.toList_append, Str.cps_append, Array.toList_append] at hx
            rcases List.mem_append.mp hx with hx | hx
            · rcases List.mem_append.mp hx with hx | hx
              · exact slo x hx
              · have hx : x ∈ [sgnOf (c / 123)] := hx
                rw [List.mem_singleton.mp hx]
                exact sgnOf_ok _
            · exact shi x hx

def spMenu (K : PySem.W.Frag) : Sp := fun vs H Q _ => ∃ (a : Addr) (ns : List Int), vs = [.ref a] ∧ SqL K H a (ns.map V.int) ∧ ∀ (H' : Hp) (p : Addr) (ws : List Str), Same H H' → H p = none → H' p = some (.lst (ws.map V.str)) → ws.length = 12 → (∀ x ∈ ws, wordB x = true) → Q (.ref p) H'
theorem ok_menu {f fC fW fN : Addr} {fd fdC fdW fdN : FuncData} (F : FnP K "_law_menu" sMenu f fd)
    (GC : FnOk P w K mg base (L2.CX P w) 1 fC fdC ["_law_script", "_law_k"] (spCell K)) (kC : PySem.W.keepIn K (.ref fC) = true) (bC : Binds K fdC ["_law_script", "_law_k"] []) (gC : mg "_law_cell_at" = some (.ref fC))
    (GW : FnOk P w K mg base (L2.CX P w) 2 fW fdW ["_law_cell"] spWordBy) (kW : PySem.W.keepIn K (.ref fW) = true) (bW : Binds K fdW ["_law_cell"] []) (gW : mg "_law_word_by" = some (.ref fW))
    (GN : FnOk P w K mg base (L2.CX P w) 2 fN fdN ["_law_word_here", "_law_cell"] spNear) (kN : PySem.W.keepIn K (.ref fN) = true) (bN : Binds K fdN ["_law_word_here", "_law_cell"] []) (gN : mg "_law_near" = some (.ref fN)) (mR : mg "range" = none) :
    FnOk P w K mg base (L2.CX P w) 3 f fd ["_law_script"] (spMenu K) := by
  refine F.ok scMenu (fun vs H Q E h => ?_) (fun cdv A outer s H vs Q E hr h => ?_)
  · obtain ⟨a, ns, rfl, _⟩ := h
    rfl
  · obtain ⟨a, ns, rfl, hS, q⟩ := h
    have r1 : Room 1 (A.deeper (envOfC "_law_menu" (defScope sMenu) s.heap.objs.size f cdv)) := hr.mono (by decide)
    refine ⟨_, pss_cut (ps_setLc (i := 1) (own := [("_law_k", 2)]) (g := gName 2) (tt := tYes) rfl scMenu.nd rfl rfl (sw_true rfl rfl rfl (by decide +kernel)) (pi_range1 (by rfl) mR (pa_cons pe_int pa_nil)) (blkOk_by (N := ["_law_script", "_law_base", "_law_k"]) (sc := defScope sMenu) (by decide +kernel))
        (fun _ _ _ _ _ => pg_name (i := 2) scMenu.nd rfl (Or.inl rfl)) (fun _ _ _ _ _ => pts_nil) (fun _ _ _ _ _ => pe_call GW hr (by rfl) gW kW bW .nil passL (pa_cons (pe_op op_add (pe_call GC r1 (by rfl) gC kC bC .nil passL (pa_cons (pv 0) (pa_cons (pv 2) pa_nil))) (pe_op op_mul pe_int (pv 2))) pa_nil)))
      (pss_cut (ps_if (pt_cmpR op_eq (pe_op op_mod (pe_call GC r1 (by rfl) gC kC bC .nil passL (pa_cons (pv 0) (pa_cons pe_int pa_nil))) pe_int) pe_int (nomark _))
        (pss_cons (ps_asg (pe_call GN hr (by rfl) gN kN bN .nil passL (pa_cons (pe_ix ix_list (pv 1) pe_int (fun _ _ => rfl)) (pa_cons (pe_call GC r1 (by rfl) gC kC bC .nil passL (pa_cons (pv 0) (pa_cons pe_int pa_nil))) pa_nil))) (pg_sub (pv 1) pe_int set_list))
          (pss_one (ps_asg (pe_call GN hr (by rfl) gN kN bN .nil passL (pa_cons (pe_ix ix_list (pv 1) pe_int (fun _ _ => rfl)) (pa_cons (pe_call GC r1 (by rfl) gC kC bC .nil passL (pa_cons (pv 0) (pa_cons pe_int pa_nil))) pa_nil))) (pg_sub (pv 1) pe_int set_list)))) pss_nil)
      (pss_cons (ps_if (pt_cmpR op_eq (pe_op op_mod (pe_call GC r1 (by rfl) gC kC bC .nil passL (pa_cons (pv 0) (pa_cons pe_int pa_nil))) pe_int) pe_int (nomark _))
        (pss_one (ps_ret (pe_op op_cat (pv 1) (pe_lc (own := [("_law_k", 2)]) (g := gName 2) (tt := tYes) rfl scMenu.nd (pi_range1 (by rfl) mR (pa_cons pe_int pa_nil)) (blkOk_by (N := ["_law_script", "_law_base", "_law_k"]) (sc := defScope sMenu) (by decide +kernel))
          (fun _ _ _ _ _ => pg_name (i := 2) scMenu.nd rfl (Or.inl rfl)) (fun _ _ _ _ _ => pts_nil)
          (fun _ _ _ _ _ => pe_call GW hr (by rfl) gW kW bW .nil passL (pa_cons (pe_op op_add (pe_op op_add (pe_call GC r1 (by rfl) gC kC bC .nil passL (pa_cons (pv 0) (pa_cons (pe_op op_mod (pv 2) pe_int) pa_nil))) (pe_op op_mul pe_int (pv 2))) pe_int) pa_nil)))))) pss_nil)
      (pss_one (ps_ret (pe_op op_rep (pv 1) pe_int))))), ?_⟩
    -- the base of four
    refine ⟨fun σ' H' => ∃ D ws, σ' = [some (.ref a), some (.ref D), none] ∧ H D = none ∧ Same H H' ∧ H' D = some (.lst ((ws : List Str).map V.str)) ∧ ws.length = 4 ∧ ∀ x ∈ ws, wordB x = true, ?_, fun σ1 H1 hM => ?_⟩
    · refine ⟨_, rfl, by decide, by decide, fun D nD => ?_⟩
      refine lc_range (lo := 0) (n := 4) (fun i H' => Same H H' ∧ H' D = some (.lst (((List.range i).map fun k => wordOf (cellOf ns (0 + k) + 97 * (0 + (k : Int)))).map V.str))) ⟨same_upd nD, upd_same⟩ (fun i H' hi hp => ?_) (fun H1 hp => ?_)
      · obtain ⟨sm, hD⟩ := hp
        refine ⟨rfl, yesT ?_⟩
        refine ⟨_, rfl, _, rfl, a, ns, 0 + i, congrArg (fun t : Int => [V.ref a, V.int t]) (show (0 : Int) + (i : Int) = ((0 + i : Nat) : Int) by omega), sm.seq hS, _, rfl, _, _, rfl, rfl, .inl (by decide), _, _, rfl, rfl, _, rfl, fun H2 sm2 => ?_⟩
        refine ⟨_, sm2 _ _ hD, ?_, fun b o e => ?_, ?_⟩
        · rw [List.length_map, List.length_map, List.length_range]
          exact Nat.lt_of_lt_of_le (show i < 1000 by omega) (by decide)
        · rw [upd_ne (ne_of_none e nD)]
          exact sm2 b o (sm b o e)
        · rw [upd_same, List.range_succ, List.map_append, List.map_append]
          rfl
      · obtain ⟨sm, hD⟩ := hp
        refine ⟨D, _, rfl, nD, sm, hD, by rw [List.length_map, List.length_range], fun x hx => ?_⟩
        obtain ⟨k, _, rfl⟩ := List.mem_map.mp hx
        exact wordOf_ok _
    obtain ⟨D, ws, rfl, nD, sm1, hD1, hl, hw⟩ := hM
    refine ⟨fun σ' H' => ∃ ws, σ' = [some (.ref a), some (.ref D), none] ∧ Same H H' ∧ H' D = some (.lst ((ws : List Str).map V.str)) ∧ ws.length = 4 ∧ ∀ x ∈ ws, wordB x = true, ?_, fun σ2 H2 hM => ?_⟩
    · have hS1 := sm1.seq hS
      refine ⟨_, rfl, a, ns, 0, rfl, hS1, _, _, rfl, rfl, (by show (0 : Int) < 2; decide), rfl, _, rfl, ite2 (fun _ => ?_) (fun _ => ⟨ws, rfl, sm1, hD1, hl, hw⟩)⟩
      have step : ∀ (H1 : Hp) (ws : List Str) (j : Nat), j < 4 → Same H H1 → H1 D = some (.lst (ws.map V.str)) → ws.length = 4 → (∀ x ∈ ws, wordB x = true) → ∃ x, ws[j]? = some x ∧ wordB x = true := fun H1 ws j hj _ _ hl hw => by
        have : j < ws.length := by omega
        exact ⟨ws[j], List.getElem?_eq_getElem this, hw _ (List.getElem_mem this)⟩
      have put : ∀ (ws : List Str) (j : Nat) (b : Str), (ws.map V.str).set j (.str b) = (ws.set j b).map V.str := fun ws j b => by rw [List.map_set]
      have good : ∀ (ws : List Str) (j : Nat) (b : Str), (∀ x ∈ ws, wordB x = true) → wordB b = true → ∀ x ∈ ws.set j b, wordB x = true := fun ws j b h hb x hx => by
        rcases List.mem_or_eq_of_mem_set hx with h1 | h1
        · exact h x h1
        · rw [h1]
          exact hb
      obtain ⟨x0, hx0, hb0⟩ := step H1 ws 0 (by decide) sm1 hD1 hl hw
      refine ⟨_, rfl, D, _, _, _, rfl, rfl, .inl (.inl hD1), at_of (j := 0) rfl (by rw [List.getElem?_map, hx0]; rfl), _, rfl, a, ns, 1, rfl, hS1, x0, _, rfl, hb0, fun H3 b sm3 hb => ?_⟩
      have hD3 := sm3 _ _ hD1
      refine ⟨_, rfl, D, _, _, 1, rfl, rfl, hD3, by rw [List.length_map, hl]; rfl, ?_⟩
      rw [put]
      have s4 : Same H (upd H3 D (.lst ((ws.set 1 b).map V.str))) := fun c o e => by
        rw [upd_ne (ne_of_none e nD)]
        exact sm3 c o (sm1 c o e)
      have hl4 : (ws.set 1 b).length = 4 := by rw [List.length_set]; exact hl
      have hw4 := good ws 1 b hw hb
      have hD4 : (upd H3 D (.lst ((ws.set 1 b).map V.str))) D = some (.lst ((ws.set 1 b).map V.str)) := upd_same
      obtain ⟨x2, hx2, hb2⟩ := step _ _ 2 (by decide) s4 hD4 hl4 hw4
      refine ⟨_, rfl, D, _, _, _, rfl, rfl, .inl (.inl hD4), at_of (j := 2) rfl (by rw [List.getElem?_map, hx2]; rfl), _, rfl, a, ns, 2, rfl, s4.seq hS, x2, _, rfl, hb2, fun H5 b5 sm5 hb5 => ?_⟩
      have hD5 := sm5 _ _ hD4
      refine ⟨_, rfl, D, _, _, 3, rfl, rfl, hD5, by rw [List.length_map, hl4]; rfl, ?_⟩
      rw [put]
      refine ⟨_, rfl, fun c o e => ?_, upd_same, by rw [List.length_set]; exact hl4, good _ 3 b5 hw4 hb5⟩
      rw [upd_ne (ne_of_none e nD)]
      exact sm5 c o (s4 c o e)
    obtain ⟨ws, rfl, sm2, hD2, hl, hw⟩ := hM
    have hS2 := sm2.seq hS
    refine ⟨_, rfl, a, ns, 3, rfl, hS2, _, _, rfl, rfl, (by show (0 : Int) < 4; decide), rfl, _, rfl, ite2 (fun _ => ?_) (fun _ => ?_)⟩
    · refine ⟨_, rfl, _, rfl, by decide, by decide, fun E nE => ?_⟩
      refine lc_range (lo := 0) (n := 8) (fun i H' => Same H2 H' ∧ ∃ vs, H' E = some (.lst ((vs : List Str).map V.str)) ∧ vs.length = i ∧ ∀ x ∈ vs, wordB x = true) ⟨same_upd nE, [], upd_same, rfl, fun x hx => by cases hx⟩ (fun i H' hi hp => ?_) (fun H3 hp => ?_)
      · obtain ⟨sm, vs, hE, hlv, hv⟩ := hp
        refine ⟨rfl, yesT ?_⟩
        have hk : ∃ j : Nat, (0 + (i : Int)) % 3 = (j : Int) := ⟨((0 + (i : Int)) % 3).toNat, (Int.toNat_of_nonneg (Int.emod_nonneg _ (by decide))).symm⟩
        obtain ⟨j, hj⟩ := hk
        refine ⟨_, rfl, _, rfl, _, _, rfl, rfl, (by show (0 : Int) < 3; decide), a, ns, j, congrArg (fun t : Int => [V.ref a, V.int t]) hj, sm.seq hS2, _, rfl, _, _, rfl, rfl, .inl (by decide), _, _, rfl, rfl, _, _, rfl, rfl, _, rfl, fun H4 sm4 => ?_⟩
        refine ⟨_, sm4 _ _ hE, ?_, fun b o e => ?_, vs ++ [wordOf (cellOf ns j + 97 * (0 + (i : Int)) + 13)], ?_, ?_, ?_⟩
        · rw [List.length_map, hlv]
          exact Nat.lt_of_lt_of_le (show i < 1000 by omega) (by decide)
        · rw [upd_ne (ne_of_none e nE)]
          exact sm4 b o (sm b o e)
        · rw [upd_same, List.map_append]
          rfl
        · rw [List.length_append, hlv]
          rfl
        · intro x hx
          rcases List.mem_append.mp hx with hx | hx
          · exact hv x hx
          · rw [List.mem_singleton.mp hx]
            exact wordOf_ok _
      · obtain ⟨sm, vs, hE, hlv, hv⟩ := hp
        have hD3 := sm _ _ hD2
        refine ⟨D, E, _, _, rfl, rfl, hD3, hE, by rw [List.length_map, List.length_map, hl, hlv]; decide, fun p np => ?_⟩
        have s3 : Same H H3 := sm2.trans sm
        refine q _ p (ws ++ vs) (s3.trans (same_upd np)) (s3.free np) ?_ (by rw [List.length_append, hl, hlv]) fun x hx => ?_
        · rw [upd_same, List.map_append]
        · rcases List.mem_append.mp hx with hx | hx
          · exact hw x hx
          · exact hv x hx
    · refine ⟨_, rfl, D, _, _, rfl, rfl, hD2, by decide, by decide, by rw [List.length_map, hl]; decide, fun p np => ?_⟩
      refine q _ p (ws ++ (ws ++ (ws ++ []))) (sm2.trans (same_upd np)) (sm2.free np) ?_ (by simp [hl]) fun x hx => ?_
      · rw [upd_same, List.map_append, List.map_append, List.map_append]
        rfl
      · simp at hx
        exact hw x hx
end
/-! ### the program's words, good or not -/
/-- a value that is no text -/
inductive NoStr (K : PySem.W.Frag) (H : Hp) : V → Prop
  | int (n : Int) : NoStr K H (.int n)
  | non : NoStr K H .non
  | bl (b : Bool) : NoStr K H (.bl b)
  | lst {a : Addr} {xs : List V} (h : SqL K H a xs) : NoStr K H (.ref a)
  | tup {a : Addr} {xs : List V} (h : SqT K H a xs) : NoStr K H (.ref a)
  | dic {a : Addr} {kvs : List (Key × V)} (h : H a = some (.dK kvs)) : NoStr K H (.ref a)
theorem NoStr.kp {K : PySem.W.Frag} {Ps : List Addr} {H H' : Hp} (t : Tb Ps H) (k : Kp Ps H H') {v : V} (h : NoStr K H v) : NoStr K H' v := by
  cases h with
  | int n => exact .int n
  | non => exact .non
  | bl b => exact .bl b
  | lst h => exact .lst (k.seq t h)
  | tup h => exact .tup (k.seqT t h)
  | dic h => exact .dic (k.at t h fun _ z => by cases z)
theorem NoStr.ty {K : PySem.W.Frag} {H : Hp} {v : V} (h : NoStr K H v) : ∃ T : String, TyX K H v (.type T) ∧ (T = "int" ∨ T = "NoneType" ∨ T = "bool" ∨ T = "list" ∨ T = "tuple" ∨ T = "dict") := by
  cases h with
  | int n => exact ⟨_, .base (.int n), .inl rfl⟩
  | non => exact ⟨_, .base .non, .inr (.inl rfl)⟩
  | bl b => exact ⟨_, .base (.bl b), .inr (.inr (.inl rfl))⟩
  | lst h => exact ⟨_, tyL h, .inr (.inr (.inr (.inl rfl)))⟩
  | tup h => exact ⟨_, tyT h, .inr (.inr (.inr (.inr (.inl rfl))))⟩
  | dic h => exact ⟨_, .base (.dK h), .inr (.inr (.inr (.inr (.inr rfl))))⟩
/-- a value that may stand among words -/
def WV (K : PySem.W.Frag) (H : Hp) (v : V) : Prop := (∃ a : Str, v = .str a ∧ a.length ≤ 1000000) ∨ NoStr K H v
theorem WV.kp {K : PySem.W.Frag} {Ps : List Addr} {H H' : Hp} (t : Tb Ps H) (k : Kp Ps H H') {v : V} (h : WV K H v) : WV K H' v := h.imp id (·.kp t k)
def isW : V → Bool
  | .str a => wordB a
  | _ => false
theorem isW_no {K : PySem.W.Frag} {H : Hp} {v : V} (h : NoStr K H v) : isW v = false := by
  cases h <;> rfl
theorem all_isW (ws : List Str) : (ws.map V.str).all isW = ws.all wordB := by
  induction ws with
  | nil => rfl
  | cons a r ih =>
    rw [List.map_cons, List.all_cons, List.all_cons, ih]
    rfl
theorem log_small {n : Nat} (h : n < 2 ^ 64) : n.log2 < 1920 := by
  by_cases h0 : n = 0
  · subst h0
    decide
  · exact (Nat.log2_lt h0).mpr (Nat.lt_of_lt_of_le h (Nat.pow_le_pow_right (by decide) (by decide)))
section
variable {P : Program} {w : World} {K : PySem.W.Frag} {mg : Str → Option Value} {base : Heap}
def spIsWordX (K : PySem.W.Frag) (Ps : List Addr) : Sp := fun vs H Q _ => ∃ v, vs = [v] ∧ WV K H v ∧ Tb Ps H ∧ ∀ H', Kp Ps H H' → Q (.bl (isW v)) H'
theorem ok_is_wordX {Ps : List Addr} {f fS Pw : Addr} {fd fdS : FuncData} (F : FnP K "is_word" sIsWord f fd) (hf : f = He.fAd K ("is_word", none)) (hPw : Pw ∈ Ps) (TB : GxR.TabB base mg (He.codeOf K ("is_word", none)) Pw)
    (FS : FnP K "is_sign" sIsSign fS fdS) (bS : Binds K fdS ["sign"] []) (gS : mg "is_sign" = some (.ref fS)) (mI : mg "isinstance" = none) (mS : mg "str" = none) (mL : mg "len" = none) (mA : mg "all" = none) {tL : Tok} (mN : mg "LONGEST" = some (.int 40 tL)) :
    FnOk P w K mg base (L2.CX P w) 3 f fd ["word"] (spIsWordX K Ps) := by
  have GS : FnOk P w K mg base (L2.CX P w) 1 fS fdS ["sign"] spIsSign := ok_is_sign FS
  refine okC F hf scIsWord (fun vs H Q E h => ?_) (fun A outer s H vs Q E hr h => ?_)
  · obtain ⟨v, rfl, _⟩ := h
    rfl
  · obtain ⟨v, rfl, hv, ht, q⟩ := h
    refine ⟨_, pss_cons (ps_if (pt_not (pt_val (pe_callB call_isi (by rfl) mI (by decide +kernel) (pa_cons (pv 0) (pa_cons (pe_bltn (v := .ty "str") (by rfl) mS (by decide +kernel) rfl) pa_nil))))) (pss_one (ps_ret pe_bl)) pss_nil)
      (pss_one (ps_ret (pe_and (pe_chain op_le op_le pe_int (pe_callB call_len_str (by rfl) mL PySem.boot_len (pa_cons (pv 0) pa_nil)) (pe_glob (v := .int 40) (by rfl) mN ⟨_, rfl⟩))
        (pe_one (pe_allG (own := [("sign", 1)]) (gt := gName 1) (tt := tYes) (P := Pw) hr scIsWord.nd (by rfl) mA (by decide +kernel) TB rfl ⟨rfl, by decide +kernel, rfl, blkOk_by (N := ["word", "sign"]) (sc := defScope sIsWord) (by decide +kernel)⟩ (pi_str (pv 0))
          (fun _ _ _ _ _ _ _ _ _ => pg_name (i := 1) scIsWord.nd rfl (Or.inl rfl)) (fun _ _ _ _ _ _ _ _ _ _ => pts_nil) (fun _ _ _ _ _ _ _ _ _ hb => pe_call GS hb (by rfl) gS FS.kp bS .nil passL (pa_cons (pv 1) pa_nil))))))), ?_⟩
    rcases hv with ⟨a, rfl, hz⟩ | hv
    · refine ⟨_, rfl, .str a, .ty "str", _, _, true, rfl, .ty _, .base (.str a), kit_ty (by decide +kernel), true, rfl, iteF ?_⟩
      refine ⟨_, rfl, a, rfl, small_line hz, 1, (a.length : Int), rfl, rfl, _, rfl, ?_⟩
      have eN : isW (.str a) = (decide ((1 : Int) ≤ (a.length : Int)) && (decide ((a.length : Int) ≤ 40) && a.cps.toList.all signB)) := rfl
      rw [eN] at q
      by_cases h1 : (1 : Int) ≤ (a.length : Int)
      · rw [decide_eq_true h1] at q ⊢
        refine iteT ⟨(a.length : Int), 40, rfl, rfl, _, rfl, ?_⟩
        by_cases h2 : (a.length : Int) ≤ 40
        · rw [decide_eq_true h2] at q ⊢
          refine iteT ⟨_, rfl, a, rfl, ht Pw hPw, fun H2 hT => ?_⟩
          have k2 := Kp.tab ht hPw hT
          refine read_all_str (pb := signB) (Pv := fun H3 => H3 = H2) rfl (fun i c H3 R _ p hR => ?_) (fun H3 p => ?_)
          · subst p
            refine ⟨rfl, _, rfl, c, rfl, hR _ rfl⟩
          · subst p
            exact q _ k2
        · rw [decide_eq_false h2] at q ⊢
          exact iteF (q H (Kp.refl ht))
      · rw [decide_eq_false h1] at q ⊢
        exact iteF ⟨_, rfl, iteF (q H (Kp.refl ht))⟩
    · obtain ⟨T, hT, hk⟩ := hv.ty
      rw [isW_no hv] at q
      have kk : kitB T "str" = some false := by
        rcases hk with rfl | rfl | rfl | rfl | rfl | rfl <;> decide +kernel
      exact ⟨_, rfl, v, .ty "str", _, _, false, rfl, .ty _, hT, kit_ty kk, false, rfl, iteT (q H (Kp.refl ht))⟩
/-- an own class of errors -/
structure ExcC (K : PySem.W.Frag) (mg : Str → Option Value) (x : Str) (c : Addr) : Prop where
  g : mg x = some (.ref c)
  ex : PySem.W.excIn K c He.veBase "ValueError.__new__" = true
  kp : PySem.W.keepIn K (.ref c) = true
  be : PySem.W.subIn K (.ref c) (.type "BaseException") = some true
  ty : PySem.W.typeIn K (.ref c) = some (.type "type")
/-- what is no list -/
inductive NoList (K : PySem.W.Frag) (H : Hp) : V → Prop
  | str (a : Str) : NoList K H (.str a)
  | int (n : Int) : NoList K H (.int n)
  | non : NoList K H .non
  | bl (b : Bool) : NoList K H (.bl b)
  | tup {a : Addr} {xs : List V} (h : SqT K H a xs) : NoList K H (.ref a)
  | dic {a : Addr} {kvs : List (Key × V)} (h : H a = some (.dK kvs)) : NoList K H (.ref a)
theorem NoList.kp {K : PySem.W.Frag} {Ps : List Addr} {H H' : Hp} (t : Tb Ps H) (k : Kp Ps H H') {v : V} (h : NoList K H v) : NoList K H' v := by
  cases h with
  | str a => exact .str a
  | int n => exact .int n
  | non => exact .non
  | bl b => exact .bl b
  | tup h => exact .tup (k.seqT t h)
  | dic h => exact .dic (k.at t h fun _ z => by cases z)
theorem NoList.ty {K : PySem.W.Frag} {H : Hp} {v : V} (h : NoList K H v) : ∃ T : String, TyX K H v (.type T) ∧ kitB T "list" = some false := by
  cases h with
  | str a => exact ⟨_, .base (.str a), by decide +kernel⟩
  | int n => exact ⟨_, .base (.int n), by decide +kernel⟩
  | non => exact ⟨_, .base .non, by decide +kernel⟩
  | bl b => exact ⟨_, .base (.bl b), by decide +kernel⟩
  | tup h => exact ⟨_, tyT h, by decide +kernel⟩
  | dic h => exact ⟨_, .base (.dK h), by decide +kernel⟩
/-- what is handed in where words are asked for: no list, or a list of such values -/
def TextV (K : PySem.W.Frag) (H : Hp) (v : V) (o : Option (List V)) : Prop := match o with
  | none => NoList K H v
  | some xs => ∃ p, v = .ref p ∧ SqL K H p xs ∧ (∀ x ∈ xs, WV K H x) ∧ xs.length ≤ 1000
theorem TextV.kp {K : PySem.W.Frag} {Ps : List Addr} {H H' : Hp} (t : Tb Ps H) (k : Kp Ps H H') {v : V} {o : Option (List V)} (h : TextV K H v o) : TextV K H' v o := by
  cases o with
  | none => exact NoList.kp t k h
  | some xs =>
    obtain ⟨p, e, h1, h2, h3⟩ := h
    exact ⟨p, e, k.seq t h1, fun x hx => (h2 x hx).kp t k, h3⟩
def wordsB (o : Option (List V)) : Bool := match o with
  | none => false
  | some xs => xs.all isW
def shortB (o : Option (List V)) : Bool := match o with
  | none => false
  | some xs => decide (xs.length ≤ 120)
end
/-! ### rows, good or not -/
/-- what is no tuple -/
inductive NoTup (K : PySem.W.Frag) (H : Hp) : V → Prop
  | str (a : Str) : NoTup K H (.str a)
  | int (n : Int) : NoTup K H (.int n)
  | non : NoTup K H .non
  | bl (b : Bool) : NoTup K H (.bl b)
  | lst {a : Addr} {xs : List V} (h : SqL K H a xs) : NoTup K H (.ref a)
  | dic {a : Addr} {kvs : List (Key × V)} (h : H a = some (.dK kvs)) : NoTup K H (.ref a)
theorem NoTup.kp {K : PySem.W.Frag} {Ps : List Addr} {H H' : Hp} (t : Tb Ps H) (k : Kp Ps H H') {v : V} (h : NoTup K H v) : NoTup K H' v := by
  cases h with
  | str a => exact .str a
  | int n => exact .int n
  | non => exact .non
  | bl b => exact .bl b
  | lst h => exact .lst (k.seq t h)
  | dic h => exact .dic (k.at t h fun _ z => by cases z)
theorem NoTup.ty {K : PySem.W.Frag} {H : Hp} {v : V} (h : NoTup K H v) : ∃ T : String, TyX K H v (.type T) ∧ kitB T "tuple" = some false := by
  cases h with
  | str a => exact ⟨_, .base (.str a), by decide +kernel⟩
  | int n => exact ⟨_, .base (.int n), by decide +kernel⟩
  | non => exact ⟨_, .base .non, by decide +kernel⟩
  | bl b => exact ⟨_, .base (.bl b), by decide +kernel⟩
  | lst h => exact ⟨_, tyL h, by decide +kernel⟩
  | dic h => exact ⟨_, .base (.dK h), by decide +kernel⟩
/-- a number, good or not, by a kind -/
inductive NumV (K : PySem.W.Frag) (H : Hp) (k : Str) : V → Bool → Prop
  | int (n : Int) : NumV K H k (.int n) (numB k n)
  | bl (b : Bool) : NumV K H k (.bl b) false
  | str (a : Str) : NumV K H k (.str a) false
  | non : NumV K H k .non false
  | lst {a : Addr} {xs : List V} (h : SqL K H a xs) : NumV K H k (.ref a) false
theorem NumV.kp {K : PySem.W.Frag} {Ps : List Addr} {H H' : Hp} (t : Tb Ps H) (k : Kp Ps H H') {q : Str} {v : V} {b : Bool} (h : NumV K H q v b) : NumV K H' q v b := by
  cases h with
  | int n => exact .int n
  | bl b => exact .bl b
  | str a => exact .str a
  | non => exact .non
  | lst h => exact .lst (k.seq t h)
/-- words of a row, good or not -/
inductive WsV (K : PySem.W.Frag) (H : Hp) : V → Bool → Prop
  | no {v : V} (h : NoTup K H v) : WsV K H v false
  | nil {a : Addr} (h : SqT K H a []) : WsV K H (.ref a) false
  | tup {a : Addr} {xs : List V} (h : SqT K H a xs) (ne : xs ≠ []) (hw : ∀ x ∈ xs, WV K H x) : WsV K H (.ref a) (xs.all isW)
theorem WsV.kp {K : PySem.W.Frag} {Ps : List Addr} {H H' : Hp} (t : Tb Ps H) (k : Kp Ps H H') {v : V} {b : Bool} (h : WsV K H v b) : WsV K H' v b := by
  cases h with
  | no h => exact .no (h.kp t k)
  | nil h => exact .nil (k.seqT t h)
  | tup h ne hw => exact .tup (k.seqT t h) ne fun x hx => (hw x hx).kp t k
def kindsD : List PyData := (plainK ++ blockK).map PyData.str
/-- a row, good or not -/
inductive RV (K : PySem.W.Frag) (H : Hp) : V → Bool → Prop
  | no {v : V} (h : NoTup K H v) : RV K H v false
  | len {a : Addr} {xs : List V} (h : SqT K H a xs) (hl : xs.length ≠ 3) : RV K H (.ref a) false
  | kind {a : Addr} {k n x : V} {d : PyData} (h : SqT K H a [k, n, x]) (hk : Dp K H k d) (hs : SeqAt.shaped d = true) (hn : ∀ z ∈ kindsD, z.eqv d = false) (st : ∀ H', (∀ b o, (∀ ps, o ≠ .tbl ps) → H b = some o → H' b = some o) → Dp K H' k d) : RV K H (.ref a) false
  | row {a : Addr} {k : Str} {n x : V} {b1 b2 : Bool} (h : SqT K H a [.str k, n, x]) (hk : k ∈ plainK ++ blockK) (hn : NumV K H k n b1) (hw : WsV K H x b2) : RV K H (.ref a) (b1 && b2)
theorem RV.kp {K : PySem.W.Frag} {Ps : List Addr} {H H' : Hp} (t : Tb Ps H) (k : Kp Ps H H') {v : V} {b : Bool} (h : RV K H v b) : RV K H' v b := by
  have kk : ∀ b o, (∀ ps, o ≠ .tbl ps) → H b = some o → H' b = some o := fun b o ho e => k.at t e ho
  cases h with
  | no h => exact .no (h.kp t k)
  | len h hl => exact .len (k.seqT t h) hl
  | kind h hk hs hn st => exact .kind (k.seqT t h) (st H' kk) hs hn fun H2 k2 => st H2 fun b o ho e => k2 b o ho (kk b o ho e)
  | row h hk hn hw => exact .row (k.seqT t h) hk (hn.kp t k) (hw.kp t k)
/-- a good row is such a row -/
theorem RV.of_row {K : PySem.W.Frag} {H : Hp} {v : V} {r : RowD} (h : RowAt K H v r) (ok : RowOk r) : RV K H v true := by
  obtain ⟨T, W, rfl, hT, hW⟩ := h
  have h1 := RV.row (b1 := numB r.kind r.num) (b2 := (r.ws.map V.str).all isW) hT ok.kind (.int r.num) (.tup hW (fun z => ok.some (List.map_eq_nil_iff.mp z)) fun x hx => by
    obtain ⟨a, ha, rfl⟩ := List.mem_map.mp hx
    have := wordB_len (ok.words a ha)
    exact .inl ⟨a, rfl, by omega⟩)
  rw [ok.num, all_isW, List.all_eq_true.mpr ok.words] at h1
  exact h1
section
variable {P : Program} {w : World} {K : PySem.W.Frag} {mg : Str → Option Value} {base : Heap}
theorem scRowWordsX : FnScope ["words", "word"] ["words"] (defScope sRowWords) := ⟨rfl, rfl, rfl, by decide +kernel, rfl, by decide +kernel, by decide +kernel⟩
def spRowWordsX (K : PySem.W.Frag) (Ps : List Addr) : Sp := fun vs H Q _ => ∃ (v : V) (b : Bool), vs = [v] ∧ WsV K H v b ∧ Tb Ps H ∧ ∀ H', Kp Ps H H' → Q (.bl b) H'
theorem ok_row_wordsX {Ps : List Addr} {f fW Pr : Addr} {fd fdW : FuncData} (F : FnP K "is_row_of_words" sRowWords f fd) (hf : f = He.fAd K ("is_row_of_words", none)) (hPr : Pr ∈ Ps) (TB : GxR.TabB base mg (He.codeOf K ("is_row_of_words", none)) Pr)
    (GW : FnOk P w K mg base (L2.CX P w) 3 fW fdW ["word"] (spIsWordX K Ps)) (kW : PySem.W.keepIn K (.ref fW) = true) (bW : Binds K fdW ["word"] []) (gW : mg "is_word" = some (.ref fW))
    (mI : mg "isinstance" = none) (mT : mg "tuple" = none) (mL : mg "len" = none) (mA : mg "all" = none) : FnOk P w K mg base (L2.CX P w) 5 f fd ["words"] (spRowWordsX K Ps) := by
  refine okC F hf scRowWordsX (fun vs H Q E h => ?_) (fun A outer s H vs Q E hr h => ?_)
  · obtain ⟨v, b, rfl, _⟩ := h
    rfl
  · obtain ⟨v, b, rfl, hv, ht, q⟩ := h
    refine ⟨_, pss_cons (ps_if (PW.pt (pw_or (pt_not (pt_val (pe_callB call_isi (by rfl) mI (by decide +kernel) (pa_cons (pv 0) (pa_cons (pe_bltn (v := .ty "tuple") (by rfl) mT (by decide +kernel) rfl) pa_nil)))))
        (pw_or1 (pt_cmpR op_eq (pe_callB call_len_seq (by rfl) mL PySem.boot_len (pa_cons (pv 0) pa_nil)) pe_int (nomark _))))) (pss_one (ps_ret pe_bl)) pss_nil)
      (pss_one (ps_ret (pe_allG (own := [("word", 1)]) (gt := gName 1) (tt := tYes) (P := Pr) hr scRowWordsX.nd (by rfl) mA (by decide +kernel) TB rfl ⟨rfl, by decide +kernel, rfl, blkOk_by (N := ["words", "word"]) (sc := defScope sRowWords) (by decide +kernel)⟩ (pi_tup (pv 0))
          (fun _ _ _ _ _ _ _ _ _ => pg_name (i := 1) scRowWordsX.nd rfl (Or.inl rfl)) (fun _ _ _ _ _ _ _ _ _ _ => pts_nil) (fun _ _ _ _ _ _ _ _ _ hb => pe_call GW hb (by rfl) gW kW bW .nil passL (pa_cons (pv 1) pa_nil))))), ?_⟩
    cases hv with
    | no h =>
      obtain ⟨T, hT, hk⟩ := h.ty
      exact ⟨_, rfl, v, .ty "tuple", _, _, false, rfl, .ty _, hT, kit_ty hk, false, rfl, iteT (q H (Kp.refl ht))⟩
    | nil h =>
      refine ⟨_, rfl, .ref _, .ty "tuple", _, _, true, rfl, .ty _, tyT h, kit_ty (by decide +kernel), true, rfl, iteF ?_⟩
      exact ⟨_, rfl, _, _, rfl, .inr h, rfl, _, rfl, iteT (q H (Kp.refl ht))⟩
    | tup h ne hw =>
      rename_i W xs
      refine ⟨_, rfl, .ref W, .ty "tuple", _, _, true, rfl, .ty _, tyT h, kit_ty (by decide +kernel), true, rfl, iteF ?_⟩
      refine ⟨_, rfl, W, _, rfl, .inr h, rfl, _, rfl, ?_⟩
      have e0 : decide (V.int (xs.length : Int) = V.int 0) = false := decide_eq_false fun z => by
        have z2 := V.int.inj z
        exact ne (List.length_eq_zero_iff.mp (by omega))
      rw [e0]
      refine iteF ⟨_, rfl, W, rfl, ⟨_, h⟩, ht Pr hPr, fun H2 hT => ?_⟩
      have k2 := Kp.tab ht hPr hT
      refine read_all_tup (xs := xs) (pb := isW) (Pv := fun H3 => Kp Ps H H3) k2 (fun H3 p => p.seqT ht h) (fun i v H3 R hx p hR => ?_) (fun H3 p => q H3 p)
      exact ⟨rfl, _, rfl, v, rfl, (hw v (List.mem_of_getElem? hx)).kp ht p, p.1, fun H4 k4 => hR H4 (p.trans k4)⟩
end
/-! ### texts put together -/
theorem join_snoc {sep : Str} : ∀ (l : List Str) (x : Str), l ≠ [] → Txt.join sep (l ++ [x]) = Txt.join sep l ++ sep ++ x := by
  intro l x hl
  show Builtin.Str.glued sep (l ++ [x]) = Builtin.Str.glued sep l ++ sep ++ x
  rw [StrLaws.glued_eq_join, StrLaws.glued_eq_join]
  induction l with
  | nil => exact absurd rfl hl
  | cons a r ih =>
    cases r with
    | nil => rfl
    | cons b r =>
      show a ++ sep ++ Str.join sep ((b :: r) ++ [x]) = a ++ sep ++ Str.join sep (b :: r) ++ sep ++ x
      rw [ih (by simp)]
      refine Str.ext' (Array.toList_inj.mp ?_)
      simp only [Str.cps_append, Array.toList_append, List.append_assoc]
theorem join_one (sep x : Str) : Txt.join sep [x] = x := by
  show Builtin.Str.glued sep [x] = x
  rw [StrLaws.glued_eq_join]
  rfl
theorem join_none (sep : Str) : Txt.join sep [] = Str.empty := by
  show Builtin.Str.glued sep [] = Str.empty
  rw [StrLaws.glued_eq_join]
  rfl
theorem sum_len {ws : List Str} (h : ∀ a ∈ ws, wordB a = true) : (ws.map (·.length)).sum ≤ 40 * ws.length := by
  induction ws with
  | nil => exact Nat.zero_le _
  | cons a r ih =>
    have h1 := (wordB_len (h a List.mem_cons_self)).2
    have h2 := ih fun b hb => h b (List.mem_cons_of_mem _ hb)
    rw [List.map_cons, List.sum_cons, List.length_cons]
    omega
theorem join_len {ws : List Str} (h : ∀ a ∈ ws, wordB a = true) : (Txt.join (" " : Str) ws).length ≤ 41 * ws.length := by
  have h1 := StrLaws.join_length_le (" " : Str) ws
  have h2 := sum_len h
  have e : (" " : Str).length = 1 := by decide +kernel
  have h3 : (Txt.join (" " : Str) ws).length ≤ (ws.map (·.length)).sum + ws.length * (" " : Str).length := by
    show (Builtin.Str.glued (" " : Str) ws).length ≤ _
    rw [StrLaws.glued_eq_join]
    exact h1
  rw [e] at h3
  omega
theorem join_le (sep : Str) (ps : List Str) : (Txt.join sep ps).length ≤ (ps.map (·.length)).sum + ps.length * sep.length := by
  show (Builtin.Str.glued sep ps).length ≤ _
  rw [StrLaws.glued_eq_join]
  exact StrLaws.join_length_le sep ps
/-! ### a telling as text, plainly -/
def signK (k : Str) : Str := if k = ("keep" : Str) then "=" else if k = ("cut" : Str) then "-" else if k = ("put" : Str) then "+" else if k = ("take" : Str) then "<" else ">"
def kindK (z : Str) : Option Str := if z = ("=" : Str) then some "keep" else if z = ("-" : Str) then some "cut" else if z = ("+" : Str) then some "put" else if z = ("<" : Str) then some "take" else if z = (">" : Str) then some "lay" else none
def numS (n : Int) : Str := Str.ofString (toString n)
def piecesR (r : RowD) : List Str := if r.kind ∈ blockK then signK r.kind :: numS r.num :: r.ws else signK r.kind :: r.ws
def lineR (r : RowD) : Str := Txt.join " " (piecesR r)
def numT (a : Str) : Option Int := if (Txt.isascii a && Txt.isdigit a) = true then (if (decide (9 < a.length) || Txt.startswith a "0") = true then none else intText? a) else none
def wsT (l : List Str) : Bool := !l.isEmpty && l.all wordB
def rdRow (a : Str) : Option RowD := match Txt.split a " " with
  | [] => none
  | s :: l => match kindK s with
    | none => none
    | some k => if k ∈ blockK then (match l with
        | [] => none
        | f :: ws => match numT f with
          | none => none
          | some n => if wsT ws = true then some ⟨k, n, ws⟩ else none)
      else if wsT l = true then some ⟨k, 0, l⟩ else none
theorem kindK_sign : ∀ k ∈ plainK ++ blockK, kindK (signK k) = some k ∧ (signK k).length = 1 := by decide +kernel
theorem sign_free : ∀ k ∈ plainK ++ blockK, (¬ 32 ∈ (signK k).cps.toList) ∧ (¬ 10 ∈ (signK k).cps.toList) ∧ ((signK k).cps.toList.all fun c => decide (c < 256)) = true := by decide +kernel
theorem digits_of {a : Str} (h1 : Txt.isascii a = true) (h2 : Txt.isdigit a = true) : NumText.AllDigits a.cps.toList ∧ a.cps.toList ≠ [] := by
  unfold Txt.isascii at h1
  unfold Txt.isdigit at h2
  rw [Bool.and_eq_true] at h2
  obtain ⟨h2, h3⟩ := h2
  rw [Array.all_eq_true] at h1 h3
  refine ⟨fun c hc => ?_, fun z => ?_⟩
  · obtain ⟨i, hi⟩ := List.mem_iff_getElem?.mp hc
    rw [Array.getElem?_toList] at hi
    obtain ⟨hi1, hi2⟩ := Array.getElem?_eq_some_iff.mp hi
    have c1 := of_decide_eq_true (h1 i hi1)
    have c2 := h3 i hi1
    rw [hi2] at c1 c2
    rw [PyProof.Rows.cls_isdigit c c1] at c2
    unfold PyProof.Rows.inR at c2
    rw [Bool.and_eq_true, Bool.not_eq_true', Bool.not_eq_true'] at c2
    obtain ⟨c3, c4⟩ := c2
    have d3 : decide (c < 48) = false := by
      rw [← c3]
      show decide (c < 48) = Spec.ltCps [c] [48]
      unfold Spec.ltCps
      simp [Spec.ltCps]
    have d4 : decide (57 < c) = false := by
      rw [← c4]
      show decide (57 < c) = Spec.ltCps [57] [c]
      unfold Spec.ltCps
      simp [Spec.ltCps]
    have := of_decide_eq_false d3
    have := of_decide_eq_false d4
    omega
  · have h2 := of_decide_eq_true h2
    have e : a.length = a.cps.toList.length := rfl
    rw [e, z] at h2
    exact Nat.lt_irrefl _ h2
theorem numS_codes (n : Nat) : (numS (n : Int)).cps.toList = TL.numL n := TL.tl_num n
theorem numL_first : ∀ (m n : Nat), n ≤ m → 0 < n → ∃ c r, TL.numL n = c :: r ∧ 49 ≤ c
  | 0, n, h, h0 => by omega
  | m + 1, n, h, h0 => by
    by_cases h1 : n < 10
    · rw [TL.numL_lt h1]
      exact ⟨_, _, rfl, by omega⟩
    · rw [TL.numL_step (by omega)]
      obtain ⟨c, r, e, hc⟩ := numL_first m (n / 10) (by omega) (by omega)
      rw [e]
      exact ⟨c, _, rfl, hc⟩
theorem starts0_iff (a : Str) : Txt.startswith a "0" = true ↔ a.cps.toList[0]? = some 48 := by
  have e0 : ("0" : Str) = ⟨#[48]⟩ := by decide +kernel
  rw [e0, ← StrLaws.subAt_one a 48 0]
  unfold Txt.startswith
  rw [Bool.and_eq_true]
  exact ⟨fun h => ⟨of_decide_eq_true h.1, h.2⟩, fun h => ⟨decide_eq_true h.1, h.2⟩⟩
theorem starts0 (a : Str) (h : Txt.startswith a "0" = true) : ∃ r, a.cps.toList = 48 :: r := by
  have h1 := (starts0_iff a).mp h
  cases e : a.cps.toList with
  | nil =>
    rw [e] at h1
    cases h1
  | cons c r =>
    rw [e] at h1
    cases h1
    exact ⟨r, rfl⟩
theorem numT_num {n : Int} (h1 : 1 ≤ n) (h2 : n ≤ 999999999) : numT (numS n) = some n := by
  obtain ⟨m, rfl⟩ : ∃ m : Nat, n = (m : Int) := ⟨n.toNat, by omega⟩
  have ec := numS_codes m
  have hd := TL.numL_digits m
  have hl : (numS (m : Int)).length ≤ 9 := by
    show (numS (m : Int)).cps.toList.length ≤ 9
    rw [ec]
    exact TL.numL_len (by decide) (by omega)
  have dig : ∀ c ∈ (numS (m : Int)).cps.toList, 48 ≤ c ∧ c ≤ 57 := by
    rw [ec]
    exact hd
  have a1 : Txt.isascii (numS (m : Int)) = true := by
    unfold Txt.isascii
    rw [Array.all_eq_true]
    intro i hi
    have := dig _ (List.mem_iff_getElem?.mpr ⟨i, by rw [Array.getElem?_toList]; exact Array.getElem?_eq_getElem hi⟩)
    exact decide_eq_true (by omega)
  have a2 : Txt.isdigit (numS (m : Int)) = true := by
    unfold Txt.isdigit
    rw [Bool.and_eq_true]
    refine ⟨decide_eq_true ?_, ?_⟩
    · show (numS (m : Int)).cps.toList.length > 0
      rw [ec]
      exact List.length_pos_iff.mpr (TL.numL_ne m)
    · rw [Array.all_eq_true]
      intro i hi
      have := dig _ (List.mem_iff_getElem?.mpr ⟨i, by rw [Array.getElem?_toList]; exact Array.getElem?_eq_getElem hi⟩)
      rw [PyProof.Rows.cls_isdigit _ (by omega)]
      unfold PyProof.Rows.inR
      rw [Bool.and_eq_true, Bool.not_eq_true', Bool.not_eq_true']
      constructor
      · show Spec.ltCps [_] [48] = false
        unfold Spec.ltCps
        simp [Spec.ltCps]
        omega
      · show Spec.ltCps [57] [_] = false
        unfold Spec.ltCps
        simp [Spec.ltCps]
        omega
  have a3 : Txt.startswith (numS (m : Int)) "0" = false := by
    cases e : Txt.startswith (numS (m : Int)) "0" with
    | false => rfl
    | true =>
      obtain ⟨r, e1⟩ := starts0 _ e
      obtain ⟨c, r2, e2, hc⟩ := numL_first m m (Nat.le_refl _) (by omega)
      rw [ec, e2] at e1
      have := (List.cons.inj e1).1
      omega
  unfold numT
  rw [a1, a2, if_pos (show (true && true) = true from rfl), a3, decide_eq_false (show ¬ 9 < (numS (m : Int)).length by omega), if_neg (by decide)]
  exact PySem.W.KIN.num_reads (by omega) (by omega)
theorem word_free {a : Str} (h : wordB a = true) : (¬ 32 ∈ a.cps.toList) ∧ (¬ 10 ∈ a.cps.toList) := by
  have key : ∀ c ∈ a.cps.toList, 32 < c := fun c hc => by
    have := wordB_signs h c hc
    unfold signB at this
    rw [Bool.or_eq_true, Bool.and_eq_true, Bool.and_eq_true, Bool.not_eq_true', Bool.not_eq_true', Bool.not_eq_true', Bool.not_eq_true'] at this
    rcases this with ⟨h, _⟩ | ⟨h, _⟩
    · have := of_decide_eq_false h
      omega
    · have := of_decide_eq_false h
      omega
  exact ⟨fun z => by have := key _ z; omega, fun z => by have := key _ z; omega⟩
theorem num_free {n : Int} (h1 : 1 ≤ n) : (¬ 32 ∈ (numS n).cps.toList) ∧ (¬ 10 ∈ (numS n).cps.toList) := by
  obtain ⟨m, rfl⟩ : ∃ m : Nat, n = (m : Int) := ⟨n.toNat, by omega⟩
  rw [numS_codes]
  exact ⟨TL.numL_free (by decide), TL.numL_free (by decide)⟩
theorem blk_num {r : RowD} (h : RowOk r) (hk : r.kind ∈ blockK) : 1 ≤ r.num ∧ r.num ≤ 999999999 := by
  have := h.num
  unfold numB at this
  rw [inV_strs, decide_eq_true hk, if_pos rfl, Bool.and_eq_true] at this
  exact ⟨of_decide_eq_true this.1, of_decide_eq_true this.2⟩
theorem pieces_free {r : RowD} (h : RowOk r) : ∀ p ∈ piecesR r, (¬ 32 ∈ p.cps.toList) ∧ (¬ 10 ∈ p.cps.toList) := fun p hp => by
  have hs := sign_free _ h.kind
  unfold piecesR at hp
  split at hp
  · next hk =>
    rcases List.mem_cons.mp hp with rfl | hp
    · exact ⟨hs.1, hs.2.1⟩
    · rcases List.mem_cons.mp hp with rfl | hp
      · exact num_free (blk_num h hk).1
      · exact word_free (h.words p hp)
  · rcases List.mem_cons.mp hp with rfl | hp
    · exact ⟨hs.1, hs.2.1⟩
    · exact word_free (h.words p hp)
theorem split_line {r : RowD} (h : RowOk r) : Txt.split (lineR r) " " = piecesR r := by
  refine TL.split_join (s := 32) (S := []) (by decide +kernel) (by decide +kernel) ?_ fun p hp => (pieces_free h p hp).1
  unfold piecesR
  split <;> exact List.cons_ne_nil _ _
theorem wsT_ok {r : RowD} (h : RowOk r) : wsT r.ws = true := by
  unfold wsT
  rw [Bool.and_eq_true]
  refine ⟨?_, List.all_eq_true.mpr h.words⟩
  cases e : r.ws with
  | nil => exact absurd e h.some
  | cons a l => rfl
theorem rdRow_line {r : RowD} (h : RowOk r) : rdRow (lineR r) = some r := by
  unfold rdRow
  rw [split_line h]
  have hk := (kindK_sign _ h.kind).1
  have hw := wsT_ok h
  unfold piecesR
  by_cases hb : r.kind ∈ blockK
  · obtain ⟨n1, n2⟩ := blk_num h hb
    rw [if_pos hb]
    dsimp only
    rw [hk]
    dsimp only
    rw [if_pos hb, numT_num n1 n2]
    dsimp only
    rw [if_pos hw]
  · rw [if_neg hb]
    dsimp only
    rw [hk]
    dsimp only
    rw [if_neg hb, if_pos hw]
    have h0 : r.num = 0 := by
      have := h.num
      unfold numB at this
      rw [inV_strs, decide_eq_false hb, if_neg Bool.false_ne_true] at this
      have := of_decide_eq_true this
      exact V.int.inj this
    rw [← h0]
/-- the text of a telling -/
def textR (rs : List RowD) : Str := Txt.join "\n" (rs.map lineR)
def rdAll (a : Str) : List (Option RowD) := if a = ("" : Str) then [] else (Txt.split a "\n").map rdRow
/-! ### the program's notes -/
theorem spl_parts (s : Nat) : ∀ (L acc : List Nat), TL.spl [s] 0 acc L ≠ [] ∧ (∀ p ∈ TL.spl [s] 0 acc L, p.length ≤ acc.length + L.length) ∧ (TL.spl [s] 0 acc L).length ≤ L.length + 1
  | [], acc => by
    rw [TL.spl_nil]
    exact ⟨List.cons_ne_nil _ _, fun p hp => by rw [List.mem_singleton.mp hp]; omega, Nat.le_refl _⟩
  | c :: r, acc => by
    cases e : TL.pre [s] (c :: r) with
    | true =>
      rw [TL.spl_hit e]
      obtain ⟨h1, h2, h3⟩ := spl_parts s r []
      refine ⟨List.cons_ne_nil _ _, fun p hp => ?_, ?_⟩
      · rcases List.mem_cons.mp hp with rfl | hp
        · omega
        · have := h2 p hp
          simp only [List.length_nil, List.length_cons] at this ⊢
          omega
      · show (TL.spl [s] 0 [] r).length + 1 ≤ r.length + 1 + 1
        omega
    | false =>
      rw [TL.spl_miss e]
      obtain ⟨h1, h2, h3⟩ := spl_parts s r (acc ++ [c])
      refine ⟨h1, fun p hp => ?_, ?_⟩
      · have := h2 p hp
        rw [List.length_append] at this
        simp only [List.length_cons, List.length_nil] at this ⊢
        omega
      · rw [List.length_cons]
        omega
theorem split_parts {s : Nat} (hs : s < 256) (a : Str) : Txt.split a ⟨#[s]⟩ ≠ [] ∧ (∀ p ∈ Txt.split a ⟨#[s]⟩, p.length ≤ a.length) ∧ (Txt.split a ⟨#[s]⟩).length ≤ a.length + 1 := by
  have k1 : Builtin.Str.strKind ⟨#[s]⟩ = 1 := by
    unfold Builtin.Str.strKind
    rw [if_pos]
    simp [hs]
  have e := TL.split_spl a ⟨#[s]⟩ (List.cons_ne_nil _ _) (by
    rw [k1]
    unfold Builtin.Str.strKind
    split
    · exact Nat.lt_irrefl _
    · split <;> decide)
  obtain ⟨h1, h2, h3⟩ := spl_parts s a.cps.toList []
  have e : (Txt.split a ⟨#[s]⟩).map TL.tl = TL.spl [s] 0 [] a.cps.toList := e
  rw [← e] at h1 h2 h3
  refine ⟨fun z => h1 (by rw [z]; rfl), fun p hp => ?_, ?_⟩
  · have h : p.cps.toList.length ≤ 0 + a.cps.toList.length := h2 (TL.tl p) (List.mem_map.mpr ⟨p, hp, rfl⟩)
    show p.cps.toList.length ≤ a.cps.toList.length
    omega
  · rw [List.length_map] at h3
    exact h3
theorem blank_is : (" " : Str) = ⟨#[32]⟩ ∧ ("\n" : Str) = ⟨#[10]⟩ := ⟨by decide +kernel, by decide +kernel⟩
theorem cut_from (xs : List V) (k : Nat) : cutV xs (some (k : Int)) none = xs.drop k := by
  unfold cutV
  rw [HT.sIx_none, HT.sIx_nat]
  by_cases h : k ≤ xs.length
  · rw [Nat.min_eq_left h, List.take_of_length_le (by rw [List.length_drop]; exact Nat.le_refl _)]
  · rw [Nat.min_eq_right (by omega), List.drop_of_length_le (Nat.le_refl _), List.drop_of_length_le (by omega)]
    rw [List.take_nil]
section
variable {P : Program} {w : World} {K : PySem.W.Frag} {mg : Str → Option Value} {base : Heap}
theorem scReadNumber : FnScope ["figures"] ["figures"] (defScope sReadNumber) := ⟨rfl, rfl, rfl, by decide +kernel, rfl, by decide +kernel, by decide +kernel⟩
theorem scReadWords : FnScope ["pieces", "words"] ["pieces"] (defScope sReadWords) := ⟨rfl, rfl, rfl, by decide +kernel, rfl, by decide +kernel, by decide +kernel⟩
theorem scReadRow : FnScope ["line", "pieces", "kind"] ["line"] (defScope sReadRow) := ⟨rfl, rfl, rfl, by decide +kernel, rfl, by decide +kernel, by decide +kernel⟩
def spReadNumber (cR : Addr) : Sp := fun vs H Q E => ∃ a : Str, vs = [.str a] ∧ a.length ≤ 1000000 ∧ (∀ n, numT a = some n → Q (.int n) H) ∧ (numT a = none → E (.ref cR) none H)
theorem ok_read_number {cR f : Addr} {fd : FuncData} (F : FnP K "read_number" sReadNumber f fd) (X : ExcC K mg "NoRow" cR) (mL : mg "len" = none) (mN : mg "int" = none) {tM : Tok} (mM : mg "MOST_FIGURES" = some (.int 9 tM)) : FnOk P w K mg base (L2.CX P w) 1 f fd ["figures"] (spReadNumber cR) := by
  refine F.ok scReadNumber (fun vs H Q E h => ?_) (fun cdv A outer s H vs Q E hr h => ?_)
  · obtain ⟨a, rfl, _⟩ := h
    rfl
  · obtain ⟨a, rfl, hl, q, e⟩ := h
    refine ⟨_, pss_cons (ps_if (PW.pt (pw_or (pt_not (pt_val (pe_m0 PySem.F.slot_str_isascii PySem.F.type_str_isascii mt_isascii (pv 0)))) (pw_or1 (pt_not (pt_val (pe_m0 PySem.F.slot_str_isdigit PySem.F.type_str_isdigit mt_isdigit (pv 0)))))))
        (pss_one (ps_raise rfl (takes_of rfl rfl rfl rfl) (pmk_own PySem.F.excBase_ValueError X.ex X.g X.kp (raises_own X.be X.ty) (by rfl)))) pss_nil)
      (pss_cons (ps_if (PW.pt (pw_or (pt_cmpR op_gt (pe_callB call_len_str (by rfl) mL PySem.boot_len (pa_cons (pv 0) pa_nil)) (pe_glob (v := .int 9) (by rfl) mM ⟨_, rfl⟩) (nomark _)) (pw_or1 (pt_val (pe_m1 PySem.F.slot_str_startswith PySem.F.type_str_startswith mt_startswith (pv 0) pe_str)))))
        (pss_one (ps_raise rfl (takes_of rfl rfl rfl rfl) (SkE.pmk_own1 PySem.F.excBase_ValueError X.ex X.g X.kp (raises_own X.be X.ty) (by rfl) (pe_joined (.cons pe_str (.cons (pe_fmt (pe_glob (v := .int 9) (by rfl) mM ⟨_, rfl⟩)) (.cons pe_str .nil))))))) pss_nil)
      (pss_one (ps_ret (pe_callTy call_int_str (by rfl) mN (by decide +kernel) (pa_cons (pv 0) pa_nil))))), ?_⟩
    refine ⟨_, rfl, ⟨_, rfl⟩, a, rfl, rfl, trivial, _, rfl, ?_⟩
    have eN : numT a = if (Txt.isascii a && Txt.isdigit a) = true then (if (decide (9 < a.length) || Txt.startswith a "0") = true then none else intText? a) else none := rfl
    cases h1 : Txt.isascii a with
    | false =>
      rw [h1, Bool.false_and, if_neg Bool.false_ne_true] at eN
      exact iteT (e eN)
    | true =>
      refine iteF ⟨_, rfl, ⟨_, rfl⟩, a, rfl, rfl, trivial, _, rfl, ?_⟩
      cases h2 : Txt.isdigit a with
      | false =>
        rw [h1, h2, if_neg (show ¬ (true && false) = true by decide)] at eN
        exact iteT (e eN)
      | true =>
        rw [h1, h2, if_pos (show (true && true) = true from rfl)] at eN
        have ec : decide ((a.length : Int) > 9) = decide (9 < a.length) := by
          by_cases h : 9 < a.length
          · rw [decide_eq_true h, decide_eq_true (by omega)]
          · rw [decide_eq_false h, decide_eq_false (by omega)]
        have e0 : (Str.empty ++ ("a block's number has 1 to " : Str)).length = 26 := by decide +kernel
        have e9 : (Str.ofString (toString (9 : Int))).length = 1 := by decide +kernel
        have e1 : (" figures, the first one no 0" : Str).length = 28 := by decide +kernel
        refine (fun (bad : numT a = none → _) => iteF ⟨_, rfl, a, rfl, small_line hl, _, _, rfl, rfl, _, rfl, ite2 (fun h3 => bad ?b1) (fun h3 => ⟨_, rfl, ⟨_, rfl⟩, a, _, rfl, rfl, _, rfl, ite2 (fun h4 => bad ?b2) (fun h4 => ⟨_, rfl, ?b3⟩)⟩)⟩) ?b4
        case b1 =>
          have h3 : decide ((a.length : Int) > 9) = true := h3
          rw [ec] at h3
          rw [eN, h3, Bool.true_or, if_pos rfl]
        case b2 =>
          have h4 : Txt.startswith a "0" = true := h4
          rw [eN, h4, Bool.or_true, if_pos rfl]
        case b3 =>
          have h3 : decide ((a.length : Int) > 9) = false := Bool.eq_false_iff.mpr h3
          have h4 : Txt.startswith a "0" = false := Bool.eq_false_iff.mpr h4
          rw [ec] at h3
          rw [h3, h4, if_neg (show ¬ (false || false) = true by decide)] at eN
          have h9 := of_decide_eq_false h3
          obtain ⟨d1, d2⟩ := digits_of h1 h2
          have hi := intText_digits d1 d2 (by omega)
          exact ⟨a, _, rfl, hi, by omega, q _ (eN.trans hi)⟩
        case b4 =>
          intro hb
          refine ⟨_, rfl, small_line (by rw [e0]; decide), .inr ⟨_, rfl, by decide +kernel, _, rfl, small_line ?_, _, rfl, small_line ?_, e hb⟩⟩
          · rw [Str.length_append, e0, e9]
            decide
          · rw [Str.length_append, Str.length_append, e0, e9, e1]
            decide
def spReadWords (K : PySem.W.Frag) (Ps : List Addr) (cR : Addr) : Sp := fun vs H Q E => ∃ (p : Addr) (l : List Str), vs = [.ref p] ∧ SqL K H p (l.map V.str) ∧ (∀ a ∈ l, a.length ≤ 1000000) ∧ Tb Ps H ∧ (wsT l = true → ∀ (H' : Hp) (W : Addr), Kp Ps H H' → SqT K H' W (l.map V.str) → Q (.ref W) H') ∧ (wsT l = false → ∀ H', Kp Ps H H' → E (.ref cR) none H')
theorem ok_read_words {Ps : List Addr} {cR f fW : Addr} {fd fdW : FuncData} (F : FnP K "read_words" sReadWords f fd) (GW : FnOk P w K mg base (L2.CX P w) 5 fW fdW ["words"] (spRowWordsX K Ps)) (kW : PySem.W.keepIn K (.ref fW) = true) (bW : Binds K fdW ["words"] []) (gW : mg "is_row_of_words" = some (.ref fW))
    (X : ExcC K mg "NoRow" cR) (mT : mg "tuple" = none) : FnOk P w K mg base (L2.CX P w) 6 f fd ["pieces"] (spReadWords K Ps cR) := by
  refine F.ok scReadWords (fun vs H Q E h => ?_) (fun cdv A outer s H vs Q E hr h => ?_)
  · obtain ⟨p, l, rfl, _⟩ := h
    rfl
  · obtain ⟨p, l, rfl, hp, hl, ht, q, e⟩ := h
    refine ⟨_, pss_cons (ps_set (i := 1) scReadWords.nd rfl (.inl rfl) (pe_callTy call_tuple_of (by rfl) mT (by decide +kernel) (pa_cons (pv 0) pa_nil)))
      (pss_cons (ps_if (pt_not (pt_val (pe_call GW hr (by rfl) gW kW bW .nil passL (pa_cons (pv 1) pa_nil)))) (pss_one (ps_raise rfl (takes_of rfl rfl rfl rfl) (pmk_own PySem.F.excBase_ValueError X.ex X.g X.kp (raises_own X.be X.ty) (by rfl)))) pss_nil)
      (pss_one (ps_ret (pv 1)))), ?_⟩
    refine ⟨_, rfl, p, _, rfl, .inl ⟨hp, fun W nW => ?_⟩⟩
    have k1 : Kp Ps H (upd H W (.tup (l.map V.str))) := Kp.same ht (same_upd nW)
    have hW : SqT K (upd H W (.tup (l.map V.str))) W (l.map V.str) := .inl (.inl upd_same)
    generalize upd H W (.tup (l.map V.str)) = H1 at k1 hW ⊢
    have wv : WsV K H1 (.ref W) (wsT l) := by
      cases l with
      | nil => exact .nil hW
      | cons a r =>
        have e1 : wsT (a :: r) = ((a :: r).map V.str).all isW := by
          rw [all_isW]
          rfl
        rw [e1]
        refine .tup hW (List.cons_ne_nil _ _) fun x hx => ?_
        obtain ⟨b, hb, rfl⟩ := List.mem_map.mp hx
        exact .inl ⟨b, rfl, hl b hb⟩
    refine ⟨_, rfl, .ref W, _, rfl, wv, k1.1, fun H2 k2 => ⟨_, rfl, ?_⟩⟩
    have k12 := k1.trans k2
    cases hb : wsT l with
    | true => exact iteF ⟨_, rfl, q hb H2 W k12 (k2.seqT k1.1 hW)⟩
    | false => exact iteT (e hb H2 k12)
theorem kindK_ok {z k : Str} (h : kindK z = some k) : k ∈ plainK ++ blockK ∧ k.length ≤ 4 := by
  have key : ∀ k ∈ plainK ++ blockK, k.length ≤ 4 := by decide +kernel
  have m : k ∈ plainK ++ blockK := by
    unfold kindK at h
    split at h
    · cases h; decide +kernel
    · split at h
      · cases h; decide +kernel
      · split at h
        · cases h; decide +kernel
        · split at h
          · cases h; decide +kernel
          · split at h
            · cases h; decide +kernel
            · cases h
  exact ⟨m, key k m⟩
/-- the kinds by their signs, as they stand at the top -/
def KindAt (K : PySem.W.Frag) (w : World) (aK : Addr) : Prop := (∃ es n, KDict K w aK es n) ∧ ∀ z, (∃ k, kindK z = some k ∧ KDct K w aK z (.str k)) ∨ (kindK z = none ∧ PySem.W.nsIn K aK z = some none)
def spReadRow (K : PySem.W.Frag) (Ps : List Addr) (cR : Addr) : Sp := fun vs H Q E => ∃ a : Str, vs = [.str a] ∧ a.length ≤ 900000 ∧ Tb Ps H ∧ (∀ r, rdRow a = some r → ∀ (H' : Hp) (v : V), Kp Ps H H' → RowAt K H' v r → Q v H') ∧ (rdRow a = none → ∀ H', Kp Ps H H' → E (.ref cR) none H')
theorem ok_read_row {Ps : List Addr} {aK aB cR f fN fW : Addr} {fd fdN fdW : FuncData} (F : FnP K "read_row" sReadRow f fd)
    (GN : FnOk P w K mg base (L2.CX P w) 1 fN fdN ["figures"] (spReadNumber cR)) (kN : PySem.W.keepIn K (.ref fN) = true) (bN : Binds K fdN ["figures"] []) (gN : mg "read_number" = some (.ref fN))
    (GW : FnOk P w K mg base (L2.CX P w) 6 fW fdW ["pieces"] (spReadWords K Ps cR)) (kW : PySem.W.keepIn K (.ref fW) = true) (bW : Binds K fdW ["pieces"] []) (gW : mg "read_words" = some (.ref fW))
    (X : ExcC K mg "NoRow" cR) (mL : mg "len" = none) (mK : mg "KINDS" = some (.ref aK)) (kK : KindAt K w aK) (mB : mg "BLOCK_KINDS" = some (.ref aB)) (kB : KTup K aB blockK) : FnOk P w K mg base (L2.CX P w) 7 f fd ["line"] (spReadRow K Ps cR) := by
  refine F.ok scReadRow (fun vs H Q E h => ?_) (fun cdv A outer s H vs Q E hr h => ?_)
  · obtain ⟨a, rfl, _⟩ := h
    rfl
  · obtain ⟨a, rfl, hl, ht, q, e⟩ := h
    obtain ⟨⟨es, en, kD⟩, kK⟩ := kK
    have r1 : Room 1 (A.deeper (envOfC "read_row" (defScope sReadRow) s.heap.objs.size f cdv)) := hr.mono (by decide)
    refine ⟨_, pss_cons (ps_set (i := 1) scReadRow.nd rfl (.inl rfl) (pe_split (pv 0) pe_str))
      (pss_cons (ps_if (pt_cmpR (op_notIn_kd kD) (pe_ix ix_list (pv 1) pe_int (fun _ _ => rfl)) (pe_glob (v := .ref aK) (by rfl) mK rfl) (by rfl)) (pss_one (ps_raise rfl (takes_of rfl rfl rfl rfl) (pmk_own PySem.F.excBase_ValueError X.ex X.g X.kp (raises_own X.be X.ty) (by rfl)))) pss_nil)
      (pss_cons (ps_set (i := 2) scReadRow.nd rfl (.inl rfl) (pe_ix (r := rIxD K w) ix_kdict (pe_glob (v := .ref aK) (by rfl) mK rfl) (pe_ix ix_list (pv 1) pe_int (fun _ _ => rfl)) (fun _ _ => rfl)))
      (pss_cons (ps_if (pt_cmpR op_notIn_seq (pv 2) (pe_glob (v := .ref aB) (by rfl) mB rfl) (by rfl)) (pss_one (ps_ret (pe_tup (pa_cons (pv 2) (pa_cons pe_int (pa_cons (pe_callS GW hr (by rfl) gW kW bW (fun σ => passAt (takes_of rfl rfl rfl rfl) σ) (pa_cons (pe_slice sl_list (pv 1) (po_some pe_int) po_none) pa_nil)) pa_nil)))))) pss_nil)
      (pss_cons (ps_if (pt_cmpR op_eq (pe_callB call_len_seq (by rfl) mL PySem.boot_len (pa_cons (pv 1) pa_nil)) pe_int (nomark _)) (pss_one (ps_raise rfl (takes_of rfl rfl rfl rfl) (SkE.pmk_own1 PySem.F.excBase_ValueError X.ex X.g X.kp (raises_own X.be X.ty) (by rfl) (pe_joined (.cons pe_str (.cons (pe_fmt (pv 2)) (.cons pe_str .nil))))))) pss_nil)
      (pss_one (ps_ret (pe_tup (pa_cons (pv 2) (pa_cons (pe_callS GN r1 (by rfl) gN kN bN (fun σ => passAt (takes_of rfl rfl rfl rfl) σ) (pa_cons (pe_ix ix_list (pv 1) pe_int (fun _ _ => rfl)) pa_nil)) (pa_cons (pe_callS GW hr (by rfl) gW kW bW (fun σ => passAt (takes_of rfl rfl rfl rfl) σ) (pa_cons (pe_slice sl_list (pv 1) (po_some pe_int) po_none) pa_nil)) pa_nil)))))))))), ?_⟩
    refine ⟨_, rfl, ⟨_, rfl⟩, a, _, rfl, rfl, by decide +kernel, small_line (by omega), fun p np => ?_⟩
    have hps := split_parts (s := 32) (by decide) a
    rw [← blank_is.1] at hps
    obtain ⟨hne, hpl, hpn⟩ := hps
    unfold rdRow at q e
    generalize Txt.split a " " = ps at q e hne hpl ⊢
    cases ps with
    | nil => exact absurd rfl hne
    | cons s0 l =>
      have k1 : Kp Ps H (upd H p (.lst ((s0 :: l).map V.str))) := Kp.same ht (same_upd np)
      have hS : SqL K (upd H p (.lst ((s0 :: l).map V.str))) p ((s0 :: l).map V.str) := .inl (.inl upd_same)
      generalize upd H p (.lst ((s0 :: l).map V.str)) = H1 at k1 hS ⊢
      rcases kK s0 with ⟨k, hk, hd⟩ | ⟨hk, hn⟩
      · dsimp only at q e
        rw [hk] at q e
        dsimp only at q e
        obtain ⟨hkm, hkl⟩ := kindK_ok hk
        obtain ⟨es', n', u, d1, d2, d3, d4⟩ := id hd
        refine ⟨_, rfl, p, _, _, _, rfl, rfl, hS, at_of (j := 0) rfl rfl, s0, some u, rfl, rfl, d3, _, rfl, iteF ?_⟩
        refine ⟨_, rfl, p, _, _, _, rfl, rfl, hS, at_of (j := 0) rfl rfl, aK, s0, _, rfl, rfl, hd, ?_⟩
        refine ⟨_, rfl, aB, blockK.map V.str, rfl, .inr (kB _), rfl, flat_strs _, _, rfl, ?_⟩
        show if (!inV (.str k) (blockK.map V.str)) = true then _ else _
        rw [inV_strs]
        by_cases hb : k ∈ blockK
        · rw [decide_eq_true hb]
          rw [if_pos hb] at q e
          refine iteF ⟨_, rfl, p, _, rfl, .inl hS, rfl, _, rfl, ?_⟩
          cases l with
          | nil =>
            have e0 : (Str.empty ++ ("a " : Str)).length = 2 := by decide +kernel
            have e1 : (" has a number" : Str).length = 13 := by decide +kernel
            refine iteT ⟨_, rfl, small_line (by rw [e0]; decide), _, rfl, .inl ⟨_, rfl, small_line (by omega), _, rfl, small_line ?_, _, rfl, small_line ?_, e rfl H1 k1⟩⟩
            · rw [Str.length_append, e0]
              omega
            · rw [Str.length_append, Str.length_append, e0, e1]
              omega
          | cons f ws =>
            refine iteF ⟨_, rfl, _, rfl, p, _, _, _, rfl, rfl, hS, at_of (j := 1) rfl rfl, f, rfl, ?_, fun n hn => ?_, fun hn => ?_⟩
            · have := hpl f (List.mem_cons_of_mem _ List.mem_cons_self)
              omega
            · dsimp only at q e
              rw [hn] at q e
              dsimp only at q e
              refine ⟨_, rfl, _, rfl, p, _, rfl, hS, fun S nS => ?_⟩
              have ec : cutV ((s0 :: f :: ws).map V.str) (some 2) none = ws.map V.str := by
                rw [show (2 : Int) = ((2 : Nat) : Int) from rfl, cut_from]
                rfl
              rw [ec]
              have k2 := Kp.same k1.1 (same_upd nS (o := .lst (ws.map V.str)))
              refine ⟨S, ws, rfl, .inl (.inl upd_same), fun x hx => ?_, k2.1, fun hw H2 W k3 hW => ⟨by show 3 ≤ sizeLine; decide, fun T nT => ?_⟩, fun hw H2 k3 => ?_⟩
              · have := hpl x (List.mem_cons_of_mem _ (List.mem_cons_of_mem _ hx))
                omega
              · have k4 := Kp.new (o := .tup [.str k, .int n, .ref W]) k3.1 nT
                exact q ⟨k, n, ws⟩ (if_pos hw) _ _ (k1.trans (k2.trans (k3.trans k4))) ⟨T, W, rfl, .inl (.inl upd_same), k4.seqT k3.1 hW⟩
              · exact e (if_neg (by rw [hw]; exact Bool.false_ne_true)) H2 (k1.trans (k2.trans k3))
            · dsimp only at e
              rw [hn] at e
              exact e rfl H1 k1
        · rw [decide_eq_false hb]
          rw [if_neg hb] at q e
          refine iteT ⟨_, rfl, _, rfl, _, rfl, p, _, rfl, hS, fun S nS => ?_⟩
          have ec : cutV ((s0 :: l).map V.str) (some 1) none = l.map V.str := by
            rw [show (1 : Int) = ((1 : Nat) : Int) from rfl, cut_from]
            rfl
          rw [ec]
          have k2 := Kp.same k1.1 (same_upd nS (o := .lst (l.map V.str)))
          refine ⟨S, l, rfl, .inl (.inl upd_same), fun x hx => ?_, k2.1, fun hw H2 W k3 hW => ⟨by show 3 ≤ sizeLine; decide, fun T nT => ?_⟩, fun hw H2 k3 => ?_⟩
          · have := hpl x (List.mem_cons_of_mem _ hx)
            omega
          · have k4 := Kp.new (o := .tup [.str k, .int 0, .ref W]) k3.1 nT
            exact q ⟨k, 0, l⟩ (if_pos hw) _ _ (k1.trans (k2.trans (k3.trans k4))) ⟨T, W, rfl, .inl (.inl upd_same), k4.seqT k3.1 hW⟩
          · exact e (if_neg (by rw [hw]; exact Bool.false_ne_true)) H2 (k1.trans (k2.trans k3))
      · dsimp only at e
        rw [hk] at e
        exact ⟨_, rfl, p, _, _, _, rfl, rfl, hS, at_of (j := 0) rfl rfl, s0, none, rfl, rfl, hn, _, rfl, iteT (e rfl H1 k1)⟩
end
/-! ### which keys a dict of the top has -/
def onlyB (K : PySem.W.Frag) (a : Addr) (ks : List Str) : Bool := match List.lookup a K with
  | some ⟨_, _, .dict es _, _⟩ => es.toList.all fun e => match e.key with
    | .str k _ => decide (k ∈ ks)
    | _ => false
  | _ => false
theorem only_ok {K : PySem.W.Frag} {a : Addr} {ks : List Str} (h : onlyB K a ks = true) {z : Str} (hz : ¬ z ∈ ks) : PySem.W.nsIn K a z = some none := by
  unfold onlyB at h
  unfold PySem.W.nsIn
  cases q : List.lookup a K with
  | none =>
    rw [q] at h
    cases h
  | some o =>
    obtain ⟨oc, od, dt, osl⟩ := o
    rw [q] at h
    cases dt with
    | dict es n =>
      dsimp only at h ⊢
      have key : ∀ e ∈ es.toList, e.key.isStr z = false ∧ e.refKey = false := fun e he => by
        have h1 := List.all_eq_true.mp h e he
        obtain ⟨hs, k, v⟩ := e
        cases k with
        | str x t =>
          have h2 : x ∈ ks := of_decide_eq_true h1
          refine ⟨?_, rfl⟩
          show (x == z) = false
          exact beq_eq_false_iff_ne.mpr fun e => hz (e ▸ h2)
        | _ => cases h1
      have e1 : es.toList.find? (fun x => x.key.isStr z) = none := List.find?_eq_none.mpr fun e he => by
        rw [(key e he).1]
        exact Bool.false_ne_true
      have e2 : (es.toList.any fun x => x.refKey) = false := by
        rw [List.any_eq_false]
        intro e he
        rw [(key e he).2]
        exact Bool.false_ne_true
      rw [e1, e2]
      rfl
    | _ => cases h
theorem kind_at {K : PySem.W.Frag} {w : World} {aK : Addr} (D : ∃ es n, KDict K w aK es n) (o : onlyB K aK ["=", "-", "+", "<", ">"] = true) (h : ∀ z k : Str, ((z = "=" ∧ k = "keep") ∨ (z = "-" ∧ k = "cut") ∨ (z = "+" ∧ k = "put") ∨ (z = "<" ∧ k = "take") ∨ (z = ">" ∧ k = "lay")) → KDct K w aK z (.str k)) : KindAt K w aK := by
  refine ⟨D, fun z => ?_⟩
  unfold kindK
  by_cases h1 : z = ("=" : Str)
  · exact .inl ⟨_, if_pos h1, h _ _ (.inl ⟨h1, rfl⟩)⟩
  · rw [if_neg h1]
    by_cases h2 : z = ("-" : Str)
    · exact .inl ⟨_, if_pos h2, h _ _ (.inr (.inl ⟨h2, rfl⟩))⟩
    · rw [if_neg h2]
      by_cases h3 : z = ("+" : Str)
      · exact .inl ⟨_, if_pos h3, h _ _ (.inr (.inr (.inl ⟨h3, rfl⟩)))⟩
      · rw [if_neg h3]
        by_cases h4 : z = ("<" : Str)
        · exact .inl ⟨_, if_pos h4, h _ _ (.inr (.inr (.inr (.inl ⟨h4, rfl⟩))))⟩
        · rw [if_neg h4]
          by_cases h5 : z = (">" : Str)
          · exact .inl ⟨_, if_pos h5, h _ _ (.inr (.inr (.inr (.inr ⟨h5, rfl⟩))))⟩
          · rw [if_neg h5]
            refine .inr ⟨rfl, only_ok o fun m => ?_⟩
            rcases List.mem_cons.mp m with m | m
            · exact h1 m
            · rcases List.mem_cons.mp m with m | m
              · exact h2 m
              · rcases List.mem_cons.mp m with m | m
                · exact h3 m
                · rcases List.mem_cons.mp m with m | m
                  · exact h4 m
                  · exact h5 (List.mem_singleton.mp m)
/-! ### a telling read, its lines good or not -/
section
variable {P : Program} {w : World} {K : PySem.W.Frag} {mg : Str → Option Value} {base : Heap}
theorem scRead : FnScope ["line", "row_line"] ["line"] (defScope sRead) := ⟨rfl, rfl, rfl, by decide +kernel, rfl, by decide +kernel, by decide +kernel⟩
def spReadX (K : PySem.W.Frag) (Ps : List Addr) (cR : Addr) : Sp := fun vs H Q E => ∃ (a : Str), vs = [.str a] ∧ a.length ≤ 900000 ∧ Tb Ps H ∧ (∀ rs : List RowD, rdAll a = rs.map some → ∀ (H' : Hp) (D : Addr) (xs : List V), Kp Ps H H' → H' D = some (.lst xs) → RowsAt K H' xs rs → Q (.ref D) H') ∧ (none ∈ rdAll a → ∀ H', Kp Ps H H' → E (.ref cR) none H')
theorem ok_readX {Ps : List Addr} {cR f fR : Addr} {fd fdR : FuncData} (F : FnP K "read" sRead f fd)
    (GR : FnOk P w K mg base (L2.CX P w) 7 fR fdR ["line"] (spReadRow K Ps cR)) (kR : PySem.W.keepIn K (.ref fR) = true) (bR : Binds K fdR ["line"] []) (gR : mg "read_row" = some (.ref fR))
    (mI : mg "isinstance" = none) (mS : mg "str" = none) : FnOk P w K mg base (L2.CX P w) 8 f fd ["line"] (spReadX K Ps cR) := by
  refine F.ok scRead (fun vs H Q E h => ?_) (fun cdv A outer s H vs Q E hr h => ?_)
  · obtain ⟨a, rfl, _⟩ := h
    rfl
  · obtain ⟨a, rfl, hl, ht, q, eR⟩ := h
    refine ⟨_, pss_cons (ps_if (pt_not (pt_val (pe_callB call_isi (by rfl) mI (by decide +kernel) (pa_cons (pv 0) (pa_cons (pe_bltn (v := .ty "str") (by rfl) mS (by decide +kernel) rfl) pa_nil))))) pss_never pss_nil)
      (pss_cons (ps_if (pt_cmpR op_eq (pv 0) pe_str (nomark _)) (pss_one (ps_ret (pe_lst pa_nil))) pss_nil)
      (pss_one (ps_ret (pe_lcE (E0 := E) (own := [("row_line", 1)]) (g := gName 1) (tt := tYes) rfl scRead.nd rfl rfl (takes_of rfl rfl rfl rfl) (pi_list (pe_split (pv 0) pe_str)) (blkOk_by (N := ["line", "row_line"]) (sc := defScope sRead) (by decide +kernel)) (by decide +kernel)
        (fun _ _ _ _ _ _ => pg_name (i := 1) scRead.nd rfl (Or.inl rfl)) (fun _ _ _ _ _ _ => pts_nil) (fun _ _ _ _ _ _ hx => pe_callS (E := fun _ => E) GR hr (by rfl) gR kR bR hx (pa_cons (pv 1) pa_nil)))))), ?_⟩
    refine ⟨_, rfl, .str a, .ty "str", _, _, true, rfl, .ty _, .base (.str a), kit_ty (by decide +kernel), true, rfl, iteF ?_⟩
    refine ⟨_, rfl, rfl, _, rfl, ite2 (fun e => ?_) (fun e => ?_)⟩
    · have e1 : a = ("" : Str) := V.str.inj (of_decide_eq_true e)
      have e2 : rdAll a = ([] : List RowD).map some := by
        unfold rdAll
        rw [if_pos e1]
        rfl
      exact ⟨by show 0 ≤ sizeLine; decide, fun D nD => q [] e2 _ D [] (Kp.same ht (same_upd nD)) upd_same ⟨rfl, fun i v e => by cases e⟩⟩
    · have e1 : a ≠ ("" : Str) := fun z => e (decide_eq_true (congrArg V.str z))
      have eA : rdAll a = (Txt.split a "\n").map rdRow := if_neg e1
      rw [eA] at q eR
      have hps := split_parts (s := 10) (by decide) a
      rw [← blank_is.2] at hps
      obtain ⟨_, hpl, hpn⟩ := hps
      refine ⟨_, rfl, ⟨_, rfl⟩, a, _, rfl, rfl, by decide +kernel, small_line (by omega), fun p np => ⟨p, rfl, ⟨_, .inl (.inl upd_same)⟩, ?_⟩⟩
      generalize Txt.split a "\n" = ps at q eR hpl hpn ⊢
      have k1 : Kp Ps H (upd H p (.lst (ps.map V.str))) := Kp.same ht (same_upd np)
      have hS : SqL K (upd H p (.lst (ps.map V.str))) p (ps.map V.str) := .inl (.inl upd_same)
      generalize upd H p (.lst (ps.map V.str)) = H1 at k1 hS ⊢
      intro D nD
      have nDH : H D = none := k1.free ht nD
      refine lc_list (K := K) (a := p) (xs := ps.map V.str) (fun i H' => Kp Ps H1 H' ∧ ∃ xs rs, H' D = some (.lst xs) ∧ RowsAt K H' xs rs ∧ (ps.take i).map rdRow = rs.map some) ⟨Kp.same k1.1 (same_upd nD), [], [], upd_same, ⟨rfl, fun i v e => by cases e⟩, rfl⟩ (fun i H' _ hp => hp.1.seq k1.1 hS) (fun i x H' hx hp => ?_) (fun H2 hp => ?_)
      · obtain ⟨kp, xs, rs, hD, hX, hrs⟩ := hp
        rw [List.getElem?_map] at hx
        obtain ⟨l, hl2, rfl⟩ := Option.map_eq_some_iff.mp hx
        refine ⟨rfl, yesT ?_⟩
        have hll := hpl l (List.mem_of_getElem? hl2)
        refine ⟨_, rfl, l, rfl, by omega, kp.1, fun r hr' H3 v k3 hv => ?_, fun hn H3 k3 => ?_⟩
        · have hD3 := k3.2 D _ (kp.1.notin hD fun ps z => by cases z) hD
          have hX3 := hX.kp kp.1 k3
          have hi : i < ps.length := (List.getElem?_eq_some_iff.mp hl2).1
          have hle : rs.length = i := by
            have := congrArg List.length hrs
            rw [List.length_map, List.length_map, List.length_take] at this
            omega
          refine ⟨_, hD3, ?_, ?_, xs ++ [v], rs ++ [r], upd_same, RowsAt.set (noTup hD3) (hX3.snoc hv), ?_⟩
          · have := hX.1
            exact Nat.lt_of_le_of_lt (show xs.length ≤ 900001 by omega) (by decide)
          · exact Kp.set k1.1 (kp.trans k3) nD
          · rw [take_snoc hl2, List.map_append, hrs, List.map_append, List.map_singleton, List.map_singleton, hr']
        · exact eR (List.mem_map.mpr ⟨l, List.mem_of_getElem? hl2, hn⟩) H3 (k1.trans (kp.trans k3))
      · obtain ⟨kp, xs, rs, hD, hX, hrs⟩ := hp
        rw [List.take_of_length_le (by rw [List.length_map]; exact Nat.le_refl _)] at hrs
        exact q rs hrs H2 D xs (k1.trans kp) hD hX
end
/-! ### over the signs of a text -/
theorem at_sign {x : Str} {i : Nat} {c : Nat} : x.cps[i]? = some c ↔ x.cps.toList[i]? = some c := by rw [Array.getElem?_toList]
theorem for_str {x : Str} {g : TG} {tb : TS} {D : Ends} {σ : L2.St} {H : Hp} (Pv : Nat → L2.St → Hp → Prop) (h0 : Pv 0 σ H)
    (hs : ∀ i c σ H, x.cps.toList[i]? = some c → Pv i σ H → g (.str ⟨#[c]⟩) σ H fun σ2 H2 => tb { D with nx := Pv (i + 1), ct := Pv (i + 1), bk := D.nx } σ2 H2) (hd : ∀ σ H, Pv x.length σ H → D.nx σ H) :
    ∃ W : Nat → Nat → L2.St → Hp → Prop, (∃ m, W 0 m σ H) ∧ ∀ i m σ H, W i m σ H →
      ((Its x).stop i H ∧ D.nx σ H) ∨ ((Its x).go i H ∧ ∃ N : L2.St → Hp → Prop, (∀ σ' H', N σ' H' → ∃ m', m' < m ∧ W (i + 1) m' σ' H') ∧ ∀ y H', (Its x).yld i H y H' → g y σ H' fun σ2 H2 => tb { D with nx := N, ct := N, bk := D.nx } σ2 H2) := by
  refine ⟨fun i m σ H => m = x.length - i ∧ i ≤ x.length ∧ Pv i σ H, ⟨x.length, by simp, Nat.zero_le _, h0⟩, ?_⟩
  rintro i m σ H ⟨rfl, hi, p⟩
  by_cases hlt : i < x.length
  · refine .inr ⟨hlt, Pv (i + 1), fun σ' H' p' => ⟨x.length - (i + 1), by omega, rfl, hlt, p'⟩, fun y H' z => ?_⟩
    obtain ⟨e, c, hc, rfl⟩ := z
    subst e
    exact hs i c σ _ (at_sign.mp hc) p
  · have e : i = x.length := by omega
    subst e
    exact .inl ⟨Nat.le_refl _, hd σ H p⟩
theorem lc_str {x : Str} {g : TG} {tt : TT} {te : TE} {vs : List Nat} {σ : L2.St} {H1 : Hp} {D : Addr} {Qd : Hp → Prop} (Pv : Nat → Hp → Prop) (h0 : Pv 0 (upd H1 D (.lst [])))
    (hs : ∀ i c H, x.cps.toList[i]? = some c → Pv i H → g (.str ⟨#[c]⟩) (wipe σ vs) H fun σ2 H2 => wipe σ2 vs = wipe σ vs ∧ tt σ2 H2 fun b H3 =>
      if b = true then te σ2 H3 fun y H4 => ∃ acc, H4 D = some (.lst acc) ∧ acc.length < sizeLine ∧ Pv (i + 1) (upd H4 D (.lst (acc ++ [y]))) else Pv (i + 1) H3) (hd : ∀ H, Pv x.length H → Qd H) :
    ∃ W : Nat → Nat → Hp → Prop, (∃ m, W 0 m (upd H1 D (.lst []))) ∧ ∀ i m H, W i m H →
      ((Its x).stop i H ∧ Qd H) ∨ ((Its x).go i H ∧ ∃ Nx : Hp → Prop, (∀ H', Nx H' → ∃ m', m' < m ∧ W (i + 1) m' H') ∧ ∀ y H', (Its x).yld i H y H' → g y (wipe σ vs) H' fun σ2 H2 => wipe σ2 vs = wipe σ vs ∧ tt σ2 H2 fun b H3 =>
        if b = true then te σ2 H3 fun y H4 => ∃ acc, H4 D = some (.lst acc) ∧ acc.length < sizeLine ∧ Nx (upd H4 D (.lst (acc ++ [y]))) else Nx H3) := by
  refine ⟨fun i m H => m = x.length - i ∧ i ≤ x.length ∧ Pv i H, ⟨x.length, by simp, Nat.zero_le _, h0⟩, ?_⟩
  rintro i m H ⟨rfl, hi, p⟩
  by_cases hlt : i < x.length
  · refine .inr ⟨hlt, Pv (i + 1), fun H' p' => ⟨x.length - (i + 1), by omega, rfl, hlt, p'⟩, fun y H' z => ?_⟩
    obtain ⟨e, c, hc, rfl⟩ := z
    subst e
    exact hs i c _ (at_sign.mp hc) p
  · have e : i = x.length := by omega
    subst e
    exact .inl ⟨Nat.le_refl _, hd H p⟩
/-! ### the law's figures, plainly -/
def digB (c : Nat) : Bool := decide (c ∈ ("0123456789" : Str).cps.toList)
theorem digB_iff (c : Nat) : digB c = true ↔ 48 ≤ c ∧ c ≤ 57 := by
  have e : ("0123456789" : Str).cps.toList = [48, 49, 50, 51, 52, 53, 54, 55, 56, 57] := by decide +kernel
  unfold digB
  rw [e, decide_eq_true_iff]
  simp only [List.mem_cons, List.not_mem_nil, or_false]
  omega
theorem isdigit_of {a : Str} (h0 : 0 < a.length) (h : ∀ c ∈ a.cps.toList, 48 ≤ c ∧ c ≤ 57) : Txt.isascii a = true ∧ Txt.isdigit a = true := by
  constructor
  · unfold Txt.isascii
    rw [Array.all_eq_true]
    intro i hi
    have := h _ (List.mem_iff_getElem?.mpr ⟨i, by rw [Array.getElem?_toList]; exact Array.getElem?_eq_getElem hi⟩)
    exact decide_eq_true (by omega)
  · unfold Txt.isdigit
    rw [Bool.and_eq_true]
    refine ⟨decide_eq_true h0, ?_⟩
    rw [Array.all_eq_true]
    intro i hi
    have := h _ (List.mem_iff_getElem?.mpr ⟨i, by rw [Array.getElem?_toList]; exact Array.getElem?_eq_getElem hi⟩)
    rw [PyProof.Rows.cls_isdigit _ (by omega)]
    unfold PyProof.Rows.inR
    rw [Bool.and_eq_true, Bool.not_eq_true', Bool.not_eq_true']
    constructor
    · show Spec.ltCps [_] [48] = false
      unfold Spec.ltCps
      simp [Spec.ltCps]
      omega
    · show Spec.ltCps [57] [_] = false
      unfold Spec.ltCps
      simp [Spec.ltCps]
      omega
theorem numT_long {a : Str} (h : 9 < a.length) : numT a = none := by
  unfold numT
  split
  · rw [decide_eq_true h, Bool.true_or, if_pos rfl]
  · rfl
theorem numT_none {a : Str} (h : a.length = 0) : numT a = none := by
  unfold numT
  rw [if_neg]
  intro z
  rw [Bool.and_eq_true] at z
  obtain ⟨_, z⟩ := digits_of z.1 z.2
  exact z (List.length_eq_zero_iff.mp h)
theorem numT_zero {a : Str} (h : a.cps.toList[0]? = some 48) : numT a = none := by
  unfold numT
  split
  · rw [(starts0_iff a).mpr h, Bool.or_true, if_pos rfl]
  · rfl
theorem numT_bad {a : Str} {c : Nat} (hc : c ∈ a.cps.toList) (h : digB c = false) : numT a = none := by
  unfold numT
  rw [if_neg]
  intro z
  rw [Bool.and_eq_true] at z
  obtain ⟨z, _⟩ := digits_of z.1 z.2
  rw [(digB_iff c).mpr (z c hc)] at h
  cases h
theorem fold_ge : ∀ (l : List Nat) (a : Nat), 1 ≤ a → 1 ≤ l.foldl (fun acc c => acc * 10 + (c - 48)) a
  | [], a, h => h
  | c :: r, a, h => fold_ge r (a * 10 + (c - 48)) (by omega)
theorem numT_good {a : Str} (h1 : 1 ≤ a.length) (h9 : a.length ≤ 9) (h0 : a.cps.toList[0]? ≠ some 48) (h : ∀ c ∈ a.cps.toList, digB c = true) : ∃ n : Int, numT a = some n ∧ PySem.intText? a = some n ∧ n ≠ 0 := by
  have hd : ∀ c ∈ a.cps.toList, 48 ≤ c ∧ c ≤ 57 := fun c hc => (digB_iff c).mp (h c hc)
  obtain ⟨a1, a2⟩ := isdigit_of (by omega) hd
  have ne : a.cps.toList ≠ [] := fun z => by
    have e : a.length = a.cps.toList.length := rfl
    rw [z] at e
    rw [e] at h1
    exact absurd h1 (by decide)
  have hi := intText_digits (x := a) hd ne (by omega)
  refine ⟨_, ?_, hi, ?_⟩
  · unfold numT
    have a3 : Txt.startswith a "0" = false := by
      cases e : Txt.startswith a "0" with
      | false => rfl
      | true => exact absurd ((starts0_iff a).mp e) h0
    rw [a1, a2, if_pos (show (true && true) = true from rfl), a3, decide_eq_false (show ¬ 9 < a.length by omega), if_neg (by decide)]
    exact hi
  · cases e : a.cps.toList with
    | nil => exact absurd e ne
    | cons c r =>
      rw [e] at hd h0
      have hc := hd c List.mem_cons_self
      have hne : c ≠ 48 := fun z => h0 (by rw [z]; rfl)
      have : 1 ≤ NumText.digitsVal (c :: r) := by
        unfold NumText.digitsVal
        rw [List.foldl_cons]
        exact fold_ge r _ (by omega)
      omega
def numZ (a : Str) : Int := (numT a).getD 0
section
variable {P : Program} {w : World} {K : PySem.W.Frag} {mg : Str → Option Value} {base : Heap}
abbrev numN : List Str := ["_law_figures_here", "_law_sign"]
theorem scLawNumber : FnScope numN ["_law_figures_here"] (defScope sNumber) := ⟨rfl, rfl, rfl, by decide +kernel, rfl, by decide +kernel, by decide +kernel⟩
def spLawNumber : Sp := fun vs H Q _ => ∃ a : Str, vs = [.str a] ∧ a.length ≤ 1000000 ∧ ∀ H', Same H H' → Q (.int (numZ a)) H'
theorem ok_law_number {f : Addr} {fd : FuncData} (F : FnP K "_law_number" sNumber f fd) (mL : mg "len" = none) (mI : mg "int" = none) : FnOk P w K mg base (L2.CX P w) 1 f fd ["_law_figures_here"] spLawNumber := by
  refine F.ok scLawNumber (fun vs H Q E h => ?_) (fun cdv A outer s H vs Q E hr h => ?_)
  · obtain ⟨a, rfl, _⟩ := h
    rfl
  · obtain ⟨a, rfl, hl, q⟩ := h
    refine ⟨_, pss_cons (ps_if (PW.pt (pw_or (pt_not (pt_chain op_le op_le pe_int (pe_callB call_len_str (by rfl) mL PySem.boot_len (pa_cons (pv 0) pa_nil)) pe_int)) (pw_or1 (pt_cmpR op_eq (pe_ix ix_str (pv 0) pe_int (fun _ _ => rfl)) pe_str (nomark _)))))
        (pss_one (ps_ret pe_int)) pss_nil)
      (pss_cons (ps_for (passes_of rfl) rfl (pi_str (pv 0)) (pg_name (i := 1) scLawNumber.nd rfl (.inl rfl)) (pss_one (ps_if (pt_cmpR op_notIn_sign (pv 1) pe_str (by rfl)) (pss_one (ps_ret pe_int)) pss_nil)))
      (pss_one (ps_ret (pe_callTy call_int_str (by rfl) mI (by decide +kernel) (pa_cons (pv 0) pa_nil))))), ?_⟩
    have done : numT a = none → Q (.int 0) H := fun e => by
      have z := q H (Same.refl _)
      unfold numZ at z
      rw [e] at z
      exact z
    refine ⟨_, rfl, a, rfl, small_line hl, (1 : Int), (a.length : Int), rfl, rfl, _, rfl, ?_⟩
    by_cases h1 : (1 : Int) ≤ (a.length : Int)
    · rw [decide_eq_true h1]
      refine iteT ⟨(a.length : Int), 9, rfl, rfl, _, rfl, ?_⟩
      by_cases h2 : (a.length : Int) ≤ 9
      · rw [decide_eq_true h2]
        refine iteF ?_
        cases e : a.cps.toList with
        | nil =>
          have e2 : a.length = a.cps.toList.length := rfl
          rw [e] at e2
          exact absurd h1 (by rw [e2]; decide)
        | cons c0 r =>
          refine ⟨_, rfl, a, 0, c0, rfl, rfl, small_line hl, atI_nat (xs := a.cps.toList) (j := 0) (v := c0) (by rw [e]; rfl), rfl, _, rfl, ite2 (fun z => ?_) (fun z => ?_)⟩
          · have z := V.str.inj (of_decide_eq_true z)
            refine done (numT_zero ?_)
            have z2 := congrArg (fun t : Str => t.cps.toList) z
            have z2 : [c0] = ("0" : Str).cps.toList := z2
            rw [show ("0" : Str).cps.toList = [48] by decide +kernel] at z2
            rw [e, (List.cons.inj z2).1]
            rfl
          · have h0 : a.cps.toList[0]? ≠ some 48 := fun z2 => z (by
              rw [e] at z2
              have z2 : c0 = 48 := Option.some.inj z2
              rw [z2]
              decide +kernel)
            rw [← e] at *
            refine ⟨_, rfl, a, rfl, for_str (x := a) (fun i σ' H' => H' = H ∧ (∀ c ∈ a.cps.toList.take i, digB c = true) ∧ ∃ y, σ' = [some (.str a), y]) ⟨rfl, (fun c hc => by rw [List.take_zero] at hc; cases hc), none, rfl⟩ (fun i c σ' H' hc hp => ?_) (fun σ' H' hp => ?_)⟩
            · obtain ⟨rfl, hd, y, rfl⟩ := hp
              refine ⟨_, rfl, c, _, rfl, rfl, _, rfl, ?_⟩
              show if (!digB c) = true then _ else _
              cases hb : digB c with
              | false => exact iteT (done (numT_bad (List.mem_of_getElem? hc) hb))
              | true =>
                refine iteF ⟨rfl, fun c' hc' => ?_, _, rfl⟩
                rw [take_snoc hc] at hc'
                rcases List.mem_append.mp hc' with h | h
                · exact hd c' h
                · rw [List.mem_singleton.mp h]
                  exact hb
            · obtain ⟨rfl, hd, y, rfl⟩ := hp
              rw [show a.cps.toList.take a.length = a.cps.toList from List.take_of_length_le (Nat.le_refl _)] at hd
              obtain ⟨n, n1, n2, n3⟩ := numT_good (by omega) (by omega) h0 hd
              have z := q _ (Same.refl _)
              unfold numZ at z
              rw [n1] at z
              exact ⟨_, rfl, a, n, rfl, n2, by omega, z⟩
      · rw [decide_eq_false h2]
        exact iteT (done (numT_long (by omega)))
    · rw [decide_eq_false h1]
      exact ⟨_, rfl, iteT (done (numT_none (by omega)))⟩
end
/-! ### the law's words and rows -/
def okS (a : Str) : Prop := ∀ c ∈ a.cps.toList, c < 1114112
theorem strOk_of {a : Str} (h : okS a) : PyData.strOk a = true := by
  unfold PyData.strOk
  rw [Array.all_eq_true]
  intro i hi
  exact decide_eq_true (h _ (by simp))
theorem okS_word {a : Str} (h : wordB a = true) : okS a := fun c hc => by
  have := signB_lt' (wordB_signs h c hc)
  omega
theorem spl_codes (s : Nat) : ∀ (L acc : List Nat), ∀ p ∈ TL.spl [s] 0 acc L, ∀ c ∈ p, c ∈ acc ∨ c ∈ L
  | [], acc => fun p hp c hc => by
    rw [TL.spl_nil] at hp
    rw [List.mem_singleton.mp hp] at hc
    exact .inl hc
  | x :: r, acc => fun p hp c hc => by
    cases e : TL.pre [s] (x :: r) with
    | true =>
      rw [TL.spl_hit e] at hp
      rcases List.mem_cons.mp hp with rfl | hp
      · exact .inl hc
      · rcases spl_codes s r [] p hp c hc with h | h
        · cases h
        · exact .inr (List.mem_cons_of_mem _ h)
    | false =>
      rw [TL.spl_miss e] at hp
      rcases spl_codes s r (acc ++ [x]) p hp c hc with h | h
      · rcases List.mem_append.mp h with h | h
        · exact .inl h
        · rw [List.mem_singleton.mp h]
          exact .inr List.mem_cons_self
      · exact .inr (List.mem_cons_of_mem _ h)
theorem spl_two (s : Nat) : ∀ (L acc : List Nat), s ∈ L → 2 ≤ (TL.spl [s] 0 acc L).length
  | [], acc, h => by cases h
  | x :: r, acc, h => by
    cases e : TL.pre [s] (x :: r) with
    | true =>
      rw [TL.spl_hit e, List.length_cons]
      have := (spl_parts s r []).1
      have := List.length_pos_iff.mpr this
      show 2 ≤ (TL.spl [s] 0 [] r).length + 1
      omega
    | false =>
      rw [TL.spl_miss e]
      rcases List.mem_cons.mp h with h | h
      · exfalso
        subst h
        simp [TL.pre] at e
      · exact spl_two s r _ h
theorem split_spl' {s : Nat} (hs : s < 256) (a : Str) : (Txt.split a ⟨#[s]⟩).map TL.tl = TL.spl [s] 0 [] a.cps.toList := by
  have k1 : Builtin.Str.strKind ⟨#[s]⟩ = 1 := by
    unfold Builtin.Str.strKind
    rw [if_pos]
    simp [hs]
  exact TL.split_spl a ⟨#[s]⟩ (List.cons_ne_nil _ _) (by
    rw [k1]
    unfold Builtin.Str.strKind
    split
    · exact Nat.lt_irrefl _
    · split <;> decide)
theorem split_ok {s : Nat} (hs : s < 256) {a : Str} (h : okS a) : ∀ p ∈ Txt.split a ⟨#[s]⟩, okS p := fun p hp c hc => by
  have hm : TL.tl p ∈ TL.spl [s] 0 [] a.cps.toList := by
    rw [← split_spl' hs a]
    exact List.mem_map.mpr ⟨p, hp, rfl⟩
  rcases spl_codes s _ _ _ hm c hc with z | z
  · cases z
  · exact h c z
theorem split_two {s : Nat} (hs : s < 256) {a : Str} (h : s ∈ a.cps.toList) : 2 ≤ (Txt.split a ⟨#[s]⟩).length := by
  have := spl_two s a.cps.toList [] h
  rw [← split_spl' hs a, List.length_map] at this
  exact this
theorem okW_sign (c : Nat) : signB c = (decide ((33 : Int) ≤ (c : Int)) && (decide ((c : Int) ≤ 126) && !decide ((c : Int) = 37))) := by
  unfold signB
  by_cases h1 : c < 33
  · rw [decide_eq_true h1, decide_eq_true (show c < 38 by omega), decide_eq_false (show ¬ (33 : Int) ≤ (c : Int) by omega)]
    rfl
  · rw [decide_eq_false h1, decide_eq_true (show (33 : Int) ≤ (c : Int) by omega)]
    by_cases h2 : 36 < c
    · rw [decide_eq_true h2]
      by_cases h3 : c < 38
      · have : c = 37 := by omega
        subst this
        decide
      · rw [decide_eq_false h3, decide_eq_false (show ¬ (c : Int) = 37 by omega)]
        by_cases h4 : 126 < c
        · rw [decide_eq_true h4, decide_eq_false (show ¬ (c : Int) ≤ 126 by omega)]
          rfl
        · rw [decide_eq_false h4, decide_eq_true (show (c : Int) ≤ 126 by omega)]
          rfl
    · rw [decide_eq_false h2, decide_eq_false (show ¬ (c : Int) = 37 by omega), decide_eq_true (show (c : Int) ≤ 126 by omega)]
      rfl
def optV (K : PySem.W.Frag) (H : Hp) (v : V) (o : Option RowD) : Prop := match o with
  | none => v = .non
  | some r => RowAt K H v r
def kindKv : List (Key × V) := [(.inr "=", .str "keep"), (.inr "-", .str "cut"), (.inr "+", .str "put"), (.inr "<", .str "take"), (.inr ">", .str "lay")]
theorem kind_val (z : Str) : valV (mergeK [] kindKv) (.inr z) = (kindK z).map V.str := by
  have e : mergeK [] kindKv = kindKv := by decide +kernel
  rw [e]
  unfold kindK kindKv
  by_cases h1 : z = ("=" : Str)
  · subst h1
    decide +kernel
  · rw [if_neg h1]
    by_cases h2 : z = ("-" : Str)
    · subst h2
      decide +kernel
    · rw [if_neg h2]
      by_cases h3 : z = ("+" : Str)
      · subst h3
        decide +kernel
      · rw [if_neg h3]
        by_cases h4 : z = ("<" : Str)
        · subst h4
          decide +kernel
        · rw [if_neg h4]
          by_cases h5 : z = (">" : Str)
          · subst h5
            decide +kernel
          · rw [if_neg h5]
            simp [valV, h1, h2, h3, h4, h5]
            exact ⟨fun e => h1 e.symm, fun e => h2 e.symm, fun e => h3 e.symm, fun e => h4 e.symm, fun e => h5 e.symm⟩
section
variable {P : Program} {w : World} {K : PySem.W.Frag} {mg : Str → Option Value} {base : Heap}
abbrev wordN : List Str := ["_law_word_here", "_law_sign"]
abbrev rowN : List Str := ["_law_line_here", "_law_parts", "_law_kinds", "_law_number_here", "_law_words", "_law_word_here"]
theorem scLawWord : FnScope wordN ["_law_word_here"] (defScope sWord) := ⟨rfl, rfl, rfl, by decide +kernel, rfl, by decide +kernel, by decide +kernel⟩
theorem scLawRow : FnScope rowN ["_law_line_here"] (defScope sRow) := ⟨rfl, rfl, rfl, by decide +kernel, rfl, by decide +kernel, by decide +kernel⟩
def spLawWord : Sp := fun vs H Q _ => ∃ a : Str, vs = [.str a] ∧ a.length ≤ 1000000 ∧ ∀ H', Same H H' → Q (.bl (wordB a)) H'
theorem ok_law_word {f : Addr} {fd : FuncData} (F : FnP K "_law_word" sWord f fd) (mL : mg "len" = none) (mA : mg "all" = none) (mO : mg "ord" = none) : FnOk P w K mg base (L2.CX P w) 1 f fd ["_law_word_here"] spLawWord := by
  refine F.ok scLawWord (fun vs H Q E h => ?_) (fun cdv A outer s H vs Q E hr h => ?_)
  · obtain ⟨a, rfl, _⟩ := h
    rfl
  · obtain ⟨a, rfl, hl, q⟩ := h
    refine ⟨_, pss_cons (ps_if (pt_not (pt_chain op_le op_le pe_int (pe_callB call_len_str (by rfl) mL PySem.boot_len (pa_cons (pv 0) pa_nil)) pe_int)) (pss_one (ps_ret pe_bl)) pss_nil)
      (pss_one (ps_ret (pe_callB (cr_all rfl) (by rfl) mA (by decide +kernel) (pa_cons (pe_lc (own := [("_law_sign", 1)]) (g := gName 1) (tt := tYes) rfl scLawWord.nd (pi_str (pv 0)) (blkOk_by (N := wordN) (sc := defScope sWord) (by decide +kernel))
          (fun _ _ _ _ _ => pg_name (i := 1) scLawWord.nd rfl (Or.inl rfl)) (fun _ _ _ _ _ => pts_nil) (fun _ _ _ _ _ => pe_and (pe_chain op_le op_le pe_int (pe_callB call_ord (by rfl) mO (by decide +kernel) (pa_cons (pv 1) pa_nil)) pe_int)
            (pe_one (pe_cmpR op_ne (pe_callB call_ord (by rfl) mO (by decide +kernel) (pa_cons (pv 1) pa_nil)) pe_int (nomark _))))) pa_nil)))), ?_⟩
    have bad : wordB a = false → Q (.bl false) H := fun e => by
      have z := q H (Same.refl _)
      rw [e] at z
      exact z
    have eW : wordB a = (decide ((1 : Int) ≤ (a.length : Int)) && (decide ((a.length : Int) ≤ 40) && a.cps.toList.all signB)) := rfl
    refine ⟨_, rfl, a, rfl, small_line hl, (1 : Int), (a.length : Int), rfl, rfl, _, rfl, ?_⟩
    by_cases h1 : (1 : Int) ≤ (a.length : Int)
    · rw [decide_eq_true h1] at eW ⊢
      refine iteT ⟨(a.length : Int), 40, rfl, rfl, _, rfl, ?_⟩
      by_cases h2 : (a.length : Int) ≤ 40
      · rw [decide_eq_true h2] at eW ⊢
        rw [Bool.true_and, Bool.true_and] at eW
        refine iteF ⟨_, rfl, a, rfl, fun D nD => ?_⟩
        refine lc_str (x := a) (fun i H' => Same H H' ∧ H' D = some (.lst ((a.cps.toList.take i).map fun c => V.bl (signB c)))) ⟨same_upd nD, upd_same⟩ (fun i c H' hc hp => ?_) (fun H' hp => ?_)
        · obtain ⟨sm, hD⟩ := hp
          refine ⟨rfl, yesT ?_⟩
          have hi : i < a.cps.toList.length := (List.getElem?_eq_some_iff.mp hc).1
          have el : a.cps.toList.length = a.length := rfl
          have fin : ∀ b, b = signB c → ∃ acc, H' D = some (.lst acc) ∧ acc.length < sizeLine ∧ (Same H (upd H' D (.lst (acc ++ [V.bl b]))) ∧ (upd H' D (.lst (acc ++ [V.bl b]))) D = some (.lst ((a.cps.toList.take (i + 1)).map fun c => V.bl (signB c)))) := fun b hb => by
            refine ⟨_, hD, ?_, same_set sm nD, ?_⟩
            · rw [List.length_map, List.length_take]
              exact Nat.lt_of_le_of_lt (show min i a.cps.toList.length ≤ 1000001 by omega) (by decide)
            · rw [upd_same, take_snoc hc, List.map_append, hb]
              rfl
          have eS := okW_sign c
          refine ⟨_, rfl, ⟨#[c]⟩, rfl, rfl, (33 : Int), (c : Int), rfl, rfl, _, rfl, ?_⟩
          by_cases c1 : (33 : Int) ≤ (c : Int)
          · rw [decide_eq_true c1] at eS ⊢
            refine iteT ⟨(c : Int), 126, rfl, rfl, _, rfl, ?_⟩
            by_cases c2 : (c : Int) ≤ 126
            · rw [decide_eq_true c2] at eS ⊢
              refine iteT ⟨_, rfl, ⟨#[c]⟩, rfl, rfl, rfl, fin _ ?_⟩
              rw [eS]
              show (!decide (V.int (c : Int) = V.int 37)) = (true && (true && !decide ((c : Int) = 37)))
              by_cases c3 : (c : Int) = 37
              · rw [c3]
                rfl
              · rw [decide_eq_false c3, decide_eq_false (fun z => c3 (V.int.inj z))]
                rfl
            · rw [decide_eq_false c2] at eS ⊢
              exact iteF (fin _ eS.symm)
          · rw [decide_eq_false c1] at eS ⊢
            exact iteF ⟨_, rfl, iteF (fin _ eS.symm)⟩
        · obtain ⟨sm, hD⟩ := hp
          refine ⟨D, (a.cps.toList.map signB), rfl, .inl (.inl ?_), ?_⟩
          · rw [hD, show a.cps.toList.take a.length = a.cps.toList from List.take_of_length_le (Nat.le_refl _), List.map_map]
            rfl
          · have e2 : (a.cps.toList.map signB).all id = a.cps.toList.all signB := by
              rw [List.all_map]
              rfl
            rw [e2, ← eW]
            exact q H' sm
      · rw [decide_eq_false h2] at eW ⊢
        exact iteT (bad eW)
    · rw [decide_eq_false h1] at eW ⊢
      exact ⟨_, rfl, iteT (bad eW)⟩
end
theorem numT_ne {a : Str} {n : Int} (h : numT a = some n) : n ≠ 0 := by
  by_cases h1 : a.length = 0
  · rw [numT_none h1] at h
    cases h
  · by_cases h2 : 9 < a.length
    · rw [numT_long h2] at h
      cases h
    · by_cases h3 : a.cps.toList[0]? = some 48
      · rw [numT_zero h3] at h
        cases h
      · by_cases h4 : ∀ c ∈ a.cps.toList, digB c = true
        · obtain ⟨m, m1, _, m2⟩ := numT_good (by omega) (by omega) h3 h4
          rw [m1] at h
          cases h
          exact m2
        · exfalso
          refine h4 fun c hc => ?_
          cases e : digB c with
          | true => rfl
          | false =>
            rw [numT_bad hc e] at h
            cases h
theorem numZ_zero {a : Str} (h : numZ a = 0) : numT a = none := by
  unfold numZ at h
  cases e : numT a with
  | none => rfl
  | some n =>
    rw [e] at h
    exact absurd h (numT_ne e)
theorem numZ_some {a : Str} (h : numZ a ≠ 0) : numT a = some (numZ a) := by
  unfold numZ at h ⊢
  cases e : numT a with
  | none =>
    rw [e] at h
    exact absurd rfl h
  | some n => rfl
theorem kind_blk {z k : Str} (h : kindK z = some k) : k ∈ blockK ↔ (z = ("<" : Str) ∨ z = (">" : Str)) := by
  unfold kindK at h
  by_cases h1 : z = ("=" : Str)
  · rw [if_pos h1] at h
    cases h
    subst h1
    decide +kernel
  · rw [if_neg h1] at h
    by_cases h2 : z = ("-" : Str)
    · rw [if_pos h2] at h
      cases h
      subst h2
      decide +kernel
    · rw [if_neg h2] at h
      by_cases h3 : z = ("+" : Str)
      · rw [if_pos h3] at h
        cases h
        subst h3
        decide +kernel
      · rw [if_neg h3] at h
        by_cases h4 : z = ("<" : Str)
        · rw [if_pos h4] at h
          cases h
          subst h4
          decide +kernel
        · rw [if_neg h4] at h
          by_cases h5 : z = (">" : Str)
          · rw [if_pos h5] at h
            cases h
            subst h5
            decide +kernel
          · rw [if_neg h5] at h
            cases h
theorem shaped_okS {ws : List Str} (h : ∀ a ∈ ws, okS a) : SeqAt.shaped (.list (ws.map PyData.str)) = true := shaped_words fun a ha => strOk_of (h a ha)
section
variable {P : Program} {w : World} {K : PySem.W.Frag} {mg : Str → Option Value} {base : Heap}
def spLawRow (K : PySem.W.Frag) : Sp := fun vs H Q _ => ∃ a : Str, vs = [.str a] ∧ okS a ∧ a.length ≤ 100000 ∧ ∀ H' v, Same H H' → optV K H' v (rdRow a) → Q v H'
theorem ok_law_row {f fN fW : Addr} {fd fdN fdW : FuncData} (F : FnP K "_law_row" sRow f fd)
    (GN : FnOk P w K mg base (L2.CX P w) 1 fN fdN ["_law_figures_here"] spLawNumber) (kN : PySem.W.keepIn K (.ref fN) = true) (bN : Binds K fdN ["_law_figures_here"] []) (gN : mg "_law_number" = some (.ref fN))
    (GW : FnOk P w K mg base (L2.CX P w) 1 fW fdW ["_law_word_here"] spLawWord) (kW : PySem.W.keepIn K (.ref fW) = true) (bW : Binds K fdW ["_law_word_here"] []) (gW : mg "_law_word" = some (.ref fW))
    (mA : mg "all" = none) (mT : mg "tuple" = none) : FnOk P w K mg base (L2.CX P w) 2 f fd ["_law_line_here"] (spLawRow K) := by
  refine F.ok scLawRow (fun vs H Q E h => ?_) (fun cdv A outer s H vs Q E hr h => ?_)
  · obtain ⟨a, rfl, _⟩ := h
    rfl
  · obtain ⟨a, rfl, hok, hl, q⟩ := h
    refine ⟨_, pss_cons (ps_set (i := 1) scLawRow.nd rfl (.inl rfl) (pe_split (pv 0) pe_str))
      (pss_cons (ps_set (i := 2) scLawRow.nd rfl (.inl rfl) (pe_disp (pps_cons pe_str pe_str (pps_cons pe_str pe_str (pps_cons pe_str pe_str (pps_cons pe_str pe_str (pps_cons pe_str pe_str pps_nil))))) (by rfl) (by rfl) (fun z => by cases z) (by decide)))
      (pss_cons (ps_if (pt_cmp (pc_dnotin (hu_of hr) (pe_ix ix_list (pv 1) pe_int (fun _ _ => rfl)) (pv 2)) (by rfl)) (pss_one (ps_ret pe_non)) pss_nil)
      (pss_cons (ps_set (i := 3) scLawRow.nd rfl (.inl rfl) pe_int)
      (pss_cons (ps_set (i := 4) scLawRow.nd rfl (.inl rfl) (pe_slice sl_list (pv 1) (po_some pe_int) po_none))
      (pss_cut (ps_if (PW.pt (pw_or (pt_cmpR op_eq (pe_ix ix_list (pv 1) pe_int (fun _ _ => rfl)) pe_str (nomark _)) (pw_or1 (pt_cmpR op_eq (pe_ix ix_list (pv 1) pe_int (fun _ _ => rfl)) pe_str (nomark _)))))
        (pss_cons (ps_set (i := 3) scLawRow.nd rfl (.inl rfl) (pe_call GN hr (by rfl) gN kN bN .nil passL (pa_cons (pe_ix ix_list (pe_op op_cat (pv 4) (pe_lst (pa_cons pe_str pa_nil))) pe_int (fun _ _ => rfl)) pa_nil)))
        (pss_cons (ps_set (i := 4) scLawRow.nd rfl (.inl rfl) (pe_slice sl_list (pv 4) (po_some pe_int) po_none))
        (pss_one (ps_if (pt_cmpR op_eq (pv 3) pe_int (nomark _)) (pss_one (ps_ret pe_non)) pss_nil)))) pss_nil)
      (pss_cons (ps_if (PW.pt (pw_or (pt_cmpR (op_eqD hr.units) (pv 4) (pe_lst pa_nil) (nomark _)) (pw_or1 (pt_not (pt_val (pe_callB (cr_all rfl) (by rfl) mA (by decide +kernel) (pa_cons (pe_lc (own := [("_law_word_here", 5)]) (g := gName 5) (tt := tYes) rfl scLawRow.nd (pi_list (pv 4)) (blkOk_by (N := rowN) (sc := defScope sRow) (by decide +kernel))
          (fun _ _ _ _ _ => pg_name (i := 5) scLawRow.nd rfl (Or.inl rfl)) (fun _ _ _ _ _ => pts_nil) (fun _ _ _ _ _ => pe_call GW hr (by rfl) gW kW bW .nil passL (pa_cons (pv 5) pa_nil))) pa_nil)))))))
        (pss_one (ps_ret pe_non)) pss_nil)
      (pss_one (ps_ret (pe_tup (pa_cons (pe_dget (hu_of hr) (pv 2) (pe_ix ix_list (pv 1) pe_int (fun _ _ => rfl)) (fun _ _ => rfl)) (pa_cons (pv 3) (pa_cons (pe_callTy call_tuple_of (by rfl) mT (by decide +kernel) (pa_cons (pv 4) pa_nil)) pa_nil)))))))))))), ?_⟩
    refine ⟨_, rfl, ⟨_, rfl⟩, a, _, rfl, rfl, by decide +kernel, small_line (by omega), fun p np => ?_⟩
    have hps := split_parts (s := 32) (by decide) a
    have hpo := split_ok (s := 32) (by decide) hok
    rw [← blank_is.1] at hps hpo
    obtain ⟨hne, hpl, hpn⟩ := hps
    unfold rdRow at q
    generalize Txt.split a " " = ps at q hne hpl hpn hpo ⊢
    cases ps with
    | nil => exact absurd rfl hne
    | cons s0 l =>
      have s1 : Same H (upd H p (.lst ((s0 :: l).map V.str))) := same_upd np
      have hP : (upd H p (.lst ((s0 :: l).map V.str))) p = some (.lst ((s0 :: l).map V.str)) := upd_same
      generalize upd H p (.lst ((s0 :: l).map V.str)) = H1 at s1 hP ⊢
      refine fun d nd => ⟨upd_same, kindKv, rfl, by decide, ?_⟩
      have s2 : Same H1 (upd (upd H1 d (.dK [])) d (.dK (mergeK [] kindKv))) := fun b o e => by
        rw [upd_ne (ne_of_none e nd), upd_ne (ne_of_none e nd)]
        exact e
      have hd : (upd (upd H1 d (.dK [])) d (.dK (mergeK [] kindKv))) d = some (.dK (mergeK [] kindKv)) := upd_same
      generalize upd (upd H1 d (.dK [])) d (.dK (mergeK [] kindKv)) = H2 at s2 hd ⊢
      have hP2 := s2 _ _ hP
      have sA := s1.trans s2
      have len0 : ∀ x ∈ s0 :: l, x.length ≤ 100000 := fun x hx => by
        have := hpl x hx
        omega
      refine ⟨_, rfl, p, _, _, _, rfl, rfl, .inl (.inl hP2), at_of (j := 0) rfl rfl, _, rfl, d, _, rfl, .inl ⟨_, .inr s0, .inl hd, rfl, rfl⟩, _, rfl, ?_⟩
      rw [kind_val]
      cases hk : kindK s0 with
      | none =>
        dsimp only at q
        rw [hk] at q
        exact iteT (q _ .non sA rfl)
      | some k =>
        dsimp only at q
        rw [hk] at q
        dsimp only at q
        have hb := kind_blk hk
        refine iteF ⟨_, rfl, _, rfl, p, _, rfl, .inl (.inl hP2), fun S nS => ?_⟩
        have ec : cutV ((s0 :: l).map V.str) (some 1) none = l.map V.str := by
          rw [show (1 : Int) = ((1 : Nat) : Int) from rfl, cut_from]
          rfl
        rw [ec]
        have s3 : Same H2 (upd H2 S (.lst (l.map V.str))) := same_upd nS
        have hS : (upd H2 S (.lst (l.map V.str))) S = some (.lst (l.map V.str)) := upd_same
        generalize upd H2 S (.lst (l.map V.str)) = H3 at s3 hS ⊢
        have hP3 := s3 _ _ hP2
        refine ⟨fun σ' H' => ∃ (n : Int) (ws : List Str) (S : Addr), σ' = [some (.str a), some (.ref p), some (.ref d), some (.int n), some (.ref S), none] ∧ Same H3 H' ∧ H' S = some (.lst (ws.map V.str)) ∧ (∀ x ∈ ws, okS x ∧ x.length ≤ 100000) ∧ ws.length ≤ 100001 ∧
          (∀ H' v, Same H H' → optV K H' v (if wsT ws = true then some ⟨k, n, ws⟩ else none) → Q v H'), ?_, fun σ' H' hM => ?_⟩
        · refine (fun (body : (s0 = ("<" : Str) ∨ s0 = (">" : Str)) → _) => ⟨_, rfl, p, _, _, _, rfl, rfl, .inl (.inl hP3), at_of (j := 0) rfl rfl, rfl, _, rfl, ite2 (fun e => body (.inl ?b1)) (fun e => ⟨_, rfl, p, _, _, _, rfl, rfl, .inl (.inl hP3), at_of (j := 0) rfl rfl, rfl, _, rfl, ite2 (fun e2 => body (.inr ?b2)) (fun e2 => ?b3)⟩)⟩) ?b4
          case b1 => exact V.str.inj (of_decide_eq_true e)
          case b2 => exact V.str.inj (of_decide_eq_true e2)
          case b3 =>
            have nb : ¬ k ∈ blockK := fun z => by
              rcases hb.mp z with z | z
              · exact e (decide_eq_true (congrArg V.str z))
              · exact e2 (decide_eq_true (congrArg V.str z))
            rw [if_neg nb] at q
            exact ⟨0, l, S, rfl, Same.refl _, hS, fun x hx => ⟨hpo x (List.mem_cons_of_mem _ hx), len0 x (List.mem_cons_of_mem _ hx)⟩, by simp only [List.length_cons] at hpn; omega, q⟩
          case b4 =>
            intro hbl
            rw [if_pos (hb.mpr hbl)] at q
            refine ⟨_, rfl, by show 1 ≤ sizeLine; decide, fun E1 nE1 => ?_⟩
            have s4 : Same H3 (upd H3 E1 (.lst [V.str ""])) := same_upd nE1
            have hE1 : (upd H3 E1 (.lst [V.str ""])) E1 = some (.lst [V.str ""]) := upd_same
            generalize upd H3 E1 (.lst [V.str ""]) = H4 at s4 hE1 ⊢
            have hS4 := s4 _ _ hS
            refine ⟨S, E1, _, _, rfl, rfl, hS4, hE1, ?_, fun E2 nE2 => ?_⟩
            · rw [List.length_map]
              simp only [List.length_cons, List.length_nil] at hpn ⊢
              exact Nat.le_trans (show l.length + 1 ≤ 100001 by omega) (by decide)
            have s5 : Same H4 (upd H4 E2 (.lst (l.map V.str ++ [V.str ""]))) := same_upd nE2
            have hE2 : (upd H4 E2 (.lst (l.map V.str ++ [V.str ""]))) E2 = some (.lst (l.map V.str ++ [V.str ""])) := upd_same
            generalize upd H4 E2 (.lst (l.map V.str ++ [V.str ""])) = H5 at s5 hE2 ⊢
            obtain ⟨f0, hf0, hfl⟩ : ∃ f0 : Str, (l.map V.str ++ [V.str ""])[0]? = some (.str f0) ∧ ((l = [] ∧ f0 = ("" : Str)) ∨ ∃ ws, l = f0 :: ws) := by
              cases l with
              | nil => exact ⟨_, rfl, .inl ⟨rfl, rfl⟩⟩
              | cons f0 ws => exact ⟨_, rfl, .inr ⟨ws, rfl⟩⟩
            have f0l : f0.length ≤ 1000000 := by
              rcases hfl with ⟨_, rfl⟩ | ⟨ws, rfl⟩
              · exact Nat.le_trans (show ("" : Str).length ≤ 0 by decide +kernel) (Nat.zero_le _)
              · have := len0 f0 (List.mem_cons_of_mem _ List.mem_cons_self)
                omega
            refine ⟨E2, _, _, _, rfl, rfl, .inl (.inl hE2), at_of (j := 0) rfl hf0, f0, rfl, f0l, fun H6 s6 => ?_⟩
            have s36 := s4.trans (s5.trans s6)
            have hS6 := s36 _ _ hS
            refine ⟨_, rfl, _, rfl, S, _, rfl, .inl (.inl hS6), fun S2 nS2 => ?_⟩
            have ec2 : cutV (l.map V.str) (some 1) none = (l.drop 1).map V.str := by
              rw [show (1 : Int) = ((1 : Nat) : Int) from rfl, cut_from, List.map_drop]
            rw [ec2]
            have s7 : Same H6 (upd H6 S2 (.lst ((l.drop 1).map V.str))) := same_upd nS2
            have hS2 : (upd H6 S2 (.lst ((l.drop 1).map V.str))) S2 = some (.lst ((l.drop 1).map V.str)) := upd_same
            generalize upd H6 S2 (.lst ((l.drop 1).map V.str)) = H7 at s7 hS2 ⊢
            have s37 := s36.trans s7
            refine ⟨_, rfl, rfl, _, rfl, ite2 (fun e => ?_) (fun e => ?_)⟩
            · have e := V.int.inj (of_decide_eq_true e)
              have hn := numZ_zero e
              refine q _ .non (sA.trans (s3.trans s37)) ?_
              rcases hfl with ⟨rfl, rfl⟩ | ⟨ws, rfl⟩
              · rfl
              · dsimp only
                rw [hn]
                rfl
            · have hn := numZ_some (a := f0) fun z => e (decide_eq_true (congrArg V.int z))
              rcases hfl with ⟨rfl, rfl⟩ | ⟨ws, rfl⟩
              · exfalso
                rw [numT_none (show ("" : Str).length = 0 by decide +kernel)] at hn
                cases hn
              · dsimp only at q
                rw [hn] at q
                dsimp only at q
                exact ⟨_, ws, S2, rfl, s37, hS2, fun x hx => ⟨hpo x (List.mem_cons_of_mem _ (List.mem_cons_of_mem _ hx)), len0 x (List.mem_cons_of_mem _ (List.mem_cons_of_mem _ hx))⟩, by simp only [List.length_cons] at hpn; omega, q⟩
        · obtain ⟨n, ws, S, rfl, s4, hS, hw, hwl, q⟩ := hM
          have sB := sA.trans (s3.trans s4)
          have hP' := s4 _ _ hP3
          have hd' := s4 _ _ (s3 _ _ hd)
          have non : wsT ws = false → ∀ H8, Same H H8 → Q .non H8 := fun e H8 s8 => q H8 .non s8 (by rw [e, if_neg Bool.false_ne_true]; rfl)
          refine ⟨_, rfl, by show 0 ≤ sizeLine; decide, fun Z nZ => ?_⟩
          have s5 : Same H' (upd H' Z (.lst [])) := same_upd nZ
          have hZ : (upd H' Z (.lst [])) Z = some (.lst []) := upd_same
          generalize upd H' Z (.lst []) = H5 at s5 hZ ⊢
          have sC := sB.trans s5
          have hS5 := s5 _ _ hS
          refine ⟨_, _, .lst (.inl (.inl hS5)) (dpStrs H5 K ws), .lst (.inl (.inl hZ)) .nil, shaped_okS fun x hx => (hw x hx).1, by decide, _, rfl, ?_⟩
          cases ws with
          | nil => exact iteT (non rfl _ sC)
          | cons w0 wr =>
            refine iteF ⟨_, rfl, S, rfl, ⟨_, .inl (.inl hS5)⟩, fun D nD => ?_⟩
            refine lc_list (K := K) (a := S) (xs := (w0 :: wr).map V.str) (fun i H' => Same H5 H' ∧ H' D = some (.lst (((w0 :: wr).take i).map fun x => V.bl (wordB x)))) ⟨same_upd nD, upd_same⟩ (fun i H' _ hp => hp.1.seq (.inl (.inl hS5))) (fun i x H' hx hp => ?_) (fun H' hp => ?_)
            · obtain ⟨sm, hD⟩ := hp
              rw [List.getElem?_map] at hx
              obtain ⟨x, hx2, rfl⟩ := Option.map_eq_some_iff.mp hx
              have hi : i < (w0 :: wr).length := (List.getElem?_eq_some_iff.mp hx2).1
              refine ⟨rfl, yesT ⟨_, rfl, x, rfl, by have := (hw x (List.mem_of_getElem? hx2)).2; omega, fun H6 s6 => ?_⟩⟩
              refine ⟨_, s6 _ _ hD, ?_, same_set (sm.trans s6) nD, ?_⟩
              · rw [List.length_map, List.length_take]
                exact Nat.lt_of_le_of_lt (show min i (w0 :: wr).length ≤ 100001 by omega) (by decide)
              · rw [upd_same, take_snoc hx2, List.map_append]
                rfl
            · obtain ⟨sm, hD⟩ := hp
              rw [List.length_map, List.take_of_length_le (Nat.le_refl _)] at hD
              refine ⟨D, ((w0 :: wr).map wordB), rfl, .inl (.inl (by rw [hD, List.map_map]; rfl)), _, rfl, ?_⟩
              have e2 : ((w0 :: wr).map wordB).all id = wsT (w0 :: wr) := by
                rw [List.all_map]
                rfl
              rw [e2]
              cases hb2 : wsT (w0 :: wr) with
              | false => exact iteT (non hb2 _ (sC.trans sm))
              | true =>
                rw [hb2, if_pos rfl] at q
                have s58 := s5.trans sm
                refine iteF ⟨_, rfl, _, rfl, p, _, _, _, rfl, rfl, .inl (.inl (s58 _ _ hP')), at_of (j := 0) rfl rfl, d, .str k, rfl, .inl ⟨_, .inr s0, .inl (s58 _ _ hd'), rfl, by rw [kind_val, hk]; rfl⟩, _, rfl, _, rfl, S, _, rfl, .inl ⟨.inl (.inl (s58 _ _ hS)), fun W nW => ?_⟩⟩
                have s9 : Same H' _ := same_upd nW (o := .tup ((w0 :: wr).map V.str))
                have hW : SqT K (upd H' W (.tup ((w0 :: wr).map V.str))) W ((w0 :: wr).map V.str) := .inl (.inl upd_same)
                refine ⟨by show 3 ≤ sizeLine; decide, fun T nT => ?_⟩
                have s10 := same_upd nT (o := .tup [.str k, .int n, .ref W])
                exact q _ _ (sC.trans (sm.trans (s9.trans s10))) ⟨T, W, rfl, .inl (.inl upd_same), sameT s10 hW⟩
end
/-! ### the law's line -/
theorem okS_add {a b : Str} (h1 : okS a) (h2 : okS b) : okS (a ++ b) := fun c hc => by
  rw [Str.cps_append, Array.toList_append] at hc
  rcases List.mem_append.mp hc with h | h
  · exact h1 c h
  · exact h2 c h
def okSB (a : Str) : Bool := a.cps.toList.all fun c => decide (c < 1114112)
theorem okSB_ok {a : Str} (h : okSB a = true) : okS a := fun c hc => of_decide_eq_true (List.all_eq_true.mp h c hc)
def figsL : List Str := ["1", "7", "10", "999999999", "1000000000", "0", "01", "-1", "+1", "", "1a", "123456789", "90", "_1"]
theorem figs_ok : ∀ x ∈ figsL, okSB x = true ∧ x.length ≤ 10 := by decide +kernel
def headsL : List Str := ["=", "-", "+", "<", ">", "<", ">", "*", ""]
theorem heads_ok : ∀ x ∈ headsL, okSB x = true ∧ x.length ≤ 1 := by decide +kernel
theorem pick {l : List Str} {n : Nat} (hn : 0 < n) (hl : l.length = n) (c : Int) : ∃ x, atI (l.map V.str) (c % (n : Int)) = some (.str x) ∧ x ∈ l := by
  have h1 := ltM (c := c) hn
  have h2 : (c % (n : Int)).toNat < l.length := by omega
  refine ⟨l[(c % (n : Int)).toNat], atM hn ?_, List.getElem_mem h2⟩
  rw [List.getElem?_map, List.getElem?_eq_getElem h2]
  rfl
section
variable {P : Program} {w : World} {K : PySem.W.Frag} {mg : Str → Option Value} {base : Heap}
abbrev lineN : List Str := ["_law_script", "_law_at", "_law_head", "_law_menu_here", "_law_line_here", "_law_k"]
theorem scFigures : FnScope ["_law_cell", "_law_some"] ["_law_cell"] (defScope sFigures) := ⟨rfl, rfl, rfl, by decide +kernel, rfl, by decide +kernel, by decide +kernel⟩
theorem scLawLine : FnScope lineN ["_law_script", "_law_at"] (defScope sLine) := ⟨rfl, rfl, rfl, by decide +kernel, rfl, by decide +kernel, by decide +kernel⟩
def spFigures : Sp := fun vs H Q _ => ∃ c : Int, vs = [.int c] ∧ ∀ H' z, Same H H' → okS z → z.length ≤ 10 → Q (.str z) H'
theorem ok_figures {f : Addr} {fd : FuncData} (F : FnP K "_law_figures" sFigures f fd) : FnOk P w K mg base (L2.CX P w) 1 f fd ["_law_cell"] spFigures := by
  refine F.ok scFigures (fun vs H Q E h => ?_) (fun cdv A outer s H vs Q E hr h => ?_)
  · obtain ⟨c, rfl, _⟩ := h
    rfl
  · obtain ⟨c, rfl, q⟩ := h
    refine ⟨_, pss_cons (ps_set (i := 1) scFigures.nd rfl (.inl rfl) (pe_lst (pa_cons pe_str (pa_cons pe_str (pa_cons pe_str (pa_cons pe_str (pa_cons pe_str (pa_cons pe_str (pa_cons pe_str (pa_cons pe_str (pa_cons pe_str (pa_cons pe_str (pa_cons pe_str (pa_cons pe_str (pa_cons pe_str (pa_cons pe_str pa_nil))))))))))))))))
      (pss_one (ps_ret (pe_ix ix_list (pv 1) (pe_op op_mod (pv 0) pe_int) (fun _ _ => rfl)))), ?_⟩
    refine ⟨by show 14 ≤ sizeLine; decide, fun p np => ?_⟩
    obtain ⟨x, hx1, hx2⟩ := pick (l := figsL) (n := 14) (by decide) rfl c
    obtain ⟨h1, h2⟩ := figs_ok x hx2
    refine ⟨_, rfl, _, rfl, _, _, rfl, rfl, (by show (0 : Int) < 14; decide), p, _, _, _, rfl, rfl, .inl (.inl upd_same), hx1, q _ x (same_upd np) (okSB_ok h1) h2⟩
def spLawLine (K : PySem.W.Frag) : Sp := fun vs H Q _ => ∃ (a : Addr) (ns : List Int) (j : Nat), vs = [.ref a, .int (j : Int)] ∧ SqL K H a (ns.map V.int) ∧ ∀ H' z, Same H H' → okS z → z.length ≤ 200 → Q (.str z) H'
theorem ok_law_line {f fC fM fF : Addr} {fd fdC fdM fdF : FuncData} (F : FnP K "_law_line" sLine f fd)
    (GC : FnOk P w K mg base (L2.CX P w) 1 fC fdC ["_law_script", "_law_k"] (spCell K)) (kC : PySem.W.keepIn K (.ref fC) = true) (bC : Binds K fdC ["_law_script", "_law_k"] []) (gC : mg "_law_cell_at" = some (.ref fC))
    (GM : FnOk P w K mg base (L2.CX P w) 3 fM fdM ["_law_script"] (spMenu K)) (kM : PySem.W.keepIn K (.ref fM) = true) (bM : Binds K fdM ["_law_script"] []) (gM : mg "_law_menu" = some (.ref fM))
    (GF : FnOk P w K mg base (L2.CX P w) 1 fF fdF ["_law_cell"] spFigures) (kF : PySem.W.keepIn K (.ref fF) = true) (bF : Binds K fdF ["_law_cell"] []) (gF : mg "_law_figures" = some (.ref fF))
    (mR : mg "range" = none) (mI : mg "int" = none) : FnOk P w K mg base (L2.CX P w) 4 f fd ["_law_script", "_law_at"] (spLawLine K) := by
  refine F.ok scLawLine (fun vs H Q E h => ?_) (fun cdv A outer s H vs Q E hr h => ?_)
  · obtain ⟨a, ns, j, rfl, _⟩ := h
    rfl
  · obtain ⟨a, ns, j, rfl, hS, q⟩ := h
    have r1 : Room 1 (A.deeper (envOfC "_law_line" (defScope sLine) s.heap.objs.size f cdv)) := hr.mono (by decide)
    refine ⟨_, pss_cons (ps_set (i := 2) scLawLine.nd rfl (.inl rfl) (pe_ix ix_list (pe_lst (pa_cons pe_str (pa_cons pe_str (pa_cons pe_str (pa_cons pe_str (pa_cons pe_str (pa_cons pe_str (pa_cons pe_str (pa_cons pe_str (pa_cons pe_str pa_nil)))))))))) (pe_op op_mod (pe_call GC r1 (by rfl) gC kC bC .nil passL (pa_cons (pv 0) (pa_cons (pv 1) pa_nil))) pe_int) (fun _ _ => rfl)))
      (pss_cons (ps_set (i := 3) scLawLine.nd rfl (.inl rfl) (pe_call GM hr (by rfl) gM kM bM .nil passL (pa_cons (pv 0) pa_nil)))
      (pss_cons (ps_set (i := 4) scLawLine.nd rfl (.inl rfl) (pv 2))
      (pss_cut (ps_if (PW.pt (pw_or (pt_cmpR op_in_seq (pv 2) (pe_tup (pa_cons pe_str (pa_cons pe_str pa_nil))) (by rfl)) (pw_or1 (pt_cmpR op_eq (pe_op op_mod (pe_call GC r1 (by rfl) gC kC bC .nil passL (pa_cons (pv 0) (pa_cons (pe_op op_add (pv 1) pe_int) pa_nil))) pe_int) pe_int (nomark _)))))
        (pss_one (ps_set (i := 4) scLawLine.nd rfl (.inl rfl) (pe_op op_add_str (pe_op op_add_str (pv 4) pe_str) (pe_call GF r1 (by rfl) gF kF bF .nil passL (pa_cons (pe_op op_fdiv (pe_call GC r1 (by rfl) gC kC bC .nil passL (pa_cons (pv 0) (pa_cons (pe_op op_add (pv 1) pe_int) pa_nil))) pe_int) pa_nil))))) pss_nil)
      (pss_cons (ps_for (passes_of rfl) rfl (pi_range1 (by rfl) mR (pa_cons (pe_op op_add (pe_op op_mod (pe_call GC r1 (by rfl) gC kC bC .nil passL (pa_cons (pv 0) (pa_cons (pe_op op_add (pv 1) pe_int) pa_nil))) pe_int)
            (pe_callTy call_int1 (by rfl) mI (by decide +kernel) (pa_cons (pe_cmpR op_gt (pe_op op_mod (pe_call GC r1 (by rfl) gC kC bC .nil passL (pa_cons (pv 0) (pa_cons (pe_op op_add (pv 1) pe_int) pa_nil))) pe_int) pe_int (nomark _)) pa_nil))) pa_nil)) (pg_name (i := 5) scLawLine.nd rfl (.inl rfl))
        (pss_one (ps_set (i := 4) scLawLine.nd rfl (.inl rfl) (pe_op op_add_str (pe_op op_add_str (pv 4) pe_str) (pe_ix ix_list (pv 3) (pe_op op_mod (pe_op op_fdiv (pe_call GC r1 (by rfl) gC kC bC .nil passL (pa_cons (pv 0) (pa_cons (pe_op op_add (pv 1) pe_int) pa_nil))) (pe_op op_add (pv 5) pe_int)) pe_int) (fun _ _ => rfl))))))
      (pss_one (ps_ret (pv 4))))))), ?_⟩
    refine ⟨by show 9 ≤ sizeLine; decide, fun L nL => ?_⟩
    have s1 : Same H (upd H L (.lst (headsL.map V.str))) := same_upd nL
    have hL : (upd H L (.lst (headsL.map V.str))) L = some (.lst (headsL.map V.str)) := upd_same
    obtain ⟨x, hx1, hx2⟩ := pick (l := headsL) (n := 9) (by decide) rfl (cellOf ns j)
    obtain ⟨x1, x2⟩ := heads_ok x hx2
    refine ⟨_, rfl, _, rfl, a, ns, j, rfl, s1.seq hS, _, _, rfl, rfl, (by show (0 : Int) < 9; decide), L, _, _, _, rfl, rfl, .inl (.inl upd_same), hx1, ?_⟩
    refine ⟨_, rfl, a, ns, rfl, s1.seq hS, fun H2 M ms s2 nM hM hml hmw => ?_⟩
    have s12 : Same H H2 := s1.trans s2
    have e1 : (" " : Str).length = 1 := by decide +kernel
    have o1 : okS " " := okSB_ok (by decide +kernel)
    refine ⟨_, rfl, fun σ' H' => ∃ z : Str, σ' = [some (.ref a), some (.int (j : Int)), some (.str x), some (.ref M), some (.str z), none] ∧ Same H2 H' ∧ okS z ∧ z.length ≤ 13, ?_, fun σ' H' hM2 => ?_⟩
    · refine (fun (body : ∀ H3, Same H2 H3 → _) => ⟨_, rfl, by show 2 ≤ sizeLine; decide, fun t nt => ⟨t, [V.str "<", V.str ">"], rfl, .inr (.inl (.inl upd_same)), rfl, rfl, _, rfl, ite2 (fun e => body _ ?b1) (fun e => ⟨_, rfl, _, rfl, _, _, rfl, rfl, a, ns, j + 1, rfl, ?b2, _, _, rfl, rfl, (by show (0 : Int) < 8; decide), rfl, _, rfl, ite2 (fun e2 => body _ ?b3) (fun e2 => ?b4)⟩)⟩⟩) ?b5
      case b1 => exact same_upd nt
      case b2 => exact (s12.trans (same_upd nt)).seq hS
      case b3 => exact same_upd nt
      case b4 => exact ⟨x, rfl, same_upd nt, okSB_ok x1, by omega⟩
      case b5 =>
        intro H3 s3
        refine ⟨_, rfl, _, _, rfl, rfl, small_line (by rw [e1]; omega), _, rfl, _, rfl, _, _, rfl, rfl, a, ns, j + 1, rfl, (s12.trans s3).seq hS, _, _, rfl, rfl, ⟨by decide, by decide⟩, _, rfl, fun H4 y s4 oy ly => ?_⟩
        refine ⟨_, _, rfl, rfl, small_line (by rw [Str.length_append, e1]; omega), _, rfl, s3.trans s4, okS_add (okS_add (okSB_ok x1) o1) oy, ?_⟩
        rw [Str.length_append, Str.length_append, e1]
        omega
    · obtain ⟨z, rfl, s3, oz, lz⟩ := hM2
      have hS3 := (s12.trans s3).seq hS
      have m3 : 0 ≤ cellOf ns (j + 2) % 3 := Int.emod_nonneg _ (by decide)
      have m4 : cellOf ns (j + 2) % 3 < 3 := Int.emod_lt_of_pos _ (by decide)
      have hM' := s3 _ _ hM
      refine ⟨_, rfl, _, rfl, _, _, rfl, rfl, a, ns, j + 2, rfl, hS3, _, _, rfl, rfl, (by show (0 : Int) < 3; decide), _, rfl, _, rfl, _, _, rfl, rfl, a, ns, j + 2, rfl, hS3, _, _, rfl, rfl, (by show (0 : Int) < 4; decide), _, _, rfl, rfl, .inr ⟨_, rfl, _, _, rfl, rfl, _, rfl, ?_⟩⟩
      obtain ⟨n, hn, hn3⟩ : ∃ n : Nat, (cellOf ns (j + 2) % 3 + if decide (0 < cellOf ns (j + 2) % 4) = true then 1 else 0) = (n : Int) ∧ n ≤ 3 := by
        refine ⟨(cellOf ns (j + 2) % 3 + if decide (0 < cellOf ns (j + 2) % 4) = true then 1 else 0).toNat, ?_, ?_⟩
        · split <;> omega
        · split <;> omega
      rw [hn]
      refine ⟨by omega, by omega, for_range (lo := 0) (n := (n : Int).toNat) (fun i σ' H4 => ∃ (z : Str) (y5 : Option V), σ' = [some (.ref a), some (.int (j : Int)), some (.str x), some (.ref M), some (.str z), y5] ∧ Same H2 H4 ∧ okS z ∧ z.length ≤ 13 + 41 * i) ⟨z, none, rfl, s3, oz, by omega⟩ (fun i σ' H4 hi hp => ?_) (fun σ' H4 hp => ?_)⟩
      · obtain ⟨z, y5, rfl, s4, oz, lz⟩ := hp
        obtain ⟨y, hy1, hy2⟩ := pick (l := ms) (n := 12) (by decide) hml (cellOf ns (j + 3) / (0 + (i : Int) + 1))
        have wy := hmw y hy2
        have ly := (wordB_len wy).2
        refine ⟨_, rfl, _, _, rfl, rfl, small_line (by rw [e1]; omega), _, rfl, _, rfl, _, rfl, _, _, rfl, rfl, a, ns, j + 3, rfl, (s12.trans s4).seq hS, _, rfl, _, _, rfl, rfl, _, _, rfl, rfl, ⟨by omega, by omega⟩, _, _, rfl, rfl, (by show (0 : Int) < 12; decide), M, _, _, _, rfl, rfl, .inl (.inl (s4 _ _ hM)), hy1, ?_⟩
        refine ⟨_, _, rfl, rfl, small_line (by rw [Str.length_append, e1]; omega), _, some (.int (0 + (i : Int))), rfl, s4, okS_add (okS_add oz o1) (okS_word wy), ?_⟩
        rw [Str.length_append, Str.length_append, e1]
        omega
      · obtain ⟨z, y5, rfl, s4, oz, lz⟩ := hp
        exact ⟨_, rfl, q _ z (s12.trans s4) oz (by omega)⟩
end
/-! ### the law's spoilt text -/
theorem spl_sum (s : Nat) : ∀ (L acc : List Nat), ((TL.spl [s] 0 acc L).map (·.length)).sum + (TL.spl [s] 0 acc L).length ≤ acc.length + L.length + 1
  | [], acc => by
    rw [TL.spl_nil]
    exact Nat.le_refl _
  | x :: r, acc => by
    cases e : TL.pre [s] (x :: r) with
    | true =>
      rw [TL.spl_hit e, List.map_cons, List.sum_cons]
      have : ((TL.spl [s] 0 [] r).map (·.length)).sum + (TL.spl [s] 0 [] r).length ≤ [].length + r.length + 1 := spl_sum s r []
      show acc.length + ((TL.spl [s] 0 [] r).map (·.length)).sum + ((TL.spl [s] 0 [] r).length + 1) ≤ _
      simp only [List.length_nil, List.length_cons] at this ⊢
      omega
    | false =>
      rw [TL.spl_miss e]
      have := spl_sum s r (acc ++ [x])
      simp only [List.length_append, List.length_cons, List.length_nil] at this ⊢
      omega
theorem split_sum {s : Nat} (hs : s < 256) (a : Str) : ((Txt.split a ⟨#[s]⟩).map (·.length)).sum + (Txt.split a ⟨#[s]⟩).length ≤ a.length + 1 := by
  have h : ((TL.spl [s] 0 [] a.cps.toList).map (·.length)).sum + (TL.spl [s] 0 [] a.cps.toList).length ≤ 0 + a.cps.toList.length + 1 := spl_sum s a.cps.toList []
  rw [← split_spl' hs a, List.map_map, List.length_map] at h
  have e : (Txt.split a ⟨#[s]⟩).map ((·.length) ∘ TL.tl) = (Txt.split a ⟨#[s]⟩).map (·.length) := List.map_congr_left fun p _ => rfl
  rw [e] at h
  show _ ≤ a.cps.toList.length + 1
  omega
theorem join_okS {y : Str} (hy : okS y) : ∀ ps : List Str, (∀ p ∈ ps, okS p) → okS (Txt.join y ps) := by
  intro ps h
  show okS (Builtin.Str.glued y ps)
  rw [StrLaws.glued_eq_join]
  induction ps with
  | nil => exact fun c z => by cases z
  | cons a r ih =>
    cases r with
    | nil => exact h a List.mem_cons_self
    | cons b r =>
      have ih := ih fun p hp => h p (List.mem_cons_of_mem _ hp)
      exact okS_add (okS_add (h a List.mem_cons_self) hy) ih
theorem cut_to12 (xs : List V) (k : Nat) : cutV xs none (some (k : Int)) = xs.take k := by
  unfold cutV
  rw [HT.sIx_none, HT.sIx_nat, Nat.sub_zero, List.drop_zero]
  by_cases h : k ≤ xs.length
  · rw [Nat.min_eq_left h]
  · rw [Nat.min_eq_right (by omega), List.take_of_length_le (Nat.le_refl _), List.take_of_length_le (by omega)]
theorem sum_both (l : List Str) (i : Nat) : ((l.take i).map (·.length)).sum + ((l.drop i).map (·.length)).sum = (l.map (·.length)).sum ∧ (l.take i).length + (l.drop i).length = l.length := by
  have e : l = l.take i ++ l.drop i := (List.take_append_drop i l).symm
  constructor
  · have := congrArg (fun t : List Str => (t.map (·.length)).sum) e
    simp only [List.map_append, List.sum_append] at this
    exact this.symm
  · have := congrArg List.length e
    rw [List.length_append] at this
    exact this.symm
def signsL : List Str := [" ", "\n", "=", "0", "x", "<", "\t", "9", "-", ">", "+"]
theorem signs_ok : ∀ x ∈ signsL, okSB x = true ∧ x.length ≤ 3 := by decide +kernel
def gapsL : List Str := ["  ", "\t", " \t", "   "]
theorem gaps_ok : ∀ x ∈ gapsL, okSB x = true ∧ x.length ≤ 3 := by decide +kernel
theorem cutS_lo {a : Str} (h : okS a) {k : Nat} (hk : k ≤ a.length) : okS (cutS a none (some (k : Int))) ∧ (cutS a none (some (k : Int))).length = k := by
  have e := cut_lo a k hk
  refine ⟨fun c hc => ?_, ?_⟩
  · rw [e] at hc
    exact h c (List.mem_of_mem_take hc)
  · rw [str_len, e, List.length_take, ← str_len]
    omega
theorem cutS_hi {a : Str} (h : okS a) {k : Nat} (hk : k ≤ a.length) : okS (cutS a (some (k : Int)) none) ∧ (cutS a (some (k : Int)) none).length = a.length - k := by
  have e := cut_hi a k hk
  refine ⟨fun c hc => ?_, ?_⟩
  · rw [e] at hc
    exact h c (List.mem_of_mem_drop hc)
  · rw [str_len, e, List.length_drop, ← str_len]
theorem modN (p : Int) {n : Nat} (hn : 0 < n) : ∃ k : Nat, p % (n : Int) = (k : Int) ∧ k < n := by
  have h1 : 0 ≤ p % (n : Int) := Int.emod_nonneg p (by omega)
  have h2 : p % (n : Int) < (n : Int) := Int.emod_lt_of_pos p (by omega)
  exact ⟨(p % (n : Int)).toNat, (Int.toNat_of_nonneg h1).symm, by omega⟩
section
variable {P : Program} {w : World} {K : PySem.W.Frag} {mg : Str → Option Value} {base : Heap}
abbrev spoN : List Str := ["_law_line_here", "_law_cell", "_law_place", "_law_at", "_law_parts"]
theorem scSpoilt : FnScope spoN ["_law_line_here", "_law_cell", "_law_place"] (defScope sSpoilt) := ⟨rfl, rfl, rfl, by decide +kernel, rfl, by decide +kernel, by decide +kernel⟩
def spSpoilt : Sp := fun vs H Q _ => ∃ (a : Str) (c p : Int), vs = [.str a, .int c, .int p] ∧ okS a ∧ a.length ≤ 2000 ∧ ∀ H' z, Same H H' → okS z → z.length ≤ a.length + 10 → Q (.str z) H'
theorem ok_spoilt {f : Addr} {fd : FuncData} (F : FnP K "_law_spoilt" sSpoilt f fd) (mL : mg "len" = none) : FnOk P w K mg base (L2.CX P w) 1 f fd ["_law_line_here", "_law_cell", "_law_place"] spSpoilt := by
  refine F.ok scSpoilt (fun vs H Q E h => ?_) (fun cdv A outer s H vs Q E hr h => ?_)
  · obtain ⟨a, c, p, rfl, _⟩ := h
    rfl
  · obtain ⟨a, c, p, rfl, oa, la, q⟩ := h
    refine ⟨_, pss_cut (ps_if (pt_cmpR op_eq (pe_op op_mod (pv 1) pe_int) pe_int (nomark _))
        (pss_cons (ps_set (i := 3) scSpoilt.nd rfl (.inl rfl) (pe_op op_mod (pv 2) (pe_op op_add (pe_callB call_len_str (by rfl) mL PySem.boot_len (pa_cons (pv 0) pa_nil)) pe_int)))
        (pss_one (ps_ret (pe_op op_add_str (pe_op op_add_str (pe_slice sl_str (pv 0) po_none (po_some (pv 3))) (pe_ix ix_list (pe_lst (pa_cons pe_str (pa_cons pe_str (pa_cons pe_str (pa_cons pe_str (pa_cons pe_str (pa_cons pe_str (pa_cons pe_str (pa_cons pe_str (pa_cons pe_str (pa_cons pe_str (pa_cons pe_str pa_nil)))))))))))) (pe_op op_mod (pe_op op_fdiv (pv 1) pe_int) pe_int) (fun _ _ => rfl))) (pe_slice sl_str (pv 0) (po_some (pv 3)) po_none))))) pss_nil)
      (pss_cut (ps_if (PW.pt (pw_and (pt_cmpR op_eq (pe_op op_mod (pv 1) pe_int) pe_int (nomark _)) (pw_and1 (pt_cmpR op_ne (pv 0) pe_str (nomark _)))))
        (pss_cons (ps_set (i := 3) scSpoilt.nd rfl (.inl rfl) (pe_op op_mod (pv 2) (pe_callB call_len_str (by rfl) mL PySem.boot_len (pa_cons (pv 0) pa_nil))))
        (pss_one (ps_ret (pe_op op_add_str (pe_slice sl_str (pv 0) po_none (po_some (pv 3))) (pe_slice sl_str (pv 0) (po_some (pe_op op_add (pv 3) pe_int)) po_none))))) pss_nil)
      (pss_cut (ps_if (PW.pt (pw_and (pt_cmpR op_eq (pe_op op_mod (pv 1) pe_int) pe_int (nomark _)) (pw_and1 (pt_cmpR op_in_sign pe_str (pv 0) (by rfl)))))
        (pss_cons (ps_set (i := 4) scSpoilt.nd rfl (.inl rfl) (pe_split (pv 0) pe_str))
        (pss_cons (ps_set (i := 3) scSpoilt.nd rfl (.inl rfl) (pe_op op_add pe_int (pe_op op_mod (pv 2) (pe_op op_sub (pe_callB call_len_seq (by rfl) mL PySem.boot_len (pa_cons (pv 4) pa_nil)) pe_int))))
        (pss_one (ps_ret (pe_op op_add_str (pe_op op_add_str (pe_join pe_str (pe_slice sl_list (pv 4) po_none (po_some (pv 3)))) (pe_ix ix_list (pe_lst (pa_cons pe_str (pa_cons pe_str (pa_cons pe_str (pa_cons pe_str pa_nil))))) (pe_op op_mod (pe_op op_fdiv (pv 1) pe_int) pe_int) (fun _ _ => rfl))) (pe_join pe_str (pe_slice sl_list (pv 4) (po_some (pv 3)) po_none))))))) pss_nil)
      (pss_one (ps_ret (pv 0))))), ?_⟩
    have stay := q H a (Same.refl _) oa (by omega)
    refine ⟨fun σ' H' => H' = H ∧ ∃ y3 y4, σ' = [some (.str a), some (.int c), some (.int p), y3, y4], ?_, fun σ' H' hM => ?_⟩
    · refine ⟨_, rfl, _, _, rfl, rfl, (by show (0 : Int) < 4; decide), rfl, _, rfl, ite2 (fun e => ?_) (fun e => ⟨rfl, _, _, rfl⟩)⟩
      obtain ⟨k, hk, hk2⟩ := modN p (n := a.length + 1) (by omega)
      have hk : p % ((a.length : Int) + 1) = (k : Int) := hk
      refine ⟨_, rfl, _, rfl, a, rfl, small_line (by omega), _, _, rfl, rfl, _, _, rfl, rfl, (by show (0 : Int) < (a.length : Int) + 1; omega), ?_⟩
      dsimp only
      rw [hk]
      obtain ⟨x, hx1, hx2⟩ := pick (l := signsL) (n := 11) (by decide) rfl (c / 4)
      obtain ⟨x1, x2⟩ := signs_ok x hx2
      obtain ⟨o1, l1⟩ := cutS_lo oa (k := k) (by omega)
      obtain ⟨o2, l2⟩ := cutS_hi oa (k := k) (by omega)
      refine ⟨_, rfl, _, rfl, _, rfl, a, rfl, small_line (by omega), by show 11 ≤ sizeLine; decide, fun L nL => ?_⟩
      refine ⟨_, rfl, _, _, rfl, rfl, ⟨by decide, by decide⟩, _, _, rfl, rfl, (by show (0 : Int) < 11; decide), L, _, _, _, rfl, rfl, .inl (.inl upd_same), hx1, _, _, rfl, rfl, small_line (by omega), ?_⟩
      refine ⟨_, rfl, _, rfl, _, rfl, a, rfl, small_line (by omega), _, _, rfl, rfl, small_line (by rw [Str.length_append]; omega), ?_⟩
      exact q _ _ (same_upd nL) (okS_add (okS_add o1 (okSB_ok x1)) o2) (by rw [Str.length_append, Str.length_append]; omega)
    · obtain ⟨rfl, y3, y4, rfl⟩ := hM
      refine ⟨fun σ' H2 => H2 = H' ∧ ∃ y3 y4, σ' = [some (.str a), some (.int c), some (.int p), y3, y4], ?_, fun σ' H2 hM => ?_⟩
      · refine ⟨_, rfl, _, _, rfl, rfl, (by show (0 : Int) < 4; decide), rfl, _, rfl, ite2 (fun e => ?_) (fun e => ⟨rfl, _, _, rfl⟩)⟩
        refine ⟨_, rfl, rfl, _, rfl, ite2 (fun e2 => ?_) (fun e2 => ⟨rfl, _, _, rfl⟩)⟩
        have ha : 0 < a.length := by
          rcases Nat.eq_zero_or_pos a.length with h | h
          · exfalso
            have e3 : a = ("" : Str) := Str.ext' (Array.toList_inj.mp (by rw [List.length_eq_zero_iff.mp (show a.cps.toList.length = 0 from h)]; decide +kernel))
            rw [e3] at e2
            revert e2
            decide +kernel
          · exact h
        obtain ⟨k, hk, hk2⟩ := modN p ha
        obtain ⟨o1, l1⟩ := cutS_lo oa (k := k) (by omega)
        obtain ⟨o2, l2⟩ := cutS_hi oa (k := k + 1) (by omega)
        refine ⟨_, rfl, _, rfl, a, rfl, small_line (by omega), _, _, rfl, rfl, (by show (0 : Int) < (a.length : Int); omega), ?_⟩
        dsimp only
        rw [hk]
        refine ⟨_, rfl, _, rfl, _, rfl, a, rfl, small_line (by omega), _, rfl, _, rfl, _, _, rfl, rfl, _, rfl, a, rfl, small_line (by omega), _, _, rfl, rfl, ?_, ?_⟩
        · rw [show ((k : Int) + 1) = ((k + 1 : Nat) : Int) by omega]
          exact small_line (by omega)
        · rw [show ((k : Int) + 1) = ((k + 1 : Nat) : Int) by omega]
          exact q _ _ (Same.refl _) (okS_add o1 o2) (by rw [Str.length_append]; omega)
      · obtain ⟨rfl, y3, y4, rfl⟩ := hM
        refine ⟨fun σ' H3 => H3 = H2 ∧ ∃ y3 y4, σ' = [some (.str a), some (.int c), some (.int p), y3, y4], ?_, fun σ' H3 hM => ?_⟩
        · refine ⟨_, rfl, _, _, rfl, rfl, (by show (0 : Int) < 8; decide), rfl, _, rfl, ite2 (fun e => ?_) (fun e => ⟨rfl, _, _, rfl⟩)⟩
          have e0 : (" " : Str).length = 1 := by decide +kernel
          have ob : okS " " := okSB_ok (by decide +kernel)
          refine ⟨_, rfl, 32, a, congrArg V.str blank_is.1, rfl, _, rfl, ite2 (fun e2 => ?_) (fun e2 => ⟨rfl, _, _, rfl⟩)⟩
          have h32 : 32 ∈ a.cps.toList := of_decide_eq_true e2
          refine ⟨_, rfl, ⟨_, rfl⟩, a, _, rfl, rfl, by decide +kernel, small_line (by omega), fun D nD => ?_⟩
          have h2 := split_two (s := 32) (by decide) h32
          have hps := split_parts (s := 32) (by decide) a
          have hpo := split_ok (s := 32) (by decide) oa
          have hsum := split_sum (s := 32) (by decide) a
          rw [← blank_is.1] at h2 hps hpo hsum
          obtain ⟨_, hpl, hpn⟩ := hps
          generalize Txt.split a " " = ps at h2 hpl hpn hpo hsum ⊢
          have s1 : Same H2 (upd H2 D (.lst (ps.map V.str))) := same_upd nD
          have hD : (upd H2 D (.lst (ps.map V.str))) D = some (.lst (ps.map V.str)) := upd_same
          generalize upd H2 D (.lst (ps.map V.str)) = H4 at s1 hD ⊢
          obtain ⟨k, hk, hk2⟩ := modN p (n := ps.length - 1) (by omega)
          refine ⟨_, rfl, _, rfl, D, _, rfl, .inl (.inl (.inl hD)), _, _, rfl, rfl, _, _, rfl, rfl, ?_, ?_⟩
          · show (0 : Int) < (((ps.map V.str).length : Nat) : Int) - 1
            rw [List.length_map]
            omega
          dsimp only
          rw [List.length_map, show ((ps.length : Int) - 1) = ((ps.length - 1 : Nat) : Int) by omega, hk]
          refine ⟨_, _, rfl, rfl, ?_⟩
          dsimp only
          rw [show (1 + (k : Int)) = ((k + 1 : Nat) : Int) by omega]
          refine ⟨⟨_, rfl⟩, _, rfl, _, rfl, _, rfl, D, _, rfl, .inl (.inl hD), fun S nS => ?_⟩
          rw [cut_to12, ← List.map_take]
          obtain ⟨t1, t2⟩ := sum_both ps (k + 1)
          have j1 := join_le " " (ps.take (k + 1))
          have j2 := join_le " " (ps.drop (k + 1))
          have n1 : (ps.take (k + 1)).length ≤ 2001 := by rw [List.length_take]; omega
          have n2 : (ps.drop (k + 1)).length ≤ 2001 := by rw [List.length_drop]; omega
          rw [e0, Nat.mul_one] at j1 j2
          obtain ⟨x, hx1, hx2⟩ := pick (l := gapsL) (n := 4) (by decide) rfl (c / 8)
          obtain ⟨x1, x2⟩ := gaps_ok x hx2
          have s2 : Same H4 (upd H4 S (.lst ((ps.take (k + 1)).map V.str))) := same_upd nS
          refine ⟨_, S, ps.take (k + 1), rfl, rfl, .inl (.inl (.inl upd_same)), by rw [e0, Nat.mul_one]; omega, by show 4 ≤ sizeLine; decide, fun L nL => ?_⟩
          generalize upd H4 S (.lst ((ps.take (k + 1)).map V.str)) = H5 at s2 nL ⊢
          have s3 : Same H5 (upd H5 L (.lst (gapsL.map V.str))) := same_upd nL
          refine ⟨_, rfl, _, _, rfl, rfl, ⟨by decide, by decide⟩, _, _, rfl, rfl, (by show (0 : Int) < 4; decide), L, _, _, _, rfl, rfl, .inl (.inl upd_same), hx1, _, _, rfl, rfl, small_line (by omega), ⟨_, rfl⟩, _, rfl, _, rfl, _, rfl, D, _, rfl, .inl (.inl (s3 _ _ (s2 _ _ hD))), fun S2 nS2 => ?_⟩
          rw [cut_from, ← List.map_drop]
          refine ⟨_, S2, ps.drop (k + 1), rfl, rfl, .inl (.inl (.inl upd_same)), by rw [e0, Nat.mul_one]; omega, _, _, rfl, rfl, small_line (by rw [Str.length_append]; omega), ?_⟩
          refine q _ _ (s1.trans (s2.trans (s3.trans (same_upd nS2)))) (okS_add (okS_add (join_okS ob _ fun y hy => hpo y (List.mem_of_mem_take hy)) (okSB_ok x1)) (join_okS ob _ fun y hy => hpo y (List.mem_of_mem_drop hy))) ?_
          rw [Str.length_append, Str.length_append]
          omega
        · obtain ⟨rfl, y3, y4, rfl⟩ := hM
          exact ⟨_, rfl, stay⟩
end
/-! ### the law: what read answers, tried -/
section
variable {P : Program} {w : World} {K : PySem.W.Frag} {mg : Str → Option Value} {base : Heap}
theorem scTried : FnScope ["_law_line_here", "_law_found"] ["_law_line_here"] (defScope sTried) := ⟨rfl, rfl, rfl, by decide +kernel, rfl, by decide +kernel, by decide +kernel⟩
theorem scAny : FnScope ["_law_line_here", "e"] ["_law_line_here"] (defScope sAny) := ⟨rfl, rfl, rfl, by decide +kernel, rfl, by decide +kernel, by decide +kernel⟩
def spTried (K : PySem.W.Frag) (Ps : List Addr) : Sp := fun vs H Q _ => ∃ (a : Str), vs = [.str a] ∧ a.length ≤ 900000 ∧ Tb Ps H ∧ (∀ rs : List RowD, rdAll a = rs.map some → ∀ (H' : Hp) (D : Addr) (xs : List V), Kp Ps H H' → H' D = some (.lst xs) → RowsAt K H' xs rs → Q (.ref D) H') ∧ (none ∈ rdAll a → ∀ H', Kp Ps H H' → Q .non H')
theorem ok_tried {Ps : List Addr} {cR f fR : Addr} {fd fdR : FuncData} (F : FnP K "_law_tried" sTried f fd)
    (GR : FnOk P w K mg base (L2.CX P w) 8 fR fdR ["line"] (spReadX K Ps cR)) (kR : PySem.W.keepIn K (.ref fR) = true) (bR : Binds K fdR ["line"] []) (gR : mg "read" = some (.ref fR))
    (mR : mg "NoRow" = some (.ref cR)) (xR : PySem.W.exmOne K (.ref cR) (.ref cR) = some true) : FnOk P w K mg base (L2.CX P w) 9 f fd ["_law_line_here"] (spTried K Ps) := by
  refine F.ok scTried (fun vs H Q E h => ?_) (fun cdv A outer s H vs Q E hr h => ?_)
  · obtain ⟨a, rfl, _⟩ := h
    rfl
  · obtain ⟨a, rfl, hl, ht, q, q2⟩ := h
    refine ⟨_, pss_cons (ps_try_only (c := .ref cR) (Wout := fun cls d _ H => E cls d H) rfl rfl ⟨by rfl, by decide +kernel, .inl mR⟩ (takes_of rfl rfl rfl rfl)
        (fun W pn xe tk _ => pss_one (ps_set (i := 1) scTried.nd rfl (.inl rfl) (pe_callS (E := WE W) GR hr (by rfl) gR kR bR (fun σ => passAt tk σ) (pa_cons (pv 0) pa_nil))))
        (fun a oe cls d pn _ _ => pss_one (ps_ret pe_non)))
      (pss_one (ps_ret (pv 1))), ?_⟩
    refine ⟨_, rfl, a, rfl, hl, ht, fun rs hrs H' D xs k hD hX => ⟨_, rfl, q rs hrs H' D xs k hD hX⟩, fun hn H' k => ⟨true, xR, fun _ b nb => q2 hn H' k, fun z => by cases z⟩⟩
def spAny (Ps : List Addr) : Sp := fun vs H Q _ => ∃ (a : Str), vs = [.str a] ∧ a.length ≤ 900000 ∧ Tb Ps H ∧ (∀ rs : List RowD, rdAll a = rs.map some → ∀ H', Kp Ps H H' → Q (.bl false) H') ∧ (none ∈ rdAll a → ∀ H', Kp Ps H H' → Q (.bl true) H')
theorem ok_any {Ps : List Addr} {cR cE f fR : Addr} {fd fdR : FuncData} (F : FnP K "_law_any" sAny f fd)
    (GR : FnOk P w K mg base (L2.CX P w) 8 fR fdR ["line"] (spReadX K Ps cR)) (kR : PySem.W.keepIn K (.ref fR) = true) (bR : Binds K fdR ["line"] []) (gR : mg "read" = some (.ref fR))
    (mE : mg "RedraftError" = some (.ref cE)) (xR : PySem.W.exmOne K (.ref cR) (.ref cE) = some true) (C : L2.ExcC K cR) (kV : PySem.W.kitOne K (.ref cR) (.type "ValueError") = some true)
    (mI : mg "isinstance" = none) (mV : mg "ValueError" = none) : FnOk P w K mg base (L2.CX P w) 9 f fd ["_law_line_here"] (spAny Ps) := by
  refine F.ok scAny (fun vs H Q E h => ?_) (fun cdv A outer s H vs Q E hr h => ?_)
  · obtain ⟨a, rfl, _⟩ := h
    rfl
  · obtain ⟨a, rfl, hl, ht, q, q2⟩ := h
    refine ⟨_, pss_cons (ps_try_as (i := 1) (c := .ref cE) (Wout := fun cls d _ H => E cls d H) (ts := fun a cls d D σ H => cls = .ref cR ∧ d = none ∧ tRet (tCB (rIsE K cR a) (tCons (tVar 1) (tCons (tC (.ty "ValueError")) tNil))) D σ H) rfl rfl scAny.nd rfl rfl ⟨by rfl, by decide +kernel, .inl mE⟩ (takes_of rfl rfl rfl rfl)
        (fun W pn xe tk _ => pss_one (ps_expr (pe_callS (E := WE W) GR hr (by rfl) gR kR bR (fun σ => passAt tk σ) (pa_cons (pv 0) pa_nil))))
        (fun a oe cls d pn hz hf => ⟨fun pins s σ H D I h => ?_⟩))
      (pss_one (ps_ret pe_bl)), ?_⟩
    · obtain ⟨rfl, rfl, h⟩ := h
      exact (pss_one (ps_ret (pe_callB (call_isE C hz hf) (by rfl) mI (by decide +kernel) (pa_cons (pv 1) (pa_cons (pe_bltn (v := .ty "ValueError") (by rfl) mV (by decide +kernel) rfl) pa_nil))))).run pins s σ H D I h
    · refine ⟨_, rfl, a, rfl, hl, ht, fun rs hrs H' D xs k hD hX => q rs hrs H' k, fun hn H' k => ⟨true, xR, fun _ b nb => ⟨rfl, rfl, ?_⟩, fun z => by cases z⟩⟩
      exact ⟨_, rfl, .ty "ValueError", .type "ValueError", true, rfl, fun u h => h, kV, q2 hn H' k⟩
end
/-- what isinstance asks of an own class of errors -/
def excB (K : PySem.W.Frag) (D : Addr) : Bool := He.eqO (PySem.W.findIn K (.ref D) "__getattribute__") (some (some (.builtin "BaseException.__getattribute__"))) && (He.eqO (PySem.W.findIn K (.ref D) "__getattr__") (some none) &&
  (decide (PySem.W.subIn K (.ref D) (.type "BaseException") = some true) && (PySem.W.hasDictIn K D && (He.eqO (PySem.W.findIn K (.ref D) "__class__") (some (some (.builtin "object.__class__"))) &&
  (He.eqO (PySem.W.specialIn K (.builtin "object.__class__") "__get__") (some (some (.builtin "getset_descriptor.__get__"))) && (decide (PySem.W.takesIn K (.builtin "object.__class__") = some true) && (decide (PySem.W.mroIn K D (.type "object") = some true) &&
  decide (PySem.W.kitOne K (.ref D) (.type "ValueError") = some true))))))))
theorem excB_ok {K : PySem.W.Frag} {D : Addr} (h : excB K D = true) : L2.ExcC K D ∧ PySem.W.kitOne K (.ref D) (.type "ValueError") = some true := by
  unfold excB at h
  obtain ⟨h1, h⟩ := He.ba h
  obtain ⟨h2, h⟩ := He.ba h
  obtain ⟨h3, h⟩ := He.ba h
  obtain ⟨h4, h⟩ := He.ba h
  obtain ⟨h5, h⟩ := He.ba h
  obtain ⟨h6, h⟩ := He.ba h
  obtain ⟨h7, h⟩ := He.ba h
  obtain ⟨h8, h9⟩ := He.ba h
  exact ⟨⟨He.eqO_ok h1, He.eqO_ok h2, of_decide_eq_true h3, h4, He.eqO_ok h5, He.eqO_ok h6, of_decide_eq_true h7, of_decide_eq_true h8⟩, of_decide_eq_true h9⟩
/-! ### what the laws say of tellings -/
section
variable {P : Program} {w : World} {K : PySem.W.Frag} {mg : Str → Option Value} {base : Heap}
theorem scTexts : FnScope ["_law_found", "_law_one"] ["_law_found"] (defScope sTexts) := ⟨rfl, rfl, rfl, by decide +kernel, rfl, by decide +kernel, by decide +kernel⟩
theorem scRowsTold : FnScope ["_law_found", "_law_row_here"] ["_law_found"] (defScope sRowsTold) := ⟨rfl, rfl, rfl, by decide +kernel, rfl, by decide +kernel, by decide +kernel⟩
def spTexts (K : PySem.W.Frag) : Sp := fun vs H Q _ => ∃ (p : Addr) (ws : List Str), vs = [.ref p] ∧ SqT K H p (ws.map V.str) ∧ ws.length ≤ 1000 ∧ ∀ H', Same H H' → Q (.bl true) H'
theorem ok_texts {f : Addr} {fd : FuncData} (F : FnP K "_law_texts" sTexts f fd) (mI : mg "isinstance" = none) (mS : mg "str" = none) (mA : mg "all" = none) : FnOk P w K mg base (L2.CX P w) 1 f fd ["_law_found"] (spTexts K) := by
  refine F.ok scTexts (fun vs H Q E h => ?_) (fun cdv A outer s H vs Q E hr h => ?_)
  · obtain ⟨p, ws, rfl, _⟩ := h
    rfl
  · obtain ⟨p, ws, rfl, hp, hl, q⟩ := h
    refine ⟨_, pss_one (ps_ret (pe_callB (cr_all rfl) (by rfl) mA (by decide +kernel) (pa_cons (pe_lc (own := [("_law_one", 1)]) (g := gName 1) (tt := tYes) rfl scTexts.nd (pi_tup (pv 0)) (blkOk_by (N := ["_law_found", "_law_one"]) (sc := defScope sTexts) (by decide +kernel))
          (fun _ _ _ _ _ => pg_name (i := 1) scTexts.nd rfl (Or.inl rfl)) (fun _ _ _ _ _ => pts_nil) (fun _ _ _ _ _ => pe_callB (id := "isinstance") (r := rIsi K) call_isi (by rfl) mI (by decide +kernel) (pa_cons (pv 1) (pa_cons (pe_bltn (v := .ty "str") (by rfl) mS (by decide +kernel) rfl) pa_nil)))) pa_nil))), ?_⟩
    refine ⟨_, rfl, p, rfl, ⟨_, hp⟩, fun D nD => ?_⟩
    refine lc_tup (xs := ws.map V.str) (fun i H' => Same H H' ∧ H' D = some (.lst ((List.replicate i true).map V.bl))) ⟨same_upd nD, upd_same⟩ (fun i H' _ hP => sameT hP.1 hp) (fun i x H' hx hP => ?_) (fun H' hP => ?_)
    · obtain ⟨sm, hD⟩ := hP
      rw [List.getElem?_map] at hx
      obtain ⟨a, ha, rfl⟩ := Option.map_eq_some_iff.mp hx
      refine ⟨rfl, yesT ?_⟩
      have hi : i < ws.length := (List.getElem?_eq_some_iff.mp ha).1
      refine ⟨_, rfl, .str a, .ty "str", _, _, true, rfl, .ty _, .base (.str a), kit_ty (by decide +kernel), _, hD, ?_, fun b o e => ?_, ?_⟩
      · rw [List.length_map, List.length_replicate]
        exact Nat.lt_of_lt_of_le (show i < 1001 by omega) (by decide)
      · rw [upd_ne (ne_of_none e nD)]
        exact sm b o e
      · rw [upd_same, List.replicate_succ', List.map_append]
        rfl
    · obtain ⟨sm, hD⟩ := hP
      refine ⟨D, _, rfl, .inl (.inl hD), ?_⟩
      have e : ∀ n, (List.replicate n true).all id = true := fun n => by simp
      rw [e]
      exact q H' sm
def spRowsTold (K : PySem.W.Frag) : Sp := fun vs H Q _ => ∃ (p : Addr) (xs : List V) (rs : List RowD), vs = [.ref p] ∧ SqL K H p xs ∧ RowsAt K H xs rs ∧ (∀ r ∈ rs, r.ws ≠ [] ∧ r.ws.length ≤ 1000) ∧ ∀ H', Same H H' → Q (.bl true) H'
theorem ok_rows_told {f fW fT : Addr} {fd fdW fdT : FuncData} (F : FnP K "_law_rows_told" sRowsTold f fd)
    (GW : FnOk P w K mg base (L2.CX P w) 1 fW fdW ["_law_found"] spWhole) (kW : PySem.W.keepIn K (.ref fW) = true) (bW : Binds K fdW ["_law_found"] []) (gW : mg "_law_whole" = some (.ref fW))
    (GT : FnOk P w K mg base (L2.CX P w) 1 fT fdT ["_law_found"] (spTexts K)) (kT : PySem.W.keepIn K (.ref fT) = true) (bT : Binds K fdT ["_law_found"] []) (gT : mg "_law_texts" = some (.ref fT))
    (mI : mg "isinstance" = none) (mS : mg "str" = none) (mT : mg "list" = none) (mU : mg "tuple" = none) (mL : mg "len" = none) : FnOk P w K mg base (L2.CX P w) 2 f fd ["_law_found"] (spRowsTold K) := by
  refine F.ok scRowsTold (fun vs H Q E h => ?_) (fun cdv A outer s H vs Q E hr h => ?_)
  · obtain ⟨p, xs, rs, rfl, _⟩ := h
    rfl
  · obtain ⟨p, xs, rs, rfl, hp, hR, hok, q⟩ := h
    refine ⟨_, pss_cons (ps_if (pt_not (pt_val (pe_callB call_isi (by rfl) mI (by decide +kernel) (pa_cons (pv 0) (pa_cons (pe_bltn (v := .ty "list") (by rfl) mT (by decide +kernel) rfl) pa_nil))))) pss_never pss_nil)
      (pss_cons (ps_for (passes_of rfl) rfl (pi_list (pv 0)) (pg_name (i := 1) scRowsTold.nd rfl (.inl rfl))
        (pss_cons (ps_if (PW.pt (pw_or (pt_not (pt_val (pe_callB call_isi (by rfl) mI (by decide +kernel) (pa_cons (pv 1) (pa_cons (pe_bltn (v := .ty "tuple") (by rfl) mU (by decide +kernel) rfl) pa_nil)))))
            (pw_or (pt_cmpR op_ne (pe_callB call_len_seq (by rfl) mL PySem.boot_len (pa_cons (pv 1) pa_nil)) pe_int (nomark _))
            (pw_or1 (pt_not (pt_val (pe_callB call_isi (by rfl) mI (by decide +kernel) (pa_cons (pe_ix ix_tup (pv 1) pe_int (fun _ _ => rfl)) (pa_cons (pe_bltn (v := .ty "str") (by rfl) mS (by decide +kernel) rfl) pa_nil))))))))) pss_never pss_nil)
        (pss_cons (ps_if (PW.pt (pw_or (pt_not (pt_val (pe_call GW hr (by rfl) gW kW bW .nil passL (pa_cons (pe_ix ix_tup (pv 1) pe_int (fun _ _ => rfl)) pa_nil))))
            (pw_or (pt_not (pt_val (pe_callB call_isi (by rfl) mI (by decide +kernel) (pa_cons (pe_ix ix_tup (pv 1) pe_int (fun _ _ => rfl)) (pa_cons (pe_bltn (v := .ty "tuple") (by rfl) mU (by decide +kernel) rfl) pa_nil)))))
            (pw_or1 (pt_cmpR op_eq (pe_callB call_len_seq (by rfl) mL PySem.boot_len (pa_cons (pe_ix ix_tup (pv 1) pe_int (fun _ _ => rfl)) pa_nil)) pe_int (nomark _)))))) pss_never pss_nil)
        (pss_one (ps_if (pt_not (pt_val (pe_call GT hr (by rfl) gT kT bT .nil passL (pa_cons (pe_ix ix_tup (pv 1) pe_int (fun _ _ => rfl)) pa_nil)))) pss_never pss_nil)))))
      (pss_one (ps_ret pe_bl))), ?_⟩
    refine ⟨_, rfl, .ref p, .ty "list", _, _, true, rfl, .ty _, tyL hp, kit_ty (by decide +kernel), true, rfl, iteF ?_⟩
    refine ⟨_, rfl, p, rfl, ⟨_, hp⟩, for_list (xs := xs) (fun i σ' H' => Same H H' ∧ ∃ y1, σ' = [some (.ref p), y1]) ⟨Same.refl _, none, rfl⟩ (fun i σ' H' _ hP => hP.1.seq hp) (fun i x σ' H' hx hP => ?_) (fun σ' H' hP => q H' hP.1)⟩
    obtain ⟨sm, y1, rfl⟩ := hP
    obtain ⟨r, hr1, hr2⟩ := hR.2 i x hx
    obtain ⟨h1, h2⟩ := hok r (List.mem_of_getElem? hr1)
    obtain ⟨T, W, rfl, hT, hW⟩ := hr2.same sm
    refine ⟨_, rfl, .ref T, .ty "tuple", _, _, true, rfl, .ty _, tyT hT, kit_ty (by decide +kernel), true, rfl, iteF ?_⟩
    refine ⟨_, rfl, T, _, rfl, .inr hT, rfl, _, rfl, iteF ?_⟩
    refine ⟨_, rfl, T, _, _, _, rfl, rfl, hT, at_of (j := 0) rfl rfl, .str r.kind, .ty "str", _, _, true, rfl, .ty _, .base (.str _), kit_ty (by decide +kernel), true, rfl, iteF ?_⟩
    refine ⟨_, rfl, T, _, _, _, rfl, rfl, hT, at_of (j := 1) rfl rfl, r.num, rfl, true, rfl, iteF ?_⟩
    refine ⟨_, rfl, T, _, _, _, rfl, rfl, hT, at_of (j := 2) rfl rfl, .ref W, .ty "tuple", _, _, true, rfl, .ty _, tyT hW, kit_ty (by decide +kernel), true, rfl, iteF ?_⟩
    refine ⟨_, rfl, T, _, _, _, rfl, rfl, hT, at_of (j := 2) rfl rfl, W, _, rfl, .inr hW, rfl, _, rfl, ?_⟩
    have e0 : decide (V.int ((r.ws.map V.str).length : Int) = V.int 0) = false := decide_eq_false fun z => by
      have z2 := V.int.inj z
      rw [List.length_map] at z2
      exact h1 (List.length_eq_zero_iff.mp (by omega))
    rw [e0]
    refine iteF ⟨_, rfl, T, _, _, _, rfl, rfl, hT, at_of (j := 2) rfl rfl, W, r.ws, rfl, hW, h2, fun H2 s2 => ⟨true, rfl, iteF ⟨sm.trans s2, _, rfl⟩⟩⟩
end
/-! ### the law: what is due, what is read -/
def optData : Option RowD → PyData
  | none => .none
  | some r => rowData r
def OptsAt (K : PySem.W.Frag) (H : Hp) (ys : List V) (os : List (Option RowD)) : Prop := ys.length = os.length ∧ ∀ (i : Nat) (v : V), ys[i]? = some v → ∃ o, os[i]? = some o ∧ optV K H v o
theorem optV_same {K : PySem.W.Frag} {H H' : Hp} {v : V} {o : Option RowD} (s : Same H H') (h : optV K H v o) : optV K H' v o := by
  cases o with
  | none => exact h
  | some r => exact RowAt.same s h
theorem optV_kp {K : PySem.W.Frag} {Ps : List Addr} {H H' : Hp} {v : V} {o : Option RowD} (t : Tb Ps H) (k : Kp Ps H H') (h : optV K H v o) : optV K H' v o := by
  cases o with
  | none => exact h
  | some r => exact RowAt.kp t k h
theorem OptsAt.same {K : PySem.W.Frag} {H H' : Hp} {ys : List V} {os : List (Option RowD)} (s : Same H H') (h : OptsAt K H ys os) : OptsAt K H' ys os :=
  ⟨h.1, fun i v e => let ⟨o, h1, h2⟩ := h.2 i v e; ⟨o, h1, optV_same s h2⟩⟩
theorem OptsAt.kp {K : PySem.W.Frag} {Ps : List Addr} {H H' : Hp} {ys : List V} {os : List (Option RowD)} (t : Tb Ps H) (k : Kp Ps H H') (h : OptsAt K H ys os) : OptsAt K H' ys os :=
  ⟨h.1, fun i v e => let ⟨o, h1, h2⟩ := h.2 i v e; ⟨o, h1, optV_kp t k h2⟩⟩
theorem OptsAt.snoc {K : PySem.W.Frag} {H : Hp} {ys : List V} {os : List (Option RowD)} {v : V} {o : Option RowD} (h : OptsAt K H ys os) (hv : optV K H v o) : OptsAt K H (ys ++ [v]) (os ++ [o]) := by
  refine ⟨by rw [List.length_append, List.length_append, h.1]; rfl, fun i u e => ?_⟩
  rcases Nat.lt_or_ge i ys.length with hi | hi
  · rw [List.getElem?_append_left hi] at e
    obtain ⟨o', h1, h2⟩ := h.2 i u e
    exact ⟨o', by rw [List.getElem?_append_left (by rw [← h.1]; exact hi)]; exact h1, h2⟩
  · rw [List.getElem?_append_right hi] at e
    have e0 : i - ys.length = 0 := by
      rcases Nat.eq_zero_or_pos (i - ys.length) with z | z
      · exact z
      · rw [List.getElem?_eq_none (by show 1 ≤ _; omega)] at e
        cases e
    rw [e0] at e
    cases e
    exact ⟨o, by rw [List.getElem?_append_right (by rw [← h.1]; exact hi), ← h.1, e0]; rfl, hv⟩
theorem OptsAt.set {K : PySem.W.Frag} {H : Hp} {D : Addr} {o : HO} {ys : List V} {os : List (Option RowD)} (n : ∀ xs, ¬ Rd H D (.tup xs)) (h : OptsAt K H ys os) : OptsAt K (upd H D o) ys os :=
  ⟨h.1, fun i v e => by
    obtain ⟨r, h1, h2⟩ := h.2 i v e
    cases r with
    | none => exact ⟨_, h1, h2⟩
    | some r => exact ⟨_, h1, RowAt.set n h2⟩⟩
theorem dpOpt {K : PySem.W.Frag} {H : Hp} {v : V} {o : Option RowD} (h : optV K H v o) : Dp K H v (optData o) := by
  cases o with
  | none =>
    have h : v = .non := h
    subst h
    exact .non
  | some r => exact dpRow h
theorem dpOpts {K : PySem.W.Frag} {H : Hp} : ∀ {ys : List V} {os : List (Option RowD)}, OptsAt K H ys os → DpAll K H ys (os.map optData)
  | [], [], _ => .nil
  | [], _ :: _, h => nomatch h.1
  | _ :: _, [], h => nomatch h.1
  | x :: xs, r :: rs, h => by
    obtain ⟨r', h1, h2⟩ := h.2 0 x rfl
    cases h1
    exact .cons (dpOpt h2) (dpOpts ⟨Nat.succ.inj h.1, fun i v e => h.2 (i + 1) v e⟩)
structure RowW (n : Nat) (r : RowD) : Prop where
  kind : r.kind ∈ plainK ++ blockK
  some : r.ws ≠ []
  words : ∀ a ∈ r.ws, wordB a = true
  len : r.ws.length ≤ n
theorem wsT_is {ws : List Str} (h : wsT ws = true) : ws ≠ [] ∧ ∀ a ∈ ws, wordB a = true := by
  unfold wsT at h
  rw [Bool.and_eq_true] at h
  refine ⟨fun z => ?_, List.all_eq_true.mp h.2⟩
  rw [z] at h
  exact absurd h.1 (by decide)
theorem rdRow_is {a : Str} {r : RowD} (h : rdRow a = some r) : RowW (a.length + 1) r := by
  have hps := split_parts (s := 32) (by decide) a
  rw [← blank_is.1] at hps
  obtain ⟨_, _, hn⟩ := hps
  unfold rdRow at h
  generalize Txt.split a " " = ps at h hn
  cases ps with
  | nil => cases h
  | cons s l =>
    dsimp only at h
    rw [List.length_cons] at hn
    cases hk : kindK s with
    | none =>
      rw [hk] at h
      cases h
    | some k =>
      rw [hk] at h
      dsimp only at h
      by_cases hb : k ∈ blockK
      · rw [if_pos hb] at h
        cases l with
        | nil => cases h
        | cons f ws =>
          dsimp only at h
          rw [List.length_cons] at hn
          cases hf : numT f with
          | none =>
            rw [hf] at h
            cases h
          | some n =>
            rw [hf] at h
            dsimp only at h
            cases hw : wsT ws with
            | false =>
              rw [hw, if_neg Bool.false_ne_true] at h
              cases h
            | true =>
              rw [hw, if_pos rfl] at h
              cases h
              exact ⟨(kindK_ok hk).1, (wsT_is hw).1, (wsT_is hw).2, by show ws.length ≤ _; omega⟩
      · rw [if_neg hb] at h
        cases hw : wsT l with
        | false =>
          rw [hw, if_neg Bool.false_ne_true] at h
          cases h
        | true =>
          rw [hw, if_pos rfl] at h
          cases h
          exact ⟨(kindK_ok hk).1, (wsT_is hw).1, (wsT_is hw).2, by show l.length ≤ _; omega⟩
theorem rdAll_is {z : Str} {r : RowD} (h : some r ∈ rdAll z) : RowW (z.length + 1) r := by
  unfold rdAll at h
  split at h
  · cases h
  · obtain ⟨p, hp, h2⟩ := List.mem_map.mp h
    have h3 := rdRow_is h2
    have hps := split_parts (s := 10) (by decide) z
    rw [← blank_is.2] at hps
    have := hps.2.1 p hp
    exact ⟨h3.kind, h3.some, h3.words, by have := h3.len; omega⟩
theorem lay_opts {n : Nat} : ∀ os : List (Option RowD), (∀ r, some r ∈ os → RowW n r) → PyData.canLayAll0 (os.map optData) = true := fun os => by
  induction os with
  | nil => exact fun _ => rfl
  | cons x r ih =>
    intro h
    have hr := ih fun b hb => h b (List.mem_cons_of_mem _ hb)
    cases x with
    | none =>
      show (true && PyData.canLayAll0 (r.map optData)) = true
      rw [hr]
      rfl
    | some x =>
      have hx := h x List.mem_cons_self
      show (((PyData.strOk x.kind && (true && (PyData.canLayAll0 (x.ws.map PyData.str) && true)))) && PyData.canLayAll0 (r.map optData)) = true
      rw [hr, lay_strs x.ws fun a ha => strOk_word (hx.words a ha), kinds_strOk _ hx.kind]
      rfl
theorem depth_opts : ∀ os : List (Option RowD), PyData.depthAll (os.map optData) ≤ 2 := fun os => by
  induction os with
  | nil => exact Nat.zero_le _
  | cons x r ih =>
    cases x with
    | none =>
      show max 0 (PyData.depthAll (r.map optData)) ≤ 2
      omega
    | some x =>
      show max (max (0 : Nat) (max (0 : Nat) (max (PyData.depthAll (x.ws.map PyData.str) + 1) 0)) + 1) (PyData.depthAll (r.map optData)) ≤ 2
      rw [depth_strs]
      omega
theorem shaped_opts {n : Nat} {os : List (Option RowD)} (h : ∀ r, some r ∈ os → RowW n r) : SeqAt.shaped (.list (os.map optData)) = true := by
  show (PyData.canLayAll0 (os.map optData) && decide (PyData.depthAll (os.map optData) + 1 ≤ 64)) = true
  rw [lay_opts os h, decide_eq_true (show PyData.depthAll (os.map optData) + 1 ≤ 64 by have := depth_opts os; omega)]
  rfl
theorem eqv_some (x : RowD) : PyData.eqv (optData (some x)) .none = false := by
  show PyData.eqv (.tuple _) .none = false
  unfold PyData.eqv
  rfl
theorem eqv_none : PyData.eqv (optData none) .none = true := by
  show PyData.eqv .none .none = true
  unfold PyData.eqv
  rfl
theorem any_yes : ∀ os : List (Option RowD), none ∈ os → ((os.map optData).any fun z => PyData.eqv z .none) = true := fun os h => by
  rw [List.any_eq_true]
  exact ⟨_, List.mem_map.mpr ⟨none, h, rfl⟩, eqv_none⟩
theorem any_no (rs : List RowD) : (((rs.map some).map optData).any fun z => PyData.eqv z .none) = false := by
  rw [List.any_eq_false]
  intro z hz
  obtain ⟨o, ho, rfl⟩ := List.mem_map.mp hz
  obtain ⟨r, _, rfl⟩ := List.mem_map.mp ho
  rw [eqv_some]
  exact Bool.false_ne_true
theorem all_some : ∀ os : List (Option RowD), none ∉ os → ∃ rs : List RowD, os = rs.map some := fun os => by
  induction os with
  | nil => exact fun _ => ⟨[], rfl⟩
  | cons x r ih =>
    intro h
    cases x with
    | none => exact absurd List.mem_cons_self h
    | some x =>
      obtain ⟨rs, e⟩ := ih fun z => h (List.mem_cons_of_mem _ z)
      exact ⟨x :: rs, by rw [e]; rfl⟩
section
variable {P : Program} {w : World} {K : PySem.W.Frag} {mg : Str → Option Value} {base : Heap}
abbrev lawN : List Str := ["_law_script", "_law_lines", "_law_line_here", "_law_due", "_law_found", "_law_k", "_law_part"]
theorem scLaw : FnScope lawN ["_law_script"] (defScope sLaw) := ⟨rfl, rfl, rfl, by decide +kernel, rfl, by decide +kernel, by decide +kernel⟩
def spLaw (K : PySem.W.Frag) (Ps : List Addr) : Sp := fun vs H Q _ => ∃ (a : Addr) (ns : List Int), vs = [.ref a] ∧ SqL K H a (ns.map V.int) ∧ Tb Ps H ∧ ∀ H', Q (.bl true) H'
theorem ok_law {Ps : List Addr} {f fC fL fS fR fT fA fO : Addr} {fd fdC fdL fdS fdR fdT fdA fdO : FuncData} (F : FnP K "law" sLaw f fd)
    (GC : FnOk P w K mg base (L2.CX P w) 1 fC fdC ["_law_script", "_law_k"] (spCell K)) (kC : PySem.W.keepIn K (.ref fC) = true) (bC : Binds K fdC ["_law_script", "_law_k"] []) (gC : mg "_law_cell_at" = some (.ref fC))
    (GL : FnOk P w K mg base (L2.CX P w) 4 fL fdL ["_law_script", "_law_at"] (spLawLine K)) (kL : PySem.W.keepIn K (.ref fL) = true) (bL : Binds K fdL ["_law_script", "_law_at"] []) (gL : mg "_law_line" = some (.ref fL))
    (GS : FnOk P w K mg base (L2.CX P w) 1 fS fdS ["_law_line_here", "_law_cell", "_law_place"] spSpoilt) (kS : PySem.W.keepIn K (.ref fS) = true) (bS : Binds K fdS ["_law_line_here", "_law_cell", "_law_place"] []) (gS : mg "_law_spoilt" = some (.ref fS))
    (GR : FnOk P w K mg base (L2.CX P w) 2 fR fdR ["_law_line_here"] (spLawRow K)) (kR : PySem.W.keepIn K (.ref fR) = true) (bR : Binds K fdR ["_law_line_here"] []) (gR : mg "_law_row" = some (.ref fR))
    (GT : FnOk P w K mg base (L2.CX P w) 9 fT fdT ["_law_line_here"] (spTried K Ps)) (kT : PySem.W.keepIn K (.ref fT) = true) (bT : Binds K fdT ["_law_line_here"] []) (gT : mg "_law_tried" = some (.ref fT))
    (GA : FnOk P w K mg base (L2.CX P w) 9 fA fdA ["_law_line_here"] (spAny Ps)) (kA : PySem.W.keepIn K (.ref fA) = true) (bA : Binds K fdA ["_law_line_here"] []) (gA : mg "_law_any" = some (.ref fA))
    (GO : FnOk P w K mg base (L2.CX P w) 2 fO fdO ["_law_found"] (spRowsTold K)) (kO : PySem.W.keepIn K (.ref fO) = true) (bO : Binds K fdO ["_law_found"] []) (gO : mg "_law_rows_told" = some (.ref fO))
    (mR : mg "range" = none) : FnOk P w K mg base (L2.CX P w) 10 f fd ["_law_script"] (spLaw K Ps) := by
  refine F.ok scLaw (fun vs H Q E h => ?_) (fun cdv A outer s H vs Q E hr h => ?_)
  · obtain ⟨a, ns, rfl, _⟩ := h
    rfl
  · obtain ⟨a, ns, rfl, hS, ht, q⟩ := h
    have hu : (A.deeper (envOfC "law" (defScope sLaw) s.heap.objs.size f cdv)).units + 65 < cLine := by
      have := hr.un
      omega
    have r4 : Room 4 (A.deeper (envOfC "law" (defScope sLaw) s.heap.objs.size f cdv)) := hr.mono (by decide)
    have r2 : Room 2 (A.deeper (envOfC "law" (defScope sLaw) s.heap.objs.size f cdv)) := hr.mono (by decide)
    have r1 : Room 1 (A.deeper (envOfC "law" (defScope sLaw) s.heap.objs.size f cdv)) := hr.mono (by decide)
    refine ⟨_, pss_cons (ps_setLc (i := 1) (own := [("_law_k", 5)]) (g := gName 5) (tt := tYes) rfl scLaw.nd rfl rfl (sw_true rfl rfl rfl (by decide +kernel)) (pi_range1 (by rfl) mR (pa_cons (pe_op op_mod (pe_call GC r1 (by rfl) gC kC bC .nil passL (pa_cons (pv 0) (pa_cons pe_int pa_nil))) pe_int) pa_nil)) (blkOk_by (N := lawN) (sc := defScope sLaw) (by decide +kernel))
        (fun _ _ _ _ _ => pg_name (i := 5) scLaw.nd rfl (Or.inl rfl)) (fun _ _ _ _ _ => pts_nil) (fun _ _ _ _ _ => pe_call GL r4 (by rfl) gL kL bL .nil passL (pa_cons (pv 0) (pa_cons (pe_op op_add pe_int (pe_op op_mul pe_int (pv 5))) pa_nil))))
      (pss_cons (ps_set (i := 2) scLaw.nd rfl (.inl rfl) (pe_call GS r1 (by rfl) gS kS bS .nil passL (pa_cons (pe_join pe_str (pv 1)) (pa_cons (pe_call GC r1 (by rfl) gC kC bC .nil passL (pa_cons (pv 0) (pa_cons pe_int pa_nil))) (pa_cons (pe_op op_fdiv (pe_call GC r1 (by rfl) gC kC bC .nil passL (pa_cons (pv 0) (pa_cons pe_int pa_nil))) pe_int) pa_nil)))))
      (pss_cons (ps_set (i := 3) scLaw.nd rfl (.inl rfl) (pe_lst pa_nil))
      (pss_cut (ps_if (pt_cmpR op_ne (pv 2) pe_str (nomark _)) (pss_one (ps_setLc (i := 3) (own := [("_law_part", 6)]) (g := gName 6) (tt := tYes) rfl scLaw.nd rfl rfl (sw_true rfl rfl rfl (by decide +kernel)) (pi_list (pe_split (pv 2) pe_str)) (blkOk_by (N := lawN) (sc := defScope sLaw) (by decide +kernel))
        (fun _ _ _ _ _ => pg_name (i := 6) scLaw.nd rfl (Or.inl rfl)) (fun _ _ _ _ _ => pts_nil) (fun _ _ _ _ _ => pe_call GR r2 (by rfl) gR kR bR .nil passL (pa_cons (pv 6) pa_nil)))) pss_nil)
      (pss_cons (ps_set (i := 4) scLaw.nd rfl (.inl rfl) (pe_call GT hr (by rfl) gT kT bT .nil passL (pa_cons (pv 2) pa_nil)))
      (pss_cons (ps_if (pt_cmpR (op_inD hu) pe_non (pv 3) (by rfl)) (pss_one (ps_ret (pe_and (pe_cmpR op_isN (pv 4) pe_non (nomark _)) (pe_one (pe_call GA hr (by rfl) gA kA bA .nil passL (pa_cons (pv 2) pa_nil)))))) pss_nil)
      (pss_one (ps_ret (pe_and (pe_call GO r2 (by rfl) gO kO bO .nil passL (pa_cons (pv 4) pa_nil)) (pe_and (pe_cmpR (op_eqD hr.units) (pv 4) (pv 3) (nomark _)) (pe_one (pe_not (pe_call GA hr (by rfl) gA kA bA .nil passL (pa_cons (pv 2) pa_nil))))))))))))), ?_⟩
    have nlen : ("\n" : Str).length = 1 := by decide +kernel
    refine ⟨_, rfl, a, ns, 4, rfl, hS, _, _, rfl, rfl, (by show (0 : Int) < 5; decide), _, rfl, ?_⟩
    have m5 : 0 ≤ cellOf ns 4 % 5 := Int.emod_nonneg _ (by decide)
    have m6 : cellOf ns 4 % 5 < 5 := Int.emod_lt_of_pos _ (by decide)
    refine ⟨by omega, by omega, fun D nD => ?_⟩
    refine lc_range (lo := 0) (n := (cellOf ns 4 % 5).toNat) (fun i H' => Same H H' ∧ ∃ zs : List Str, H' D = some (.lst (zs.map V.str)) ∧ zs.length = i ∧ ∀ z ∈ zs, okS z ∧ z.length ≤ 200) ⟨same_upd nD, [], upd_same, rfl, fun z hz => by cases hz⟩ (fun i H' hi hp => ?_) (fun H1 hp => ?_)
    · obtain ⟨sm, zs, hD, hl, hz⟩ := hp
      refine ⟨rfl, yesT ?_⟩
      refine ⟨_, rfl, _, rfl, _, _, rfl, rfl, .inl (by decide), _, _, rfl, rfl, a, ns, 6 + 4 * i, congrArg (fun t : Int => [V.ref a, V.int t]) (show 6 + 4 * (0 + (i : Int)) = ((6 + 4 * i : Nat) : Int) by omega), sm.seq hS, fun H4 z s4 oz lz => ?_⟩
      refine ⟨_, s4 _ _ hD, ?_, same_set (sm.trans s4) nD, zs ++ [z], ?_, ?_, fun x hx => ?_⟩
      · rw [List.length_map, hl]
        exact Nat.lt_of_lt_of_le (show i < 1000 by omega) (by decide)
      · rw [upd_same, List.map_append]
        rfl
      · rw [List.length_append, hl]
        rfl
      · rcases List.mem_append.mp hx with hx | hx
        · exact hz x hx
        · rw [List.mem_singleton.mp hx]
          exact ⟨oz, lz⟩
    · obtain ⟨sm, zs, hD, hl, hz⟩ := hp
      have hS1 := sm.seq hS
      have hsum : (zs.map (·.length)).sum ≤ 200 * zs.length := by
        clear hD hl sm hS1
        induction zs with
        | nil => exact Nat.le_refl _
        | cons b r ih =>
          have h1 := ih fun x hx => hz x (List.mem_cons_of_mem _ hx)
          have h2 := (hz b List.mem_cons_self).2
          rw [List.map_cons, List.sum_cons, List.length_cons]
          omega
      have hj := join_le "\n" zs
      rw [nlen, Nat.mul_one] at hj
      have oj : okS (Txt.join "\n" zs) := join_okS (okSB_ok (by decide +kernel)) zs fun z hz' => (hz z hz').1
      refine ⟨⟨_, rfl⟩, _, rfl, _, D, zs, rfl, rfl, .inl (.inl (.inl hD)), by rw [nlen, Nat.mul_one]; omega, _, rfl, a, ns, 5, rfl, hS1, _, rfl, a, ns, 4, rfl, hS1, _, _, rfl, rfl, ⟨by decide, by decide⟩, _, _, _, rfl, oj, by omega, fun H2 z s2 oz lz => ?_⟩
      have lz : z.length ≤ 900 := by omega
      have s12 := sm.trans s2
      refine ⟨by show 0 ≤ sizeLine; decide, fun U nU => ?_⟩
      have s3 : Same H2 (upd H2 U (.lst [])) := same_upd nU
      refine ⟨fun σ' H' => ∃ (U : Addr) (ys : List V), σ' = [some (.ref a), some (.ref D), some (.str z), some (.ref U), none, none, none] ∧ Same H2 H' ∧ H' U = some (.lst ys) ∧ OptsAt K H' ys (rdAll z), ?_, fun σ' H' hM => ?_⟩
      · refine ⟨_, rfl, rfl, _, rfl, ite2 (fun e => ?_) (fun e => ?_)⟩
        · have ne : z ≠ ("" : Str) := fun h => by
            rw [h] at e
            revert e
            decide +kernel
          have eA : rdAll z = (Txt.split z "\n").map rdRow := if_neg ne
          rw [eA]
          have hps := split_parts (s := 10) (by decide) z
          have hpo := split_ok (s := 10) (by decide) oz
          rw [← blank_is.2] at hps hpo
          obtain ⟨_, hpl, hpn⟩ := hps
          refine ⟨_, rfl, ⟨_, rfl⟩, z, _, rfl, rfl, by decide +kernel, small_line (by omega), fun p np => ⟨p, rfl, ⟨_, .inl (.inl upd_same)⟩, ?_⟩⟩
          generalize Txt.split z "\n" = ps at hpl hpn hpo np ⊢
          have s4 : Same (upd H2 U (.lst [])) (upd (upd H2 U (.lst [])) p (.lst (ps.map V.str))) := same_upd np
          have hP : SqL K (upd (upd H2 U (.lst [])) p (.lst (ps.map V.str))) p (ps.map V.str) := .inl (.inl upd_same)
          have s5 := s3.trans s4
          generalize upd (upd H2 U (.lst [])) p (.lst (ps.map V.str)) = H5 at s5 hP ⊢
          intro B nB
          refine lc_list (K := K) (a := p) (xs := ps.map V.str) (fun i H' => Same H5 H' ∧ ∃ ys, H' B = some (.lst ys) ∧ OptsAt K H' ys ((ps.take i).map rdRow)) ⟨same_upd nB, [], upd_same, rfl, fun i v e => by cases e⟩ (fun i H' _ hp => hp.1.seq hP) (fun i x H' hx hp => ?_) (fun H6 hp => ?_)
          · obtain ⟨sm6, ys, hB, hO⟩ := hp
            rw [List.getElem?_map] at hx
            obtain ⟨l, hl2, rfl⟩ := Option.map_eq_some_iff.mp hx
            have hi : i < ps.length := (List.getElem?_eq_some_iff.mp hl2).1
            refine ⟨rfl, yesT ⟨_, rfl, l, rfl, hpo l (List.mem_of_getElem? hl2), by have := hpl l (List.mem_of_getElem? hl2); omega, fun H7 v s7 hv => ?_⟩⟩
            have hO7 := (hO.same s7).snoc hv
            refine ⟨_, s7 _ _ hB, ?_, same_set (sm6.trans s7) nB, ys ++ [v], upd_same, ?_⟩
            · have := hO.1
              rw [List.length_map, List.length_take] at this
              exact Nat.lt_of_le_of_lt (show ys.length ≤ 1000 by omega) (by decide)
            · rw [take_snoc hl2, List.map_append]
              exact OptsAt.set (noTup (s7 _ _ hB)) hO7
          · obtain ⟨sm6, ys, hB, hO⟩ := hp
            rw [List.take_of_length_le (by rw [List.length_map]; exact Nat.le_refl _)] at hO
            exact ⟨B, ys, rfl, s5.trans sm6, hB, hO⟩
        · have e1 : z = ("" : Str) := by
            by_cases h : z = ("" : Str)
            · exact h
            · exact absurd (show (!decide (V.str z = V.str "")) = true by rw [decide_eq_false fun w => h (V.str.inj w)]; rfl) e
          have eA : rdAll z = [] := if_pos e1
          rw [eA]
          exact ⟨U, [], rfl, s3, upd_same, rfl, fun i v e => by cases e⟩
      · obtain ⟨U, ys, rfl, s3, hU, hO⟩ := hM
        have s13 := s12.trans s3
        have t3 := ht.same s13
        have shp : SeqAt.shaped (.list ((rdAll z).map optData)) = true := shaped_opts (n := z.length + 1) fun r hr => rdAll_is hr
        refine ⟨_, rfl, z, rfl, by omega, t3, fun rs hrs H5 B xs k5 hB hX => ?_, fun hn H5 k5 => ?_⟩
        · have hO5 := hO.kp t3 k5
          have hU5 := k5.at t3 hU fun _ w => by cases w
          rw [hrs] at hO5 shp
          refine ⟨_, rfl, _, _, .non, .lst (.inl (.inl hU5)) (dpOpts hO5), by decide, shp, _, rfl, ?_⟩
          rw [any_no]
          have hw : ∀ r ∈ rs, RowW (z.length + 1) r := fun r hr => rdAll_is (by rw [hrs]; exact List.mem_map.mpr ⟨r, hr, rfl⟩)
          refine iteF ⟨_, rfl, B, xs, rs, rfl, .inl (.inl hB), hX, fun r hr => ⟨(hw r hr).some, by have := (hw r hr).len; omega⟩, fun H6 s6 => ⟨true, rfl, iteT ?_⟩⟩
          have eD : (rs.map some).map optData = rs.map rowData := by
            rw [List.map_map]
            rfl
          rw [eD] at shp
          have dO := dpOpts (hO5.same s6)
          rw [eD] at dO
          have k6 := k5.trans (Kp.same k5.1 s6)
          refine ⟨_, rfl, _, rfl, _, _, .lst (.inl (.inl (s6 _ _ hB))) (dpRows (hX.same s6)), .lst (.inl (.inl (s6 _ _ hU5))) dO, shp, shp, true, ?_, iteT ?_⟩
          · rw [SeqAt.eqv_refl _ (SeqAt.canLay_of_shaped shp)]
          · refine ⟨_, rfl, z, rfl, by omega, k6.1, fun rs' hrs' H7 k7 => ?_, fun hn H7 k7 => ?_⟩
            · exact ⟨_, rfl, q H7⟩
            · exfalso
              rw [hrs] at hn
              obtain ⟨_, _, w⟩ := List.mem_map.mp hn
              cases w
        · have hO5 := hO.kp t3 k5
          have hU5 := k5.at t3 hU fun _ w => by cases w
          refine ⟨_, rfl, _, _, .non, .lst (.inl (.inl hU5)) (dpOpts hO5), by decide, shp, _, rfl, ?_⟩
          rw [any_yes _ hn]
          refine iteT ⟨_, rfl, rfl, true, ?_, iteT ⟨_, rfl, z, rfl, by omega, k5.1, fun rs' hrs' H7 k7 => ?_, fun hn H7 k7 => q H7⟩⟩
          · rw [decide_eq_true rfl]
          · exfalso
            rw [hrs'] at hn
            obtain ⟨_, _, w⟩ := List.mem_map.mp hn
            cases w
end
/-! ### the head: facts by names, the run -/
def dd (x : Str) (i : Nat) : He.DefD := ⟨(x, none), x, x, defArgs (top i), defBody (top i), defScope (top i), [], []⟩
def fn : List He.DefD := [dd "is_sign" 5, dd "is_word" 6, dd "is_row_of_words" 9, dd "read_number" 13, dd "read_words" 14, dd "read_row" 15, dd "read" 16, dd "_law_cell_at" 18, dd "_law_sign_by" 19, dd "_law_word_by" 20, dd "_law_near" 21, dd "_law_menu" 22, dd "_law_whole" 23, dd "_law_texts" 24, dd "_law_rows_told" 25, dd "_law_figures" 26, dd "_law_line" 27, dd "_law_spoilt" 28, dd "_law_number" 29, dd "_law_word" 30, dd "_law_row" 31, dd "_law_tried" 32, dd "_law_any" 33, dd "law" 34]
def fa : List He.Fa := [.glo "is_sign",
  .glo "is_word",
  .glo "is_row_of_words",
  .glo "read_number",
  .glo "read_words",
  .glo "read_row",
  .glo "read",
  .glo "_law_cell_at",
  .glo "_law_sign_by",
  .glo "_law_word_by",
  .glo "_law_near",
  .glo "_law_menu",
  .glo "_law_whole",
  .glo "_law_texts",
  .glo "_law_rows_told",
  .glo "_law_figures",
  .glo "_law_line",
  .glo "_law_spoilt",
  .glo "_law_number",
  .glo "_law_word",
  .glo "_law_row",
  .glo "_law_tried",
  .glo "_law_any",
  .glo "law",
  .int "LONGEST" 40,
  .int "MOST_FIGURES" 9,
  .free "isinstance",
  .free "str",
  .free "all",
  .free "len",
  .free "tuple",
  .free "int",
  .free "range",
  .free "list",
  .free "reversed",
  .free "bool",
  .free "ord",
  .free "ValueError",
  .glo "BLOCK_KINDS",
  .glo "KINDS",
  .glo "NoRow",
  .exc "NoRow",
  .exm "NoRow" "NoRow" true,
  .exm "NoRow" "RedraftError" true,
  .glo "RedraftError"]
def tf : List He.Defn := [("is_word", none), ("is_row_of_words", none)]
def ts : List He.Tab := [(fun K => He.ga K "KINDS", ["=", "-", "+", "<", ">"])]
def kv_KINDS : List (Str × He.Dv) := [("=", .str "keep"), ("-", .str "cut"), ("+", .str "put"), ("<", .str "take"), (">", .str "lay")]
def ex (K : PySem.W.Frag) : Bool := tupB K (He.ga K "BLOCK_KINDS") blockK && He.valsB K (He.ga K "KINDS") kv_KINDS && onlyB K (He.ga K "KINDS") ["=", "-", "+", "<", ">"] && excB K (He.ga K "NoRow")
abbrev R : PySem.W.OpenRow := PySem.W.OpenLaw.row PySem.Challenge.rw_redraft_k12_read
abbrev hk : PySem.W.Hook := He.hookX 4 fa fn ts tf ex
def ob (s : PySem.W.SharedT) : He.AlX := He.obsX 4 fa fn ts tf ex (HandSHeadRun.getT s)
theorem ob_eq (s : PySem.W.SharedT) : ob s = hk.obs s.abs := He.obsX_eq (HandSHeadRun.getT_eq s)
abbrev loose0 : List Str := ["RedraftError", "NoRow", "is_sign", "is_word", "is_row_of_words", "read_number", "read_words", "read_row", "read", "_law_cell_at", "_law_sign_by", "_law_word_by", "_law_near", "_law_menu", "_law_whole", "_law_texts", "_law_rows_told", "_law_figures", "_law_line", "_law_spoilt", "_law_number", "_law_word", "_law_row", "_law_tried", "_law_any", "LONGEST", "BLOCK_KINDS", "KINDS", "MOST_FIGURES"]
abbrev loose : List Str := loose0
theorem run (w : World) : HandSHeadRun.RunEq R (PySem.W.view R.prog [34]) hk ob 4000 loose w := by
  revert w
  exact PySem.W.byRow2 "special-get-raises" (fun w => by
    intro os
    kernel_rfl) (fun w => by
    intro os
    kernel_rfl)
theorem facts {w : World} {h : Heap} {K : PySem.W.Frag} {mg : Str → Option Value} {f : Addr} (X : K.In h) (G : h.Ns mainGlobals mg) (hfa : mg ("law" : Str) = some (.ref f)) (c : He.SaysX fa fn ts tf ex w h K) :
    LamX.LawAtS PySem.Challenge.rw_redraft_k12_read w K (L2.CX PySem.Challenge.rw_redraft_k12_read.prog w) 10 63 "_law_script" mg f h := by
  have d := c.t.d
  obtain ⟨d_is_sign, F_is_sign⟩ := d.def_ 0 (d := dd "is_sign" 5) rfl
  obtain ⟨d_is_word, F_is_word⟩ := d.def_ 1 (d := dd "is_word" 6) rfl
  obtain ⟨d_is_row_of_words, F_is_row_of_words⟩ := d.def_ 2 (d := dd "is_row_of_words" 9) rfl
  obtain ⟨d_read_number, F_read_number⟩ := d.def_ 3 (d := dd "read_number" 13) rfl
  obtain ⟨d_read_words, F_read_words⟩ := d.def_ 4 (d := dd "read_words" 14) rfl
  obtain ⟨d_read_row, F_read_row⟩ := d.def_ 5 (d := dd "read_row" 15) rfl
  obtain ⟨d_read, F_read⟩ := d.def_ 6 (d := dd "read" 16) rfl
  obtain ⟨d__law_cell_at, F__law_cell_at⟩ := d.def_ 7 (d := dd "_law_cell_at" 18) rfl
  obtain ⟨d__law_sign_by, F__law_sign_by⟩ := d.def_ 8 (d := dd "_law_sign_by" 19) rfl
  obtain ⟨d__law_word_by, F__law_word_by⟩ := d.def_ 9 (d := dd "_law_word_by" 20) rfl
  obtain ⟨d__law_near, F__law_near⟩ := d.def_ 10 (d := dd "_law_near" 21) rfl
  obtain ⟨d__law_menu, F__law_menu⟩ := d.def_ 11 (d := dd "_law_menu" 22) rfl
  obtain ⟨d__law_whole, F__law_whole⟩ := d.def_ 12 (d := dd "_law_whole" 23) rfl
  obtain ⟨d__law_texts, F__law_texts⟩ := d.def_ 13 (d := dd "_law_texts" 24) rfl
  obtain ⟨d__law_rows_told, F__law_rows_told⟩ := d.def_ 14 (d := dd "_law_rows_told" 25) rfl
  obtain ⟨d__law_figures, F__law_figures⟩ := d.def_ 15 (d := dd "_law_figures" 26) rfl
  obtain ⟨d__law_line, F__law_line⟩ := d.def_ 16 (d := dd "_law_line" 27) rfl
  obtain ⟨d__law_spoilt, F__law_spoilt⟩ := d.def_ 17 (d := dd "_law_spoilt" 28) rfl
  obtain ⟨d__law_number, F__law_number⟩ := d.def_ 18 (d := dd "_law_number" 29) rfl
  obtain ⟨d__law_word, F__law_word⟩ := d.def_ 19 (d := dd "_law_word" 30) rfl
  obtain ⟨d__law_row, F__law_row⟩ := d.def_ 20 (d := dd "_law_row" 31) rfl
  obtain ⟨d__law_tried, F__law_tried⟩ := d.def_ 21 (d := dd "_law_tried" 32) rfl
  obtain ⟨d__law_any, F__law_any⟩ := d.def_ 22 (d := dd "_law_any" 33) rfl
  obtain ⟨d_law, F_law⟩ := d.def_ 23 (d := dd "law" 34) rfl
  have e := hfa.symm.trans (He.glo_ok X G (d.fact 23 (f := .glo "law") rfl))
  cases e
  have g_is_sign := He.glo_ok X G (d.fact 0 (f := .glo "is_sign") rfl)
  have g_is_word := He.glo_ok X G (d.fact 1 (f := .glo "is_word") rfl)
  have g_is_row_of_words := He.glo_ok X G (d.fact 2 (f := .glo "is_row_of_words") rfl)
  have g_read_number := He.glo_ok X G (d.fact 3 (f := .glo "read_number") rfl)
  have g_read_words := He.glo_ok X G (d.fact 4 (f := .glo "read_words") rfl)
  have g_read_row := He.glo_ok X G (d.fact 5 (f := .glo "read_row") rfl)
  have g_read := He.glo_ok X G (d.fact 6 (f := .glo "read") rfl)
  have g__law_cell_at := He.glo_ok X G (d.fact 7 (f := .glo "_law_cell_at") rfl)
  have g__law_sign_by := He.glo_ok X G (d.fact 8 (f := .glo "_law_sign_by") rfl)
  have g__law_word_by := He.glo_ok X G (d.fact 9 (f := .glo "_law_word_by") rfl)
  have g__law_near := He.glo_ok X G (d.fact 10 (f := .glo "_law_near") rfl)
  have g__law_menu := He.glo_ok X G (d.fact 11 (f := .glo "_law_menu") rfl)
  have g__law_whole := He.glo_ok X G (d.fact 12 (f := .glo "_law_whole") rfl)
  have g__law_texts := He.glo_ok X G (d.fact 13 (f := .glo "_law_texts") rfl)
  have g__law_rows_told := He.glo_ok X G (d.fact 14 (f := .glo "_law_rows_told") rfl)
  have g__law_figures := He.glo_ok X G (d.fact 15 (f := .glo "_law_figures") rfl)
  have g__law_line := He.glo_ok X G (d.fact 16 (f := .glo "_law_line") rfl)
  have g__law_spoilt := He.glo_ok X G (d.fact 17 (f := .glo "_law_spoilt") rfl)
  have g__law_number := He.glo_ok X G (d.fact 18 (f := .glo "_law_number") rfl)
  have g__law_word := He.glo_ok X G (d.fact 19 (f := .glo "_law_word") rfl)
  have g__law_row := He.glo_ok X G (d.fact 20 (f := .glo "_law_row") rfl)
  have g__law_tried := He.glo_ok X G (d.fact 21 (f := .glo "_law_tried") rfl)
  have g__law_any := He.glo_ok X G (d.fact 22 (f := .glo "_law_any") rfl)
  obtain ⟨t_LONGEST, m_LONGEST⟩ := He.int_ok X G (d.fact 24 (f := .int "LONGEST" 40) rfl)
  obtain ⟨t_MOST_FIGURES, m_MOST_FIGURES⟩ := He.int_ok X G (d.fact 25 (f := .int "MOST_FIGURES" 9) rfl)
  have m_isinstance := He.free_ok X G (d.fact 26 (f := .free "isinstance") rfl)
  have m_str := He.free_ok X G (d.fact 27 (f := .free "str") rfl)
  have m_all := He.free_ok X G (d.fact 28 (f := .free "all") rfl)
  have m_len := He.free_ok X G (d.fact 29 (f := .free "len") rfl)
  have m_tuple := He.free_ok X G (d.fact 30 (f := .free "tuple") rfl)
  have m_int := He.free_ok X G (d.fact 31 (f := .free "int") rfl)
  have m_range := He.free_ok X G (d.fact 32 (f := .free "range") rfl)
  have m_list := He.free_ok X G (d.fact 33 (f := .free "list") rfl)
  have m_reversed := He.free_ok X G (d.fact 34 (f := .free "reversed") rfl)
  have m_bool := He.free_ok X G (d.fact 35 (f := .free "bool") rfl)
  have m_ord := He.free_ok X G (d.fact 36 (f := .free "ord") rfl)
  have m_ValueError := He.free_ok X G (d.fact 37 (f := .free "ValueError") rfl)
  have m_BLOCK_KINDS := He.glo_ok X G (d.fact 38 (f := .glo "BLOCK_KINDS") rfl)
  have m_KINDS := He.glo_ok X G (d.fact 39 (f := .glo "KINDS") rfl)
  have m_NoRow := He.glo_ok X G (d.fact 40 (f := .glo "NoRow") rfl)
  have X_NoRow : ExcC K mg "NoRow" (He.ga K "NoRow") := by
    obtain ⟨e1, e2, e3, e4⟩ := He.exc_ok (d.fact 41 (f := .exc "NoRow") rfl)
    exact ⟨m_NoRow, e1, e2, e3, e4⟩
  have E_NoRow_NoRow := He.exm_ok (d.fact 42 (f := .exm "NoRow" "NoRow" true) rfl)
  have E_NoRow_RedraftError := He.exm_ok (d.fact 43 (f := .exm "NoRow" "RedraftError" true) rfl)
  have c_RedraftError := He.glo_ok X G (d.fact 44 (f := .glo "RedraftError") rfl)
  have more := c.more
  unfold ex at more
  simp only [Bool.and_eq_true] at more
  obtain ⟨⟨⟨x_BLOCK_KINDS, y_KINDS⟩, o_KINDS⟩, E1⟩ := more
  have k_BLOCK_KINDS := tupB_ok x_BLOCK_KINDS
  obtain ⟨es_KINDS, n_KINDS, D_KINDS⟩ := c.t.tab 0 (t := (fun K => He.ga K "KINDS", ["=", "-", "+", "<", ">"])) rfl
  have k_KINDS : ∀ q ∈ kv_KINDS, KDct K w (He.ga K "KINDS") q.1 (He.Dv.v K q.2) := fun q hq => by
    obtain ⟨u, h1, h2⟩ := He.valsB_ok y_KINDS hq
    exact ⟨es_KINDS, n_KINDS, u, D_KINDS.at_, D_KINDS.lit, h1, h2⟩
  have b_is_sign : Binds K d_is_sign ["sign"] [] := F_is_sign.bindsN fun _ _ _ _ _ _ us hl => match us, hl with | [_], _ => rfl
  have b_is_word : Binds K d_is_word ["word"] [] := F_is_word.bindsN fun _ _ _ _ _ _ us hl => match us, hl with | [_], _ => rfl
  have b_is_row_of_words : Binds K d_is_row_of_words ["words"] [] := F_is_row_of_words.bindsN fun _ _ _ _ _ _ us hl => match us, hl with | [_], _ => rfl
  have b_read_number : Binds K d_read_number ["figures"] [] := F_read_number.bindsN fun _ _ _ _ _ _ us hl => match us, hl with | [_], _ => rfl
  have b_read_words : Binds K d_read_words ["pieces"] [] := F_read_words.bindsN fun _ _ _ _ _ _ us hl => match us, hl with | [_], _ => rfl
  have b_read_row : Binds K d_read_row ["line"] [] := F_read_row.bindsN fun _ _ _ _ _ _ us hl => match us, hl with | [_], _ => rfl
  have b_read : Binds K d_read ["line"] [] := F_read.bindsN fun _ _ _ _ _ _ us hl => match us, hl with | [_], _ => rfl
  have b__law_cell_at : Binds K d__law_cell_at ["_law_script", "_law_k"] [] := F__law_cell_at.bindsN fun _ _ _ _ _ _ us hl => match us, hl with | [_, _], _ => rfl
  have b__law_sign_by : Binds K d__law_sign_by ["_law_cell"] [] := F__law_sign_by.bindsN fun _ _ _ _ _ _ us hl => match us, hl with | [_], _ => rfl
  have b__law_word_by : Binds K d__law_word_by ["_law_cell"] [] := F__law_word_by.bindsN fun _ _ _ _ _ _ us hl => match us, hl with | [_], _ => rfl
  have b__law_near : Binds K d__law_near ["_law_word_here", "_law_cell"] [] := F__law_near.bindsN fun _ _ _ _ _ _ us hl => match us, hl with | [_, _], _ => rfl
  have b__law_menu : Binds K d__law_menu ["_law_script"] [] := F__law_menu.bindsN fun _ _ _ _ _ _ us hl => match us, hl with | [_], _ => rfl
  have b__law_whole : Binds K d__law_whole ["_law_found"] [] := F__law_whole.bindsN fun _ _ _ _ _ _ us hl => match us, hl with | [_], _ => rfl
  have b__law_texts : Binds K d__law_texts ["_law_found"] [] := F__law_texts.bindsN fun _ _ _ _ _ _ us hl => match us, hl with | [_], _ => rfl
  have b__law_rows_told : Binds K d__law_rows_told ["_law_found"] [] := F__law_rows_told.bindsN fun _ _ _ _ _ _ us hl => match us, hl with | [_], _ => rfl
  have b__law_figures : Binds K d__law_figures ["_law_cell"] [] := F__law_figures.bindsN fun _ _ _ _ _ _ us hl => match us, hl with | [_], _ => rfl
  have b__law_line : Binds K d__law_line ["_law_script", "_law_at"] [] := F__law_line.bindsN fun _ _ _ _ _ _ us hl => match us, hl with | [_, _], _ => rfl
  have b__law_spoilt : Binds K d__law_spoilt ["_law_line_here", "_law_cell", "_law_place"] [] := F__law_spoilt.bindsN fun _ _ _ _ _ _ us hl => match us, hl with | [_, _, _], _ => rfl
  have b__law_number : Binds K d__law_number ["_law_figures_here"] [] := F__law_number.bindsN fun _ _ _ _ _ _ us hl => match us, hl with | [_], _ => rfl
  have b__law_word : Binds K d__law_word ["_law_word_here"] [] := F__law_word.bindsN fun _ _ _ _ _ _ us hl => match us, hl with | [_], _ => rfl
  have b__law_row : Binds K d__law_row ["_law_line_here"] [] := F__law_row.bindsN fun _ _ _ _ _ _ us hl => match us, hl with | [_], _ => rfl
  have b__law_tried : Binds K d__law_tried ["_law_line_here"] [] := F__law_tried.bindsN fun _ _ _ _ _ _ us hl => match us, hl with | [_], _ => rfl
  have b__law_any : Binds K d__law_any ["_law_line_here"] [] := F__law_any.bindsN fun _ _ _ _ _ _ us hl => match us, hl with | [_], _ => rfl
  have bL := FunD.bindsA (ps := ["_law_script"]) F_law fun _ _ _ _ _ _ us hl => match us, hl with | [_], _ => rfl
  have TT : ∀ q ∈ tf, (He.cT K q).2 ∈ tf.map fun q => (He.cT K q).2 := fun q hq => List.mem_map_of_mem (f := fun q => (He.cT K q).2) hq
  refine ⟨d_law, tf.map (He.cT K), spLaw K (tf.map fun q => (He.cT K q).2), fun p hp => ?_, fun p hp => ?_, fun p hp => ?_, fun s u => bL s [u] rfl, fun H a ns hl _ hT hS => ⟨a, ns, rfl, hS, fun P hP => ?_, fun _ => rfl⟩, fun base KB GB TBs => ?_⟩
  · obtain ⟨q, hq, rfl⟩ := List.mem_map.mp hp
    exact c.empty q hq
  · obtain ⟨q, hq, rfl⟩ := List.mem_map.mp hp
    exact c.out q hq
  · obtain ⟨q, hq, rfl⟩ := List.mem_map.mp hp
    exact PySem.W.codeHd_of_K X (c.hd q hq)
  · obtain ⟨q, hq, rfl⟩ := List.mem_map.mp hP
    exact ⟨#[], hT _ (List.mem_map_of_mem hq), trivial⟩
  · have TB : ∀ q ∈ tf, GxR.TabB base mg (He.codeOf K q) (He.cT K q).2 := fun q hq => by
      have tb := TBs _ (List.mem_map_of_mem (f := He.cT K) hq)
      exact ⟨tb.code, tb.bm, tb.gP⟩
    have q_is_word : (("is_word", none) : He.Defn) ∈ tf := by unfold tf; simp
    have q_is_row_of_words : (("is_row_of_words", none) : He.Defn) ∈ tf := by unfold tf; simp
    have kKI : KindAt K w (He.ga K "KINDS") := kind_at ⟨es_KINDS, n_KINDS, D_KINDS⟩ o_KINDS fun z k hz => by
      have key : (z, He.Dv.str k) ∈ kv_KINDS := by
        unfold kv_KINDS
        rcases hz with ⟨rfl, rfl⟩ | ⟨rfl, rfl⟩ | ⟨rfl, rfl⟩ | ⟨rfl, rfl⟩ | ⟨rfl, rfl⟩
        · exact .head _
        · exact .tail _ (.head _)
        · exact .tail _ (.tail _ (.head _))
        · exact .tail _ (.tail _ (.tail _ (.head _)))
        · exact .tail _ (.tail _ (.tail _ (.tail _ (.head _))))
      exact k_KINDS _ key
    have GW := ok_is_word (P := PySem.Challenge.rw_redraft_k12_read.prog) (w := w) (mg := mg) (base := base) F_is_word rfl (TT _ q_is_word) (TB _ q_is_word) F_is_sign b_is_sign g_is_sign m_isinstance m_str m_len m_all m_LONGEST
    have GWX := ok_is_wordX (P := PySem.Challenge.rw_redraft_k12_read.prog) (w := w) (mg := mg) (base := base) F_is_word rfl (TT _ q_is_word) (TB _ q_is_word) F_is_sign b_is_sign g_is_sign m_isinstance m_str m_len m_all m_LONGEST
    have GRWX := ok_row_wordsX F_is_row_of_words rfl (TT _ q_is_row_of_words) (TB _ q_is_row_of_words) GWX F_is_word.kp b_is_word g_is_word m_isinstance m_tuple m_len m_all
    have GRN := ok_read_number (P := PySem.Challenge.rw_redraft_k12_read.prog) (w := w) (mg := mg) (base := base) F_read_number X_NoRow m_len m_int m_MOST_FIGURES
    have GRWd := ok_read_words F_read_words GRWX F_is_row_of_words.kp b_is_row_of_words g_is_row_of_words X_NoRow m_tuple
    have GRR := ok_read_row F_read_row GRN F_read_number.kp b_read_number g_read_number GRWd F_read_words.kp b_read_words g_read_words X_NoRow m_len m_KINDS kKI m_BLOCK_KINDS k_BLOCK_KINDS
    have GCe := ok_cell_at (P := PySem.Challenge.rw_redraft_k12_read.prog) (w := w) (mg := mg) (base := base) F__law_cell_at m_len
    have GS := ok_sign_by (P := PySem.Challenge.rw_redraft_k12_read.prog) (w := w) (mg := mg) (base := base) F__law_sign_by
    have GWB := ok_word_by (P := PySem.Challenge.rw_redraft_k12_read.prog) (w := w) (mg := mg) (base := base) F__law_word_by F__law_sign_by b__law_sign_by g__law_sign_by m_range
    have GNe := ok_near F__law_near GS F__law_sign_by.kp b__law_sign_by g__law_sign_by m_len m_list m_reversed
    have GM := ok_menu F__law_menu GCe F__law_cell_at.kp b__law_cell_at g__law_cell_at GWB F__law_word_by.kp b__law_word_by g__law_word_by GNe F__law_near.kp b__law_near g__law_near m_range
    have GWh := ok_whole (P := PySem.Challenge.rw_redraft_k12_read.prog) (w := w) (mg := mg) (base := base) F__law_whole m_isinstance m_int m_bool
    have GRT := ok_rows_told F__law_rows_told GWh F__law_whole.kp b__law_whole g__law_whole (ok_texts F__law_texts m_isinstance m_str m_all) F__law_texts.kp b__law_texts g__law_texts m_isinstance m_str m_list m_tuple m_len
    
    have GRd := ok_readX F_read GRR F_read_row.kp b_read_row g_read_row m_isinstance m_str
    have GNu := ok_law_number (P := PySem.Challenge.rw_redraft_k12_read.prog) (w := w) (mg := mg) (base := base) F__law_number m_len m_int
    have GWo := ok_law_word (P := PySem.Challenge.rw_redraft_k12_read.prog) (w := w) (mg := mg) (base := base) F__law_word m_len m_all m_ord
    have GRo := ok_law_row F__law_row GNu F__law_number.kp b__law_number g__law_number GWo F__law_word.kp b__law_word g__law_word m_all m_tuple
    have GFi := ok_figures (P := PySem.Challenge.rw_redraft_k12_read.prog) (w := w) (mg := mg) (base := base) F__law_figures
    have GLi := ok_law_line F__law_line GCe F__law_cell_at.kp b__law_cell_at g__law_cell_at GM F__law_menu.kp b__law_menu g__law_menu GFi F__law_figures.kp b__law_figures g__law_figures m_range m_int
    have GSp := ok_spoilt (P := PySem.Challenge.rw_redraft_k12_read.prog) (w := w) (mg := mg) (base := base) F__law_spoilt m_len
    have GTr := ok_tried F__law_tried GRd F_read.kp b_read g_read X_NoRow.g E_NoRow_NoRow
    have GAn := ok_any F__law_any GRd F_read.kp b_read g_read c_RedraftError E_NoRow_RedraftError (excB_ok E1).1 (excB_ok E1).2 m_isinstance m_ValueError
    exact ok_law F_law GCe F__law_cell_at.kp b__law_cell_at g__law_cell_at GLi F__law_line.kp b__law_line g__law_line GSp F__law_spoilt.kp b__law_spoilt g__law_spoilt GRo F__law_row.kp b__law_row g__law_row GTr F__law_tried.kp b__law_tried g__law_tried GAn F__law_any.kp b__law_any g__law_any GRT F__law_rows_told.kp b__law_rows_told g__law_rows_told m_range
end Rd
open PySem PySem.W PySem.Calls PyProof.Rows
set_option maxHeartbeats 0 in
theorem PySem.Challenge.cw_redraft_k12_read_holds : PySem.Challenge.rw_redraft_k12_read.Holds := by
  w_on; o_law
  refine HandSHeadRun.head_any (r := OpenLaw.row PySem.Challenge.rw_redraft_k12_read) (q := view (OpenLaw.row PySem.Challenge.rw_redraft_k12_read).prog [34]) (H := Rd.hk) (ob := Rd.ob) (M := 4000) (loose := Rd.loose) (d := HandSHeadRun.topDef (OpenLaw.row PySem.Challenge.rw_redraft_k12_read).prog 34) (kwd := []) Rd.ob_eq
    (by kernel_rfl) (fun s => by kernel_rfl) Rd.run (by kernel_rfl) (by kernel_rfl) (by kernel_rfl) (by rfl) (by first | assumption | decide +kernel) (by decide +kernel) ⟨rfl, rfl, rfl, rfl, rfl, by decide +kernel⟩ ?hw ?hc
  case hw => w_witness2
  case hc =>
    refine LamX.walk_ofTsE (l := PySem.Challenge.rw_redraft_k12_read) (n := 63) (k := 10) (x := "_law_script") (CX := fun w => L2.CX PySem.Challenge.rw_redraft_k12_read.prog w) rfl (by decide) (by kernel_rfl) ⟨rfl, by decide, by decide⟩ ?F fun w H s e s' z => ?z
    case z =>
      obtain ⟨_, _, _, _, _, _, _, _, _, _, _, _, z⟩ := z
      exact z
    case F =>
      intro w mg fa h Y G hmg0
      obtain ⟨K, KX, c⟩ := Y
      have hmg : mg ("law" : PySem.Str) = some (.ref fa) := by
        have e : (HandSHeadRun.topDef (OpenLaw.row PySem.Challenge.rw_redraft_k12_read).prog 34).name = ("law" : PySem.Str) := by kernel_rfl
        rw [← e]
        exact hmg0
      exact ⟨K, KX, Rd.facts KX G hmg c⟩

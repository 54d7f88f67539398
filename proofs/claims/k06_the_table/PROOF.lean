import PyProof.Rows.All
import Wide.All
import OpenK.AllK
import Wide.FinOn
import HandS.ForMost
import HandS.ForExc
import HandS.AnyAll
import HandS.GenOver
import HandS.GenList
import HandS.More
import HandS.Defaults
import HandS.HeadHook4
import HandS.IsInst
import HandS.Iter
import HandS.Text
import HandS.Rev
import HandS.RevTup
import HandS.Head0
import HandS.Head1
import HandS.Head2
import HandS.HeadEnd
import HandS.HeadHook1
import HandS.HeadHook2
import HandS.HeadHook3
import HandS.HeadWalk
import HandS.LawCells
import HandS.Codes
import PySem.Challenge.RW_redraft_k06_the_table
set_option Elab.async false
set_option linter.all false
set_option maxRecDepth 100000
set_option maxHeartbeats 4000000
/-! all(elt for x in iter if ..), any(..): the element any expression that the layer reads (calls of defs, too), the walked thing any that the layer walks -/
namespace Rd
open PySem PySem.Spec PyProof.Rows L2 GxR

/-- the frame of a generator expression of X, made at s -/
abbrev gcx (X : Cx) (s : Shared) (H : Hp) (sc : Scope) (ce : Env) (fp : List Addr) (a : Addr) (o : Obj) (B : Around) : Cx :=
  { X with A := B, s_0 := s, H_0 := H, env := ce, outer := X.stack, stack := ce :: X.stack, ex := fp, fn := fun x => sc.names.lookup x == some .cell, calm := true, pn := [(a, o)], xe := fun _ _ => False }

theorem not_in_frs {X : Cx} {pins : List (Addr × Obj)} {σ : L2.St} {H : Hp} {s : Shared} (I : Inv X pins σ H s) {b : Addr} (hb : s.heap.objs.size ≤ b) : b ∉ frs X.stack := fun hm => by
  obtain ⟨_, o, ho, _⟩ := I.stack.mem hm
  exact Nat.lt_irrefl _ (Nat.lt_of_lt_of_le (Heap.lt_size ho) hb)

theorem gen_start {X : Cx} {pins : List (Addr × Obj)} {σ : L2.St} {H : Hp} {s s' : Shared} {sc : Scope} {own : List (Str × Nat)} {fp : List Addr} {ce : Env} {a : Addr} {o : Obj} {B : Around}
    (I : Inv X pins σ H s) (ok : BlkOk X.N X.env.scope sc own) (nc : ∀ y ∈ sc.names, y.2 ≠ .cell) (hN : X.N.Nodup) (hfp : ∀ b ∈ fp, FpOk X pins H b ∧ b < s.heap.objs.size)
    (e1 : ce.scope = sc) (e2 : ce.locals = s.heap.objs.size) (e3 : ce.globals = X.env.globals) (e4 : ce.builtins = builtinsNs) (e5 : ce.cells = cloFrom X.env.cells sc.names []) (e6 : ce.frame = some s.heap.objs.size)
    (hB : B.frames = some (ce :: X.stack)) (hh : B.handled = none)
    (os : s'.os = s.os) (gb : AllBare s'.gens) (kp : ∀ b u, s.heap.get? b = some u → s'.heap.get? b = some u) (ns : ∃ m, s'.heap.Ns s.heap.objs.size m) (ha : s'.heap.get? a = some o) (hlt : s.heap.objs.size < a) (hod : ∀ v, o.data ≠ .cell v) :
    Inv (gcx X s H sc ce fp a o B) [] (wipe σ (own.map (·.2))) H s' := by
  have nocell : ∀ y, sc.names.lookup y ≠ some .cell := fun y z => nc _ (PySem.mem_of_lookup z) rfl
  have clo : ∀ {y c}, ce.cells.lookup y = some c → X.env.cells.lookup y = some c ∧ c < s.heap.objs.size := fun {y c} e => by
    rw [e5] at e
    rcases cloFrom_mem (PySem.mem_of_lookup e) with hm | ⟨hy, rfl⟩
    · cases hm
    · have h1 : ∃ c, X.env.cells.lookup y = some c := by
        rcases ok.free _ hy rfl with k | k
        · exact I.ok.has _ (.inl k)
        · exact I.ok.has _ (.inr k)
      obtain ⟨c1, h2⟩ := h1
      rw [h2]
      obtain ⟨v, z⟩ := I.cell _ _ h2
      exact ⟨rfl, z.lt⟩
  have has : ∀ {y}, sc.names.lookup y = some .free → ∃ c, ce.cells.lookup y = some c := fun {y} hy => by
    obtain ⟨c, hc⟩ := mem_lookup (cloFrom_has (cells := X.env.cells) (acc := []) (PySem.mem_of_lookup hy))
    exact ⟨c, by rw [e5]; exact hc⟩
  have okB : (gcx X s H sc ce fp a o B).Ok := by
    refine ⟨I.ok.mod, ?_, ?_, e4, ?_, fun y z c h1 h2 => I.ok.inj y z c (clo h1).1 (clo h2).1, fun y hy => ?_, fun y c z _ => ?_, fun _ => hh, hB, .inr ⟨rfl, ?_⟩, fun b hb => ⟨?_, fun y c e z => ?_⟩, I.bs, Nat.le_trans I.ok.bsz I.sz, fun b u e hb => ?_, fun b hb z => ?_, I.stack, I.stkFree⟩
    · show ce.scope.kind = _
      rw [e1]
      exact ok.kind
    · show ce.globals = _
      rw [e3]
      exact I.ok.glob
    · show s.heap.objs.size ≤ ce.locals
      rw [e2]
      exact Nat.le_refl _
    · show ∃ c, ce.cells.lookup y = some c
      rcases hy with hy | hy
      · have hy : ce.scope.names.lookup y = some .cell := hy
        rw [e1] at hy
        exact absurd hy (nocell y)
      · have hy : ce.scope.names.lookup y = some .free := hy
        rw [e1] at hy
        exact has hy
    · have z : (sc.names.lookup y == some NameKind.cell) = true := z
      exact absurd (by simpa using z) (nocell y)
    · show ce.frame = some ce.locals
      rw [e6, e2]
    · show b ≠ ce.locals
      rw [e2]
      exact Nat.ne_of_lt (hfp b hb).2
    · exact (hfp b hb).1.2.2.2.2.1 y c (clo e).1 z
    · rcases (hfp b hb).1.2.2.2.1 with z | z
      · exact I.ok.noex b u e z
      · exact absurd (Nat.lt_of_lt_of_le (Heap.lt_size e) (Nat.le_trans I.ok.bsz z)) (Nat.lt_irrefl _)
    · rcases List.mem_cons.mp (I.stkSub b z) with z | z
      · exact (hfp b hb).1.2.1 z
      · exact (hfp b hb).1.2.2.1 z
  obtain ⟨m1, hm1⟩ := ns
  refine ⟨okB, os, gb, Un.kept kp, ⟨m1, ?_, fun i y av q1 q2 q3 => ?_⟩, fun y c e => ?_, ?_, fun y c e => I.freeC y c (clo e).1, fun p hp => ?_, I.hok.kept kp, by rw [wipe_length]; exact I.len⟩
  · show Heap.Ns _ ce.locals _
    rw [e2]
    exact hm1
  · obtain ⟨q2, hne⟩ := wipe_some q2
    have q3 : Vis ce.scope y := q3
    rw [e1] at q3
    have q1 : X.N[i]? = some y := q1
    have no : ∀ k, sc.names.lookup y = some k → k = .local ∨ k = .cell → False := fun k e hk => by
      rcases ok.own _ (PySem.mem_of_lookup e) hk with z | z
      · obtain ⟨p, hp, hpy⟩ := List.mem_map.mp z
        have z2 := ok.ix p hp
        have hpy : p.1 = y := hpy
        rw [hpy] at z2
        exact hne (List.mem_map.mpr ⟨p, hp, nodup_ix hN z2 q1⟩)
      · exact z (List.mem_of_getElem? q1)
    have hf : sc.names.lookup y = some .free := by
      rcases q3 with z | z | z
      · exact (no _ z (.inl rfl)).elim
      · exact (no _ z (.inr rfl)).elim
      · exact z
    obtain ⟨m, hn, hl⟩ := I.loc
    have hk := ok.free _ (PySem.mem_of_lookup hf) rfl
    obtain ⟨u, r, q⟩ := hl i y av q1 q2 (hk.elim (fun k => .inr (.inl k)) fun k => .inr (.inr k))
    refine ⟨u, r, .inr ⟨.inr ?_, ?_⟩⟩
    · show ce.scope.names.lookup y = some .free
      rw [e1]
      exact hf
    · obtain ⟨c, hc⟩ := has hf
      rcases q with ⟨k, _⟩ | ⟨_, c', e', z⟩
      · have k : X.env.scope.names.lookup y = some .local := k
        rcases hk with hk | hk <;> rw [show X.env.scope.names.lookup y = _ from hk] at k <;> cases k
      · have hc' := (clo hc).1
        rw [hc'] at e'
        cases e'
        exact ⟨c, hc, z.keeps kp⟩
  · obtain ⟨v, z⟩ := I.cell y c (clo e).1
    exact ⟨v, z.keeps kp⟩
  · show H ce.locals = none
    rw [e2]
    exact I.hok.fresh (Nat.le_refl _)
  · have hp : p = (a, o) := by simpa using hp
    subst hp
    refine ⟨ha, I.hok.fresh (Nat.le_of_lt hlt), ?_, not_in_frs I (Nat.le_of_lt hlt), hod⟩
    show a ≠ ce.locals
    rw [e2]
    exact Nat.ne_of_gt hlt

theorem inv_gens {X : Cx} {pins : List (Addr × Obj)} {σ : L2.St} {H : Hp} {s : Shared} {G : Array GenState} (I : Inv X pins σ H s) (hG : AllBare G) : Inv X pins σ H { s with gens := G } :=
  ⟨I.ok, I.os, hG, I.base, I.loc, I.cell, I.free, I.freeC, I.pin, I.hok, I.len⟩

/-- the reading: J what is walked, k the answer that goes on (True for all, False for any) -/
def tGen (k : Bool) (P : Addr) (wi : TI) (g : TG) (tt : TT) (te : TE) (vs : List Nat) : TE := fun σ H Q => wi σ H fun J H1 => TabG H1 P ∧ ∀ H2, Tabbed P H1 H2 →
  ∃ W : Nat → Nat → Hp → Prop, (∃ m, W 0 m H2) ∧ ∀ i m H, W i m H →
    (J.stop i H ∧ Q (.bl k) H) ∨ (J.go i H ∧ ∃ Nx : Hp → Prop, (∀ H', Nx H' → ∃ m', m' < m ∧ W (i + 1) m' H') ∧ ∀ x H', J.yld i H x H' → g x (wipe σ vs) H' fun σ2 H2 => wipe σ2 vs = wipe σ vs ∧ tt σ2 H2 fun b H3 =>
      if b = true then te σ2 H3 fun y H4 => ∃ c, y = .bl c ∧ (c = k → Nx H4) ∧ (c = (!k) → Q (.bl (!k)) H4) else Nx H3)

/-- the answer is known -/
def Fin (X : Cx) (pins : List (Addr × Obj)) (σ : L2.St) (Q : VK) (b : Bool) (s : Shared) : Prop := ∃ H, Inv X pins σ H s ∧ Q (.bl b) H
theorem Fin.gens {X : Cx} {pins : List (Addr × Obj)} {σ : L2.St} {Q : VK} {b : Bool} {s : Shared} {G : Array GenState} (h : Fin X pins σ Q b s) (hG : AllBare G) : Fin X pins σ Q b { s with gens := G } :=
  let ⟨H, I, q⟩ := h; ⟨H, inv_gens I hG, q⟩
theorem Fin.kept {X : Cx} {pins : List (Addr × Obj)} {σ : L2.St} {Q : VK} {b : Bool} {s : Shared} {h' : Heap} (h : Fin X pins σ Q b s) (k : ∀ c u, s.heap.get? c = some u → h'.get? c = some u) : Fin X pins σ Q b { s with heap := h' } :=
  let ⟨H, I, q⟩ := h; ⟨H, I.kept (t' := s.toks) k, q⟩
/-- the generator's end -/
abbrev GR1 (X : Cx) (pins : List (Addr × Obj)) (σ : L2.St) (Q : VK) (k : Bool) : GenEnd := fun _ _ r s => r = .ok .next ∧ (AllBare s.gens ∧ Fin X pins σ Q k s)
/-- an item comes out -/
abbrev GY1 (X : Cx) (pins : List (Addr × Obj)) (σ : L2.St) (Q : VK) (k : Bool) (a : Addr) (g : Nat) : Protocol := fun _ _ v s kap =>
  ∃ b, v = .bool b ∧ s.heap.IsGen a g ∧ s.heap.NoLimit ∧ AllBare s.gens ∧ (b = (!k) → Fin X pins σ Q (!k) s) ∧ (b = k → ∀ G, AllBare G → kap (.send .none) { s with gens := G })
/-- a generator that is to be asked -/
def Live (X : Cx) (pins : List (Addr × Obj)) (σ : L2.St) (Q : VK) (k : Bool) (a : Addr) (g n : Nat) (s : Shared) : Prop :=
  s.heap.IsGen a g ∧ s.heap.NoLimit ∧ AllBare s.gens ∧ ∃ gs, s.gens[g]? = some gs ∧ gs.Goes (model X.prog X.w) X.A.in1.in1 (GR1 X pins σ Q k) (GY1 X pins σ Q k a g) n (.send .none) (s.setGen g .running)

section
variable {X : Cx} {pins : List (Addr × Obj)} {σ : L2.St} {Q : VK} {a : Addr} {g : Nat}
/-- what a step of the consumer finds -/
theorem next_live {k : Bool} {n : Nat} {s : Shared} {Q' : Option Value → Shared → Prop} {E : Value → Shared → Prop} (hh : X.A.handled = none) (hd : X.A.depth < recursionLimit) (h : Live X pins σ Q k a g n s)
    (hy : ∀ (b : Bool) (s' : Shared), (b = (!k) → Fin X pins σ Q (!k) s') → (b = k → ∃ m, m < n ∧ Live X pins σ Q k a g m s') → Q' (some (.bool b)) s') (he : ∀ s', Fin X pins σ Q k s' → Q' none s') :
    wpAny (model X.prog X.w) X.A.in1 (pyNext (.ref a)) Q' E s := by
  obtain ⟨hg, hl, hb0, gs, hgs, hgo⟩ := h
  have hgl : g < s.gens.size := (Array.getElem?_eq_some_iff.mp hgs).1
  refine GenW.wpAny_gsz (n := g + 1) hgl (wpAny_pyNext_genexpQ (A := X.A.in1) (P := fun _ _ s => AllBare s.gens ∧ Fin X pins σ Q k s) hh hl hd hg hgs hgo (fun v s1 gs1 hbare hv => ?_) fun s1 hp h1 hk => ?_)
  · intro hsz
    obtain ⟨b, rfl, hg1, hl1, hb1, q1, q2⟩ := hv
    have hG : AllBare (s1.setGen g gs1).gens := allBare_setGen hb1 hbare
    have es : s1.setGen g gs1 = { s1 with gens := (s1.setGen g gs1).gens } := rfl
    refine hy b _ (fun e => by rw [es]; exact (q1 e).gens hG) fun e => ?_
    have hsz1 : g < s1.gens.size := by
      have z : (s1.setGen g gs1).gens.size = s1.gens.size := GenW.setGen_size _ _ _
      have z2 : g + 1 ≤ (s1.setGen g gs1).gens.size := hsz
      omega
    cases n with
    | zero => exact False.elim (q2 e s1.gens hb1)
    | succ m =>
      refine ⟨m, Nat.lt_succ_self m, hg1, hl1, hG, gs1, setGen_at hsz1, ?_⟩
      exact q2 e ((s1.setGen g gs1).setGen g .running).gens (allBare_setGen hG rfl)
  · intro _
    have z := (Fin.gens (G := (s1.setGen g .finished).gens) hp.2 (allBare_setGen hp.1 rfl)).kept hk
    exact he _ z

theorem all_loop {R : Result → Shared → Prop} (hh : X.A.handled = none) (hd : X.A.depth < recursionLimit) (hR : ∀ b s, Fin X pins σ Q b s → R (.ok (.ret (.bool b))) s) :
    ∀ (n : Nat) (s : Shared), Live X pins σ Q true a g n s → codeAny (model X.prog X.w) X.A (.builtin "all.loop" ⟨[.ref a], []⟩) R s := by
  intro n
  induction n using Nat.strongRecOn with
  | ind n ih =>
    intro s h
    refine codeAny_builtin F.entry_all_loop ?_
    rw [Around.under_plainId F.plain_all_loop _]
    show wpAny _ X.A.in1 (pyNext (.ref a) >>= _) _ _ s
    refine wpAny_bind (next_live hh hd h (fun b s1 q1 q2 => ?_) fun s1 q => ?_)
    · refine wpAny_bind (wpAny_holding (wpAny_truthy_bool ?_))
      refine wpAny_bind (wpAny_letGo ?_)
      cases b with
      | true =>
        simp only [if_true]
        obtain ⟨m, hm, hL⟩ := q2 rfl
        exact wpAny_pure ⟨plainId_quiet F.plain_all_loop _, ih m hm _ hL⟩
      | false =>
        simp only [Bool.false_eq_true, if_false]
        exact wpAny_bind (wpAny_rule (wpAny_pure (hR _ _ (q1 rfl))))
    · exact wpAny_bind (wpAny_rule (wpAny_pure (hR _ _ q)))
theorem any_loop {R : Result → Shared → Prop} (hh : X.A.handled = none) (hd : X.A.depth < recursionLimit) (hR : ∀ b s, Fin X pins σ Q b s → R (.ok (.ret (.bool b))) s) :
    ∀ (n : Nat) (s : Shared), Live X pins σ Q false a g n s → codeAny (model X.prog X.w) X.A (.builtin "any.loop" ⟨[.ref a], []⟩) R s := by
  intro n
  induction n using Nat.strongRecOn with
  | ind n ih =>
    intro s h
    refine codeAny_builtin F.entry_any_loop ?_
    rw [Around.under_plainId F.plain_any_loop _]
    show wpAny _ X.A.in1 (pyNext (.ref a) >>= _) _ _ s
    refine wpAny_bind (next_live hh hd h (fun b s1 q1 q2 => ?_) fun s1 q => ?_)
    · refine wpAny_bind (wpAny_holding (wpAny_truthy_bool ?_))
      refine wpAny_bind (wpAny_letGo ?_)
      cases b with
      | false =>
        simp only [Bool.false_eq_true, if_false]
        obtain ⟨m, hm, hL⟩ := q2 rfl
        exact wpAny_pure ⟨plainId_quiet F.plain_any_loop _, ih m hm _ hL⟩
      | true =>
        simp only [if_true]
        exact wpAny_bind (wpAny_rule (wpAny_pure (hR _ _ (q1 rfl))))
    · exact wpAny_bind (wpAny_rule (wpAny_pure (hR _ _ q)))
theorem call_all_live {n : Nat} {s : Shared} {Q' : Value → Shared → Prop} {E : Value → Shared → Prop} (hh : X.A.handled = none) (hd : X.A.depth < recursionLimit) (h : Live X pins σ Q true a g n s) (hQ : ∀ b s', Fin X pins σ Q b s' → Q' (.bool b) s') :
    wpAny (model X.prog X.w) X.A (call (.builtin "all") [.ref a]) Q' E s := by
  refine call_function_tree F.kind_all F.plain_all F.entry_all (F.args_all1 _) ?_
  unfold Builtin.«all»
  refine wpAny_bind (m := oneArg "all" _) (wpAny_pure ?_)
  refine wpAny_bind (wpAny_pyIter_gen h.1 ?_)
  exact wpAny_pure ⟨plainId_quiet F.plain_all_loop _, all_loop hh hd (fun b s' q => hQ b s' q) n s h⟩
theorem call_any_live {n : Nat} {s : Shared} {Q' : Value → Shared → Prop} {E : Value → Shared → Prop} (hh : X.A.handled = none) (hd : X.A.depth < recursionLimit) (h : Live X pins σ Q false a g n s) (hQ : ∀ b s', Fin X pins σ Q b s' → Q' (.bool b) s') :
    wpAny (model X.prog X.w) X.A (call (.builtin "any") [.ref a]) Q' E s := by
  refine call_function_tree F.kind_any F.plain_any F.entry_any (F.args_any1 _) ?_
  unfold Builtin.«any»
  refine wpAny_bind (m := oneArg "any" _) (wpAny_pure ?_)
  refine wpAny_bind (wpAny_pyIter_gen h.1 ?_)
  exact wpAny_pure ⟨plainId_quiet F.plain_any_loop _, any_loop hh hd (fun b s' q => hQ b s' q) n s h⟩
end

/-! ### the generator's own turns -/
theorem mono_no {α : Type} {t : Sem α} {Q Q' : α → Shared → Prop} {M : Model} {A : Around} {E : Value → Shared → Prop} {s : Shared} (h : wpAny M A t Q (fun _ _ => False) s) (hQ : ∀ a s, Q a s → Q' a s) : wpAny M A t Q' E s :=
  wpAny_mono h hQ fun _ _ z => False.elim z

section
variable {X : Cx} {pins : List (Addr × Obj)} {σ : L2.St} {Q : VK} {k : Bool} {a : Addr} {g : Nat} {o : Obj} {s4 : Shared} {H3 : Hp} {sc : Scope} {own : List (Str × Nat)} {ce : Env} {fp : List Addr} {it : Addr} {tn : Nat → Heap → Prop} {J : It} {B : Around}
  {elt tg iter : Expr} {ifs : List Expr} {pos : Pos} {gt : TG} {tt : TT} {te : TE} {W : Nat → Nat → Hp → Prop}
theorem gen_turns (hB : B = X.A.in1.in1.over (.compLoop (.GeneratorExp elt [⟨tg, iter, ifs, 0⟩] sc pos) 0 (.ref it) .none ce) []) (hco : ce.scope.isCoroutine = false)
    (I4 : Inv X pins σ H3 s4) (T : Turn X.prog X.w X.K tg J fp it tn) (ffp : ∀ b ∈ fp, FpOk X pins H3 b) (hafp : ∀ b ∈ fp, b ≠ a) (hgo : ∃ nm qn, o.cls = .type "generator" ∧ o.data = .fields #[.int g 0, nm, qn] ∧ o.slots = #[])
    (pg : PG (gcx X s4 H3 sc ce fp a o B) tg gt) (pt : PTs (gcx X s4 H3 sc ce fp a o B) ifs tt) (pe : PE (gcx X s4 H3 sc ce fp a o B) elt te)
    (turn : ∀ i m H, W i m H → (J.stop i H ∧ Q (.bl k) H) ∨ (J.go i H ∧ ∃ Nx : Hp → Prop, (∀ H', Nx H' → ∃ m', m' < m ∧ W (i + 1) m' H') ∧ ∀ x H', J.yld i H x H' → gt x (wipe σ (own.map (·.2))) H' fun σ2 H2 => wipe σ2 (own.map (·.2)) = wipe σ (own.map (·.2)) ∧ tt σ2 H2 fun b H3 =>
      if b = true then te σ2 H3 fun y H4 => ∃ c, y = .bl c ∧ (c = k → Nx H4) ∧ (c = (!k) → Q (.bl (!k)) H4) else Nx H3)) :
    ∀ (m n i : Nat) (s0 s : Shared) (H : Hp), m < n → Inv (gcx X s4 H3 sc ce fp a o B) [] (wipe σ (own.map (·.2))) H s → tn i s.heap → (∀ b ∈ fp, H b = none) → W i m H →
      Seg (model X.prog X.w) X.A.in1.in1 (GR1 X pins σ Q k) (GY1 X pins σ Q k a g) n s0 (.compLoop (.GeneratorExp elt [⟨tg, iter, ifs, 0⟩] sc pos) 0 (.ref it) .none ce)
        ((model X.prog X.w).den (.compLoop (.GeneratorExp elt [⟨tg, iter, ifs, 0⟩] sc pos) 0 (.ref it) .none ce)) [] s := by
  have stat : ∀ {σ' : L2.St} {H' : Hp} {s' : Shared}, Inv (gcx X s4 H3 sc ce fp a o B) [] σ' H' s' → (∀ b ∈ fp, H' b = none) → ∀ b ∈ fp, FpOk (gcx X s4 H3 sc ce fp a o B) [] H' b := fun {σ' H' s'} I' hn b hb =>
    ⟨hn b hb, (I'.ok.exf b hb).1, I'.ok.exfs b hb, .inl hb, fun x c e => (I'.ok.exf b hb).2 x c e, fun p hp z => by
      have hp : p = (a, o) := by simpa using hp
      subst hp
      exact hafp b hb z.symm⟩
  -- back in the def's context
  have back : ∀ {σ' : L2.St} {H' : Hp} {s' : Shared} {ps : List (Addr × Obj)}, Inv (gcx X s4 H3 sc ce fp a o B) ps σ' H' s' → Inv X pins σ H' s' := fun {σ' H' s' ps} I6 =>
    I4.call' (ch := fp) I6.os I6.base I6.hok I6.bare fun b hb => ⟨(ffp b hb).2.2.2.1, (ffp b hb).2.1, (ffp b hb).2.2.2.2.1, (ffp b hb).2.2.2.2.2⟩
  have isg : ∀ {σ' : L2.St} {H' : Hp} {s' : Shared} {ps : List (Addr × Obj)}, Inv (gcx X s4 H3 sc ce fp a o B) ps σ' H' s' → s'.heap.IsGen a g := fun {σ' H' s' ps} I6 => by
    obtain ⟨nm, qn, h1, h2, h3⟩ := hgo
    exact ⟨o, nm, qn, (I6.pin (a, o) (by simp)).1, h1, h2, h3⟩
  have hy : ∀ v, yieldOut ce v = yieldValue v := fun v => by simp only [yieldOut, hco, Bool.false_eq_true, if_false]
  intro m
  induction m using Nat.strongRecOn with
  | ind m ih =>
    intro n i s0 s H hmn I st nf w
    show Seg _ X.A.in1.in1 _ _ _ s0 _ ((compTurn (.GeneratorExp elt [⟨tg, iter, ifs, 0⟩] sc pos) 0 (.ref it) .none ce).onRaise (leaving ce)) [] s
    rw [compTurn_gen, Sem.onRaise_eq_wrap]
    refine seg_bind_wrap (wpAny_standAt ?_)
    rcases turn i m H w with ⟨stop, q⟩ | ⟨go, Nx, hNx, step⟩
    · refine seg_bind_wrap ?_
      rw [← hB]
      refine mono_no (T.done (gcx X s4 H3 sc ce fp a o B) rfl rfl rfl rfl i [] s _ H (fun _ _ => False) I (stat I nf) st stop) fun r s6 hr => ?_
      obtain ⟨hr, I6⟩ := hr
      subst hr
      exact seg_end (.ok .next) ⟨rfl, I6.bare, H, back I6, q⟩
    · refine seg_bind_wrap ?_
      rw [← hB]
      refine mono_no (T.item (gcx X s4 H3 sc ce fp a o B) rfl rfl rfl rfl i [] s _ H (fun _ _ => False) I (stat I nf) st go) fun r s6 hr => ?_
      obtain ⟨u, hr, h6⟩ := hr
      subst hr
      refine seg_bind_wrap ?_
      rw [← hB]
      refine mono_no h6 fun _ s7 h7 => ?_
      obtain ⟨x, H7, I7, r7, y7, st7, n7⟩ := h7
      have I7' := I7.pinned (stat I7 n7) (T.obj _ _ st7)
      refine seg_bind_wrap ?_
      rw [← hB]
      refine mono_no (pg.run _ s7 _ H7 x u _ I7' r7 (step x H7 y7)) fun _ s8 h8 => ?_
      obtain ⟨σ8, H8, I8, hw8, q8⟩ := h8
      refine seg_bind_wrap ?_
      rw [← hB]
      refine mono_no (pt.run _ s8 σ8 H8 _ I8 q8) fun b s9 h9 => ?_
      obtain ⟨H9, I9, q9⟩ := h9
      -- the turn's end
      have fin : ∀ {s' : Shared} {H' : Hp}, Inv (gcx X s4 H3 sc ce fp a o B) ([] ++ pinsAt fp s7.heap) σ8 H' s' → Nx H' → ∃ m', m' < m ∧ Inv (gcx X s4 H3 sc ce fp a o B) [] (wipe σ (own.map (·.2))) H' s' ∧ tn (i + 1) s'.heap ∧ (∀ b ∈ fp, H' b = none) ∧ W (i + 1) m' H' := fun {s' H'} I' nx => by
        obtain ⟨m', hm, w'⟩ := hNx H' nx
        have pin' : ∀ b ∈ fp, ∀ ob, s7.heap.get? b = some ob → s'.heap.get? b = some ob ∧ H' b = none := fun b hb ob e => by
          have z := I'.pin (b, ob) (List.mem_append_right _ (List.mem_append_right _ (mem_pinsAt hb e)))
          exact ⟨z.1, z.2.1⟩
        have hl : (wipe σ (own.map (·.2))).length = σ8.length := by rw [← hw8, wipe_length]
        refine ⟨m', hm, (I'.unpinned (pins := [])).weak hl (fun j v e => ?_), T.keep _ _ _ st7 fun b hb ob e => (pin' b hb ob e).1, fun b hb => ?_, w'⟩
        · rw [← hw8] at e
          exact (wipe_some e).1
        · obtain ⟨ob, e, _⟩ := T.obj _ _ st7 b hb
          exact (pin' b hb ob e).2
      cases b with
      | false =>
        simp only [Bool.false_eq_true, if_false] at q9 ⊢
        obtain ⟨m', hm, J1, J2, J3, J4⟩ := fin I9 q9
        exact seg_again rfl (ih m' hm n (i + 1) s0 s9 H9 (Nat.lt_trans hm hmn) J1 J2 J3 J4)
      | true =>
        simp only [if_true] at q9 ⊢
        simp only [hy]
        rw [Sem.bind_eq_wrap', Sem.bind_eq_wrap', Sem.wrap_wrap, Sem.wrap_wrap]
        refine seg_wrap ?_
        rw [← hB]
        refine mono_no (pe.run _ s9 σ8 H9 _ I9 q9) fun z s10 h10 => ?_
        obtain ⟨y, H10, I10, r10, c, rfl, c1, c2⟩ := h10
        obtain rfl : z = Value.bool c := r10
        obtain ⟨n', rfl⟩ : ∃ n', n = n' + 1 := ⟨n - 1, by omega⟩
        refine seg_at (seg_yield rfl rfl rfl ⟨c, rfl, isg I10, I10.nolimit, I10.bare, fun e => ⟨H10, back I10, c2 e⟩, fun e G hG => ?_⟩)
        obtain ⟨m', hm, J1, J2, J3, J4⟩ := fin I10 (c1 e)
        exact seg_again rfl (ih m' hm n' (i + 1) _ _ H10 (by omega) (inv_gens J1 hG) J2 J3 J4)

/-- .. from its start -/
theorem gen_begins (hB : B = X.A.in1.in1.over (.compLoop (.GeneratorExp elt [⟨tg, iter, ifs, 0⟩] sc pos) 0 (.ref it) .none ce) []) (hco : ce.scope.isCoroutine = false)
    (I4 : Inv X pins σ H3 s4) (T : Turn X.prog X.w X.K tg J fp it tn) (ffp : ∀ b ∈ fp, FpOk X pins H3 b) (hafp : ∀ b ∈ fp, b ≠ a) (hgo : ∃ nm qn, o.cls = .type "generator" ∧ o.data = .fields #[.int g 0, nm, qn] ∧ o.slots = #[])
    (pg : PG (gcx X s4 H3 sc ce fp a o B) tg gt) (pt : PTs (gcx X s4 H3 sc ce fp a o B) ifs tt) (pe : PE (gcx X s4 H3 sc ce fp a o B) elt te)
    (turn : ∀ i m H, W i m H → (J.stop i H ∧ Q (.bl k) H) ∨ (J.go i H ∧ ∃ Nx : Hp → Prop, (∀ H', Nx H' → ∃ m', m' < m ∧ W (i + 1) m' H') ∧ ∀ x H', J.yld i H x H' → gt x (wipe σ (own.map (·.2))) H' fun σ2 H2 => wipe σ2 (own.map (·.2)) = wipe σ (own.map (·.2)) ∧ tt σ2 H2 fun b H3 =>
      if b = true then te σ2 H3 fun y H4 => ∃ c, y = .bl c ∧ (c = k → Nx H4) ∧ (c = (!k) → Q (.bl (!k)) H4) else Nx H3))
    {m : Nat} {s0 s : Shared} {H : Hp} (I : Inv (gcx X s4 H3 sc ce fp a o B) [] (wipe σ (own.map (·.2))) H s) (st : tn 0 s.heap) (nf : ∀ b ∈ fp, H b = none) (w : W 0 m H) :
      Seg (model X.prog X.w) X.A.in1.in1 (GR1 X pins σ Q k) (GY1 X pins σ Q k a g) (m + 1) s0 (.compStart (.GeneratorExp elt [⟨tg, iter, ifs, 0⟩] sc pos) 0 (.ref it) .none ce)
        ((model X.prog X.w).den (.compStart (.GeneratorExp elt [⟨tg, iter, ifs, 0⟩] sc pos) 0 (.ref it) .none ce)) [] s := by
  have loop := gen_turns (W := W) hB hco I4 T ffp hafp hgo pg pt pe turn m (m + 1) 0 s0 s H (Nat.lt_succ_self m) I st nf w
  show Seg _ X.A.in1.in1 _ _ _ s0 _ ((compStart (.GeneratorExp elt [⟨tg, iter, ifs, 0⟩] sc pos) 0 (.ref it) .none ce).onRaise (leaving ce)) [] s
  unfold compStart
  rw [Sem.onRaise_eq_wrap]
  show Seg _ X.A.in1.in1 _ _ _ s0 _ ((ask >>= _).wrap _ _ _ _) [] s
  refine seg_bind_wrap (wpAny_askSetting ?_)
  split
  · exact seg_again rfl loop
  · first
      | exact seg_bind_wrap (wpAny_rule (seg_bind_wrap (wpAny_standAt (seg_bind_wrap (T.self _ 0 s _ _ st (seg_again rfl loop))))))
      | (refine seg_bind_wrap (wpAny_rule ?_); show Seg _ X.A.in1.in1 _ _ _ s0 _ ((standAt iter.pos >>= _).wrap _ _ _ _) [] s; exact seg_bind_wrap (wpAny_standAt (seg_bind_wrap (T.self _ 0 s _ _ st (seg_again rfl loop)))))
end

/-- the generator expression's own scope -/
structure GScp (X : Cx) (sc : Scope) (own : List (Str × Nat)) : Prop where
  co : sc.isCoroutine = false
  cell : ∀ y ∈ sc.names, y.2 ≠ .cell
  dot : sc.names.lookup (".0" : Str) = some NameKind.local
  blk : BlkOk X.N X.env.scope sc own

section
variable {X : Cx} {pins : List (Addr × Obj)} {σ : L2.St} {H : Hp} {s : Shared} {Q : VK} {k : Bool} {j : Nat} {c P : Addr} {sc : Scope} {own : List (Str × Nat)} {elt tg iter : Expr} {ifs : List Expr} {gpos p pos : Pos} {wi : TI} {gt : TG} {tt : TT} {te : TE}
theorem gen_room {X : Cx} {j : Nat} {code : Code} (hr : Room (j + 1) X.A) (h1 : code.weight = 1) (h2 : code.cUnits ≤ 3) : Room j (X.A.in1.in1.over code []) := by
  refine ⟨hr.hd, ?_, ?_⟩
  · have e : (X.A.in1.in1.over code []).depth = X.A.depth + 0 + code.weight := rfl
    have := hr.dp
    rw [e, h1]
    omega
  · have e : (X.A.in1.in1.over code []).units = X.A.units + 1 + 1 + 0 + code.cUnits := rfl
    have := hr.un
    rw [e]
    omega
theorem gen_frames {A : Around} {l : List Env} {ce : Env} {iv acc : Value} (h : A.frames = some l) : (A.in1.in1.over (.compLoop (.GeneratorExp elt [⟨tg, iter, ifs, 0⟩] sc gpos) 0 iv acc ce) []).frames = some (ce :: l) := by
  have e : A.in1.in1.frames = some l := h
  have e2 : (A.in1.in1.over (.compLoop (.GeneratorExp elt [⟨tg, iter, ifs, 0⟩] sc gpos) 0 iv acc ce) []).frames = pushEnvs (Code.envs (.compLoop (.GeneratorExp elt [⟨tg, iter, ifs, 0⟩] sc gpos) 0 iv acc ce)) (pushEnvs (envsOf []) A.in1.in1.frames) := rfl
  rw [e2, e]
  rfl
theorem gen_made {Q' : Value → Shared → Prop} (hr : Room (j + 1) X.A) (hN : X.N.Nodup) (TB : TabB X.base X.mg c P) (hcode : X.env.code = .ref c) (S : GScp X sc own) (hi : PI X tg iter wi)
    (hg : ∀ (s : Shared) (H : Hp) (cl : List (Str × Addr)) (C : Addr) (code : Value) (fp : List Addr) (a : Addr) (o : Obj) (B : Around), PG (gcx X s H sc (genEnv sc cl C code builtinsNs X.env) fp a o B) tg gt)
    (ht : ∀ (s : Shared) (H : Hp) (cl : List (Str × Addr)) (C : Addr) (code : Value) (fp : List Addr) (a : Addr) (o : Obj) (B : Around), Room j B → PTs (gcx X s H sc (genEnv sc cl C code builtinsNs X.env) fp a o B) ifs tt)
    (he : ∀ (s : Shared) (H : Hp) (cl : List (Str × Addr)) (C : Addr) (code : Value) (fp : List Addr) (a : Addr) (o : Obj) (B : Around), Room j B → PE (gcx X s H sc (genEnv sc cl C code builtinsNs X.env) fp a o B) elt te)
    (hs : ∀ v, genFold iter X.env v = pure v) (I : Inv X pins σ H s) (h : tGen k P wi gt tt te (own.map (·.2)) σ H Q) (hQ : ∀ a g n s5, Live X pins σ Q k a g n s5 → Q' (.ref a) s5) :
    wpAny (model X.prog X.w) X.A (eval (.GeneratorExp elt [⟨tg, iter, ifs, 0⟩] sc gpos) X.env) Q' X.xe s := by
  have hfree : ∀ y ∈ sc.names, y.2 = .free → ∃ c, X.env.cells.lookup y.1 = some c := fun y hy e => by
    rcases S.blk.free y hy e with k | k
    · exact I.ok.has _ (.inl k)
    · exact I.ok.has _ (.inr k)
  refine wpAny_GeneratorExp_make S.co (closure_ok hfree) S.cell S.dot S.blk.kind (by have := hr.dp; omega) ?_ hs
  refine thn (hi.run pins s σ H _ I h) fun xv s1 hx => thn hx fun itv s2 h2 => ?_
  obtain ⟨it, fp, tn, J, H2, rfl, I2, T, st2, f2, ⟨ps, hP, hTr⟩, q⟩ := h2
  have hPs : s2.heap.get? P = some { cls := .none, data := .fields ps } := I2.hok P _ hP
  have cd : PySem.W.CodeHd s2.heap c P := TB.code.keeps fun b u e => I2.bk b u e
  refine ⟨I2.nolimit, ?_⟩
  have nP : ∀ b, H2 b = none → b ≠ P := fun b e z => by
    rw [z, hP] at e
    cases e
  have szf : ∀ b ∈ fp, b < s2.heap.objs.size := fun b hb => by
    obtain ⟨u, e, _⟩ := T.obj _ _ st2 b hb
    exact Heap.lt_size e
  have cont : ∀ (code : Value) (h3 : Heap) (tk : Nat) (ps' : Array Value), Heap.ExtBut P s2.heap h3 → s2.heap.objs.size ≤ h3.objs.size → h3.get? P = some { cls := .none, data := .fields ps' } → (∃ more, ps' = ps ++ more) → TriplesOk ps'.toList →
      wpAny (model X.prog X.w) X.A (builtinsFor X.env.globals X.env.builtins) (fun bi s₄ =>
        ∀ h', h'.Ns s₄.heap.objs.size (fun y => if y = ".0" then some (.ref it) else none) → Heap.SameBut s₄.heap.objs.size (s₄.heap.push { cls := .type "frame", data := .dict #[] }) h' →
          Q' (.ref h'.objs.size) { s₄ with
            gens := s₄.gens.push (.fresh (.compStart (.GeneratorExp elt [⟨tg, iter, ifs, 0⟩] sc gpos) 0 (.ref it) .none (genEnv sc (cloFrom X.env.cells sc.names []) s₄.heap.objs.size code bi X.env))),
            toks := s₄.toks + 1 + 1 + 1,
            heap := h'.push { cls := .type "generator", data := .fields #[.int s₄.gens.size 0, .str "<genexpr>" (s₄.toks + 1), .str (X.env.qual ++ "<genexpr>") (s₄.toks + 1 + 1)] } }) X.xe { s2 with heap := h3, toks := tk } := by
    intro code h3 tk ps' hx3 hsz3 hP3 hmore ht3
    have I3 : Inv X pins σ (upd H2 P (.tbl ps')) { s2 with heap := h3, toks := tk } := by
      obtain ⟨more, rfl⟩ := hmore
      exact inv_tab (more := more) (h' := h3) (g' := s2.gens) (d' := s2.drawn) (t' := tk) I2 hP (fun b u hb e => hx3 b u hb e) hP3 I2.bare
    generalize hH3 : upd H2 P (.tbl ps') = H3 at I3
    have hT3 : Tabbed P H2 H3 := by
      rw [← hH3]
      exact ⟨⟨ps', upd_same, ht3⟩, fun b hb => upd_ne hb⟩
    obtain ⟨W, ⟨m0, w0⟩, turn⟩ := q H3 hT3
    obtain ⟨bm, ob, e1, e2, e3, e4, e5, e6, e7, e8⟩ := TB.bm
    refine wpAny_builtinsFor (m := X.mg) (by rw [I3.ok.glob]; exact I3.mod.glob.keeps I3.bk) e1 e2 (I3.bk _ _ e5) e6 e7 e8 ?_
    intro h' hn' hs'
    have hsz : h'.objs.size = h3.objs.size + 1 := by
      rw [hs'.1, Heap.size_push]
    have keep' : ∀ b u, h3.get? b = some u → h'.get? b = some u := fun b u e => hs'.extBut b u (Nat.ne_of_lt (Heap.lt_size e)) (Heap.get?_push_of_some _ e)
    have hlt : h3.objs.size < h'.objs.size := by
      have hsz' : h'.objs.size = h3.objs.size + 1 := hsz
      omega
    have f3 : ∀ b ∈ fp, FpOk X pins H3 b := fun b hb => by
      have z := f2 b hb
      exact ⟨(hT3.2 b (nP b z.1)).trans z.1, z.2⟩
    have st3 : tn 0 h3 := T.keep _ _ _ st2 fun b hb u e => hx3 b u (nP b (f2 b hb).1) e
    have gb : AllBare (s2.gens.push (.fresh (.compStart (.GeneratorExp elt [⟨tg, iter, ifs, 0⟩] sc gpos) 0 (.ref it) .none (genEnv sc (cloFrom X.env.cells sc.names []) h3.objs.size code builtinsNs X.env)))) := I2.bare.push rfl
    have hsz2 : ∀ b ∈ fp, b < h3.objs.size := fun b hb => Nat.lt_of_lt_of_le (szf b hb) hsz3
    have keep5 : ∀ (u : Obj) b v, h3.get? b = some v → (h'.push u).get? b = some v := fun u b v e => Heap.get?_push_of_some _ (keep' b v e)
    refine hQ _ s2.gens.size (m0 + 1) _ ⟨⟨_, _, _, Heap.get?_push_size _ rfl, rfl, rfl, rfl⟩, I3.nolimit.keeps (keep5 _), gb, _, Array.getElem?_push_size .., rfl, ?_⟩
    refine gen_begins (own := own) (fp := fp) (tn := tn) (J := J) (W := W) (H3 := H3) (s4 := { s2 with heap := h3, toks := tk }) rfl S.co I3 T f3 (fun b hb z => ?_) ⟨_, _, rfl, rfl, rfl⟩ (hg _ _ _ _ _ _ _ _ _) (ht _ _ _ _ _ _ _ _ _ (gen_room hr rfl (by show (3 : Nat) ≤ 3; decide))) (he _ _ _ _ _ _ _ _ _ (gen_room hr rfl (by show (3 : Nat) ≤ 3; decide))) turn
      (inv_gens (gen_start (s' := { s2 with heap := h'.push _, toks := tk + 1 + 1 + 1, gens := s2.gens.push _ }) (a := h'.objs.size) I3 S.blk S.cell hN (fun b hb => ⟨f3 b hb, hsz2 b hb⟩) rfl rfl rfl rfl rfl rfl ?_ hr.hd rfl gb (keep5 _) ⟨_, Heap.Ns.push hn' _⟩ (Heap.get?_push_size _ rfl) hlt (fun v z => by cases z)) (allBare_setGen (s := { s2 with heap := h'.push _, toks := tk + 1 + 1 + 1, gens := s2.gens.push _ }) gb rfl))
      (T.keep _ _ _ st3 fun b hb u e => keep5 _ b u e) (fun b hb => (f3 b hb).1) w0
    · have h1 := hsz2 b hb
      rw [z] at h1
      exact absurd (Nat.lt_trans h1 hlt) (Nat.lt_irrefl _)
    · exact gen_frames I3.ok.frames
  cases hf : codeAmong gpos ps.toList with
  | none =>
    refine wpAny_genexprCodeX hcode (cd.code hPs hTr) (cd.tab hPs) hf fun c' h' tk hx hge hlt hco' _ htab' _ => ?_
    obtain ⟨o1, vs, f1, tf, fl, tg1, inF, tx, tt1, op, _, _, _, _, _, _, _, _, _, htr, _⟩ := hco'
    exact cont _ h' tk _ hx (Nat.le_trans hge (Nat.le_of_lt hlt)) htab'.2 ⟨_, rfl⟩ htr
  | some cv =>
    refine wpAny_genexprCode_hit hcode (cd.code hPs hTr) hf ?_
    exact cont cv s2.heap s2.toks ps (Heap.ExtBut.refl _ _) (Nat.le_refl _) hPs ⟨#[], by simp⟩ hTr

/-- all(elt for tg in iter if ..) -/
theorem pe_allG (hr : Room (j + 1) X.A) (hN : X.N.Nodup) (hgl : Gl X "all") (hm : X.mg "all" = none) (hb : bootBuiltins "all" = some (.builtin "all")) (TB : TabB X.base X.mg c P) (hcode : X.env.code = .ref c) (S : GScp X sc own) (hi : PI X tg iter wi)
    (hg : ∀ (s : Shared) (H : Hp) (cl : List (Str × Addr)) (C : Addr) (code : Value) (fp : List Addr) (a : Addr) (o : Obj) (B : Around), PG (gcx X s H sc (genEnv sc cl C code builtinsNs X.env) fp a o B) tg gt)
    (ht : ∀ (s : Shared) (H : Hp) (cl : List (Str × Addr)) (C : Addr) (code : Value) (fp : List Addr) (a : Addr) (o : Obj) (B : Around), Room j B → PTs (gcx X s H sc (genEnv sc cl C code builtinsNs X.env) fp a o B) ifs tt)
    (he : ∀ (s : Shared) (H : Hp) (cl : List (Str × Addr)) (C : Addr) (code : Value) (fp : List Addr) (a : Addr) (o : Obj) (B : Around), Room j B → PE (gcx X s H sc (genEnv sc cl C code builtinsNs X.env) fp a o B) elt te)
    (hs : ∀ v, genFold iter X.env v = pure v := by intro _; rfl)
    (hst : starEach [.GeneratorExp elt [⟨tg, iter, ifs, 0⟩] sc gpos] X.env = (false, eval (.GeneratorExp elt [⟨tg, iter, ifs, 0⟩] sc gpos) X.env) :: starEach [] X.env := by rfl) :
    PE X (.Call (.Name "all" p) [.GeneratorExp elt [⟨tg, iter, ifs, 0⟩] sc gpos] [] pos) (tGen true P wi gt tt te (own.map (·.2))) := by
  refine ⟨fun pins s σ H Q I h => ?_⟩
  refine wpAny_Call_Name_kw (ld_blt I hgl hm hb ?_)
  refine PyProof.Rows.callWith_builtin1 ?_ hst (by rfl)
  rw [hst]
  show wpAny _ _ (spliced ((false, eval (.GeneratorExp elt [⟨tg, iter, ifs, 0⟩] sc gpos) X.env) :: backTo pos (starEach [] X.env))) _ _ s
  refine Calls.spliced_cons (gen_made hr hN TB hcode S hi hg ht he hs I h fun a g n s5 hL => ?_)
  refine Calls.spliced_nil ?_
  refine call_all_live hr.hd (by have := hr.dp; omega) hL fun b s' hf => ?_
  obtain ⟨H', I', q⟩ := hf
  exact ⟨.bl b, H', I', rfl, q⟩
/-- any(elt for tg in iter if ..) -/
theorem pe_anyG (hr : Room (j + 1) X.A) (hN : X.N.Nodup) (hgl : Gl X "any") (hm : X.mg "any" = none) (hb : bootBuiltins "any" = some (.builtin "any")) (TB : TabB X.base X.mg c P) (hcode : X.env.code = .ref c) (S : GScp X sc own) (hi : PI X tg iter wi)
    (hg : ∀ (s : Shared) (H : Hp) (cl : List (Str × Addr)) (C : Addr) (code : Value) (fp : List Addr) (a : Addr) (o : Obj) (B : Around), PG (gcx X s H sc (genEnv sc cl C code builtinsNs X.env) fp a o B) tg gt)
    (ht : ∀ (s : Shared) (H : Hp) (cl : List (Str × Addr)) (C : Addr) (code : Value) (fp : List Addr) (a : Addr) (o : Obj) (B : Around), Room j B → PTs (gcx X s H sc (genEnv sc cl C code builtinsNs X.env) fp a o B) ifs tt)
    (he : ∀ (s : Shared) (H : Hp) (cl : List (Str × Addr)) (C : Addr) (code : Value) (fp : List Addr) (a : Addr) (o : Obj) (B : Around), Room j B → PE (gcx X s H sc (genEnv sc cl C code builtinsNs X.env) fp a o B) elt te)
    (hs : ∀ v, genFold iter X.env v = pure v := by intro _; rfl)
    (hst : starEach [.GeneratorExp elt [⟨tg, iter, ifs, 0⟩] sc gpos] X.env = (false, eval (.GeneratorExp elt [⟨tg, iter, ifs, 0⟩] sc gpos) X.env) :: starEach [] X.env := by rfl) :
    PE X (.Call (.Name "any" p) [.GeneratorExp elt [⟨tg, iter, ifs, 0⟩] sc gpos] [] pos) (tGen false P wi gt tt te (own.map (·.2))) := by
  refine ⟨fun pins s σ H Q I h => ?_⟩
  refine wpAny_Call_Name_kw (ld_blt I hgl hm hb ?_)
  refine PyProof.Rows.callWith_builtin1 ?_ hst (by rfl)
  rw [hst]
  show wpAny _ _ (spliced ((false, eval (.GeneratorExp elt [⟨tg, iter, ifs, 0⟩] sc gpos) X.env) :: backTo pos (starEach [] X.env))) _ _ s
  refine Calls.spliced_cons (gen_made hr hN TB hcode S hi hg ht he hs I h fun a g n s5 hL => ?_)
  refine Calls.spliced_nil ?_
  refine call_any_live hr.hd (by have := hr.dp; omega) hL fun b s' hf => ?_
  obtain ⟨H', I', q⟩ := hf
  exact ⟨.bl b, H', I', rfl, q⟩
end
end Rd

namespace Rd
open PySem PySem.Spec PyProof.Rows L2 GxR

/-! ### heaps: all that was tracked is as it was, but for the tables of the defs that hold a generator expression -/
def Tb (Ps : List Addr) (H : Hp) : Prop := ∀ P ∈ Ps, TabG H P
def Kp (Ps : List Addr) (H H' : Hp) : Prop := Tb Ps H' ∧ ∀ b o, b ∉ Ps → H b = some o → H' b = some o
theorem Kp.refl {Ps : List Addr} {H : Hp} (t : Tb Ps H) : Kp Ps H H := ⟨t, fun _ _ _ e => e⟩
theorem Kp.trans {Ps : List Addr} {H H1 H2 : Hp} (a : Kp Ps H H1) (b : Kp Ps H1 H2) : Kp Ps H H2 := ⟨b.1, fun c o hc e => b.2 c o hc (a.2 c o hc e)⟩
theorem Tb.notin {Ps : List Addr} {H : Hp} (t : Tb Ps H) {b : Addr} {o : HO} (e : H b = some o) (ho : ∀ ps, o ≠ .tbl ps) : b ∉ Ps := fun hb => by
  obtain ⟨ps, h1, _⟩ := t b hb
  rw [e] at h1
  exact ho ps (Option.some.inj h1)
theorem Tb.none {Ps : List Addr} {H : Hp} (t : Tb Ps H) {b : Addr} (e : H b = Option.none) : b ∉ Ps := fun hb => by
  obtain ⟨ps, h1, _⟩ := t b hb
  rw [e] at h1
  cases h1
theorem Tb.same {Ps : List Addr} {H H' : Hp} (t : Tb Ps H) (s : Same H H') : Tb Ps H' := fun P hP => by
  obtain ⟨ps, h1, h2⟩ := t P hP
  exact ⟨ps, s _ _ h1, h2⟩
theorem Kp.same {Ps : List Addr} {H H' : Hp} (t : Tb Ps H) (s : Same H H') : Kp Ps H H' := ⟨t.same s, fun b o _ e => s b o e⟩
theorem Kp.at {Ps : List Addr} {H H' : Hp} (t : Tb Ps H) (k : Kp Ps H H') {b : Addr} {o : HO} (e : H b = some o) (ho : ∀ ps, o ≠ .tbl ps) : H' b = some o := k.2 b o (t.notin e ho) e
theorem Kp.seq {Ps : List Addr} {H H' : Hp} {K : PySem.W.Frag} {a : Addr} {xs : List V} (t : Tb Ps H) (k : Kp Ps H H') (h : SqL K H a xs) : SqL K H' a xs := by
  rcases h with (h | ⟨o, h⟩) | h
  · exact .inl (.inl (k.at t h fun _ z => by cases z))
  · exact .inl (.inr ⟨o, k.at t h fun _ z => by cases z⟩)
  · exact .inr h
theorem Kp.seqT {Ps : List Addr} {H H' : Hp} {K : PySem.W.Frag} {a : Addr} {xs : List V} (t : Tb Ps H) (k : Kp Ps H H') (h : SqT K H a xs) : SqT K H' a xs := by
  rcases h with (h | ⟨o, h⟩) | h
  · exact .inl (.inl (k.at t h fun _ z => by cases z))
  · exact .inl (.inr ⟨o, k.at t h fun _ z => by cases z⟩)
  · exact .inr h
theorem same_upd {H : Hp} {p : Addr} {o : HO} (h : H p = Option.none) : Same H (upd H p o) := fun b x e => by
  rw [upd_ne (ne_of_none e h)]
  exact e
theorem Kp.new {Ps : List Addr} {H : Hp} (t : Tb Ps H) {p : Addr} {o : HO} (h : H p = Option.none) : Kp Ps H (upd H p o) := Kp.same t (same_upd h)
theorem Kp.tab {Ps : List Addr} {P : Addr} {H H' : Hp} (t : Tb Ps H) (hP : P ∈ Ps) (h : Tabbed P H H') : Kp Ps H H' := by
  refine ⟨fun p hp => ?_, fun b o hb e => ?_⟩
  · by_cases z : p = P
    · rw [z]
      exact h.1
    · obtain ⟨ps, h1, h2⟩ := t p hp
      exact ⟨ps, (h.2 p z).trans h1, h2⟩
  · have z : b ≠ P := fun z => hb (by rw [z]; exact hP)
    exact (h.2 b z).trans e
/-- what was free before is free or new -/
theorem Kp.free {Ps : List Addr} {H H' : Hp} (t : Tb Ps H) (k : Kp Ps H H') {l : Addr} (h : H' l = Option.none) : H l = Option.none := by
  cases q : H l with
  | none => rfl
  | some o =>
    by_cases hl : l ∈ Ps
    · obtain ⟨ps, h1, _⟩ := k.1 l hl
      rw [h] at h1
      cases h1
    · rw [k.2 l o hl q] at h
      cases h

/-! ### a def whose code object is known -/
theorem okC {CX : CXT} {P : Program} {w : World} {K : PySem.W.Frag} {mg : Str → Option Value} {base : Heap} {x qual : Str} {params : Arguments} {body : List Stmt} {scope : Scope} {f : Addr} {fd : FuncData} {N ps : List Str} {k : Nat} {sp : Sp} {p : He.Defn}
    (F : FunD K x qual params body scope [] [] f fd) (hf : f = He.fAd K p) (S : FnScope N ps scope) (len : ∀ vs H Q E, sp vs H Q E → vs.length = ps.length)
    (hbody : ∀ (A : Around) (outer : List Env) (s : Shared) (H : Hp) (vs : List V) (Q : VK) (E : XK), Room k (A.deeper (envOfC qual scope s.heap.objs.size f (.ref (He.codeOf K p)))) → sp vs H Q E →
      ∃ t, PSs (cxOf CX P w K mg base N qual scope f (.ref (He.codeOf K p)) A outer s H E) body t ∧ t { nx := fun _ H' => Q .non H', rt := Q } (start N vs) H) : FnOk P w K mg base CX (k + 1) f fd ps sp := by
  obtain ⟨oc, od, dV, kV, doc, pm, an, cdv, ct, osl, rfl, lk, hcd, _, _⟩ := F.ex
  obtain ⟨c, rfl⟩ := He.codeIn_ref hcd
  have e : He.codeOf K p = c := He.codeOf_eq (by rw [← hf]; exact lk) rfl
  rw [e] at hbody
  exact fn_of lk hcd S len fun A outer s H vs Q E hr hsp => hbody A outer s H vs Q E hr hsp

/-! ### readings of generator expressions -/
theorem take_all {α : Type} {l : List α} {pb : α → Bool} {i : Nat} {x : α} (h : l[i]? = some x) (ht : (l.take i).all pb = true) : (l.take (i + 1)).all pb = pb x := by
  rw [List.take_add_one, List.all_append, ht, h]
  simp
theorem all_fail {α : Type} {l : List α} {pb : α → Bool} {i : Nat} {x : α} (h : l[i]? = some x) (hx : pb x = false) : l.all pb = false := by
  cases e : l.all pb with
  | false => rfl
  | true =>
    have := List.all_eq_true.mp e x (List.mem_of_getElem? h)
    rw [hx] at this
    cases this
/-- all(.. for x in text) -/
theorem read_all_str {x : Str} {pb : Nat → Bool} {Pv : Hp → Prop} {g : TG} {te : TE} {vs : List Nat} {σ : L2.St} {H2 : Hp} {Q : VK} (h0 : Pv H2)
    (he : ∀ (i c : Nat) (H : Hp) (R : V → Hp → Prop), x.cps.toList[i]? = some c → Pv H → (∀ H4, Pv H4 → R (.bl (pb c)) H4) → g (.str ⟨#[c]⟩) (wipe σ vs) H fun σ2 H2 => wipe σ2 vs = wipe σ vs ∧ te σ2 H2 R) (hd : ∀ H, Pv H → Q (.bl (x.cps.toList.all pb)) H) :
    ∃ W : Nat → Nat → Hp → Prop, (∃ m, W 0 m H2) ∧ ∀ i m H, W i m H →
      ((Its x).stop i H ∧ Q (.bl true) H) ∨ ((Its x).go i H ∧ ∃ Nx : Hp → Prop, (∀ H', Nx H' → ∃ m', m' < m ∧ W (i + 1) m' H') ∧ ∀ v H', (Its x).yld i H v H' → g v (wipe σ vs) H' fun σ2 H2 => wipe σ2 vs = wipe σ vs ∧ tYes σ2 H2 fun b H3 =>
        if b = true then te σ2 H3 fun y H4 => ∃ c, y = .bl c ∧ (c = true → Nx H4) ∧ (c = (!true) → Q (.bl (!true)) H4) else Nx H3) := by
  have esz : x.cps.size = x.cps.toList.length := by simp
  refine ⟨fun i m H => m = x.cps.size - i ∧ i ≤ x.cps.size ∧ Pv H ∧ (x.cps.toList.take i).all pb = true, ⟨x.cps.size, by simp, Nat.zero_le _, h0, rfl⟩, ?_⟩
  rintro i m H ⟨rfl, hi, hp, ha⟩
  by_cases hlt : i < x.cps.size
  · refine .inr ⟨hlt, fun H' => Pv H' ∧ (x.cps.toList.take (i + 1)).all pb = true, fun H' q => ⟨x.cps.size - (i + 1), by omega, rfl, hlt, q⟩, fun v H' y => ?_⟩
    obtain ⟨rfl, c, hc, rfl⟩ := y
    have hc' : x.cps.toList[i]? = some c := by rw [Array.getElem?_toList]; exact hc
    refine he i c H' _ hc' hp fun H4 p4 => ⟨pb c, rfl, fun z => ⟨p4, ?_⟩, fun z => ?_⟩
    · rw [take_all hc' ha]
      exact z
    · have z : pb c = false := z
      have q5 := hd H4 p4
      rw [all_fail hc' z] at q5
      exact q5
  · have e : i = x.cps.size := by omega
    subst e
    refine .inl ⟨Nat.le_refl _, ?_⟩
    have q := hd H hp
    rw [List.take_of_length_le (by omega)] at ha
    rw [ha] at q
    exact q
/-- all(.. for x in xs), xs a tuple -/
theorem read_all_tup {K : PySem.W.Frag} {a : Addr} {xs : List V} {pb : V → Bool} {Pv : Hp → Prop} {g : TG} {te : TE} {vs : List Nat} {σ : L2.St} {H2 : Hp} {Q : VK} (h0 : Pv H2) (hl : ∀ H, Pv H → SqT K H a xs)
    (he : ∀ (i : Nat) (v : V) (H : Hp) (R : V → Hp → Prop), xs[i]? = some v → Pv H → (∀ H4, Pv H4 → R (.bl (pb v)) H4) → g v (wipe σ vs) H fun σ2 H2 => wipe σ2 vs = wipe σ vs ∧ te σ2 H2 R) (hd : ∀ H, Pv H → Q (.bl (xs.all pb)) H) :
    ∃ W : Nat → Nat → Hp → Prop, (∃ m, W 0 m H2) ∧ ∀ i m H, W i m H →
      ((Itt K a).stop i H ∧ Q (.bl true) H) ∨ ((Itt K a).go i H ∧ ∃ Nx : Hp → Prop, (∀ H', Nx H' → ∃ m', m' < m ∧ W (i + 1) m' H') ∧ ∀ v H', (Itt K a).yld i H v H' → g v (wipe σ vs) H' fun σ2 H2 => wipe σ2 vs = wipe σ vs ∧ tYes σ2 H2 fun b H3 =>
        if b = true then te σ2 H3 fun y H4 => ∃ c, y = .bl c ∧ (c = true → Nx H4) ∧ (c = (!true) → Q (.bl (!true)) H4) else Nx H3) := by
  refine ⟨fun i m H => m = xs.length - i ∧ i ≤ xs.length ∧ Pv H ∧ (xs.take i).all pb = true, ⟨xs.length, by simp, Nat.zero_le _, h0, rfl⟩, ?_⟩
  rintro i m H ⟨rfl, hi, hp, ha⟩
  by_cases hlt : i < xs.length
  · refine .inr ⟨⟨xs, xs[i], hl H hp, List.getElem?_eq_getElem hlt⟩, fun H' => Pv H' ∧ (xs.take (i + 1)).all pb = true, fun H' q => ⟨xs.length - (i + 1), by omega, rfl, hlt, q⟩, fun v H' y => ?_⟩
    obtain ⟨rfl, y⟩ := y
    have hc' : xs[i]? = some v := y xs (hl H' hp)
    refine he i v H' _ hc' hp fun H4 p4 => ⟨pb v, rfl, fun z => ⟨p4, ?_⟩, fun z => ?_⟩
    · rw [take_all hc' ha]
      exact z
    · have z : pb v = false := z
      have q5 := hd H4 p4
      rw [all_fail hc' z] at q5
      exact q5
  · have e : i = xs.length := by omega
    subst e
    refine .inl ⟨⟨xs, hl H hp, Nat.le_refl _⟩, ?_⟩
    have q := hd H hp
    rw [List.take_of_length_le (Nat.le_refl _)] at ha
    rw [ha] at q
    exact q
end Rd

/-! list(reversed(text)) -/
namespace Rs
open PySem PySem.Spec PyProof.Rows RT
theorem norev_str : typeLookup (.type "str") "__reversed__" = pure none := by rw [typeLookup_type, builtinLookup_eq_fast]; kernel_rfl
theorem item_str : typeLookup (.type "str") "__getitem__" = pure (some (.builtin "str.__getitem__")) := by rw [typeLookup_type, builtinLookup_eq_fast]; kernel_rfl
theorem nolen_rev : typeLookup (.type "reversed") "__len__" = pure none := by rw [typeLookup_type, builtinLookup_eq_fast]; kernel_rfl
theorem hint_rev : typeLookup (.type "reversed") "__length_hint__" = pure (some (.builtin "reversed.__length_hint__")) := by rw [typeLookup_type, builtinLookup_eq_fast]; kernel_rfl
theorem slot_hint : Slot "reversed" "__length_hint__" "reversed.__length_hint__" :=
  .of (owner := "reversed") (n := "__length_hint__") hint_rev (by decide +kernel) (by decide +kernel) (by decide +kernel) (by first | exact .inl (by decide +kernel) | exact .inr (by decide +kernel)) (by rw [isSubtype_type]; kernel_rfl)
theorem entry_hint : entryFor table "reversed.__length_hint__" = some Builtin.«reversed.__length_hint__» := entryFor_of_tree (by kernel_rfl)
theorem args_hint (a : Value) : argsOk "reversed.__length_hint__" ⟨[a], []⟩ := by
  unfold argsOk
  rw [signature?_of (id := "reversed.__length_hint__") (n := ['_', '_', 't', 'n', 'i', 'h', '_', 'h', 't', 'g', 'n', 'e', 'l', '_', '_']) (o := ['d', 'e', 's', 'r', 'e', 'v', 'e', 'r']) (by kernel_rfl) owner_rt]
  kernel_rfl
theorem desc_hint : typeOf (.builtin "reversed.__length_hint__") = pure (.type "method_descriptor") := by show builtinType _ = _; rw [builtinType_eq_fast]; kernel_rfl
theorem sub_str_dict : isSubtype (.type "str") (.type "dict") = pure false := by rw [isSubtype_type]; kernel_rfl
def rsObj (x : Str) (t : Tok) (i : Int) : Obj := { cls := .type "reversed", data := .fields #[.str x t, rawInt i] }
def IsRs (h : Heap) (a : Addr) (x : Str) (t : Tok) (i : Int) : Prop := ∃ o, h.get? a = some o ∧ o.cls = .type "reversed" ∧ o.data = .fields #[.str x t, rawInt i]
theorem IsRs.at {h h' : Heap} {a : Addr} {x : Str} {t : Tok} {i : Int} (z : IsRs h a x t i) (e : ∀ o, h.get? a = some o → h'.get? a = some o) : IsRs h' a x t i := let ⟨o, ho, r⟩ := z; ⟨o, e _ ho, r⟩
section
variable {prog : Program} {w : World} {A : Around} {E : Value → Shared → Prop} {s : Shared} {x : Str} {t : Tok}
theorem IsRs.typeIs {a : Addr} {i : Int} (z : IsRs s.heap a x t i) : s.TypeIs (.ref a) "reversed" := let ⟨o, ho, hc, _⟩ := z; ⟨o, ho, hc⟩
theorem line_index {n : Nat} (h : n ≤ sizeLine) : ¬ ((n : Int) ≥ 2 ^ 63) := by
  rw [sizeLine_eq] at h
  omega
theorem code_rs {Q1 : Value → Shared → Prop} (hz : x.length ≤ sizeLine) (h : Q1 (.ref s.heap.objs.size) { s with heap := s.heap.push (rsObj x t ((x.length : Int) - 1)), toks := s.toks + 1 + 1 }) :
    codeAny (model prog w) A (.call (.builtin "reversed.__new__") ⟨[.type "reversed", .str x t], []⟩) (wants Q1 E) s := by
  have hT : s.TypeIs (.str x t) "str" := rfl
  refine codeAny_of_tree ?_
  show wpAny _ A.in1 (do checkBuiltinCall "reversed.__new__" ⟨[.type "reversed", .str x t], []⟩; again (.builtin "reversed.__new__" ⟨[.type "reversed", .str x t], []⟩)) _ _ s
  refine wpAny_bind (wpAny_of_eq (F.newCall_reversed_1 _) (wpAny_pure ⟨plainId_quiet F.plain_reversed_new _, codeAny_builtin F.entry_reversed_new ?_⟩))
  rw [Around.under_plainId F.plain_reversed_new _]
  unfold Builtin.«reversed.__new__»
  refine wpAny_bind (wpAny_of_eq (newClass_reversed _) ?_)
  try dsimp only
  refine wpAny_bind (wpAny_of_eq (a := ()) (by first | rfl | kernel_rfl) ?_)
  try dsimp only
  refine wpAny_bind (wpAny_of_eq (a := ()) (by first | rfl | kernel_rfl) ?_)
  try dsimp only
  refine wpAny_bind (wpAny_specialOf hT norev_str ?_)
  try dsimp only
  refine wpAny_bind ?_
  wp_delta
  refine wpAny_bind (wpAny_isInstance (T := "str") (U := "dict") (b := false) hT sub_str_dict ?_)
  try dsimp only
  try rw [if_neg Bool.false_ne_true]
  try dsimp only
  refine wpAny_bind (wpAny_specialOf hT item_str ?_)
  try dsimp only
  try rw [if_pos (by decide +kernel)]
  refine wpAny_pure ?_
  try dsimp only
  try rw [if_neg (by decide)]
  try dsimp only
  refine wpAny_bind (len_str (line_index hz) ?_)
  refine wpAny_bind (wpAny_of_eq (a := some ((x.length : Nat) : Int)) rfl ?_)
  try dsimp only
  refine wpAny_bind ?_
  show wpAny _ _ (newObj (.type "reversed") (.fields #[.str x t, rawInt ((x.length : Int) - 1)])) _ _ _
  refine wpAny_newObj_type ?_
  exact wpAny_pure h
theorem call_rs {Q : Value → Shared → Prop} (hz : x.length ≤ sizeLine) (h : Q (.ref s.heap.objs.size) { s with heap := s.heap.push (rsObj x t ((x.length : Int) - 1)), toks := s.toks + 1 + 1 }) :
    wpAny (model prog w) A (call (.type "reversed") [.str x t]) Q E s := by
  refine callType_codes (Q₁ := fun obj s₁ => s₁.TypeIs obj "reversed" ∧ Q obj s₁) called_rt (F.typeCall_reversed_1 _) F.entry_object_init (code_rs (A := A.in1) hz ⟨⟨_, Heap.get?_push_size _ rfl, rfl⟩, h⟩) fun obj s1 h1 => ?_
  exact ⟨h1.1, F.args_object_init_2 obj _, object_init_meets called_rt.init.lookup called_rt.made (by decide) prog w A.in1 _ s1 ⟨h1.1, rfl, h1.2⟩⟩
theorem next_rs {it : Addr} {i : Nat} {c : Nat} {Q : Option Value → Shared → Prop} (hit : IsRs s.heap it x t (i : Int)) (hc0 : x.cps[i]? = some c) (hz : x.length ≤ sizeLine)
    (hQ : ∀ h' u k, IsRs h' it x t ((i : Int) - 1) → Heap.SameBut it s.heap h' → Q (some (.str ⟨#[c]⟩ u)) { s with heap := h', toks := k }) : wpAny (model prog w) A (pyNext (.ref it)) Q E s := by
  obtain ⟨o, ho, hc, hd⟩ := id hit
  have hi : i < x.cps.size := (Array.getElem?_eq_some_iff.mp hc0).1
  have hT : s.TypeIs (.str x t) "str" := rfl
  have hz2 := hz
  rw [sizeLine_eq] at hz2
  have hi2 : i < x.length := hi
  unfold pyNext
  refine wpAny_bind (wpAny_attempt (wpAny_callSpecial?_slot (name := Str.ofString "__next__") hit.typeIs slot_rt_next (wpAny_call_entry slot_rt_next hit.typeIs entry_rt_next ?_ (args_rt_next _))))
  unfold Builtin.«reversed.__next__»
  refine wpAny_bind (wpAny_of_eq (a := (Value.ref it, [])) rfl ?_)
  try dsimp only
  refine wpAny_bind (wpAny_field ho hd (x := .str x t) rfl ?_)
  try dsimp only
  refine wpAny_bind (wpAny_field ho hd (x := rawInt (i : Int)) rfl ?_)
  show wpAny _ _ (if (i : Int) < 0 then _ else _) _ _ s
  rw [if_neg (by omega)]
  try dsimp only
  refine wpAny_bind (wpAny_specialOf hT item_str ?_)
  try dsimp only
  try rw [if_neg (by decide)]
  try dsimp only
  refine wpAny_bind (wpAny_mkInt ?_)
  refine wpAny_bind (wpAny_attempt ?_)
  have fin : seqIndex? (i : Int) x.length = some i := seqIndex_of (by omega) (by omega)
  refine getItem_str (s := { s with toks := s.toks + 1 }) (c := c) (by rw [decide_eq_false (by omega), decide_eq_false (by omega)]; rfl) (by rw [fin]; exact hc0) ?_
  try dsimp only
  refine wpAny_bind (wpAny_field (s := { s with toks := s.toks + 1 + 1 }) ho hd (x := rawInt (i : Int)) rfl ?_)
  try dsimp only
  refine wpAny_bind (wpAny_setField (s := { s with toks := s.toks + 1 + 1 }) ho hd (by simp) ?_)
  first
  | refine wpAny_pure ⟨_, rfl, wpAny_pure (hQ _ _ _ ?_ (Heap.SameBut.update ..))⟩
  | refine wpAny_bind (wpAny_pure (wpAny_pure ⟨_, rfl, wpAny_pure (hQ _ _ _ ?_ (Heap.SameBut.update ..))⟩))
  exact ⟨_, Heap.get?_update_self _ ho (Obj.isFreed_of_fields (Obj.data_mapFields hd _)), (Obj.cls_mapFields ..).trans hc, by
    rw [Obj.data_mapFields hd]; simp⟩
theorem end_rs {it : Addr} {Q : Option Value → Shared → Prop} (hh : A.handled = none) (hit : IsRs s.heap it x t (-1)) (hQ : ∀ h', Heap.ExtBut it s.heap h' → Q none { s with heap := h' }) : wpAny (model prog w) A (pyNext (.ref it)) Q E s := by
  obtain ⟨o, ho, hc, hd⟩ := id hit
  unfold pyNext
  refine wpAny_bind (wpAny_attempt (wpAny_callSpecial?_slot (name := Str.ofString "__next__") hit.typeIs slot_rt_next (wpAny_call_entry slot_rt_next hit.typeIs entry_rt_next ?_ (args_rt_next _))))
  unfold Builtin.«reversed.__next__»
  refine wpAny_bind (wpAny_of_eq (a := (Value.ref it, [])) rfl ?_)
  try dsimp only
  refine wpAny_bind (wpAny_field ho hd (x := .str x t) rfl ?_)
  try dsimp only
  refine wpAny_bind (wpAny_field ho hd (x := rawInt (-1)) rfl ?_)
  show wpAny _ _ (if (-1 : Int) < 0 then _ else _) _ _ s
  rw [if_pos (by decide)]
  try dsimp only
  refine wpAny_bind (wpAny_rule ?_)
  refine wpAny_bind ?_
  wp_delta
  refine wpAny_bind (wpAny_setField ho hd (by simp) ?_)
  have ho2 := Heap.get?_update_self (Obj.mapFields (·.setIfInBounds 1 (rawInt (-1)))) ho (Obj.isFreed_of_fields (Obj.data_mapFields hd _))
  refine wpAny_setField (s := { s with heap := s.heap.update it (Obj.mapFields (·.setIfInBounds 1 (rawInt (-1)))) }) ho2 (Obj.data_mapFields hd _) (by simp) ?_
  try dsimp only
  first
  | show wpAny _ _ (newExc (.type "StopIteration") [] >>= _) _ _ _
  | (refine wpAny_bind ?_; show wpAny _ _ (newExc (.type "StopIteration") [] >>= _) _ _ _)
  | (refine wpAny_bind ?_; wp_delta; show wpAny _ _ (newExc (.type "StopIteration") [] >>= _) _ _ _)
  refine wpAny_bind ?_
  simp only [newExc, newTuple]
  refine wpAny_bind (wpAny_newObj_type ?_ (by size_fits))
  refine wpAny_bind (m := firstArgMember _ _) (wpAny_of_eq (a := Value.none) (by first | rfl | (simp only [firstArgMember]; rfl)) ?_)
  refine wpAny_newObj_type ?_ (by size_fits)
  simp only [raiseNew]
  refine wpAny_bind (wpAny_handled ?_)
  first | rw [show A.in1.handled = none from hh] | rw [hh]
  refine wpAny_bind (wpAny_pure (wpAny_throw ?_))
  refine wpAny_bind (wpAny_isInstance (T := "StopIteration") (b := true) ⟨_, Heap.get?_push_size _ rfl, rfl⟩ isSubtype_stop ?_)
  refine wpAny_pure (hQ _ ?_)
  refine ((?_ : Heap.ExtBut it s.heap _).push _).push _
  exact fun b ob hb e => (Heap.get?_update_other _ _ (Ne.symm hb)).trans ((Heap.get?_update_other _ _ (Ne.symm hb)).trans e)
theorem iter_rs {it : Addr} {i : Int} {Q : Value → Shared → Prop} (hit : IsRs s.heap it x t i) (h : Q (.ref it) s) : wpAny (model prog w) A (pyIter (.ref it)) Q E s := by
  refine wpAny_pyIter_slot hit.typeIs slot_rt_iter (wpAny_call_entry slot_rt_iter hit.typeIs entry_rt_iter ?_ (args_rt_iter _))
  show wpAny _ _ (ret (.ref it)) _ _ s
  exact wpAny_pure ⟨_, rfl, "reversed", _, hit.typeIs, slot_rt_next.lookup, h⟩
end
theorem walks_rs {prog : Program} {w : World} {A : Around} (hh : A.handled = none) (it : Addr) (x : Str) (t : Tok) (hz : x.length ≤ sizeLine) :
    Walks prog w A it [it] [it] x.cps.size (fun i v => ∃ c u, x.cps[x.cps.size - 1 - i]? = some c ∧ v = .str ⟨#[c]⟩ u) (fun i h => i ≤ x.cps.size ∧ IsRs h it x t ((x.cps.size : Int) - 1 - (i : Int))) where
  sub := fun b hb => hb
  frame := fun _ _ _ z hk => ⟨z.1, z.2.at fun o e => hk it (by simp) o e⟩
  item := fun i s Q E hi z hQ => by
    have e : (x.cps.size : Int) - 1 - (i : Int) = ((x.cps.size - 1 - i : Nat) : Int) := by omega
    have hit := z.2
    rw [e] at hit
    have hx : x.cps[x.cps.size - 1 - i]? = some (x.cps[x.cps.size - 1 - i]'(by omega)) := Array.getElem?_eq_getElem (by omega)
    refine next_rs hit hx hz fun h' u k hit' hs' => ?_
    have e2 : ((x.cps.size - 1 - i : Nat) : Int) - 1 = (x.cps.size : Int) - 1 - ((i + 1 : Nat) : Int) := by omega
    rw [e2] at hit'
    exact hQ _ h' k ⟨_, _, hx, rfl⟩ ⟨hi, hit'⟩ fun b o hb eo => hs'.extBut b o (fun h => hb (by simp [h])) eo
  done := fun s Q E z hQ => by
    have e : (x.cps.size : Int) - 1 - (x.cps.size : Int) = -1 := by omega
    have hit := z.2
    rw [e] at hit
    exact end_rs hh hit fun h' he' => hQ h' s.toks fun b o hb eo => he' b o (fun h => hb (by simp [h])) eo
  self := fun _ _ _ _ z hQ => iter_rs z.2 hQ

section
variable {prog : Program} {w : World} {A : Around} {E : Value → Shared → Prop} {s : Shared} {x : Str} {t : Tok}
theorem code_hint {it : Addr} {i : Nat} {Q : Value → Shared → Prop} (hit : IsRs s.heap it x t (i : Int)) (hi : i < x.length) (hz : x.length ≤ sizeLine) (hQ : ∀ u k, Q (.int ((i : Int) + 1) u) { s with toks := k }) :
    wpAny (model prog w) A (call (.builtin "reversed.__length_hint__") [.ref it]) Q E s := by
  obtain ⟨o, ho, hc, hd⟩ := id hit
  have hz2 := hz
  rw [sizeLine_eq] at hz2
  refine wpAny_call_entry slot_hint hit.typeIs entry_hint ?_ (args_hint _)
  unfold Builtin.«reversed.__length_hint__»
  refine wpAny_bind (wpAny_of_eq (a := Value.ref it) rfl ?_)
  try dsimp only
  refine wpAny_bind (wpAny_field ho hd (x := .str x t) rfl ?_)
  try dsimp only
  try rw [if_neg (by decide)]
  try dsimp only
  refine wpAny_bind (len_str (line_index hz) ?_)
  refine wpAny_bind (wpAny_of_eq (a := some ((x.length : Nat) : Int)) rfl ?_)
  try dsimp only
  refine wpAny_bind (wpAny_field (s := { s with toks := s.toks + 1 + 1 }) ho hd (x := rawInt (i : Int)) rfl ?_)
  show wpAny _ _ (if ((x.length : Nat) : Int) < (i : Int) + 1 then _ else _) _ _ _
  rw [if_neg (by omega)]
  show wpAny _ _ (retInt ((i : Int) + 1)) _ _ _
  exact wpAny_bind (wpAny_mkInt (wpAny_pure ⟨_, rfl, hQ _ _⟩))
/-- the length hint -/
theorem hint_rs {it : Addr} {i : Nat} {Q : Bool → Shared → Prop} (hit : IsRs s.heap it x t (i : Int)) (hi : i < x.length) (hz : x.length ≤ 1000000) (hQ : ∀ k, Q true { s with toks := k }) : wpAny (model prog w) A (Builtin.List.listLengthHint (.ref it)) Q E s := by
  obtain ⟨o, ho, hc, hd⟩ := id hit
  unfold Builtin.List.listLengthHint
  refine wpAny_bind (wpAny_specialOf hit.typeIs nolen_rev ?_)
  show wpAny _ _ (specialOf (Value.ref it) (Str.ofString "__length_hint__") >>= _) _ _ _
  refine wpAny_bind (wpAny_specialOf hit.typeIs hint_rev ?_)
  generalize hid : ("reversed.__length_hint__" : String) = id0
  wp_delta
  rw [show splitId id0 = some ("reversed", "__length_hint__") from by subst hid; decide +kernel]
  subst hid
  refine wpAny_bind (wpAny_isInstance (b := true) hit.typeIs (by rw [isSubtype_type]; kernel_rfl) ?_)
  try dsimp only
  rw [if_neg (show ¬ (!true) = true by decide)]
  rw [if_neg (by decide +kernel)]
  refine wpAny_bind (wpAny_rule ?_)
  refine wpAny_bind ?_
  unfold bindSpecial
  refine wpAny_bind (wpAny_of_eq desc_hint ?_)
  rw [if_pos (by decide +kernel)]
  refine wpAny_pure ?_
  try dsimp only
  refine wpAny_bind (wpAny_attempt (code_hint hit hi (Nat.le_trans hz (by decide)) fun u k => ?_))
  try dsimp only
  obtain ⟨j, hj⟩ : ∃ j : Int, j = (i : Int) + 1 := ⟨_, rfl⟩
  rw [← hj]
  refine wpAny_bind (wpAny_of_eq (show asInt? (.int j u) = pure (some j) from rfl) ?_)
  try dsimp only
  have h1 : Builtin.List.listFitsIndex j = true := by
    unfold Builtin.List.listFitsIndex
    rw [Bool.and_eq_true]
    exact ⟨decide_eq_true (by omega), decide_eq_true (by omega)⟩
  have h2 : Builtin.List.listTooLong j.toNat = false := by
    unfold Builtin.List.listTooLong
    exact decide_eq_false (by rw [sizeLine_eq]; omega)
  rw [if_neg (by rw [h1]; decide), if_neg (by omega), if_neg (by rw [h2]; decide)]
  have h3 : (j != 0) = true := by
    rw [bne_iff_ne]
    omega
  rw [h3]
  exact wpAny_pure (hQ k)
end

section
variable {prog : Program} {w : World} {A : Around} {E : Value → Shared → Prop} {s : Shared} {x : Str} {t : Tok}
/-- what is collected -/
abbrev RevAt (x : Str) (i : Nat) (v : Value) : Prop := ∃ c u, x.cps[x.cps.size - 1 - i]? = some c ∧ v = .str ⟨#[c]⟩ u
theorem extend_rs {R : Result → Shared → Prop} (hh : A.handled = none) {it S : Addr} {res : Value} {c0 : Nat} (hit : IsRs s.heap it x t ((x.cps.size : Int) - 1)) (h1 : 1 ≤ x.length) (hz : x.length ≤ 1000000) (hSI : S ≠ it) (hS : s.heap.get? S = some { cls := .type "list", data := .seq #[] c0 })
    (hR : ∀ h' tk acc' c', (∀ b o, b ≠ S → b ≠ it → s.heap.get? b = some o → h'.get? b = some o) → h'.get? S = some { cls := .type "list", dict := none, data := .seq acc' c', slots := #[] } → ItemsOf (RevAt x) acc' x.cps.size → R (.ok (.ret res)) { s with heap := h', toks := tk }) :
    wpAny (model prog w) A.in1 (Builtin.List.listExtendWith (.ref S) (.ref it) res)
      (fun fin s' => match fin with | .done f => R (.ok f) s' | .again c' => c'.quiet = true ∧ codeAny (model prog w) A c' R s') (fun e s' => R (.error e) s') s := by
  have hz2 : x.length ≤ sizeLine := Nat.le_trans hz (by decide)
  have W := (walks_rs (prog := prog) (w := w) (A := A.in1) hh it x t hz2).toS
  have hSf : S ∉ [it] := fun hm => hSI (List.mem_singleton.mp hm)
  have hx1 : 1 ≤ x.cps.size := h1
  have e0 : (x.cps.size : Int) - 1 = ((x.cps.size - 1 : Nat) : Int) := by omega
  unfold Builtin.List.listExtendWith
  refine wpAny_bind (wpAny_typeOf hit.typeIs ?_)
  have q1 : Builtin.List.listSameRef (.ref S) (.ref it) = false := by simp [Builtin.List.listSameRef, hSI]
  have q2 : (Value.type "reversed" == Value.type "list") = false := by decide
  have q3 : (Value.type "reversed" == Value.type "tuple") = false := by decide
  simp only [q1, q2, q3, Bool.or_false, Bool.false_eq_true, if_false]
  refine wpAny_bind (iter_rs hit ?_)
  refine wpAny_bind (wpAny_holding ?_)
  refine hint_rs (i := x.cps.size - 1) (by rw [← e0]; exact hit) (by show x.cps.size - 1 < x.cps.size; omega) hz fun k => ?_
  show wpAny _ A.in1 (rule "list.extend.makes-room" >>= fun _ => Builtin.List.listTouch (.ref S) >>= fun _ => again (.builtin "list.extend.loop" ⟨[.ref S, .ref it, res], []⟩)) _ _ _
  refine wpAny_bind (wpAny_rule ?_)
  refine wpAny_bind ?_
  show wpAny _ A.in1 (updateSeq S (·.push .none) >>= fun _ => updateSeq S (·.pop)) _ _ _
  refine wpAny_bind (wpAny_updateSeq (s := { s with toks := k }) hS rfl ?_)
  have hS2 := Heap.get?_update_self (Obj.mapSeq (·.push Value.none)) hS rfl
  refine wpAny_updateSeq (hz := by seq_fits) hS2 rfl ?_
  have hS3 := Heap.get?_update_self (Obj.mapSeq (·.pop)) hS2 rfl
  have oth : ∀ b o, b ≠ S → s.heap.get? b = some o → ((s.heap.update S (Obj.mapSeq (·.push Value.none))).update S (Obj.mapSeq (·.pop))).get? b = some o :=
    fun b o hb e => (Heap.get?_update_other _ _ (Ne.symm hb)).trans ((Heap.get?_update_other _ _ (Ne.symm hb)).trans e)
  have ez : (x.cps.size : Int) - 1 - ((0 : Nat) : Int) = (x.cps.size : Int) - 1 := by omega
  refine wpAny_pure ⟨plainId_quiet F.plain_extend_loop _, codeAny_extend_loopS W hz2 _ hSf _ x.cps.size 0 _ _ _ rfl (Nat.zero_le _) ⟨Nat.zero_le _, by rw [ez]; exact hit.at fun o e => oth it o (Ne.symm hSI) e⟩ hS3 (ItemsOf.nil _) fun s' acc' c' hm hS' hacc => ?_⟩
  rw [Moved.eq_with hm]
  refine hR s'.heap s'.toks acc' c' (fun b ob hb hi e => hm.heap b ob (fun hmem => ?_) (oth b ob hb e)) hS' hacc
  rcases List.mem_cons.mp hmem with e' | hmem
  · exact hb e'
  · exact hi (List.mem_singleton.mp hmem)
theorem call_list_rs {Q : Value → Shared → Prop} (hh : A.handled = none) {it : Addr} (hit : IsRs s.heap it x t ((x.cps.size : Int) - 1)) (h1 : 1 ≤ x.length) (hz : x.length ≤ 1000000)
    (hQ : ∀ h' tk acc' c', (∀ b o, b ≠ it → s.heap.get? b = some o → h'.get? b = some o) → h'.get? s.heap.objs.size = some { cls := .type "list", dict := none, data := .seq acc' c', slots := #[] } → ItemsOf (RevAt x) acc' x.cps.size → Q (.ref s.heap.objs.size) { s with heap := h', toks := tk }) :
    wpAny (model prog w) A (call (.type "list") [.ref it]) Q E s := by
  have hlt : it < s.heap.objs.size := let ⟨_, ho, _⟩ := hit; Heap.lt_size ho
  refine callType_codes (Q₁ := fun obj s₁ => obj = .ref s.heap.objs.size ∧ s₁ = { s with heap := s.heap.push { cls := .type "list", data := .seq #[] } }) F.called_list (F.typeCall_list_1 _) F.entry_list_init
    (code_list_new _ ⟨rfl, rfl⟩) fun obj s1 hs1 => ?_
  obtain ⟨rfl, rfl⟩ := hs1
  have hS : (s.heap.push { cls := .type "list", data := .seq #[] }).get? s.heap.objs.size = some { cls := .type "list", data := .seq #[] } := Heap.get?_push_size _ rfl
  refine ⟨⟨_, hS, rfl⟩, F.args_list_init_2 _ _, ?_⟩
  show wpAny _ A.in1.in1 (do let old ← Builtin.List.listItems (.ref s.heap.objs.size); Builtin.List.listUpdate (.ref s.heap.objs.size) (fun _ => #[]); letGo old.toList.reverse; Builtin.List.listExtendWith (.ref s.heap.objs.size) (.ref it) .none) _ _ _
  refine wpAny_bind ?_
  unfold Builtin.List.listItems
  refine wpAny_bind (wpAny_seqItems hS rfl (wpAny_pure ?_))
  show wpAny _ A.in1.in1 (updateSeq s.heap.objs.size (fun _ => #[]) >>= fun _ => letGo (#[] : Array Value).toList.reverse >>= fun _ => Builtin.List.listExtendWith (.ref s.heap.objs.size) (.ref it) .none) _ _ _
  refine wpAny_bind (wpAny_updateSeq hS rfl ?_)
  have hS2 := Heap.get?_update_self (Obj.mapSeq (fun _ => (#[] : Array Value))) hS rfl
  have oth : ∀ b o, b ≠ s.heap.objs.size → (s.heap.push { cls := .type "list", data := .seq #[] }).get? b = some o → ((s.heap.push { cls := .type "list", data := .seq #[] }).update s.heap.objs.size (Obj.mapSeq (fun _ => (#[] : Array Value)))).get? b = some o :=
    fun b o hb e => (Heap.get?_update_other _ _ (Ne.symm hb)).trans e
  have old : ∀ b o, s.heap.get? b = some o → ((s.heap.push { cls := .type "list", data := .seq #[] }).update s.heap.objs.size (Obj.mapSeq (fun _ => (#[] : Array Value)))).get? b = some o :=
    fun b o e => oth b o (Nat.ne_of_lt (Heap.lt_size e)) (Heap.get?_push_of_some _ e)
  refine wpAny_bind (wpAny_letGo ?_)
  refine extend_rs (A := A.in1) hh (hit.at fun o e => old it o e) h1 hz (Nat.ne_of_gt hlt) hS2 fun h' tk acc' c' hk hS' hacc => ?_
  exact ⟨rfl, hQ h' tk acc' c' (fun b o hb e => hk b o (Nat.ne_of_lt (Heap.lt_size e)) hb (old b o e)) hS' hacc⟩
end
theorem vals_rs {x : Str} {acc : Array Value} (h : ItemsOf (RevAt x) acc x.cps.size) : L2.Vals (x.cps.toList.reverse.map fun c => L2.V.str ⟨#[c]⟩) acc.toList := by
  have key : ∀ (l : List L2.V) (us : List Value), l.length = us.length → (∀ (i : Nat) (v : L2.V) (u : Value), l[i]? = some v → us[i]? = some u → L2.RelV v u) → L2.Vals l us := by
    intro l
    induction l with
    | nil =>
      intro us hl _
      cases us with
      | nil => exact .nil
      | cons _ _ => cases hl
    | cons v r ih =>
      intro us hl hr
      cases us with
      | nil => cases hl
      | cons u us => exact .cons (hr 0 v u rfl rfl) (ih us (Nat.succ.inj hl) fun i a b h1 h2 => hr (i + 1) a b h1 h2)
  have hs : acc.toList.length = x.cps.size := by rw [Array.length_toList]; exact h.1
  refine key _ _ (by rw [List.length_map, List.length_reverse, Array.length_toList, hs]) fun i v u h1 h2 => ?_
  rw [Array.getElem?_toList] at h2
  obtain ⟨c, tk, hc, rfl⟩ := h.2 i u h2
  have hi : i < x.cps.size := by
    have := (Array.getElem?_eq_some_iff.mp h2).1
    rw [h.1] at this
    exact this
  rw [List.getElem?_map, List.getElem?_reverse (by rw [Array.length_toList]; exact hi), Array.length_toList, Array.getElem?_toList, hc] at h1
  cases h1
  exact ⟨tk, rfl⟩
section
open L2
variable {X : Cx}
/-- list(reversed(x)), x a text: a new list of its signs, from behind -/
def tListRs (te : TE) : TE := fun σ H Q => te σ H fun v H1 => ∃ x : Str, v = .str x ∧ 1 ≤ x.length ∧ x.length ≤ 1000000 ∧ ∀ q, H1 q = none → Q (.ref q) (upd H1 q (.lst (x.cps.toList.reverse.map fun c => V.str ⟨#[c]⟩)))
theorem pe_listRs {e : Expr} {te : TE} {p p2 pos pos2 : Pos} (hc : X.calm = true) (hg : Gl X "list") (hm : X.mg "list" = none) (hg2 : Gl X "reversed") (hm2 : X.mg "reversed" = none) (he : PE X e te)
    (hs : starEach [e] X.env = (false, eval e X.env) :: starEach [] X.env := by rfl)
    (hs2 : starEach [.Call (.Name "reversed" p2) [e] [] pos2] X.env = (false, eval (.Call (.Name "reversed" p2) [e] [] pos2) X.env) :: starEach [] X.env := by rfl) :
    PE X (.Call (.Name "list" p) [.Call (.Name "reversed" p2) [e] [] pos2] [] pos) (tListRs te) := by
  refine ⟨fun pins s σ H Q I h => ?_⟩
  refine Call_ (ld_blt (u := .type "list") I hg hm (by decide +kernel) (PyProof.Rows.callWith_type1 (args_cons (Call_ (ld_blt I hg2 hm2 PyProof.Rows.boot_reversed (PyProof.Rows.callWith_type1 (args_cons (thn (he.run pins s σ H _ I h) fun u s1 hq => args_nil ?_) hs) hs rfl))) hs2) hs2 rfl))
  obtain ⟨v, H1, I1, r1, x, ev, h1, hz, q⟩ := hq
  subst ev
  obtain ⟨t, rfl⟩ := r1
  refine call_rs (Nat.le_trans hz (by decide)) (args_nil ?_)
  have k0 : ∀ b o, s1.heap.get? b = some o → (s1.heap.push (rsObj x t ((x.length : Int) - 1))).get? b = some o := fun b o e => Heap.get?_push_of_some _ e
  have I2 : Inv X pins σ H1 { s1 with heap := s1.heap.push (rsObj x t ((x.length : Int) - 1)), toks := s1.toks + 1 + 1 } := I1.kept k0
  obtain ⟨f0, f1, f2, f3, f4, f5⟩ := I1.fpOk (H' := H1) (b := s1.heap.objs.size) (Nat.le_refl _) (I1.hok.fresh (Nat.le_refl _))
  refine call_list_rs (s := { s1 with heap := s1.heap.push (rsObj x t ((x.length : Int) - 1)), toks := s1.toks + 1 + 1 }) (I1.ok.hd hc) ⟨_, Heap.get?_push_size _ rfl, rfl, rfl⟩ h1 hz fun h' tk acc c' hk hS hi => ?_
  have hne : (s1.heap.push (rsObj x t ((x.length : Int) - 1))).objs.size ≠ s1.heap.objs.size := by
    rw [Heap.size_push]
    exact Nat.succ_ne_self _
  have kp : ∀ b u, s1.heap.get? b = some u → h'.get? b = some u := fun b u e => hk b u (Nat.ne_of_lt (Heap.lt_size e)) (Heap.get?_push_of_some _ e)
  have hD : s1.heap.objs.size ≤ (s1.heap.push (rsObj x t ((x.length : Int) - 1))).objs.size := by
    rw [Heap.size_push]
    exact Nat.le_succ _
  refine ⟨.ref (s1.heap.push (rsObj x t ((x.length : Int) - 1))).objs.size, _, I1.laid (t' := tk) kp hD (show ObjOk X.prog X.w _ h' _ (.lst (x.cps.toList.reverse.map fun c => V.str ⟨#[c]⟩)) from ⟨?_, acc.toList, c', vals_rs hi, ?_⟩), rfl, q _ (I1.hok.fresh hD)⟩
  · rw [List.length_map, List.length_reverse, Array.length_toList]
    exact Nat.le_trans hz (by decide)
  · rw [hS, Array.toArray_toList]
end
end Rs

namespace Rd
open PySem PySem.Spec PyProof.Rows L2 GxR
open C8 (pss_cut tCut)
/-! ### words, plainly -/
theorem one_lt (a b : Nat) : decide (([a] : List Nat) < [b]) = decide (a < b) := by
  by_cases h : a < b
  · rw [decide_eq_true h]
    exact decide_eq_true (List.cons_lt_cons_iff.mpr (.inl h))
  · rw [decide_eq_false h]
    refine decide_eq_false fun z => ?_
    rcases List.cons_lt_cons_iff.mp z with z | ⟨_, z⟩
    · exact h z
    · exact List.not_lt_nil _ z
def signB (c : Nat) : Bool := (!decide (c < 33) && !decide (36 < c)) || (!decide (c < 38) && !decide (126 < c))
def wordB (a : Str) : Bool := decide ((1 : Int) ≤ (a.length : Int)) && (decide ((a.length : Int) ≤ 40) && a.cps.toList.all signB)
theorem wordB_len {a : Str} (h : wordB a = true) : 1 ≤ a.length ∧ a.length ≤ 40 := by
  unfold wordB at h
  rw [Bool.and_eq_true, Bool.and_eq_true] at h
  obtain ⟨h1, h2, _⟩ := h
  have h1 := of_decide_eq_true h1
  have h2 := of_decide_eq_true h2
  omega
theorem wordB_signs {a : Str} (h : wordB a = true) : ∀ c ∈ a.cps.toList, signB c = true := by
  unfold wordB at h
  rw [Bool.and_eq_true, Bool.and_eq_true] at h
  exact List.all_eq_true.mp h.2.2
theorem small_line {n : Nat} (h : n ≤ 1000000) : n ≤ sizeLine := Nat.le_trans h (by decide)
theorem tyL {K : PySem.W.Frag} {H : Hp} {a : Addr} {xs : List V} (h : SqL K H a xs) : TyX K H (.ref a) (.type "list") := by
  rcases h with (h | ⟨o, h⟩) | ⟨o, its, n, e, c, _⟩
  · exact .base (.lst h)
  · exact .base (.frz h)
  · exact .kList e c
theorem tyT {K : PySem.W.Frag} {H : Hp} {a : Addr} {xs : List V} (h : SqT K H a xs) : TyX K H (.ref a) (.type "tuple") := by
  rcases h with (h | ⟨o, h⟩) | ⟨o, its, n, e, c, _⟩
  · exact .base (.tup h)
  · exact .fTuple h
  · exact .kTuple e c
theorem for_enum {K : PySem.W.Frag} {a : Addr} {xs : List V} {g : TG} {tb : TS} {D : Ends} {σ : L2.St} {H : Hp} (Pv : Nat → L2.St → Hp → Prop) (h0 : Pv 0 σ H) (hl : ∀ i σ H, i ≤ xs.length → Pv i σ H → SqL K H a xs)
    (hs : ∀ (i : Nat) (x : V) (T : Addr) (σ : L2.St) (H : Hp), xs[i]? = some x → H T = none → Pv i σ H → g (.ref T) σ (upd H T (.tup [.int (i : Nat), x])) fun σ2 H2 => tb { D with nx := Pv (i + 1), ct := Pv (i + 1), bk := D.nx } σ2 H2) (hd : ∀ σ H, Pv xs.length σ H → D.nx σ H) :
    ∃ W : Nat → Nat → L2.St → Hp → Prop, (∃ m, W 0 m σ H) ∧ ∀ i m σ H, W i m σ H →
      ((Ite K a).stop i H ∧ D.nx σ H) ∨ ((Ite K a).go i H ∧ ∃ N : L2.St → Hp → Prop, (∀ σ' H', N σ' H' → ∃ m', m' < m ∧ W (i + 1) m' σ' H') ∧ ∀ x H', (Ite K a).yld i H x H' → g x σ H' fun σ2 H2 => tb { D with nx := N, ct := N, bk := D.nx } σ2 H2) := by
  refine ⟨fun i m σ H => m = xs.length - i ∧ i ≤ xs.length ∧ Pv i σ H, ⟨xs.length, by simp, Nat.zero_le _, h0⟩, ?_⟩
  rintro i m σ H ⟨rfl, hi, p⟩
  have q := hl i σ H hi p
  by_cases hlt : i < xs.length
  · refine .inr ⟨⟨xs, xs[i], q, by simp [hlt]⟩, Pv (i + 1), fun σ' H' p' => ⟨xs.length - (i + 1), by omega, rfl, hlt, p'⟩, fun x H' y => ?_⟩
    obtain ⟨T, z, rfl, nT, rfl, hz⟩ := y
    exact hs i z T σ H (hz xs q) nT p
  · have e : i = xs.length := by omega
    subst e
    exact .inl ⟨⟨xs, q, Nat.le_refl _⟩, hd σ H p⟩
theorem yesT {σ : L2.St} {H : Hp} {f g : Hp → Prop} (h : f H) : tYes σ H fun b H3 => if b = true then f H3 else g H3 := by
  show if true = true then f H else g H
  exact iteT h
theorem Kp.set {Ps : List Addr} {H H' : Hp} (t : Tb Ps H) (k : Kp Ps H H') {D : Addr} {o : HO} (h : H D = Option.none) : Kp Ps H (upd H' D o) := by
  have hD := t.none h
  refine ⟨fun P hP => ?_, fun b u hb e => ?_⟩
  · obtain ⟨ps, h1, h2⟩ := k.1 P hP
    exact ⟨ps, by rw [upd_ne (fun z => hD (by rw [← z]; exact hP))]; exact h1, h2⟩
  · rw [upd_ne (ne_of_none e h)]
    exact k.2 b u hb e
theorem take_snoc {α : Type} {l : List α} {i : Nat} {x : α} (h : l[i]? = some x) : l.take (i + 1) = l.take i ++ [x] := by
  rw [List.take_add_one, h]
  rfl
def top (i : Nat) : Stmt := PySem.Challenge.pw_redraft_k06_the_table.main.body.getD i (.Pass ⟨0, 0, 0, 0⟩)
abbrev sIsSign : Stmt := top 7
abbrev sIsWord : Stmt := top 8
abbrev sCheckWords : Stmt := top 9
abbrev sCheckLength : Stmt := top 10
abbrev sCheckText : Stmt := top 11
abbrev sTable : Stmt := top 13
abbrev sLeastCost : Stmt := top 14
abbrev sApart : Stmt := top 15
abbrev sCellAt : Stmt := top 17
abbrev sSignBy : Stmt := top 18
abbrev sWordBy : Stmt := top 19
abbrev sNear : Stmt := top 20
abbrev sMenu : Stmt := top 21
abbrev sStep : Stmt := top 22
abbrev sWay : Stmt := top 23
abbrev sSide : Stmt := top 24
abbrev sWhole : Stmt := top 25
abbrev sKinds : Stmt := top 26
abbrev sDue : Stmt := top 27
abbrev sLaw : Stmt := top 28
/-! ### the program's words -/
section
variable {P : Program} {w : World} {K : PySem.W.Frag} {mg : Str → Option Value} {base : Heap}
abbrev FnP (K : PySem.W.Frag) (x : Str) (st : Stmt) (f : Addr) (fd : FuncData) : Prop := FunD K x x (defArgs st) (defBody st) (defScope st) [] [] f fd
theorem scIsSign : FnScope ["sign"] ["sign"] (defScope sIsSign) := ⟨rfl, rfl, rfl, by decide +kernel, rfl, by decide +kernel, by decide +kernel⟩
theorem scIsWord : FnScope ["word", "sign"] ["word"] (defScope sIsWord) := ⟨rfl, rfl, rfl, by decide +kernel, rfl, by decide +kernel, by decide +kernel⟩
def spIsSign : Sp := fun vs H Q _ => ∃ c : Nat, vs = [.str ⟨#[c]⟩] ∧ Q (.bl (signB c)) H
theorem ok_is_sign {f : Addr} {fd : FuncData} (F : FnP K "is_sign" sIsSign f fd) : FnOk P w K mg base (L2.CX P w) 1 f fd ["sign"] spIsSign := by
  refine F.ok scIsSign (fun vs H Q E h => ?_) (fun cdv A outer s H vs Q E hr h => ?_)
  · obtain ⟨c, rfl, _⟩ := h
    rfl
  · obtain ⟨c, rfl, q⟩ := h
    refine ⟨_, pss_one (ps_ret (pe_or (pe_chain op_le_str op_le_str pe_str (pv 0) pe_str) (pe_one (pe_chain op_le_str op_le_str pe_str (pv 0) pe_str)))), ?_⟩
    have k1 : ("!" : Str).cps.toList = [33] := by decide +kernel
    have k2 : ("$" : Str).cps.toList = [36] := by decide +kernel
    have k3 : ("&" : Str).cps.toList = [38] := by decide +kernel
    have k4 : ("~" : Str).cps.toList = [126] := by decide +kernel
    have kc : (⟨#[c]⟩ : Str).cps.toList = [c] := rfl
    refine ⟨_, rfl, _, _, rfl, rfl, _, rfl, ?_⟩
    rw [k1, kc, one_lt]
    unfold signB at q
    by_cases h1 : c < 33
    · rw [decide_eq_true h1] at q ⊢
      refine iteF ⟨_, rfl, iteF ⟨_, rfl, _, _, rfl, rfl, _, rfl, ?_⟩⟩
      rw [k3, kc, one_lt]
      by_cases h3 : c < 38
      · rw [decide_eq_true h3] at q ⊢
        exact iteF q
      · omega
    · rw [decide_eq_false h1] at q ⊢
      refine iteT ⟨_, _, rfl, rfl, ?_⟩
      rw [k2, kc, one_lt]
      by_cases h2 : 36 < c
      · rw [decide_eq_true h2] at q ⊢
        refine ⟨_, rfl, iteF ⟨_, rfl, _, _, rfl, rfl, _, rfl, ?_⟩⟩
        rw [k3, kc, one_lt]
        by_cases h3 : c < 38
        · rw [decide_eq_true h3] at q ⊢
          exact iteF q
        · rw [decide_eq_false h3] at q ⊢
          refine iteT ⟨_, _, rfl, rfl, ?_⟩
          rw [k4, kc, one_lt]
          exact q
      · rw [decide_eq_false h2] at q ⊢
        exact ⟨_, rfl, iteT q⟩

def spIsWord (Ps : List Addr) : Sp := fun vs H Q _ => ∃ a : Str, vs = [.str a] ∧ a.length ≤ sizeLine ∧ Tb Ps H ∧ ∀ H', Kp Ps H H' → Q (.bl (wordB a)) H'
theorem ok_is_word {Ps : List Addr} {f fS Pw : Addr} {fd fdS : FuncData} (F : FnP K "is_word" sIsWord f fd) (hf : f = He.fAd K ("is_word", none)) (hPw : Pw ∈ Ps) (TB : GxR.TabB base mg (He.codeOf K ("is_word", none)) Pw)
    (FS : FnP K "is_sign" sIsSign fS fdS) (bS : Binds K fdS ["sign"] []) (gS : mg "is_sign" = some (.ref fS)) (mI : mg "isinstance" = none) (mS : mg "str" = none) (mL : mg "len" = none) (mA : mg "all" = none) {tL : Tok} (mN : mg "LONGEST" = some (.int 40 tL)) :
    FnOk P w K mg base (L2.CX P w) 3 f fd ["word"] (spIsWord Ps) := by
  have GS : FnOk P w K mg base (L2.CX P w) 1 fS fdS ["sign"] spIsSign := ok_is_sign FS
  refine okC F hf scIsWord (fun vs H Q E h => ?_) (fun A outer s H vs Q E hr h => ?_)
  · obtain ⟨a, rfl, _⟩ := h
    rfl
  · obtain ⟨a, rfl, hz, ht, q⟩ := h
    refine ⟨_, pss_cons (ps_if (pt_not (pt_val (pe_callB call_isi (by rfl) mI (by decide +kernel) (pa_cons (pv 0) (pa_cons (pe_bltn (v := .ty "str") (by rfl) mS (by decide +kernel) rfl) pa_nil))))) (pss_one (ps_ret pe_bl)) pss_nil)
      (pss_one (ps_ret (pe_and (pe_chain op_le op_le pe_int (pe_callB call_len_str (by rfl) mL PySem.boot_len (pa_cons (pv 0) pa_nil)) (pe_glob (v := .int 40) (by rfl) mN ⟨_, rfl⟩))
        (pe_one (pe_allG (own := [("sign", 1)]) (gt := gName 1) (tt := tYes) (P := Pw) hr scIsWord.nd (by rfl) mA (by decide +kernel) TB rfl ⟨rfl, by decide +kernel, rfl, blkOk_by (N := ["word", "sign"]) (sc := defScope sIsWord) (by decide +kernel)⟩ (pi_str (pv 0))
          (fun _ _ _ _ _ _ _ _ _ => pg_name (i := 1) scIsWord.nd rfl (Or.inl rfl)) (fun _ _ _ _ _ _ _ _ _ _ => pts_nil) (fun _ _ _ _ _ _ _ _ _ hb => pe_call GS hb (by rfl) gS FS.kp bS .nil passL (pa_cons (pv 1) pa_nil))))))), ?_⟩
    refine ⟨_, rfl, .str a, .ty "str", _, _, true, rfl, .ty _, .base (.str a), kit_ty (by decide +kernel), true, rfl, iteF ?_⟩
    refine ⟨_, rfl, a, rfl, hz, 1, (a.length : Int), rfl, rfl, _, rfl, ?_⟩
    have eN : wordB a = (decide ((1 : Int) ≤ (a.length : Int)) && (decide ((a.length : Int) ≤ 40) && a.cps.toList.all signB)) := rfl
    rw [eN] at q
    by_cases h1 : (1 : Int) ≤ (a.length : Int)
    · rw [decide_eq_true h1] at q ⊢
      refine iteT ⟨(a.length : Int), 40, rfl, rfl, _, rfl, ?_⟩
      by_cases h2 : (a.length : Int) ≤ 40
      · rw [decide_eq_true h2] at q ⊢
        refine iteT ⟨_, rfl, a, rfl, ht Pw hPw, fun H2 hT => ?_⟩
        have k2 := Kp.tab ht hPw hT
        refine read_all_str (pb := signB) (Pv := fun H3 => H3 = H2) rfl (fun i c H3 R _ p hR => ?_) (fun H3 p => ?_)
        · subst p
          refine ⟨rfl, _, rfl, c, rfl, hR _ rfl⟩
        · subst p
          exact q _ k2
      · rw [decide_eq_false h2] at q ⊢
        exact iteF (q H (Kp.refl ht))
    · rw [decide_eq_false h1] at q ⊢
      exact iteF ⟨_, rfl, iteF (q H (Kp.refl ht))⟩
end
section
variable {P : Program} {w : World} {K : PySem.W.Frag} {mg : Str → Option Value} {base : Heap}
theorem scCheckWords : FnScope ["words", "at", "word"] ["words"] (defScope sCheckWords) := ⟨rfl, rfl, rfl, by decide +kernel, rfl, by decide +kernel, by decide +kernel⟩
theorem scCheckLength : FnScope ["words"] ["words"] (defScope sCheckLength) := ⟨rfl, rfl, rfl, by decide +kernel, rfl, by decide +kernel, by decide +kernel⟩
theorem scCheckText : FnScope ["words"] ["words"] (defScope sCheckText) := ⟨rfl, rfl, rfl, by decide +kernel, rfl, by decide +kernel, by decide +kernel⟩
def spCheckWords (K : PySem.W.Frag) (Ps : List Addr) : Sp := fun vs H Q _ => ∃ (p : Addr) (ws : List Str), vs = [.ref p] ∧ SqL K H p (ws.map V.str) ∧ (∀ a ∈ ws, wordB a = true) ∧ Tb Ps H ∧ ∀ H', Kp Ps H H' → Q .non H'
theorem ok_check_words {Ps : List Addr} {f fW : Addr} {fd fdW : FuncData} (F : FnP K "check_words" sCheckWords f fd) (GW : FnOk P w K mg base (L2.CX P w) 3 fW fdW ["word"] (spIsWord Ps)) (kW : PySem.W.keepIn K (.ref fW) = true) (bW : Binds K fdW ["word"] []) (gW : mg "is_word" = some (.ref fW))
    (mI : mg "isinstance" = none) (mT : mg "list" = none) (mE : mg "enumerate" = none) : FnOk P w K mg base (L2.CX P w) 4 f fd ["words"] (spCheckWords K Ps) := by
  refine F.ok scCheckWords (fun vs H Q E h => ?_) (fun cdv A outer s H vs Q E hr h => ?_)
  · obtain ⟨p, ws, rfl, _⟩ := h
    rfl
  · obtain ⟨p, ws, rfl, hS, hw, ht, q⟩ := h
    refine ⟨_, pss_cons (ps_if (pt_not (pt_val (pe_callB call_isi (by rfl) mI (by decide +kernel) (pa_cons (pv 0) (pa_cons (pe_bltn (v := .ty "list") (by rfl) mT (by decide +kernel) rfl) pa_nil))))) pss_never pss_nil)
      (pss_one (ps_for (passes_of rfl) rfl (pi_enum (by rfl) mE (pa_cons (pv 0) pa_nil)) (pg_tup rfl (pgs_cons (pg_name (i := 1) scCheckWords.nd rfl (.inl rfl)) (pgs_cons (pg_name (i := 2) scCheckWords.nd rfl (.inl rfl)) pgs_nil)))
        (pss_one (ps_if (pt_not (pt_val (pe_call GW hr (by rfl) gW kW bW .nil passL (pa_cons (pv 2) pa_nil)))) pss_never pss_nil)))), ?_⟩
    refine ⟨_, rfl, .ref p, .ty "list", _, _, true, rfl, .ty _, tyL hS, kit_ty (by decide +kernel), true, rfl, iteF ?_⟩
    refine ⟨_, rfl, p, _, rfl, hS, for_enum (xs := ws.map V.str) (fun i σ' H' => Kp Ps H H' ∧ ∃ y1 y2, σ' = [some (.ref p), y1, y2]) ⟨Kp.refl ht, none, none, rfl⟩ (fun i σ' H' _ hp => hp.1.seq ht hS) (fun i x T σ' H' hx nT hp => ?_) (fun σ' H' hp => q H' hp.1)⟩
    obtain ⟨k, y1, y2, rfl⟩ := hp
    rw [List.getElem?_map] at hx
    obtain ⟨a, ha, rfl⟩ := Option.map_eq_some_iff.mp hx
    have hwa := hw a (List.mem_of_getElem? ha)
    have k2 : Kp Ps H (upd H' T (.tup [.int (i : Nat), .str a])) := k.trans (Kp.new k.1 nT)
    refine ⟨T, _, rfl, .inl (.inl upd_same), rfl, _, _, rfl, _, _, rfl, rfl, ?_⟩
    refine ⟨_, rfl, a, rfl, small_line (by have := wordB_len hwa; omega), k2.1, fun H3 k3 => ⟨_, rfl, ?_⟩⟩
    rw [hwa]
    exact iteF ⟨k2.trans k3, _, _, rfl⟩

def spCheckLength (K : PySem.W.Frag) : Sp := fun vs H Q _ => ∃ (p : Addr) (xs : List V), vs = [.ref p] ∧ SqL K H p xs ∧ xs.length ≤ 120 ∧ Q .non H
theorem ok_check_length {f : Addr} {fd : FuncData} (F : FnP K "check_length" sCheckLength f fd) (mL : mg "len" = none) {tM : Tok} (mM : mg "MOST" = some (.int 120 tM)) : FnOk P w K mg base (L2.CX P w) 1 f fd ["words"] (spCheckLength K) := by
  refine F.ok scCheckLength (fun vs H Q E h => ?_) (fun cdv A outer s H vs Q E hr h => ?_)
  · obtain ⟨p, xs, rfl, _⟩ := h
    rfl
  · obtain ⟨p, xs, rfl, hS, hl, q⟩ := h
    refine ⟨_, pss_one (ps_if (pt_cmpR op_gt (pe_callB call_len_seq (by rfl) mL PySem.boot_len (pa_cons (pv 0) pa_nil)) (pe_glob (v := .int 120) (by rfl) mM ⟨_, rfl⟩) (nomark _)) pss_never pss_nil), ?_⟩
    refine ⟨_, rfl, p, _, rfl, .inl hS, _, _, rfl, rfl, _, rfl, ?_⟩
    have e : decide ((xs.length : Int) > 120) = false := decide_eq_false (by omega)
    show if decide ((xs.length : Int) > 120) = true then _ else _
    rw [e]
    exact iteF q
def spCheckText (K : PySem.W.Frag) (Ps : List Addr) : Sp := fun vs H Q _ => ∃ (p : Addr) (ws : List Str), vs = [.ref p] ∧ SqL K H p (ws.map V.str) ∧ (∀ a ∈ ws, wordB a = true) ∧ ws.length ≤ 120 ∧ Tb Ps H ∧ ∀ H', Kp Ps H H' → Q .non H'
theorem ok_check_text {Ps : List Addr} {f fW fL : Addr} {fd fdW fdL : FuncData} (F : FnP K "check_text" sCheckText f fd) (GW : FnOk P w K mg base (L2.CX P w) 4 fW fdW ["words"] (spCheckWords K Ps)) (kW : PySem.W.keepIn K (.ref fW) = true) (bW : Binds K fdW ["words"] []) (gW : mg "check_words" = some (.ref fW))
    (GL : FnOk P w K mg base (L2.CX P w) 1 fL fdL ["words"] (spCheckLength K)) (kL : PySem.W.keepIn K (.ref fL) = true) (bL : Binds K fdL ["words"] []) (gL : mg "check_length" = some (.ref fL)) : FnOk P w K mg base (L2.CX P w) 5 f fd ["words"] (spCheckText K Ps) := by
  refine F.ok scCheckText (fun vs H Q E h => ?_) (fun cdv A outer s H vs Q E hr h => ?_)
  · obtain ⟨p, ws, rfl, _⟩ := h
    rfl
  · obtain ⟨p, ws, rfl, hS, hw, hl, ht, q⟩ := h
    refine ⟨_, pss_cons (ps_expr (pe_call GW hr (by rfl) gW kW bW .nil passL (pa_cons (pv 0) pa_nil))) (pss_one (ps_expr (pe_call GL (hr.mono (by decide)) (by rfl) gL kL bL .nil passL (pa_cons (pv 0) pa_nil)))), ?_⟩
    refine ⟨_, rfl, p, ws, rfl, hS, hw, ht, fun H' k => ?_⟩
    exact ⟨_, rfl, p, _, rfl, k.seq ht hS, by rw [List.length_map]; exact hl, q H' k⟩
end
/-! ### rows, plainly -/
structure RowD where
  kind : Str
  num : Int
  ws : List Str
def plainK : List Str := ["keep", "cut", "put"]
def blockK : List Str := ["take", "lay"]
def numB (k : Str) (n : Int) : Bool := if inV (.str k) (blockK.map V.str) = true then decide (1 ≤ n) && decide (n ≤ 999999999) else decide (V.int n = V.int 0)
structure RowOk (r : RowD) : Prop where
  kind : r.kind ∈ plainK ++ blockK
  num : numB r.kind r.num = true
  some : r.ws ≠ []
  words : ∀ a ∈ r.ws, wordB a = true
def RowAt (K : PySem.W.Frag) (H : Hp) (v : V) (r : RowD) : Prop := ∃ T W, v = .ref T ∧ SqT K H T [.str r.kind, .int r.num, .ref W] ∧ SqT K H W (r.ws.map V.str)
def RowsAt (K : PySem.W.Frag) (H : Hp) (xs : List V) (rs : List RowD) : Prop := xs.length = rs.length ∧ ∀ (i : Nat) (v : V), xs[i]? = some v → ∃ r, rs[i]? = some r ∧ RowAt K H v r
theorem RowAt.kp {K : PySem.W.Frag} {Ps : List Addr} {H H' : Hp} {v : V} {r : RowD} (t : Tb Ps H) (k : Kp Ps H H') (h : RowAt K H v r) : RowAt K H' v r :=
  let ⟨T, W, e, h1, h2⟩ := h; ⟨T, W, e, k.seqT t h1, k.seqT t h2⟩
theorem RowsAt.kp {K : PySem.W.Frag} {Ps : List Addr} {H H' : Hp} {xs : List V} {rs : List RowD} (t : Tb Ps H) (k : Kp Ps H H') (h : RowsAt K H xs rs) : RowsAt K H' xs rs :=
  ⟨h.1, fun i v e => let ⟨r, h1, h2⟩ := h.2 i v e; ⟨r, h1, h2.kp t k⟩⟩
theorem inV_strs (k : Str) : ∀ l : List Str, inV (.str k) (l.map V.str) = decide (k ∈ l) := by
  intro l
  unfold inV
  induction l with
  | nil => rfl
  | cons a r ih =>
    rw [List.map_cons, List.any_cons, ih]
    have e : eqV (V.str a) (V.str k) = decide (k = a) := by
      show decide (a = k) = decide (k = a)
      by_cases h : a = k
      · subst h
        rfl
      · rw [decide_eq_false h, decide_eq_false (Ne.symm h)]
    rw [e]
    by_cases h : k = a
    · rw [decide_eq_true h, decide_eq_true (show k ∈ a :: r from h ▸ List.mem_cons_self)]
      rfl
    · by_cases h2 : k ∈ r
      · rw [decide_eq_true h2, decide_eq_true (List.mem_cons_of_mem _ h2), Bool.or_true]
      · rw [decide_eq_false h, decide_eq_false h2, decide_eq_false (fun z => (List.mem_cons.mp z).elim h h2)]
        rfl
theorem flat_strs : ∀ l : List Str, (l.map V.str).all flatV = true := by
  intro l
  induction l with
  | nil => rfl
  | cons a r ih =>
    rw [List.map_cons, List.all_cons, ih]
    rfl
/-- a tuple of texts that stands at the top -/
def KTup (K : PySem.W.Frag) (a : Addr) (l : List Str) : Prop := ∀ H, SqT K H a (l.map V.str)
def tupB (K : PySem.W.Frag) (a : Addr) (l : List Str) : Bool := match K.lookup a with
  | some ⟨.type c, _, .seq its _, _⟩ => decide (c = "tuple") && (decide (its.size ≤ 100) && He.relAll (l.map V.str) its.toList)
  | _ => false
theorem tupB_ok {K : PySem.W.Frag} {a : Addr} {l : List Str} (h : tupB K a l = true) : KTup K a l := by
  intro H
  unfold tupB at h
  cases q : K.lookup a with
  | none =>
    rw [q] at h
    cases h
  | some o =>
    obtain ⟨oc, od, dt, osl⟩ := o
    rw [q] at h
    cases oc with
    | type c =>
      cases dt with
      | seq its n =>
        have h2 : (decide (c = "tuple") && (decide (its.size ≤ 100) && He.relAll (l.map V.str) its.toList)) = true := h
        rw [Bool.and_eq_true, Bool.and_eq_true] at h2
        obtain ⟨h3, h4, h5⟩ := h2
        refine .inr ⟨_, its, n, q, congrArg Value.type (of_decide_eq_true h3), rfl, Nat.le_trans (of_decide_eq_true h4) (by decide), He.relAll_ok h5⟩
      | _ => cases h
    | _ => cases dt <;> cases h
def strV : V → Bool
  | .str a => wordB a
  | _ => false
theorem all_strV : ∀ ws : List Str, (ws.map V.str).all strV = ws.all wordB := by
  intro ws
  induction ws with
  | nil => rfl
  | cons a r ih =>
    rw [List.map_cons, List.all_cons, List.all_cons, ih]
    rfl
/-! ### rows as data; what the laws say of rows -/
theorem signB_lt' {c : Nat} (h : signB c = true) : c < 127 := by
  unfold signB at h
  rw [Bool.or_eq_true, Bool.and_eq_true, Bool.and_eq_true, Bool.not_eq_true', Bool.not_eq_true', Bool.not_eq_true', Bool.not_eq_true'] at h
  rcases h with ⟨_, h⟩ | ⟨_, h⟩
  · have := of_decide_eq_false h
    omega
  · have := of_decide_eq_false h
    omega
theorem strOk_word {a : Str} (h : wordB a = true) : PyData.strOk a = true := by
  unfold PyData.strOk
  rw [Array.all_eq_true]
  intro i hi
  have h1 : a.cps[i] ∈ a.cps.toList := by simp
  have h2 := signB_lt' (wordB_signs h _ h1)
  exact decide_eq_true (by omega)
theorem dpStrs (H : Hp) (K : PySem.W.Frag) : ∀ ws : List Str, DpAll K H (ws.map V.str) (ws.map PyData.str)
  | [] => .nil
  | x :: r => .cons (.str x) (dpStrs H K r)
theorem lay_strs : ∀ ws : List Str, (∀ a ∈ ws, PyData.strOk a = true) → PyData.canLayAll0 (ws.map PyData.str) = true := fun ws => by
  induction ws with
  | nil => exact fun _ => rfl
  | cons x r ih =>
    intro h
    show (PyData.canLay0 (.str x) && PyData.canLayAll0 (r.map PyData.str)) = true
    rw [ih fun b hb => h b (List.mem_cons_of_mem _ hb), show PyData.canLay0 (.str x) = PyData.strOk x from rfl, h x List.mem_cons_self]
    rfl
theorem depth_strs : ∀ ws : List Str, PyData.depthAll (ws.map PyData.str) = 0 := fun ws => by
  induction ws with
  | nil => rfl
  | cons x r ih =>
    show max (PyData.depth (.str x)) (PyData.depthAll (r.map PyData.str)) = 0
    rw [ih]
    rfl
theorem shaped_words {ws : List Str} (h : ∀ a ∈ ws, PyData.strOk a = true) : SeqAt.shaped (.list (ws.map PyData.str)) = true := by
  show (PyData.canLayAll0 (ws.map PyData.str) && decide (PyData.depthAll (ws.map PyData.str) + 1 ≤ 64)) = true
  rw [lay_strs ws h, depth_strs]
  rfl
def rowData (r : RowD) : PyData := .tuple [.str r.kind, .int r.num, .tuple (r.ws.map PyData.str)]
theorem dpRow {K : PySem.W.Frag} {H : Hp} {v : V} {r : RowD} (h : RowAt K H v r) : Dp K H v (rowData r) := by
  obtain ⟨T, W, rfl, hT, hW⟩ := h
  exact .tup hT (.cons (.str _) (.cons (.int _) (.cons (.tup hW (dpStrs H K r.ws)) .nil)))
theorem dpRows {K : PySem.W.Frag} {H : Hp} : ∀ {xs : List V} {rs : List RowD}, RowsAt K H xs rs → DpAll K H xs (rs.map rowData)
  | [], [], _ => .nil
  | [], _ :: _, h => nomatch h.1
  | _ :: _, [], h => nomatch h.1
  | x :: xs, r :: rs, h => by
    obtain ⟨r', h1, h2⟩ := h.2 0 x rfl
    cases h1
    exact .cons (dpRow h2) (dpRows ⟨Nat.succ.inj h.1, fun i v e => h.2 (i + 1) v e⟩)
theorem kinds_strOk : ∀ k ∈ plainK ++ blockK, PyData.strOk k = true := by decide +kernel
theorem lay_rows : ∀ rs : List RowD, (∀ r ∈ rs, RowOk r) → PyData.canLayAll0 (rs.map rowData) = true := fun rs => by
  induction rs with
  | nil => exact fun _ => rfl
  | cons x r ih =>
    intro h
    have hx := h x List.mem_cons_self
    show (((PyData.strOk x.kind && (true && (PyData.canLayAll0 (x.ws.map PyData.str) && true)))) && PyData.canLayAll0 (r.map rowData)) = true
    rw [ih fun b hb => h b (List.mem_cons_of_mem _ hb), lay_strs x.ws fun a ha => strOk_word (hx.words a ha), kinds_strOk _ hx.kind]
    rfl
theorem depth_rows : ∀ rs : List RowD, PyData.depthAll (rs.map rowData) ≤ 2 := fun rs => by
  induction rs with
  | nil => exact Nat.zero_le _
  | cons x r ih =>
    show max (max (0 : Nat) (max (0 : Nat) (max (PyData.depthAll (x.ws.map PyData.str) + 1) 0)) + 1) (PyData.depthAll (r.map rowData)) ≤ 2
    rw [depth_strs]
    omega
theorem shaped_rows {rs : List RowD} (h : ∀ r ∈ rs, RowOk r) : SeqAt.shaped (.list (rs.map rowData)) = true := by
  show (PyData.canLayAll0 (rs.map rowData) && decide (PyData.depthAll (rs.map rowData) + 1 ≤ 64)) = true
  rw [lay_rows rs h, decide_eq_true (show PyData.depthAll (rs.map rowData) + 1 ≤ 64 by have := depth_rows rs; omega)]
  rfl
theorem noTb {H : Hp} : Tb [] H := fun _ h => by cases h
theorem RowAt.same {K : PySem.W.Frag} {H H' : Hp} {v : V} {r : RowD} (s : Same H H') (h : RowAt K H v r) : RowAt K H' v r := h.kp noTb (Kp.same noTb s)
theorem RowsAt.same {K : PySem.W.Frag} {H H' : Hp} {xs : List V} {rs : List RowD} (s : Same H H') (h : RowsAt K H xs rs) : RowsAt K H' xs rs := h.kp noTb (Kp.same noTb s)
theorem sameT {K : PySem.W.Frag} {H H' : Hp} {a : Addr} {xs : List V} (s : Same H H') (h : SqT K H a xs) : SqT K H' a xs := (Kp.same noTb s).seqT noTb h
theorem atM {α : Type} {l : List α} {c : Int} {n : Nat} {x : α} (hn : 0 < n) (h : l[(c % (n : Int)).toNat]? = some x) : atI l (c % (n : Int)) = some x := by
  have h1 : 0 ≤ c % (n : Int) := Int.emod_nonneg c (by omega)
  have e : c % (n : Int) = (((c % (n : Int)).toNat : Nat) : Int) := (Int.toNat_of_nonneg h1).symm
  rw [e]
  exact atI_nat h
theorem ltM {c : Int} {n : Nat} (hn : 0 < n) : (c % (n : Int)).toNat < n := by
  have h1 : 0 ≤ c % (n : Int) := Int.emod_nonneg c (by omega)
  have h2 : c % (n : Int) < (n : Int) := Int.emod_lt_of_pos c (by omega)
  omega
/-! ### whole numbers -/
section
variable {P : Program} {w : World} {K : PySem.W.Frag} {mg : Str → Option Value} {base : Heap}
theorem scWhole : FnScope ["_law_found"] ["_law_found"] (defScope sWhole) := ⟨rfl, rfl, rfl, by decide +kernel, rfl, by decide +kernel, by decide +kernel⟩
def spWhole : Sp := fun vs H Q _ => ∃ n : Int, vs = [.int n] ∧ Q (.bl true) H
theorem ok_whole {f : Addr} {fd : FuncData} (F : FnP K "_law_whole" sWhole f fd) (mI : mg "isinstance" = none) (mN : mg "int" = none) (mO : mg "bool" = none) : FnOk P w K mg base (L2.CX P w) 1 f fd ["_law_found"] spWhole := by
  refine F.ok scWhole (fun vs H Q E h => ?_) (fun cdv A outer s H vs Q E hr h => ?_)
  · obtain ⟨n, rfl, _⟩ := h
    rfl
  · obtain ⟨n, rfl, q⟩ := h
    refine ⟨_, pss_one (ps_ret (pe_and (pe_callB call_isi (by rfl) mI (by decide +kernel) (pa_cons (pv 0) (pa_cons (pe_bltn (v := .ty "int") (by rfl) mN (by decide +kernel) rfl) pa_nil)))
      (pe_one (pe_not (pe_callB call_isi (by rfl) mI (by decide +kernel) (pa_cons (pv 0) (pa_cons (pe_bltn (v := .ty "bool") (by rfl) mO (by decide +kernel) rfl) pa_nil))))))), ?_⟩
    refine ⟨_, rfl, .int n, .ty "int", _, _, true, rfl, .ty _, .base (.int n), kit_ty (by decide +kernel), true, rfl, iteT ?_⟩
    exact ⟨_, rfl, .int n, .ty "bool", _, _, false, rfl, .ty _, .base (.int n), kit_ty (by decide +kernel), _, rfl, q⟩
end
/-! ### the law's own helpers -/
def sg (i : Nat) : Nat := if i < 4 then 33 + i else 34 + i
def sgnOf (c : Int) : Nat := sg (c % 93).toNat
theorem sg_ok {i : Nat} (h : i < 93) : signB (sg i) = true := by
  unfold signB sg
  by_cases h1 : i < 4
  · rw [if_pos h1, decide_eq_false (show ¬ 33 + i < 33 by omega), decide_eq_false (show ¬ 36 < 33 + i by omega)]
    rfl
  · rw [if_neg h1, decide_eq_false (show ¬ 34 + i < 38 by omega), decide_eq_false (show ¬ 126 < 34 + i by omega)]
    exact Bool.or_true _
theorem sgnOf_ok (c : Int) : signB (sgnOf c) = true := sg_ok (by
  have h1 : 0 ≤ c % 93 := Int.emod_nonneg c (by decide)
  have h2 : c % 93 < 93 := Int.emod_lt_of_pos c (by decide)
  omega)
def wMore (c : Int) : Int := (c + 5) * 48271 % 1000003
def wSize (c : Int) : Int := if wMore c / 3 % 3 = 1 then 1 + wMore c / 9 % 40 else 1 + wMore c % 3
def wSign (c : Int) (k : Nat) : Nat := sgnOf ((wMore c + 11 * (0 + (k : Int)) + 1) * (wMore c + 211 * (0 + (k : Int)) + 3) % 1000033)
def wCodes (c : Int) (n : Nat) : List Nat := (List.range n).map (wSign c)
def wordOf (c : Int) : Str := ⟨(wCodes c (wSize c).toNat).toArray⟩
theorem wMore_b (c : Int) : 0 ≤ wMore c ∧ wMore c < 1000003 := ⟨Int.emod_nonneg _ (by decide), Int.emod_lt_of_pos _ (by decide)⟩
theorem wSize_b (c : Int) : 1 ≤ wSize c ∧ wSize c ≤ 40 := by
  have h := wMore_b c
  unfold wSize
  by_cases h1 : wMore c / 3 % 3 = 1
  · rw [if_pos h1]
    omega
  · rw [if_neg h1]
    omega
theorem wordOf_len (c : Int) : (wordOf c).length = (wSize c).toNat := by
  show (wCodes c (wSize c).toNat).toArray.size = _
  rw [List.size_toArray]
  unfold wCodes
  rw [List.length_map, List.length_range]
theorem wordOf_ok (c : Int) : wordB (wordOf c) = true := by
  have h := wSize_b c
  have hl := wordOf_len c
  unfold wordB
  rw [Bool.and_eq_true, Bool.and_eq_true]
  refine ⟨decide_eq_true (by omega), decide_eq_true (by omega), List.all_eq_true.mpr fun x hx => ?_⟩
  have hx : x ∈ wCodes c (wSize c).toNat := hx
  obtain ⟨k, _, rfl⟩ := List.mem_map.mp hx
  exact sgnOf_ok _
/-- signs put together -/
theorem join_signs : ∀ l : List Nat, Txt.join ("" : Str) (l.map fun c => (⟨#[c]⟩ : Str)) = (⟨l.toArray⟩ : Str) := by
  intro l
  show Builtin.Str.glued ("" : Str) (l.map fun c => (⟨#[c]⟩ : Str)) = _
  rw [StrLaws.glued_eq_join]
  have e0 : ("" : Str) = ⟨#[]⟩ := by decide +kernel
  rw [e0]
  induction l with
  | nil => rfl
  | cons c r ih =>
    cases r with
    | nil => rfl
    | cons d r =>
      show (⟨#[c]⟩ : Str) ++ (⟨#[]⟩ : Str) ++ Str.join ⟨#[]⟩ ((d :: r).map fun c => (⟨#[c]⟩ : Str)) = _
      rw [ih]
      refine Str.ext' (Array.toList_inj.mp ?_)
      rw [Str.cps_append, Str.cps_append, Array.toList_append, Array.toList_append]
      simp
section
variable {P : Program} {w : World} {K : PySem.W.Frag} {mg : Str → Option Value} {base : Heap}
theorem scCellAt : FnScope ["_law_script", "_law_k"] ["_law_script", "_law_k"] (defScope sCellAt) := ⟨rfl, rfl, rfl, by decide +kernel, rfl, by decide +kernel, by decide +kernel⟩
theorem scSignBy : FnScope ["_law_cell", "_law_some"] ["_law_cell"] (defScope sSignBy) := ⟨rfl, rfl, rfl, by decide +kernel, rfl, by decide +kernel, by decide +kernel⟩
theorem scWordBy : FnScope ["_law_cell", "_law_more", "_law_size", "_law_k"] ["_law_cell"] (defScope sWordBy) := ⟨rfl, rfl, rfl, by decide +kernel, rfl, by decide +kernel, by decide +kernel⟩
theorem ok_cell_at {f : Addr} {fd : FuncData} (F : FnP K "_law_cell_at" sCellAt f fd) (mL : mg "len" = none) : FnOk P w K mg base (L2.CX P w) 1 f fd ["_law_script", "_law_k"] (spCell K) := by
  refine F.ok scCellAt (fun vs H Q E h => ?_) (fun cdv A outer s H vs Q E hr h => ?_)
  · obtain ⟨l, ns, j, rfl, _⟩ := h
    rfl
  · obtain ⟨l, ns, j, rfl, hS, q⟩ := h
    refine ⟨_, pss_cons (ps_if (pt_cmpR op_lt (pv 1) (pe_callB call_len_seq (by rfl) mL PySem.boot_len (pa_cons (pv 0) pa_nil)) (nomark _)) (pss_one (ps_ret (pe_ix ix_list (pv 0) (pv 1) (fun _ _ => rfl)))) pss_nil) (pss_one (ps_ret pe_int)), ?_⟩
    refine ⟨_, rfl, _, rfl, l, _, rfl, .inl hS, _, _, rfl, rfl, _, rfl, ite2 (fun e => ?_) (fun e => ?_)⟩
    · have e1 := of_decide_eq_true e
      rw [List.length_map] at e1
      exact ⟨_, rfl, _, rfl, l, _, _, _, rfl, rfl, hS, atI_cell (by omega), q⟩
    · have hj : ¬ j < ns.length := fun z => e (decide_eq_true (by rw [List.length_map]; omega))
      rw [cell_out hj] at q
      exact q
def spSignBy : Sp := fun vs H Q _ => ∃ c : Int, vs = [.int c] ∧ Q (.str ⟨#[sgnOf c]⟩) H
theorem ok_sign_by {f : Addr} {fd : FuncData} (F : FnP K "_law_sign_by" sSignBy f fd) : FnOk P w K mg base (L2.CX P w) 1 f fd ["_law_cell"] spSignBy := by
  refine F.ok scSignBy (fun vs H Q E h => ?_) (fun cdv A outer s H vs Q E hr h => ?_)
  · obtain ⟨c, rfl, _⟩ := h
    rfl
  · obtain ⟨c, rfl, q⟩ := h
    refine ⟨_, pss_cons (ps_set (i := 1) scSignBy.nd rfl (.inl rfl) pe_str) (pss_cons (ps_set (i := 1) scSignBy.nd rfl (.inl rfl) (pe_op op_add_str (pv 1) pe_str)) (pss_one (ps_ret (pe_ix ix_str (pv 1) (pe_op op_mod (pv 0) pe_int) (fun _ _ => rfl))))), ?_⟩
    refine ⟨_, rfl, _, _, rfl, rfl, by decide +kernel, ?_⟩
    refine ⟨_, rfl, _, rfl, _, _, rfl, rfl, (by show (0 : Int) < 93; decide), _, _, sgnOf c, rfl, rfl, by decide +kernel, ?_, q⟩
    have h1 : 0 ≤ c % 93 := Int.emod_nonneg c (by decide)
    have h2 : c % 93 < 93 := Int.emod_lt_of_pos c (by decide)
    have e : c % 93 = (((c % 93).toNat : Nat) : Int) := (Int.toNat_of_nonneg h1).symm
    have hn : (c % 93).toNat < 93 := by omega
    unfold sgnOf
    rw [e, Int.toNat_natCast]
    generalize (c % 93).toNat = i at hn
    refine atI_nat ?_
    have key : ∀ i, i < 93 → (("!\"#$&'()*+,-./0123456789:;<=>?@ABCDEFGHIJKLMNOPQRSTUVWXYZ[\\]^_`" : Str) ++ ("abcdefghijklmnopqrstuvwxyz{|}~" : Str)).cps.toList[i]? = some (sg i) := by decide +kernel
    exact key i hn
def spWordBy : Sp := fun vs H Q _ => ∃ c : Int, vs = [.int c] ∧ ∀ H', Same H H' → Q (.str (wordOf c)) H'
theorem ok_word_by {f fS : Addr} {fd fdS : FuncData} (F : FnP K "_law_word_by" sWordBy f fd) (FS : FnP K "_law_sign_by" sSignBy fS fdS) (bS : Binds K fdS ["_law_cell"] []) (gS : mg "_law_sign_by" = some (.ref fS)) (mR : mg "range" = none) :
    FnOk P w K mg base (L2.CX P w) 2 f fd ["_law_cell"] spWordBy := by
  have GS : FnOk P w K mg base (L2.CX P w) 1 fS fdS ["_law_cell"] spSignBy := ok_sign_by FS
  refine F.ok scWordBy (fun vs H Q E h => ?_) (fun cdv A outer s H vs Q E hr h => ?_)
  · obtain ⟨c, rfl, _⟩ := h
    rfl
  · obtain ⟨c, rfl, q⟩ := h
    refine ⟨_, pss_cons (ps_set (i := 1) scWordBy.nd rfl (.inr rfl) (pe_op op_mod (pe_op op_mul (pe_op op_add (pv 0) pe_int) pe_int) pe_int))
      (pss_cons (ps_set (i := 2) scWordBy.nd rfl (.inl rfl) (pe_op op_add pe_int (pe_op op_mod (pv 1) pe_int)))
      (pss_cons (ps_if (pt_cmpR op_eq (pe_op op_mod (pe_op op_fdiv (pv 1) pe_int) pe_int) pe_int (nomark _)) (pss_one (ps_set (i := 2) scWordBy.nd rfl (.inl rfl) (pe_op op_add pe_int (pe_op op_mod (pe_op op_fdiv (pv 1) pe_int) pe_int)))) pss_nil)
      (pss_one (ps_ret (pe_join pe_str (pe_lc (own := [("_law_k", 3)]) (g := gName 3) (tt := tYes) rfl scWordBy.nd (pi_range1 (by rfl) mR (pa_cons (pv 2) pa_nil)) (blkOk_by (N := ["_law_cell", "_law_more", "_law_size", "_law_k"]) (sc := defScope sWordBy) (by decide +kernel))
        (fun _ _ _ _ _ => pg_name (i := 3) scWordBy.nd rfl (Or.inl rfl)) (fun _ _ _ _ _ => pts_nil)
        (fun _ _ _ _ _ => pe_call GS hr (by rfl) gS FS.kp bS .nil passL (pa_cons (pe_op op_mod (pe_op op_mul (pe_op op_add (pe_op op_add (pv 1) (pe_op op_mul pe_int (pv 3))) pe_int) (pe_op op_add (pe_op op_add (pv 1) (pe_op op_mul pe_int (pv 3))) pe_int)) pe_int) pa_nil)))))))), ?_⟩
    have hm := wMore_b c
    have hsz := wSize_b c
    refine ⟨_, rfl, _, _, rfl, rfl, _, _, rfl, rfl, .inr (by decide), _, _, rfl, rfl, (by show (0 : Int) < 1000003; decide), ?_⟩
    refine ⟨_, rfl, _, _, rfl, rfl, (by show (0 : Int) < 3; decide), _, _, rfl, rfl, ?_⟩
    refine ⟨_, rfl, _, _, rfl, rfl, ⟨by decide, by decide⟩, _, _, rfl, rfl, (by show (0 : Int) < 3; decide), rfl, _, rfl, ?_⟩
    -- both ways lead to the size
    have rest : ∀ σ0, σ0 = [some (V.int c), some (.int (wMore c)), some (.int (wSize c)), none] → tRet (tM1 (fun x xs H Q => ∃ a p, ∃ ys : List Str, x = .str a ∧ xs = [.ref p] ∧ (SqL K H p (ys.map V.str) ∨ SqT K H p (ys.map V.str)) ∧
        (ys.map (·.length)).sum + ys.length * a.length ≤ 16777216 ∧ Q (.str (Txt.join a ys)) H) (tC (.str "")) (tLc (iRng1 (tCons (tVar 2) tNil)) (gName 3) tYes
          (tCall spSignBy [] E0 (tCons (tOp (rI (fun _ j => 0 < j) fun i j => .int (i % j)) (tOp (rI CMul fun i j => .int (i * j)) (tOp (rI0 fun i j => .int (i + j)) (tOp (rI0 fun i j => .int (i + j)) (tVar 1) (tOp (rI CMul fun i j => .int (i * j)) (tC (.int 11)) (tVar 3))) (tC (.int 1)))
            (tOp (rI0 fun i j => .int (i + j)) (tOp (rI0 fun i j => .int (i + j)) (tVar 1) (tOp (rI CMul fun i j => .int (i * j)) (tC (.int 211)) (tVar 3))) (tC (.int 3)))) (tC (.int 1000033))) tNil)) [3])) { nx := fun _ H' => Q .non H', rt := Q } σ0 H := by
      rintro _ rfl
      refine ⟨⟨_, rfl⟩, _, rfl, _, rfl, by omega, by omega, fun D nD => ?_⟩
      refine lc_range (lo := 0) (n := (wSize c).toNat) (fun i H' => Same H H' ∧ H' D = some (.lst ((wCodes c i).map fun z => V.str ⟨#[z]⟩))) ⟨same_upd nD, upd_same⟩ (fun i H' hi hp => ?_) (fun H' hp => ?_)
      · obtain ⟨sm, hD⟩ := hp
        refine ⟨rfl, yesT ?_⟩
        refine ⟨_, rfl, _, rfl, _, _, rfl, rfl, .inl (by decide), _, _, rfl, rfl, _, _, rfl, rfl, _, rfl, _, rfl, _, _, rfl, rfl, .inl (by decide), _, _, rfl, rfl, _, _, rfl, rfl, _, _, rfl, rfl, .inl ⟨by omega, by omega⟩, _, _, rfl, rfl, (by show (0 : Int) < 1000033; decide), _, rfl, ?_⟩
        refine ⟨_, hD, ?_, fun b o e => ?_, ?_⟩
        · rw [List.length_map]
          unfold wCodes
          rw [List.length_map, List.length_range]
          exact Nat.lt_of_lt_of_le (show i < 1000 by omega) (by decide)
        · rw [upd_ne (ne_of_none e nD)]
          exact sm b o e
        · rw [upd_same]
          unfold wCodes
          rw [List.range_succ, List.map_append, List.map_append]
          rfl
      · obtain ⟨sm, hD⟩ := hp
        refine ⟨_, _, (wCodes c (wSize c).toNat).map fun z => (⟨#[z]⟩ : Str), rfl, rfl, .inl (.inl (.inl ?_)), ?_, ?_⟩
        · rw [hD, List.map_map]
          rfl
        · have e0 : ("" : Str).length = 0 := by decide +kernel
          rw [e0, Nat.mul_zero, Nat.add_zero]
          have e1 : ∀ l : List Nat, ((l.map fun z => (⟨#[z]⟩ : Str)).map (·.length)).sum = l.length := fun l => by
            induction l with
            | nil => rfl
            | cons a r ih =>
              rw [List.map_cons, List.map_cons, List.sum_cons, ih, List.length_cons]
              show 1 + r.length = _
              omega
          rw [e1]
          unfold wCodes
          rw [List.length_map, List.length_range]
          omega
        · rw [join_signs]
          exact q H' sm
    refine ite2 (fun e => ?_) (fun e => ?_)
    · have e1 : wMore c / 3 % 3 = 1 := V.int.inj (of_decide_eq_true e)
      refine ⟨_, rfl, _, _, rfl, rfl, ⟨by decide, by decide⟩, _, _, rfl, rfl, (by show (0 : Int) < 40; decide), _, _, rfl, rfl, rest _ ?_⟩
      unfold wSize
      rw [if_pos e1]
      rfl
    · have e1 : ¬ wMore c / 3 % 3 = 1 := fun z => e (decide_eq_true (congrArg V.int z))
      refine rest _ ?_
      unfold wSize
      rw [if_neg e1]
      rfl
end
/-! ### near words, the menu -/
theorem wordB_of {b : Str} (h1 : 1 ≤ b.length) (h2 : b.length ≤ 40) (h : ∀ c ∈ b.cps.toList, signB c = true) : wordB b = true := by
  unfold wordB
  rw [Bool.and_eq_true, Bool.and_eq_true]
  exact ⟨decide_eq_true (by omega), decide_eq_true (by omega), List.all_eq_true.mpr h⟩
theorem str_len (a : Str) : a.length = a.cps.toList.length := by simp [Str.length]
theorem cut_lo (a : Str) (k : Nat) (h : k ≤ a.length) : (cutS a none (some (k : Int))).cps.toList = a.cps.toList.take k := by
  unfold cutS
  rw [HT.sIx_none, HT.sIx_nat, Nat.min_eq_left h, Nat.sub_zero]
  rfl
theorem cut_hi (a : Str) (k : Nat) (h : k ≤ a.length) : (cutS a (some (k : Int)) none).cps.toList = a.cps.toList.drop k := by
  unfold cutS
  rw [HT.sIx_none, HT.sIx_nat, Nat.min_eq_left h]
  show (a.cps.toList.drop k).take (a.length - k) = _
  rw [List.take_of_length_le (by rw [List.length_drop, str_len]; exact Nat.le_refl _)]
section
variable {P : Program} {w : World} {K : PySem.W.Frag} {mg : Str → Option Value} {base : Heap}
theorem scNear : FnScope ["_law_word", "_law_cell", "_law_at"] ["_law_word", "_law_cell"] (defScope sNear) := ⟨rfl, rfl, rfl, by decide +kernel, rfl, by decide +kernel, by decide +kernel⟩
theorem scMenu : FnScope ["_law_script", "_law_base", "_law_k"] ["_law_script"] (defScope sMenu) := ⟨rfl, rfl, rfl, by decide +kernel, rfl, by decide +kernel, by decide +kernel⟩
def spNear : Sp := fun vs H Q _ => ∃ (a : Str) (c : Int), vs = [.str a, .int c] ∧ wordB a = true ∧ ∀ H' b, Same H H' → wordB b = true → Q (.str b) H'
theorem ok_near {f fS : Addr} {fd fdS : FuncData} (F : FnP K "_law_near" sNear f fd) (GS : FnOk P w K mg base (L2.CX P w) 1 fS fdS ["_law_cell"] spSignBy) (kS : PySem.W.keepIn K (.ref fS) = true) (bS : Binds K fdS ["_law_cell"] []) (gS : mg "_law_sign_by" = some (.ref fS))
    (mL : mg "len" = none) (mT : mg "list" = none) (mV : mg "reversed" = none) : FnOk P w K mg base (L2.CX P w) 2 f fd ["_law_word", "_law_cell"] spNear := by
  refine F.ok scNear (fun vs H Q E h => ?_) (fun cdv A outer s H vs Q E hr h => ?_)
  · obtain ⟨a, c, rfl, _⟩ := h
    rfl
  · obtain ⟨a, c, rfl, ha, q⟩ := h
    refine ⟨_, pss_cut (ps_set (i := 2) scNear.nd rfl (.inl rfl) (pe_op op_mod (pv 1) (pe_callB call_len_str (by rfl) mL PySem.boot_len (pa_cons (pv 0) pa_nil))))
      (pss_cons (ps_if (pt_cmpR op_eq (pe_op op_mod (pe_op op_fdiv (pv 1) pe_int) pe_int) pe_int (nomark _)) (pss_one (ps_ret (pe_join pe_str (Rs.pe_listRs rfl (by rfl) mT (by rfl) mV (pv 0))))) pss_nil)
      (pss_cut (ps_if (PW.pt (pw_and (pt_cmpR op_eq (pe_op op_mod (pe_op op_fdiv (pv 1) pe_int) pe_int) pe_int (nomark _)) (pw_and1 (pt_cmpR op_gt (pe_callB call_len_str (by rfl) mL PySem.boot_len (pa_cons (pv 0) pa_nil)) pe_int (nomark _)))))
        (pss_one (ps_ret (pe_op op_add_str (pe_slice sl_str (pv 0) po_none (po_some (pv 2))) (pe_slice sl_str (pv 0) (po_some (pe_op op_add (pv 2) pe_int)) po_none)))) pss_nil)
      (pss_one (ps_ret (pe_op op_add_str (pe_op op_add_str (pe_slice sl_str (pv 0) po_none (po_some (pv 2))) (pe_call GS hr (by rfl) gS kS bS .nil passL (pa_cons (pe_op op_fdiv (pv 1) pe_int) pa_nil))) (pe_slice sl_str (pv 0) (po_some (pe_op op_add (pv 2) pe_int)) po_none)))))), ?_⟩
    have hl := wordB_len ha
    have hz : a.length ≤ sizeLine := small_line (by omega)
    have hsg := wordB_signs ha
    have h1 : 0 ≤ c % (a.length : Int) := Int.emod_nonneg c (by omega)
    have h2 : c % (a.length : Int) < (a.length : Int) := Int.emod_lt_of_pos c (by omega)
    obtain ⟨k, hk⟩ : ∃ k : Nat, c % (a.length : Int) = (k : Int) := ⟨(c % (a.length : Int)).toNat, (Int.toNat_of_nonneg h1).symm⟩
    have hka : k < a.length := by omega
    have el := str_len a
    have lo := cut_lo a k (by omega)
    have hi := cut_hi a (k + 1) (by omega)
    have llo : (cutS a none (some (k : Int))).length = k := by
      rw [str_len, lo, List.length_take]
      omega
    have lhi : (cutS a (some ((k + 1 : Nat) : Int)) none).length = a.length - (k + 1) := by
      rw [str_len, hi, List.length_drop]
      omega
    have slo : ∀ x ∈ (cutS a none (some (k : Int))).cps.toList, signB x = true := fun x hx => hsg x (by rw [lo] at hx; exact List.mem_of_mem_take hx)
    have shi : ∀ x ∈ (cutS a (some ((k + 1 : Nat) : Int)) none).cps.toList, signB x = true := fun x hx => hsg x (by rw [hi] at hx; exact List.mem_of_mem_drop hx)
    have ek : ((k : Int) + 1) = ((k + 1 : Nat) : Int) := by omega
    refine ⟨fun σ' H' => σ' = [some (.str a), some (.int c), some (.int (k : Int))] ∧ H' = H, ⟨_, rfl, _, rfl, a, rfl, hz, _, _, rfl, rfl, by omega, ?_, rfl⟩, fun σ' H' hM => ?_⟩
    · show [some (V.str a), some (V.int c), some (V.int (c % (a.length : Int)))] = _
      rw [hk]
    obtain ⟨rfl, rfl⟩ := hM
    refine ⟨_, rfl, _, _, rfl, rfl, ⟨by decide, by decide⟩, _, _, rfl, rfl, (by show (0 : Int) < 3; decide), rfl, _, rfl, ite2 (fun e => ?_) (fun e => ?_)⟩
    · refine ⟨⟨_, rfl⟩, _, rfl, a, rfl, hl.1, by omega, fun p np => ?_⟩
      refine ⟨_, p, a.cps.toList.reverse.map fun c => (⟨#[c]⟩ : Str), rfl, rfl, .inl (.inl (.inl ?_)), ?_, ?_⟩
      · rw [upd_same, List.map_map]
        rfl
      · have e0 : ("" : Str).length = 0 := by decide +kernel
        rw [e0, Nat.mul_zero, Nat.add_zero]
        have e1 : ∀ l : List Nat, ((l.map fun z => (⟨#[z]⟩ : Str)).map (·.length)).sum = l.length := fun l => by
          induction l with
          | nil => rfl
          | cons a r ih =>
            rw [List.map_cons, List.map_cons, List.sum_cons, ih, List.length_cons]
            show 1 + r.length = _
            omega
        rw [e1, List.length_reverse]
        omega
      · rw [join_signs]
        refine q _ _ (same_upd np) (wordB_of ?_ ?_ fun x hx => hsg x ?_)
        · show 1 ≤ (a.cps.toList.reverse.toArray).size
          rw [List.size_toArray, List.length_reverse]
          omega
        · show (a.cps.toList.reverse.toArray).size ≤ 40
          rw [List.size_toArray, List.length_reverse]
          omega
        · exact List.mem_reverse.mp hx
    · refine ⟨fun σ' H2 => σ' = [some (.str a), some (.int c), some (.int (k : Int))] ∧ H2 = H', ?_, fun σ' H2 hM => ?_⟩
      · refine ⟨_, rfl, _, _, rfl, rfl, ⟨by decide, by decide⟩, _, _, rfl, rfl, (by show (0 : Int) < 3; decide), rfl, _, rfl, ?_⟩
        cases decide (V.int (c / 41 % 3) = V.int 1) with
        | false => exact iteF (iteF ⟨rfl, rfl⟩)
        | true =>
          refine iteT ⟨_, rfl, a, rfl, hz, _, _, rfl, rfl, _, rfl, ite2 (fun e => ?_) (fun e => ⟨rfl, rfl⟩)⟩
          have e1 : (1 : Int) < (a.length : Int) := of_decide_eq_true e
          refine ⟨_, rfl, _, rfl, _, rfl, a, rfl, hz, _, rfl, _, rfl, _, _, rfl, rfl, _, rfl, a, rfl, hz, _, _, rfl, rfl, ?_, ?_⟩
          · rw [ek, llo, lhi]
            exact small_line (by omega)
          · rw [ek]
            refine q _ _ (Same.refl _) (wordB_of ?_ ?_ fun x hx => ?_)
            · rw [Str.length_append, llo, lhi]
              omega
            · rw [Str.length_append, llo, lhi]
              omega
            · rw [Str.cps_append, Array.toList_append] at hx
              rcases List.mem_append.mp hx with hx | hx
              · exact slo x hx
              · exact shi x hx
      · obtain ⟨rfl, rfl⟩ := hM
        refine ⟨_, rfl, _, rfl, _, rfl, a, rfl, hz, _, rfl, _, _, rfl, rfl, ⟨by decide, by decide⟩, _, rfl, _, _, rfl, rfl, ?_, _, rfl, _, rfl, _, _, rfl, rfl, _, rfl, a, rfl, hz, _, _, rfl, rfl, ?_, ?_⟩
        · rw [llo]
          exact small_line (by show k + 1 ≤ 1000000; omega)
        · rw [ek, Str.length_append, llo, lhi]
          exact small_line (by show k + 1 + (a.length - (k + 1)) ≤ 1000000; omega)
        · rw [ek]
          refine q _ _ (Same.refl _) (wordB_of ?_ ?_ fun x hx => ?_)
          · rw [Str.length_append, Str.length_append, llo, lhi]
            show 1 ≤ k + 1 + (a.length - (k + 1))
            omega
          · rw [Str.length_append, Str.length_append, llo, lhi]
            show k + 1 + (a.length - (k + 1)) ≤ 40
            omega
          · rw [Str.cps_append, Array.toList_append, Str.cps_append, Array.toList_append] at hx
            rcases List.mem_append.mp hx with hx | hx
            · rcases List.mem_append.mp hx with hx | hx
              · exact slo x hx
              · have hx : x ∈ [sgnOf (c / 123)] := hx
                rw [List.mem_singleton.mp hx]
                exact sgnOf_ok _
            · exact shi x hx

def spMenu (K : PySem.W.Frag) : Sp := fun vs H Q _ => ∃ (a : Addr) (ns : List Int), vs = [.ref a] ∧ SqL K H a (ns.map V.int) ∧ ∀ (H' : Hp) (p : Addr) (ws : List Str), Same H H' → H p = none → H' p = some (.lst (ws.map V.str)) → ws.length = 12 → (∀ x ∈ ws, wordB x = true) → Q (.ref p) H'
theorem ok_menu {f fC fW fN : Addr} {fd fdC fdW fdN : FuncData} (F : FnP K "_law_menu" sMenu f fd)
    (GC : FnOk P w K mg base (L2.CX P w) 1 fC fdC ["_law_script", "_law_k"] (spCell K)) (kC : PySem.W.keepIn K (.ref fC) = true) (bC : Binds K fdC ["_law_script", "_law_k"] []) (gC : mg "_law_cell_at" = some (.ref fC))
    (GW : FnOk P w K mg base (L2.CX P w) 2 fW fdW ["_law_cell"] spWordBy) (kW : PySem.W.keepIn K (.ref fW) = true) (bW : Binds K fdW ["_law_cell"] []) (gW : mg "_law_word_by" = some (.ref fW))
    (GN : FnOk P w K mg base (L2.CX P w) 2 fN fdN ["_law_word", "_law_cell"] spNear) (kN : PySem.W.keepIn K (.ref fN) = true) (bN : Binds K fdN ["_law_word", "_law_cell"] []) (gN : mg "_law_near" = some (.ref fN)) (mR : mg "range" = none) :
    FnOk P w K mg base (L2.CX P w) 3 f fd ["_law_script"] (spMenu K) := by
  refine F.ok scMenu (fun vs H Q E h => ?_) (fun cdv A outer s H vs Q E hr h => ?_)
  · obtain ⟨a, ns, rfl, _⟩ := h
    rfl
  · obtain ⟨a, ns, rfl, hS, q⟩ := h
    have r1 : Room 1 (A.deeper (envOfC "_law_menu" (defScope sMenu) s.heap.objs.size f cdv)) := hr.mono (by decide)
    refine ⟨_, pss_cut (ps_setLc (i := 1) (own := [("_law_k", 2)]) (g := gName 2) (tt := tYes) rfl scMenu.nd rfl rfl (sw_true rfl rfl rfl (by decide +kernel)) (pi_range1 (by rfl) mR (pa_cons pe_int pa_nil)) (blkOk_by (N := ["_law_script", "_law_base", "_law_k"]) (sc := defScope sMenu) (by decide +kernel))
        (fun _ _ _ _ _ => pg_name (i := 2) scMenu.nd rfl (Or.inl rfl)) (fun _ _ _ _ _ => pts_nil) (fun _ _ _ _ _ => pe_call GW hr (by rfl) gW kW bW .nil passL (pa_cons (pe_op op_add (pe_call GC r1 (by rfl) gC kC bC .nil passL (pa_cons (pv 0) (pa_cons (pv 2) pa_nil))) (pe_op op_mul pe_int (pv 2))) pa_nil)))
      (pss_cut (ps_if (pt_cmpR op_eq (pe_op op_mod (pe_call GC r1 (by rfl) gC kC bC .nil passL (pa_cons (pv 0) (pa_cons pe_int pa_nil))) pe_int) pe_int (nomark _))
        (pss_cons (ps_asg (pe_call GN hr (by rfl) gN kN bN .nil passL (pa_cons (pe_ix ix_list (pv 1) pe_int (fun _ _ => rfl)) (pa_cons (pe_call GC r1 (by rfl) gC kC bC .nil passL (pa_cons (pv 0) (pa_cons pe_int pa_nil))) pa_nil))) (pg_sub (pv 1) pe_int set_list))
          (pss_one (ps_asg (pe_call GN hr (by rfl) gN kN bN .nil passL (pa_cons (pe_ix ix_list (pv 1) pe_int (fun _ _ => rfl)) (pa_cons (pe_call GC r1 (by rfl) gC kC bC .nil passL (pa_cons (pv 0) (pa_cons pe_int pa_nil))) pa_nil))) (pg_sub (pv 1) pe_int set_list)))) pss_nil)
      (pss_cons (ps_if (pt_cmpR op_eq (pe_op op_mod (pe_call GC r1 (by rfl) gC kC bC .nil passL (pa_cons (pv 0) (pa_cons pe_int pa_nil))) pe_int) pe_int (nomark _))
        (pss_one (ps_ret (pe_op op_cat (pv 1) (pe_lc (own := [("_law_k", 2)]) (g := gName 2) (tt := tYes) rfl scMenu.nd (pi_range1 (by rfl) mR (pa_cons pe_int pa_nil)) (blkOk_by (N := ["_law_script", "_law_base", "_law_k"]) (sc := defScope sMenu) (by decide +kernel))
          (fun _ _ _ _ _ => pg_name (i := 2) scMenu.nd rfl (Or.inl rfl)) (fun _ _ _ _ _ => pts_nil)
          (fun _ _ _ _ _ => pe_call GW hr (by rfl) gW kW bW .nil passL (pa_cons (pe_op op_add (pe_op op_add (pe_call GC r1 (by rfl) gC kC bC .nil passL (pa_cons (pv 0) (pa_cons (pe_op op_mod (pv 2) pe_int) pa_nil))) (pe_op op_mul pe_int (pv 2))) pe_int) pa_nil)))))) pss_nil)
      (pss_one (ps_ret (pe_op op_rep (pv 1) pe_int))))), ?_⟩
    -- the base of four
    refine ⟨fun σ' H' => ∃ D ws, σ' = [some (.ref a), some (.ref D), none] ∧ H D = none ∧ Same H H' ∧ H' D = some (.lst ((ws : List Str).map V.str)) ∧ ws.length = 4 ∧ ∀ x ∈ ws, wordB x = true, ?_, fun σ1 H1 hM => ?_⟩
    · refine ⟨_, rfl, by decide, by decide, fun D nD => ?_⟩
      refine lc_range (lo := 0) (n := 4) (fun i H' => Same H H' ∧ H' D = some (.lst (((List.range i).map fun k => wordOf (cellOf ns (0 + k) + 97 * (0 + (k : Int)))).map V.str))) ⟨same_upd nD, upd_same⟩ (fun i H' hi hp => ?_) (fun H1 hp => ?_)
      · obtain ⟨sm, hD⟩ := hp
        refine ⟨rfl, yesT ?_⟩
        refine ⟨_, rfl, _, rfl, a, ns, 0 + i, congrArg (fun t : Int => [V.ref a, V.int t]) (show (0 : Int) + (i : Int) = ((0 + i : Nat) : Int) by omega), sm.seq hS, _, rfl, _, _, rfl, rfl, .inl (by decide), _, _, rfl, rfl, _, rfl, fun H2 sm2 => ?_⟩
        refine ⟨_, sm2 _ _ hD, ?_, fun b o e => ?_, ?_⟩
        · rw [List.length_map, List.length_map, List.length_range]
          exact Nat.lt_of_lt_of_le (show i < 1000 by omega) (by decide)
        · rw [upd_ne (ne_of_none e nD)]
          exact sm2 b o (sm b o e)
        · rw [upd_same, List.range_succ, List.map_append, List.map_append]
          rfl
      · obtain ⟨sm, hD⟩ := hp
        refine ⟨D, _, rfl, nD, sm, hD, by rw [List.length_map, List.length_range], fun x hx => ?_⟩
        obtain ⟨k, _, rfl⟩ := List.mem_map.mp hx
        exact wordOf_ok _
    obtain ⟨D, ws, rfl, nD, sm1, hD1, hl, hw⟩ := hM
    refine ⟨fun σ' H' => ∃ ws, σ' = [some (.ref a), some (.ref D), none] ∧ Same H H' ∧ H' D = some (.lst ((ws : List Str).map V.str)) ∧ ws.length = 4 ∧ ∀ x ∈ ws, wordB x = true, ?_, fun σ2 H2 hM => ?_⟩
    · have hS1 := sm1.seq hS
      refine ⟨_, rfl, a, ns, 0, rfl, hS1, _, _, rfl, rfl, (by show (0 : Int) < 2; decide), rfl, _, rfl, ite2 (fun _ => ?_) (fun _ => ⟨ws, rfl, sm1, hD1, hl, hw⟩)⟩
      have step : ∀ (H1 : Hp) (ws : List Str) (j : Nat), j < 4 → Same H H1 → H1 D = some (.lst (ws.map V.str)) → ws.length = 4 → (∀ x ∈ ws, wordB x = true) → ∃ x, ws[j]? = some x ∧ wordB x = true := fun H1 ws j hj _ _ hl hw => by
        have : j < ws.length := by omega
        exact ⟨ws[j], List.getElem?_eq_getElem this, hw _ (List.getElem_mem this)⟩
      have put : ∀ (ws : List Str) (j : Nat) (b : Str), (ws.map V.str).set j (.str b) = (ws.set j b).map V.str := fun ws j b => by rw [List.map_set]
      have good : ∀ (ws : List Str) (j : Nat) (b : Str), (∀ x ∈ ws, wordB x = true) → wordB b = true → ∀ x ∈ ws.set j b, wordB x = true := fun ws j b h hb x hx => by
        rcases List.mem_or_eq_of_mem_set hx with h1 | h1
        · exact h x h1
        · rw [h1]
          exact hb
      obtain ⟨x0, hx0, hb0⟩ := step H1 ws 0 (by decide) sm1 hD1 hl hw
      refine ⟨_, rfl, D, _, _, _, rfl, rfl, .inl (.inl hD1), at_of (j := 0) rfl (by rw [List.getElem?_map, hx0]; rfl), _, rfl, a, ns, 1, rfl, hS1, x0, _, rfl, hb0, fun H3 b sm3 hb => ?_⟩
      have hD3 := sm3 _ _ hD1
      refine ⟨_, rfl, D, _, _, 1, rfl, rfl, hD3, by rw [List.length_map, hl]; rfl, ?_⟩
      rw [put]
      have s4 : Same H (upd H3 D (.lst ((ws.set 1 b).map V.str))) := fun c o e => by
        rw [upd_ne (ne_of_none e nD)]
        exact sm3 c o (sm1 c o e)
      have hl4 : (ws.set 1 b).length = 4 := by rw [List.length_set]; exact hl
      have hw4 := good ws 1 b hw hb
      have hD4 : (upd H3 D (.lst ((ws.set 1 b).map V.str))) D = some (.lst ((ws.set 1 b).map V.str)) := upd_same
      obtain ⟨x2, hx2, hb2⟩ := step _ _ 2 (by decide) s4 hD4 hl4 hw4
      refine ⟨_, rfl, D, _, _, _, rfl, rfl, .inl (.inl hD4), at_of (j := 2) rfl (by rw [List.getElem?_map, hx2]; rfl), _, rfl, a, ns, 2, rfl, s4.seq hS, x2, _, rfl, hb2, fun H5 b5 sm5 hb5 => ?_⟩
      have hD5 := sm5 _ _ hD4
      refine ⟨_, rfl, D, _, _, 3, rfl, rfl, hD5, by rw [List.length_map, hl4]; rfl, ?_⟩
      rw [put]
      refine ⟨_, rfl, fun c o e => ?_, upd_same, by rw [List.length_set]; exact hl4, good _ 3 b5 hw4 hb5⟩
      rw [upd_ne (ne_of_none e nD)]
      exact sm5 c o (s4 c o e)
    obtain ⟨ws, rfl, sm2, hD2, hl, hw⟩ := hM
    have hS2 := sm2.seq hS
    refine ⟨_, rfl, a, ns, 3, rfl, hS2, _, _, rfl, rfl, (by show (0 : Int) < 4; decide), rfl, _, rfl, ite2 (fun _ => ?_) (fun _ => ?_)⟩
    · refine ⟨_, rfl, _, rfl, by decide, by decide, fun E nE => ?_⟩
      refine lc_range (lo := 0) (n := 8) (fun i H' => Same H2 H' ∧ ∃ vs, H' E = some (.lst ((vs : List Str).map V.str)) ∧ vs.length = i ∧ ∀ x ∈ vs, wordB x = true) ⟨same_upd nE, [], upd_same, rfl, fun x hx => by cases hx⟩ (fun i H' hi hp => ?_) (fun H3 hp => ?_)
      · obtain ⟨sm, vs, hE, hlv, hv⟩ := hp
        refine ⟨rfl, yesT ?_⟩
        have hk : ∃ j : Nat, (0 + (i : Int)) % 3 = (j : Int) := ⟨((0 + (i : Int)) % 3).toNat, (Int.toNat_of_nonneg (Int.emod_nonneg _ (by decide))).symm⟩
        obtain ⟨j, hj⟩ := hk
        refine ⟨_, rfl, _, rfl, _, _, rfl, rfl, (by show (0 : Int) < 3; decide), a, ns, j, congrArg (fun t : Int => [V.ref a, V.int t]) hj, sm.seq hS2, _, rfl, _, _, rfl, rfl, .inl (by decide), _, _, rfl, rfl, _, _, rfl, rfl, _, rfl, fun H4 sm4 => ?_⟩
        refine ⟨_, sm4 _ _ hE, ?_, fun b o e => ?_, vs ++ [wordOf (cellOf ns j + 97 * (0 + (i : Int)) + 13)], ?_, ?_, ?_⟩
        · rw [List.length_map, hlv]
          exact Nat.lt_of_lt_of_le (show i < 1000 by omega) (by decide)
        · rw [upd_ne (ne_of_none e nE)]
          exact sm4 b o (sm b o e)
        · rw [upd_same, List.map_append]
          rfl
        · rw [List.length_append, hlv]
          rfl
        · intro x hx
          rcases List.mem_append.mp hx with hx | hx
          · exact hv x hx
          · rw [List.mem_singleton.mp hx]
            exact wordOf_ok _
      · obtain ⟨sm, vs, hE, hlv, hv⟩ := hp
        have hD3 := sm _ _ hD2
        refine ⟨D, E, _, _, rfl, rfl, hD3, hE, by rw [List.length_map, List.length_map, hl, hlv]; decide, fun p np => ?_⟩
        have s3 : Same H H3 := sm2.trans sm
        refine q _ p (ws ++ vs) (s3.trans (same_upd np)) (s3.free np) ?_ (by rw [List.length_append, hl, hlv]) fun x hx => ?_
        · rw [upd_same, List.map_append]
        · rcases List.mem_append.mp hx with hx | hx
          · exact hw x hx
          · exact hv x hx
    · refine ⟨_, rfl, D, _, _, rfl, rfl, hD2, by decide, by decide, by rw [List.length_map, hl]; decide, fun p np => ?_⟩
      refine q _ p (ws ++ (ws ++ (ws ++ []))) (sm2.trans (same_upd np)) (sm2.free np) ?_ (by simp [hl]) fun x hx => ?_
      · rw [upd_same, List.map_append, List.map_append, List.map_append]
        rfl
      · simp at hx
        exact hw x hx
end
/-! ### steps of a way, sides -/
def kinds6 : List Str := ["keep", "keep", "cut", "put", "cut", "put"]
def sizes5 : List Int := [2, 3, 2, 3, 7]
theorem kinds6_at : ∀ i, i < 6 → ∃ k, kinds6[i]? = some k ∧ k ∈ plainK := by
  have key : ∀ i, i < 6 → (match kinds6[i]? with | some g => decide (g ∈ plainK) | none => false) = true := by decide +kernel
  intro i hi
  have h := key i hi
  cases e : kinds6[i]? with
  | none =>
    rw [e] at h
    cases h
  | some g =>
    rw [e] at h
    exact ⟨g, rfl, of_decide_eq_true h⟩
theorem sizes5_at : ∀ i : Nat, i < 5 → ∃ k : Int, sizes5[i]? = some k ∧ 1 ≤ k ∧ k ≤ 7 := by
  have key : ∀ i : Nat, i < 5 → (match (sizes5[i]? : Option Int) with | some g => decide (1 ≤ g) && decide (g ≤ 7) | none => false) = true := by decide +kernel
  intro i hi
  have h := key i hi
  cases e : sizes5[i]? with
  | none =>
    rw [e] at h
    cases h
  | some g =>
    rw [e] at h
    have h : (decide (1 ≤ g) && decide (g ≤ 7)) = true := h
    rw [Bool.and_eq_true] at h
    exact ⟨g, rfl, of_decide_eq_true h.1, of_decide_eq_true h.2⟩
structure StepD where
  kind : Str
  ws : List Str
structure StepOk (s : StepD) : Prop where
  kind : s.kind ∈ plainK
  some : s.ws ≠ []
  words : ∀ a ∈ s.ws, wordB a = true
def StepAt (K : PySem.W.Frag) (H : Hp) (v : V) (s : StepD) : Prop := ∃ T L, v = .ref T ∧ H T = some (.tup [.str s.kind, .ref L]) ∧ H L = some (.lst (s.ws.map V.str))
theorem StepAt.same {K : PySem.W.Frag} {H H' : Hp} {v : V} {s : StepD} (m : Same H H') (h : StepAt K H v s) : StepAt K H' v s :=
  let ⟨T, L, e, h1, h2⟩ := h; ⟨T, L, e, m _ _ h1, m _ _ h2⟩
def StepsAt (K : PySem.W.Frag) (H : Hp) : List V → List StepD → Prop := Paired (StepAt K H)
theorem StepsAt.same {K : PySem.W.Frag} {H H' : Hp} {xs : List V} {ss : List StepD} (m : Same H H') (h : StepsAt K H xs ss) : StepsAt K H' xs ss := by
  unfold StepsAt at h ⊢
  induction h with
  | nil => exact .nil
  | cons h t ih => exact .cons (h.same m) ih
theorem paired_app {α β : Type} {F : α → β → Prop} {a c : List α} {b d : List β} (h : Paired F a b) (g : Paired F c d) : Paired F (a ++ c) (b ++ d) := by
  induction h with
  | nil => exact g
  | cons h t ih => exact .cons h ih
theorem paired_take {α β : Type} {F : α → β → Prop} {a : List α} {b : List β} (h : Paired F a b) : ∀ n, Paired F (a.take n) (b.take n) := by
  induction h with
  | nil =>
    intro n
    rw [List.take_nil, List.take_nil]
    exact .nil
  | cons h t ih =>
    intro n
    cases n with
    | zero => exact .nil
    | succ n => exact .cons h (ih n)
theorem paired_at {α β : Type} {F : α → β → Prop} {a : List α} {b : List β} (h : Paired F a b) : ∀ {i : Nat} {x : α}, a[i]? = some x → ∃ y, b[i]? = some y ∧ F x y := by
  induction h with
  | nil => intro i x e; cases e
  | cons h t ih =>
    intro i x e
    cases i with
    | zero =>
      cases e
      exact ⟨_, rfl, h⟩
    | succ i => exact ih e
def sideOf (k : Str) (ss : List StepD) : List Str := (ss.filter fun s : StepD => decide (s.kind = ("keep" : Str)) || decide (s.kind = k)).flatMap (·.ws)
def total (ss : List StepD) : Nat := (ss.map fun s => s.ws.length).sum
theorem total_append (a b : List StepD) : total (a ++ b) = total a + total b := by
  unfold total
  rw [List.map_append, List.sum_append]
theorem total_le {ss : List StepD} {n : Nat} (h : ∀ s ∈ ss, s.ws.length ≤ n) : total ss ≤ n * ss.length := by
  induction ss with
  | nil => exact Nat.le_refl _
  | cons a r ih =>
    have h1 := h a List.mem_cons_self
    have h2 := ih fun s hs => h s (List.mem_cons_of_mem _ hs)
    unfold total at h2 ⊢
    rw [List.map_cons, List.sum_cons, List.length_cons, Nat.mul_succ]
    omega
theorem side_snoc (k : Str) (ss : List StepD) (s : StepD) : sideOf k (ss ++ [s]) = if s.kind = ("keep" : Str) ∨ s.kind = k then sideOf k ss ++ s.ws else sideOf k ss := by
  unfold sideOf
  rw [List.filter_append, List.flatMap_append]
  by_cases h : s.kind = ("keep" : Str) ∨ s.kind = k
  · rw [if_pos h, List.filter_cons_of_pos (p := fun s : StepD => decide (s.kind = ("keep" : Str)) || decide (s.kind = k)) (by simpa using h)]
    simp
  · rw [if_neg h, List.filter_cons_of_neg (by simpa using h)]
    simp
theorem side_le (k : Str) (ss : List StepD) : (sideOf k ss).length ≤ total ss := by
  unfold sideOf total
  induction ss with
  | nil => exact Nat.le_refl _
  | cons a r ih =>
    rw [List.map_cons, List.sum_cons]
    by_cases h : a.kind = ("keep" : Str) ∨ a.kind = k
    · rw [List.filter_cons_of_pos (p := fun s : StepD => decide (s.kind = ("keep" : Str)) || decide (s.kind = k)) (by simpa using h), List.flatMap_cons, List.length_append]
      omega
    · rw [List.filter_cons_of_neg (by simpa using h)]
      omega
theorem side_take_le (k : Str) (ss : List StepD) (i : Nat) : (sideOf k (ss.take i)).length ≤ total ss := by
  have h := side_le k (ss.take i)
  have h2 := total_append (ss.take i) (ss.drop i)
  rw [List.take_append_drop] at h2
  omega
theorem side_ok {k : Str} {ss : List StepD} (h : ∀ s ∈ ss, StepOk s) : ∀ a ∈ sideOf k ss, wordB a = true := fun a ha => by
  unfold sideOf at ha
  obtain ⟨r, h1, h2⟩ := List.mem_flatMap.mp ha
  exact (h r (List.mem_filter.mp h1).1).words a h2
section
variable {P : Program} {w : World} {K : PySem.W.Frag} {mg : Str → Option Value} {base : Heap}
theorem scStep : FnScope ["_law_menu_here", "_law_cell", "_law_kind", "_law_size", "_law_k"] ["_law_menu_here", "_law_cell"] (defScope sStep) := ⟨rfl, rfl, rfl, by decide +kernel, rfl, by decide +kernel, by decide +kernel⟩
theorem scSide : FnScope ["_law_steps", "_law_kind", "_law_found", "_law_step_here"] ["_law_steps", "_law_kind"] (defScope sSide) := ⟨rfl, rfl, rfl, by decide +kernel, rfl, by decide +kernel, by decide +kernel⟩
def spStep (K : PySem.W.Frag) : Sp := fun vs H Q _ => ∃ (a : Addr) (c : Int) (ms : List Str), vs = [.ref a, .int c] ∧ SqL K H a (ms.map V.str) ∧ ms.length = 12 ∧ (∀ x ∈ ms, wordB x = true) ∧
  ∀ (H' : Hp) (v : V) (s : StepD), Same H H' → StepAt K H' v s → StepOk s → s.ws.length ≤ 7 → Q v H'
theorem ok_step {f : Addr} {fd : FuncData} (F : FnP K "_law_step" sStep f fd) (mR : mg "range" = none) : FnOk P w K mg base (L2.CX P w) 1 f fd ["_law_menu_here", "_law_cell"] (spStep K) := by
  refine F.ok scStep (fun vs H Q E h => ?_) (fun cdv A outer s H vs Q E hr h => ?_)
  · obtain ⟨a, c, ms, rfl, _⟩ := h
    rfl
  · obtain ⟨a, c, ms, rfl, hS, hml, hmw, q⟩ := h
    refine ⟨_, pss_cut (ps_set (i := 2) scStep.nd rfl (.inl rfl) (pe_ix ix_list (pe_lst (pa_cons pe_str (pa_cons pe_str (pa_cons pe_str (pa_cons pe_str (pa_cons pe_str (pa_cons pe_str pa_nil))))))) (pe_op op_mod (pv 1) pe_int) (fun _ _ => rfl)))
      (pss_cons (ps_set (i := 3) scStep.nd rfl (.inl rfl) pe_int)
      (pss_cut (ps_if (pt_cmpR op_gt (pe_op op_mod (pv 1) pe_int) pe_int (nomark _)) (pss_one (ps_set (i := 3) scStep.nd rfl (.inl rfl) (pe_ix ix_list (pe_lst (pa_cons pe_int (pa_cons pe_int (pa_cons pe_int (pa_cons pe_int (pa_cons pe_int pa_nil)))))) (pe_op op_mod (pe_op op_mod (pe_op op_mul (pv 1) pe_int) pe_int) pe_int) (fun _ _ => rfl)))) pss_nil)
      (pss_one (ps_ret (pe_tup (pa_cons (pv 2) (pa_cons (pe_lc (own := [("_law_k", 4)]) (g := gName 4) (tt := tYes) rfl scStep.nd (pi_range1 (by rfl) mR (pa_cons (pv 3) pa_nil)) (blkOk_by (N := ["_law_menu_here", "_law_cell", "_law_kind", "_law_size", "_law_k"]) (sc := defScope sStep) (by decide +kernel))
          (fun _ _ _ _ _ => pg_name (i := 4) scStep.nd rfl (Or.inl rfl)) (fun _ _ _ _ _ => pts_nil)
          (fun _ _ _ _ _ => pe_ix (r := rIxL K) ix_list (pv 0) (pe_op op_mod (pe_op op_add (pe_op op_fdiv (pv 1) pe_int) (pv 4)) pe_int) (fun _ _ => rfl))) pa_nil))))))), ?_⟩
    obtain ⟨k, hk, hkk⟩ := kinds6_at _ (ltM (c := c) (n := 6) (by decide))
    refine ⟨fun σ' H' => σ' = [some (.ref a), some (.int c), some (.str k), none, none] ∧ Same H H', ?_, fun σ1 H1 hM => ?_⟩
    · exact ⟨by show 6 ≤ sizeLine; decide, fun L nL => ⟨_, rfl, _, _, rfl, rfl, (by show (0 : Int) < 6; decide), L, kinds6.map V.str, _, .str k, rfl, rfl, .inl (.inl upd_same), atM (c := c) (n := 6) (by decide) (by rw [List.getElem?_map, hk]; rfl), rfl, same_upd nL⟩⟩
    obtain ⟨rfl, s1⟩ := hM
    refine ⟨fun σ' H' => ∃ n : Int, σ' = [some (.ref a), some (.int c), some (.str k), some (.int n), none] ∧ Same H H' ∧ 1 ≤ n ∧ n ≤ 7, ?_, fun σ2 H2 hM => ?_⟩
    · refine ⟨_, rfl, _, _, rfl, rfl, (by show (0 : Int) < 6; decide), _, _, rfl, rfl, _, rfl, ite2 (fun _ => ?_) (fun _ => ⟨1, rfl, s1, by decide, by decide⟩)⟩
      obtain ⟨n, hn, hn2, hn3⟩ := sizes5_at _ (ltM (c := c * 48271 % 1009) (n := 5) (by decide))
      exact ⟨by show 5 ≤ sizeLine; decide, fun L nL => ⟨_, rfl, _, _, rfl, rfl, .inr (by decide), _, _, rfl, rfl, (by show (0 : Int) < 1009; decide), _, _, rfl, rfl, (by show (0 : Int) < 5; decide), L, sizes5.map V.int, _, .int n, rfl, rfl, .inl (.inl upd_same), atM (n := 5) (by decide) (by rw [List.getElem?_map, hn]; rfl), n, rfl, s1.trans (same_upd nL), hn2, hn3⟩⟩
    obtain ⟨n, rfl, s2, hn2, hn3⟩ := hM
    have hS2 := s2.seq hS
    refine ⟨_, rfl, _, rfl, _, rfl, by omega, by omega, fun D nD => ?_⟩
    refine lc_range (lo := 0) (n := n.toNat) (fun i H' => Same H2 H' ∧ ∃ ws, H' D = some (.lst ((ws : List Str).map V.str)) ∧ ws.length = i ∧ ∀ x ∈ ws, wordB x = true) ⟨same_upd nD, [], upd_same, rfl, fun x hx => by cases hx⟩ (fun i H' hi hp => ?_) (fun H3 hp => ?_)
    · obtain ⟨sm, ws, hD, hl, hw⟩ := hp
      refine ⟨rfl, yesT ?_⟩
      have hx : ∃ x, ms[((c / 6 + (0 + (i : Int))) % (12 : Nat)).toNat]? = some x ∧ wordB x = true := by
        have h1 := ltM (c := c / 6 + (0 + (i : Int))) (n := 12) (by decide)
        have h2 : ((c / 6 + (0 + (i : Int))) % (12 : Nat)).toNat < ms.length := by omega
        exact ⟨ms[_]'h2, List.getElem?_eq_getElem h2, hmw _ (List.getElem_mem h2)⟩
      obtain ⟨x, hx, hxw⟩ := hx
      refine ⟨_, rfl, _, rfl, _, _, rfl, rfl, ⟨by decide, by decide⟩, _, rfl, _, _, rfl, rfl, _, _, rfl, rfl, (by show (0 : Int) < 12; decide), a, _, _, .str x, rfl, rfl, sm.seq hS2, atM (n := 12) (by decide) (by rw [List.getElem?_map, hx]; rfl), ?_⟩
      refine ⟨_, hD, ?_, fun b o e => ?_, ws ++ [x], ?_, ?_, ?_⟩
      · rw [List.length_map, hl]
        exact Nat.lt_of_lt_of_le (show i < 1000 by omega) (by decide)
      · rw [upd_ne (ne_of_none e nD)]
        exact sm b o e
      · rw [upd_same, List.map_append]
        rfl
      · rw [List.length_append, hl]
        rfl
      · intro y hy
        rcases List.mem_append.mp hy with hy | hy
        · exact hw y hy
        · rw [List.mem_singleton.mp hy]
          exact hxw
    · obtain ⟨sm, ws, hD, hl, hw⟩ := hp
      refine ⟨by show 2 ≤ sizeLine; decide, fun T nT => q _ _ ⟨k, ws⟩ ((s2.trans sm).trans (same_upd nT)) ⟨T, D, rfl, upd_same, same_upd nT _ _ hD⟩ ⟨hkk, fun z => ?_, hw⟩ ?_⟩
      · have z : ws = [] := z
        rw [z] at hl
        have hl : (0 : Nat) = _ := hl
        omega
      · show ws.length ≤ 7
        omega
def spSide (K : PySem.W.Frag) : Sp := fun vs H Q _ => ∃ (p : Addr) (k : Str) (xs : List V) (ss : List StepD), vs = [.ref p, .str k] ∧ SqL K H p xs ∧ StepsAt K H xs ss ∧ total ss ≤ 10000 ∧
  ∀ (H' : Hp) (D : Addr), Same H H' → H D = none → H' D = some (.lst ((sideOf k ss).map V.str)) → Q (.ref D) H'
theorem ok_side {f : Addr} {fd : FuncData} (F : FnP K "_law_side" sSide f fd) : FnOk P w K mg base (L2.CX P w) 1 f fd ["_law_steps", "_law_kind"] (spSide K) := by
  refine F.ok scSide (fun vs H Q E h => ?_) (fun cdv A outer s H vs Q E hr h => ?_)
  · obtain ⟨p, k, xs, ss, rfl, _⟩ := h
    rfl
  · obtain ⟨p, k, xs, ss, rfl, hS, hX, hl, q⟩ := h
    refine ⟨_, pss_cons (ps_set (i := 2) scSide.nd rfl (.inl rfl) (pe_lst pa_nil))
      (pss_cons (ps_for (passes_of rfl) rfl (pi_list (pv 0)) (pg_name (i := 3) scSide.nd rfl (.inl rfl))
        (pss_one (ps_if (PW.pt (pw_or (pt_cmpR op_eq (pe_ix ix_tup (pv 3) pe_int (fun _ _ => rfl)) pe_str (nomark _)) (pw_or1 (pt_cmpR op_eq (pe_ix ix_tup (pv 3) pe_int (fun _ _ => rfl)) (pv 1) (nomark _)))))
          (pss_one (ps_set (i := 2) scSide.nd rfl (.inl rfl) (pe_op op_cat (pv 2) (pe_ix ix_tup (pv 3) pe_int (fun _ _ => rfl))))) pss_nil)))
      (pss_one (ps_ret (pv 2)))), ?_⟩
    refine ⟨by show 0 ≤ sizeLine; decide, fun D nD => ?_⟩
    have hlen : xs.length = ss.length := Paired.length hX
    refine ⟨_, rfl, p, rfl, ⟨_, (same_upd nD).seq hS⟩, for_list (xs := xs) (fun i σ' H' => Same H H' ∧ ∃ y3 D, σ' = [some (.ref p), some (.str k), some (.ref D), y3] ∧ H D = none ∧ H' D = some (.lst ((sideOf k (ss.take i)).map V.str))) ⟨same_upd nD, none, D, rfl, nD, upd_same⟩ (fun i σ' H' _ hp => hp.1.seq hS) (fun i x σ' H' hx hp => ?_) (fun σ' H' hp => ?_)⟩
    · obtain ⟨sm, y3, D, rfl, nD, hD⟩ := hp
      obtain ⟨st, hs1, hs2⟩ := paired_at hX hx
      obtain ⟨T, L, rfl, hT, hL⟩ := hs2.same sm
      have hT' : SqT K H' T [.str st.kind, .ref L] := .inl (.inl hT)
      have e1 := take_snoc hs1
      have hle := side_take_le k ss (i + 1)
      rw [e1, side_snoc] at hle
      have yes : (st.kind = ("keep" : Str) ∨ st.kind = k) → ∀ D2, H' D2 = none → Same H (upd H' D2 (.lst ((sideOf k (ss.take i)).map V.str ++ st.ws.map V.str))) ∧ ∃ y3 D3, [some (V.ref p), some (.str k), some (.ref D2), some (.ref T)] = [some (.ref p), some (.str k), some (.ref D3), y3] ∧ H D3 = none ∧
          (upd H' D2 (.lst ((sideOf k (ss.take i)).map V.str ++ st.ws.map V.str))) D3 = some (.lst ((sideOf k (ss.take (i + 1))).map V.str)) := fun h D2 nD2 => by
        refine ⟨sm.trans (same_upd nD2), _, D2, rfl, sm.free nD2, ?_⟩
        rw [upd_same, e1, side_snoc, if_pos h, List.map_append]
      have bnd : (st.kind = ("keep" : Str) ∨ st.kind = k) → ((sideOf k (ss.take i)).map V.str).length + (st.ws.map V.str).length ≤ sizeLine := fun h => by
        rw [if_pos h, List.length_append] at hle
        rw [List.length_map, List.length_map]
        exact Nat.le_trans (show _ ≤ 10000 by omega) (by decide)
      refine ⟨_, rfl, T, _, _, _, rfl, rfl, hT', at_of (j := 0) rfl rfl, rfl, _, rfl, ite2 (fun e => ?_) (fun e => ?_)⟩
      · have h : st.kind = ("keep" : Str) ∨ st.kind = k := .inl (V.str.inj (of_decide_eq_true e))
        exact ⟨_, rfl, _, rfl, T, _, _, _, rfl, rfl, hT', at_of (j := 1) rfl rfl, D, L, _, _, rfl, rfl, hD, hL, bnd h, yes h⟩
      · have h1 : st.kind ≠ ("keep" : Str) := fun z => e (decide_eq_true (congrArg V.str z))
        refine ⟨_, rfl, T, _, _, _, rfl, rfl, hT', at_of (j := 0) rfl rfl, _, rfl, rfl, _, rfl, ite2 (fun e => ?_) (fun e => ?_)⟩
        · have h : st.kind = ("keep" : Str) ∨ st.kind = k := .inr (V.str.inj (of_decide_eq_true e))
          exact ⟨_, rfl, _, rfl, T, _, _, _, rfl, rfl, hT', at_of (j := 1) rfl rfl, D, L, _, _, rfl, rfl, hD, hL, bnd h, yes h⟩
        · have h2 : ¬ (st.kind = ("keep" : Str) ∨ st.kind = k) := fun z => z.elim h1 fun z => e (decide_eq_true (congrArg V.str z))
          refine ⟨sm, _, D, rfl, nD, ?_⟩
          rw [e1, side_snoc, if_neg h2]
          exact hD
    · obtain ⟨sm, y3, D, rfl, nD, hD⟩ := hp
      rw [List.take_of_length_le (by rw [hlen]; exact Nat.le_refl _)] at hD
      exact ⟨_, rfl, q H' D sm nD hD⟩
end
/-! ### ways -/
theorem StepAt.set {K : PySem.W.Frag} {H : Hp} {D : Addr} {o : HO} {xs : List V} {ss : List StepD} (hD : H D = some (.lst xs)) (hX : StepsAt K H xs ss) {v : V} {s : StepD} (h : StepAt K H v s) (ne : s.ws ≠ []) : StepAt K (upd H D o) v s := by
  obtain ⟨T, L, e, h1, h2⟩ := h
  have n1 : T ≠ D := fun z => by
    rw [z, hD] at h1
    cases h1
  have n2 : L ≠ D := fun z => by
    rw [z, hD] at h2
    have h2 := HO.lst.inj (Option.some.inj h2)
    cases hw : s.ws with
    | nil => exact ne hw
    | cons a r =>
      rw [hw] at h2
      rw [h2] at hX
      cases hX with
      | cons h3 _ =>
        obtain ⟨_, _, e3, _⟩ := h3
        cases e3
  exact ⟨T, L, e, by rw [upd_ne n1]; exact h1, by rw [upd_ne n2]; exact h2⟩
theorem StepsAt.set {K : PySem.W.Frag} {H : Hp} {D : Addr} {o : HO} {xs ys : List V} {ss ts : List StepD} (hD : H D = some (.lst xs)) (hX : StepsAt K H xs ss) (h : StepsAt K H ys ts) (ne : ∀ s ∈ ts, s.ws ≠ []) : StepsAt K (upd H D o) ys ts := by
  unfold StepsAt at h
  show Paired (StepAt K (upd H D o)) ys ts
  induction h with
  | nil => exact .nil
  | cons h t ih => exact .cons (h.set hD hX (ne _ List.mem_cons_self)) (ih fun s hs => ne s (List.mem_cons_of_mem _ hs))
theorem cut_to (xs : List V) (k : Nat) : cutV xs none (some (k : Int)) = xs.take k := by
  unfold cutV
  rw [HT.sIx_none, HT.sIx_nat, Nat.sub_zero, List.drop_zero]
  by_cases h : k ≤ xs.length
  · rw [Nat.min_eq_left h]
  · rw [Nat.min_eq_right (by omega), List.take_of_length_le (Nat.le_refl _), List.take_of_length_le (by omega)]
theorem cut_mid (xs : List V) {a b : Nat} (h : a ≤ b) (hb : b ≤ xs.length) : cutV xs (some (a : Int)) (some (b : Int)) = (xs.drop a).take (b - a) := by
  unfold cutV
  rw [HT.sIx_nat, HT.sIx_nat, Nat.min_eq_left hb, Nat.min_eq_left (show a ≤ xs.length by omega)]
theorem cutM4 (xs : List V) (m : Nat) : (cutV xs (some 4) (some (4 + (m : Int)))).length ≤ m := by
  unfold cutV
  have h1 : HT.sIx xs.length 0 (some 4) = min 4 xs.length := HT.sIx_nat _ _ 4
  have e : (4 : Int) + (m : Int) = ((4 + m : Nat) : Int) := by omega
  have h2 : HT.sIx xs.length xs.length (some (4 + (m : Int))) = min (4 + m) xs.length := by
    rw [e]
    exact HT.sIx_nat _ _ _
  rw [h1, h2, List.length_take, List.length_drop]
  omega
theorem cutM4_mem {xs : List V} {lo hi : Option Int} {x : V} (h : x ∈ cutV xs lo hi) : x ∈ xs := List.mem_of_mem_drop (List.mem_of_mem_take h)
def spWay (K : PySem.W.Frag) : Sp := fun vs H Q _ => ∃ (a : Addr) (ns : List Int) (m : Nat), vs = [.ref a, .int (m : Int)] ∧ SqL K H a (ns.map V.int) ∧ m ≤ 15 ∧
  ∀ (H' : Hp) (D : Addr) (xs : List V) (ss : List StepD), Same H H' → H D = none → H' D = some (.lst xs) → StepsAt K H' xs ss → (∀ s ∈ ss, StepOk s) → total ss ≤ 105 → Q (.ref D) H'
theorem front_ok {ms : List Str} (hl : ms.length = 12) (hw : ∀ x ∈ ms, wordB x = true) : ∀ s ∈ ([⟨"keep", ms⟩, ⟨"cut", ms.take 2⟩, ⟨"keep", (ms.drop 2).take 4⟩] : List StepD), StepOk s := by
  have ne : ∀ {l : List Str}, 0 < l.length → l ≠ [] := fun h z => by
    rw [z] at h
    exact absurd h (Nat.lt_irrefl _)
  intro s hs
  rcases List.mem_cons.mp hs with e | hs
  · rw [e]
    exact ⟨by show ("keep" : Str) ∈ plainK; decide +kernel, ne (l := ms) (by omega), hw⟩
  · rcases List.mem_cons.mp hs with e | hs
    · rw [e]
      exact ⟨by show ("cut" : Str) ∈ plainK; decide +kernel, ne (by rw [List.length_take]; omega), fun a ha => hw a (List.mem_of_mem_take ha)⟩
    · rw [List.mem_singleton.mp hs]
      exact ⟨by show ("keep" : Str) ∈ plainK; decide +kernel, ne (by rw [List.length_take, List.length_drop]; omega), fun a ha => hw a (List.mem_of_mem_drop (List.mem_of_mem_take ha))⟩
section
variable {P : Program} {w : World} {K : PySem.W.Frag} {mg : Str → Option Value} {base : Heap}
theorem scWay : FnScope ["_law_script", "_law_many", "_law_menu_here", "_law_steps", "_law_front", "_law_cell"] ["_law_script", "_law_many"] (defScope sWay) := ⟨rfl, rfl, rfl, by decide +kernel, rfl, by decide +kernel, by decide +kernel⟩
theorem ok_way {f fC fM fS : Addr} {fd fdC fdM fdS : FuncData} (F : FnP K "_law_way" sWay f fd)
    (GC : FnOk P w K mg base (L2.CX P w) 1 fC fdC ["_law_script", "_law_k"] (spCell K)) (kC : PySem.W.keepIn K (.ref fC) = true) (bC : Binds K fdC ["_law_script", "_law_k"] []) (gC : mg "_law_cell_at" = some (.ref fC))
    (GM : FnOk P w K mg base (L2.CX P w) 3 fM fdM ["_law_script"] (spMenu K)) (kM : PySem.W.keepIn K (.ref fM) = true) (bM : Binds K fdM ["_law_script"] []) (gM : mg "_law_menu" = some (.ref fM))
    (GS : FnOk P w K mg base (L2.CX P w) 1 fS fdS ["_law_menu_here", "_law_cell"] (spStep K)) (kS : PySem.W.keepIn K (.ref fS) = true) (bS : Binds K fdS ["_law_menu_here", "_law_cell"] []) (gS : mg "_law_step" = some (.ref fS)) :
    FnOk P w K mg base (L2.CX P w) 4 f fd ["_law_script", "_law_many"] (spWay K) := by
  refine F.ok scWay (fun vs H Q E h => ?_) (fun cdv A outer s H vs Q E hr h => ?_)
  · obtain ⟨a, ns, m, rfl, _⟩ := h
    rfl
  · obtain ⟨a, ns, m, rfl, hS, hm, q⟩ := h
    have r1 : Room 1 (A.deeper (envOfC "_law_way" (defScope sWay) s.heap.objs.size f cdv)) := hr.mono (by decide)
    refine ⟨_, pss_cons (ps_set (i := 2) scWay.nd rfl (.inr rfl) (pe_call GM hr (by rfl) gM kM bM .nil passL (pa_cons (pv 0) pa_nil)))
      (pss_cons (ps_setLc (i := 3) (own := [("_law_cell", 5)]) (g := gName 5) (tt := tYes) rfl scWay.nd rfl rfl (sw_true rfl rfl rfl (by decide +kernel)) (pi_list (pe_slice sl_list (pv 0) (po_some pe_int) (po_some (pe_op op_add pe_int (pv 1))))) (blkOk_by (N := ["_law_script", "_law_many", "_law_menu_here", "_law_steps", "_law_front", "_law_cell"]) (sc := defScope sWay) (by decide +kernel))
        (fun _ _ _ _ _ => pg_name (i := 5) scWay.nd rfl (Or.inl rfl)) (fun _ _ _ _ _ => pts_nil) (fun _ _ _ _ _ => pe_call GS r1 (by rfl) gS kS bS .nil passL (pa_cons (pv 2) (pa_cons (pv 5) pa_nil))))
      (pss_cons (ps_if (pt_cmpR op_eq (pe_op op_mod (pe_op op_fdiv (pe_call GC r1 (by rfl) gC kC bC .nil passL (pa_cons (pv 0) (pa_cons pe_int pa_nil))) pe_int) pe_int) pe_int (nomark _))
        (pss_cut (ps_set (i := 4) scWay.nd rfl (.inl rfl) (pe_lst (pa_cons (pe_tup (pa_cons pe_str (pa_cons (pv 2) pa_nil))) (pa_cons (pe_tup (pa_cons pe_str (pa_cons (pe_slice sl_list (pv 2) po_none (po_some pe_int)) pa_nil))) (pa_cons (pe_tup (pa_cons pe_str (pa_cons (pe_slice sl_list (pv 2) (po_some pe_int) (po_some pe_int)) pa_nil))) pa_nil)))))
          (pss_one (ps_ret (pe_op op_cat (pv 4) (pe_slice sl_list (pv 3) po_none (po_some (pe_op op_fdiv (pv 1) pe_int))))))) pss_nil)
      (pss_one (ps_ret (pv 3))))), ?_⟩
    refine ⟨_, rfl, a, ns, rfl, hS, fun H1 M ms s1 nM hM hml hmw => ?_⟩
    refine ⟨_, rfl, _, rfl, _, rfl, _, _, rfl, rfl, _, rfl, a, _, rfl, s1.seq hS, fun p np => ⟨p, rfl, ⟨_, .inl (.inl upd_same)⟩, fun D nD => ?_⟩⟩
    have t1 := same_upd np (o := .lst (cutV (ns.map V.int) (some 4) (some (4 + (m : Int)))))
    refine lc_list (xs := cutV (ns.map V.int) (some 4) (some (4 + (m : Int)))) (fun i H' => Same (upd H1 p (.lst (cutV (ns.map V.int) (some 4) (some (4 + (m : Int)))))) H' ∧ ∃ xs ss, H' D = some (.lst xs) ∧ xs.length = i ∧ StepsAt K H' xs ss ∧ (∀ s ∈ ss, StepOk s ∧ s.ws.length ≤ 7))
      ⟨same_upd nD, [], [], upd_same, rfl, .nil, fun s hs => by cases hs⟩ (fun i H' _ hp => hp.1.seq (.inl (.inl upd_same))) (fun i x H' hx hp => ?_) (fun H2 hp => ?_)
    · obtain ⟨sm, xs, ss, hD, hl, hX, hok⟩ := hp
      have hi : i < m := Nat.lt_of_lt_of_le (List.getElem?_eq_some_iff.mp hx).1 (cutM4 _ m)
      obtain ⟨c, _, rfl⟩ := List.mem_map.mp (cutM4_mem (List.mem_of_getElem? hx))
      refine ⟨rfl, yesT ?_⟩
      refine ⟨_, rfl, _, rfl, M, c, ms, rfl, sm.seq (t1.seq (.inl (.inl hM))), hml, hmw, fun H3 v st s3 hv hst hsl => ?_⟩
      have hD3 := s3 _ _ hD
      have hX3 := hX.same s3
      refine ⟨_, hD3, ?_, fun b o e => ?_, xs ++ [v], ss ++ [st], upd_same, ?_, ?_, fun y hy => ?_⟩
      · rw [hl]
        exact Nat.lt_of_lt_of_le (show i < 1000 by omega) (by decide)
      · rw [upd_ne (ne_of_none e nD)]
        exact s3 b o (sm b o e)
      · rw [List.length_append, hl]
        rfl
      · refine paired_app (hX3.set hD3 hX3 fun s hs => (hok s hs).1.some) (.cons (hv.set hD3 hX3 hst.some) .nil)
      · rcases List.mem_append.mp hy with hy | hy
        · exact hok y hy
        · rw [List.mem_singleton.mp hy]
          exact ⟨hst, hsl⟩
    obtain ⟨sm, xs, ss, hD, hl, hX, hok⟩ := hp
    have s2 : Same H H2 := s1.trans (t1.trans sm)
    have hM2 := sm _ _ (t1 _ _ hM)
    have hsl : ss.length ≤ m := by
      rw [← Paired.length hX, hl]
      exact cutM4 _ m
    have hnD : H D = none := (s1.trans t1).free nD
    refine ⟨_, rfl, a, ns, 3, rfl, s2.seq hS, _, _, rfl, rfl, ⟨by decide, by decide⟩, _, _, rfl, rfl, (by show (0 : Int) < 8; decide), rfl, _, rfl, ite2 (fun _ => ?_) (fun _ => ?_)⟩
    · -- with a front
      refine ⟨fun σ' H' => ∃ Fr fx, σ' = [some (.ref a), some (.int (m : Int)), some (.ref M), some (.ref D), some (.ref Fr), none] ∧ Same H2 H' ∧ H' Fr = some (.lst fx) ∧ StepsAt K H' fx [⟨"keep", ms⟩, ⟨"cut", ms.take 2⟩, ⟨"keep", (ms.drop 2).take 4⟩], ?_, fun σ3 H3 hM3 => ?_⟩
      · refine ⟨_, rfl, by show 2 ≤ sizeLine; decide, fun T1 n1 => ?_⟩
        have u1 := same_upd n1 (o := .tup [.str "keep", .ref M])
        refine ⟨_, rfl, _, rfl, M, _, rfl, .inl (.inl (u1 _ _ hM2)), fun S2 n2 => ⟨by show 2 ≤ sizeLine; decide, fun T2 n3 => ?_⟩⟩
        have u2 := same_upd n2 (o := .lst (cutV (ms.map V.str) none (some 2)))
        have u3 := same_upd n3 (o := .tup [.str "cut", .ref S2])
        have u123 := u1.trans (u2.trans u3)
        refine ⟨_, rfl, _, rfl, _, rfl, M, _, rfl, .inl (.inl (u123 _ _ hM2)), fun S3 n4 => ⟨by show 2 ≤ sizeLine; decide, fun T3 n5 => ⟨by show 3 ≤ sizeLine; decide, fun Fr n6 => ?_⟩⟩⟩
        have u4 := same_upd n4 (o := .lst (cutV (ms.map V.str) (some 2) (some 6)))
        have u5 := same_upd n5 (o := .tup [.str "keep", .ref S3])
        have u6 := same_upd n6 (o := .lst [.ref T1, .ref T2, .ref T3])
        have e2 : cutV (ms.map V.str) none (some 2) = (ms.take 2).map V.str := by
          rw [show (2 : Int) = ((2 : Nat) : Int) from rfl, cut_to, List.map_take]
        have e3 : cutV (ms.map V.str) (some 2) (some 6) = ((ms.drop 2).take 4).map V.str := by
          rw [show (2 : Int) = ((2 : Nat) : Int) from rfl, show (6 : Int) = ((6 : Nat) : Int) from rfl, cut_mid _ (by decide) (by rw [List.length_map]; omega), List.map_take, List.map_drop]
        refine ⟨Fr, _, rfl, u123.trans (u4.trans (u5.trans u6)), upd_same, ?_⟩
        refine .cons ⟨T1, M, rfl, u6 _ _ (u5 _ _ (u4 _ _ (u3 _ _ (u2 _ _ upd_same)))), u6 _ _ (u5 _ _ (u4 _ _ (u123 _ _ hM2)))⟩
          (.cons ⟨T2, S2, rfl, u6 _ _ (u5 _ _ (u4 _ _ upd_same)), u6 _ _ (u5 _ _ (u4 _ _ (u3 _ _ ?_)))⟩
          (.cons ⟨T3, S3, rfl, u6 _ _ upd_same, u6 _ _ (u5 _ _ ?_)⟩ .nil))
        · rw [upd_same, e2]
        · rw [upd_same, e3]
      obtain ⟨Fr, fx, rfl, s3, hF, hfx⟩ := hM3
      refine ⟨_, rfl, _, rfl, _, rfl, _, _, rfl, rfl, ⟨by decide, by decide⟩, _, rfl, D, _, rfl, .inl (.inl (s3 _ _ hD)), fun C nC => ?_⟩
      have s4 := same_upd nC (o := .lst (cutV xs none (some ((m : Int) / 2))))
      have e4 : cutV xs none (some ((m : Int) / 2)) = xs.take (m / 2) := by
        rw [show ((m : Int) / 2) = ((m / 2 : Nat) : Int) by omega, cut_to]
      have hxl : xs.length ≤ m := by
        rw [Paired.length hX]
        exact hsl
      refine ⟨Fr, C, fx, _, rfl, rfl, s4 _ _ hF, upd_same, Nat.le_trans (by rw [e4, Paired.length hfx, List.length_take]; show 3 + min (m / 2) xs.length ≤ 1000; omega) (by decide), fun R nR => ?_⟩
      have s5 := same_upd nR (o := .lst (fx ++ cutV xs none (some ((m : Int) / 2))))
      have hok2 : ∀ s ∈ ss.take (m / 2), StepOk s ∧ s.ws.length ≤ 7 := fun s hs => hok s (List.mem_of_mem_take hs)
      refine q _ R _ ([⟨"keep", ms⟩, ⟨"cut", ms.take 2⟩, ⟨"keep", (ms.drop 2).take 4⟩] ++ ss.take (m / 2)) (s2.trans (s3.trans (s4.trans s5))) ((s2.trans (s3.trans s4)).free nR) upd_same ?_ (fun s hs => ?_) ?_
      · have h0 := paired_take hX (m / 2)
        rw [← e4] at h0
        exact paired_app (StepsAt.same (s4.trans s5) hfx) (StepsAt.same (s3.trans (s4.trans s5)) h0)
      · rcases List.mem_append.mp hs with hs | hs
        · exact front_ok hml hmw s hs
        · exact (hok2 s hs).1
      · rw [total_append]
        have h1 := total_le fun s hs => (hok2 s hs).2
        rw [List.length_take] at h1
        have h2 : total ([⟨"keep", ms⟩, ⟨"cut", ms.take 2⟩, ⟨"keep", (ms.drop 2).take 4⟩] : List StepD) = 18 := by
          show ms.length + ((ms.take 2).length + (((ms.drop 2).take 4).length + 0)) = 18
          rw [List.length_take, List.length_take, List.length_drop, hml]
          rfl
        omega
    · refine ⟨_, rfl, q H2 D xs ss s2 hnD hD hX (fun s hs => (hok s hs).1) ?_⟩
      have := total_le fun s hs => (hok s hs).2
      omega
end
/-! ### the table, plainly -/
def dist : List Str → List Str → Nat
  | [], m => m.length
  | _ :: l, [] => l.length + 1
  | a :: l, b :: m => if a = b then dist l m else 1 + min (dist l (b :: m)) (dist (a :: l) m)
termination_by l m => l.length + m.length
theorem dist_nil (m : List Str) : dist [] m = m.length := by rw [dist]
theorem dist_nil2 (l : List Str) : dist l [] = l.length := by
  cases l with
  | nil => rw [dist]
  | cons a l =>
    rw [dist]
    rfl
theorem dist_cons (a b : Str) (l m : List Str) : dist (a :: l) (b :: m) = if a = b then dist l m else 1 + min (dist l (b :: m)) (dist (a :: l) m) := by rw [dist]
theorem dist_le : ∀ (l m : List Str), dist l m ≤ l.length + m.length
  | [], m => by rw [dist_nil]; exact Nat.le_add_left _ _
  | a :: l, [] => by rw [dist_nil2]; exact Nat.le_add_right _ _
  | a :: l, b :: m => by
    rw [dist_cons]
    have h1 := dist_le l m
    have h2 := dist_le l (b :: m)
    simp only [List.length_cons] at h2 ⊢
    split
    · omega
    · omega
termination_by l m => l.length + m.length
def cellD (old new : List Str) (i k : Nat) : Nat := dist (old.drop i) (new.drop k)
def rowD (old new : List Str) (i : Nat) : List V := (List.range (new.length + 1)).map fun k => V.int (cellD old new i k : Nat)
/-- a table as it stands in memory -/
def TabAt (K : PySem.W.Frag) (H : Hp) (D : Addr) (old new : List Str) : Prop := ∃ rs : List V, SqL K H D rs ∧ rs.length = old.length + 1 ∧ ∀ (i : Nat) (v : V), rs[i]? = some v → ∃ R, v = .ref R ∧ SqL K H R (rowD old new i)
theorem TabAt.kp {K : PySem.W.Frag} {Ps : List Addr} {H H' : Hp} (t : Tb Ps H) (k : Kp Ps H H') {D : Addr} {old new : List Str} (h : TabAt K H D old new) : TabAt K H' D old new :=
  let ⟨rs, h1, h2, h3⟩ := h
  ⟨rs, k.seq t h1, h2, fun i v e => let ⟨R, e1, e2⟩ := h3 i v e; ⟨R, e1, k.seq t e2⟩⟩
theorem TabAt.same {K : PySem.W.Frag} {H H' : Hp} (s : Same H H') {D : Addr} {old new : List Str} (h : TabAt K H D old new) : TabAt K H' D old new := h.kp noTb (Kp.same noTb s)
theorem TabAt.row {K : PySem.W.Frag} {H : Hp} {D : Addr} {old new : List Str} (h : TabAt K H D old new) {i : Nat} (hi : i ≤ old.length) : ∃ rs R, SqL K H D rs ∧ rs[i]? = some (.ref R) ∧ SqL K H R (rowD old new i) := by
  obtain ⟨rs, h1, h2, h3⟩ := h
  have hlt : i < rs.length := by omega
  obtain ⟨R, e1, e2⟩ := h3 i rs[i] (List.getElem?_eq_getElem hlt)
  exact ⟨rs, R, h1, by rw [List.getElem?_eq_getElem hlt, e1], e2⟩
theorem rowD_at {old new : List Str} {i k : Nat} (hk : k ≤ new.length) : (rowD old new i)[k]? = some (.int (cellD old new i k : Nat)) := by
  unfold rowD
  rw [List.getElem?_map, List.getElem?_range (by omega)]
  rfl
theorem rowD_len (old new : List Str) (i : Nat) : (rowD old new i).length = new.length + 1 := by
  unfold rowD
  rw [List.length_map, List.length_range]
theorem cellD_end {old new : List Str} {i k : Nat} (hi : i ≤ old.length) (hk : k ≤ new.length) (h : i = old.length ∨ k = new.length) : cellD old new i k = (old.length - i) + (new.length - k) := by
  unfold cellD
  rcases h with h | h
  · rw [List.drop_of_length_le (by omega), dist_nil, List.length_drop]
    omega
  · rw [List.drop_of_length_le (l := new) (by omega), dist_nil2, List.length_drop]
    omega
theorem cellD_in {old new : List Str} {i k : Nat} {a b : Str} (ha : old[i]? = some a) (hb : new[k]? = some b) : cellD old new i k = if a = b then cellD old new (i + 1) (k + 1) else 1 + min (cellD old new (i + 1) k) (cellD old new i (k + 1)) := by
  have key : ∀ {l : List Str} {j : Nat} {x : Str}, l[j]? = some x → l.drop j = x :: l.drop (j + 1) := fun {l j x} h => by
    obtain ⟨h1, h2⟩ := List.getElem?_eq_some_iff.mp h
    rw [List.drop_eq_getElem_cons h1, h2]
  unfold cellD
  rw [key ha, key hb, dist_cons]
def spTable (K : PySem.W.Frag) (Ps : List Addr) : Sp := fun vs H Q _ => ∃ (p q : Addr) (old new : List Str), vs = [.ref p, .ref q] ∧ SqL K H p (old.map V.str) ∧ SqL K H q (new.map V.str) ∧ (∀ a ∈ old, wordB a = true) ∧ (∀ a ∈ new, wordB a = true) ∧ old.length ≤ 120 ∧ new.length ≤ 120 ∧ Tb Ps H ∧
  ∀ (H' : Hp) (D : Addr), Kp Ps H H' → H D = none → TabAt K H' D old new → Q (.ref D) H'
def spApart (K : PySem.W.Frag) (Ps : List Addr) : Sp := fun vs H Q _ => ∃ (p q : Addr) (old new : List Str), vs = [.ref p, .ref q] ∧ SqL K H p (old.map V.str) ∧ SqL K H q (new.map V.str) ∧ (∀ a ∈ old, wordB a = true) ∧ (∀ a ∈ new, wordB a = true) ∧ old.length ≤ 120 ∧ new.length ≤ 120 ∧ Tb Ps H ∧
  ∀ (H' : Hp), Kp Ps H H' → Q (.int (dist old new : Nat)) H'
/-! ### table and apart, as landed -/
abbrev rLenS (K : PySem.W.Frag) : List V → Hp → (V → Hp → Prop) → Prop := fun xs H Q => ∃ p ys, xs = [V.ref p] ∧ (SqL K H p ys ∨ SqT K H p ys) ∧ Q (.int ys.length) H
def listM (M : Nat → Nat → Int) (m i : Nat) : List V := (List.range (m + 1)).map fun k => V.int (M i k)
theorem listM_len (M : Nat → Nat → Int) (m i : Nat) : (listM M m i).length = m + 1 := by
  unfold listM
  rw [List.length_map, List.length_range]
theorem listM_at {M : Nat → Nat → Int} {m i k : Nat} (hk : k ≤ m) : (listM M m i)[k]? = some (.int (M i k)) := by
  unfold listM
  rw [List.getElem?_map, List.getElem?_range (by omega)]
  rfl
theorem listM_congr {M M' : Nat → Nat → Int} {m i : Nat} (h : ∀ k ≤ m, M i k = M' i k) : listM M m i = listM M' m i := by
  unfold listM
  refine List.map_congr_left fun k hk => ?_
  rw [h k (by have := List.mem_range.mp hk; omega)]
theorem rep_zero : ∀ n, (List.replicate n [V.int 0]).flatten = (List.range n).map fun _ => V.int 0 := fun n => by
  rw [List.map_const', List.length_range]
  induction n with
  | zero => rfl
  | succ n ih => rw [List.replicate_succ, List.flatten_cons, ih, List.replicate_succ]; rfl
theorem ixN_nat {n k : Nat} (h : k < n) : ixN n (k : Int) = some k := by
  unfold ixN
  rw [if_pos (by omega), if_pos (by omega), Int.toNat_natCast]
theorem listM_set {M : Nat → Nat → Int} {m i k : Nat} {x : Int} (hk : k ≤ m) : (listM M m i).set k (.int x) = listM (fun i' k' => if i' = i ∧ k' = k then x else M i' k') m i := by
  refine List.ext_getElem? fun j => ?_
  rw [List.getElem?_set, listM_len]
  by_cases h : k = j
  · subst h
    rw [if_pos rfl, if_pos (by omega), listM_at hk, if_pos ⟨rfl, rfl⟩]
  · rw [if_neg h]
    by_cases hj : j ≤ m
    · rw [listM_at hj, listM_at hj, if_neg fun z => h z.2.symm]
    · rw [List.getElem?_eq_none (by rw [listM_len]; omega), List.getElem?_eq_none (by rw [listM_len]; omega)]
theorem nodup_at {α : Type} : ∀ {l : List α}, l.Nodup → ∀ {i j : Nat} {x : α}, l[i]? = some x → l[j]? = some x → i = j
  | [], _, i, j, x, h, _ => by cases h
  | a :: r, nd, i, j, x, h, g => by
    rw [List.nodup_cons] at nd
    cases i with
    | zero =>
      cases h
      cases j with
      | zero => rfl
      | succ j => exact absurd (List.mem_of_getElem? (l := r) (i := j) g) nd.1
    | succ i =>
      cases j with
      | zero =>
        cases g
        exact absurd (List.mem_of_getElem? (l := r) (i := i) h) nd.1
      | succ j => exact congrArg _ (nodup_at nd.2 h g)
/-- a table under work -/
structure TabW (H : Hp) (D : Addr) (rs : List Addr) (M : Nat → Nat → Int) (n m : Nat) : Prop where
  top : H D = some (.lst (rs.map V.ref))
  len : rs.length = n + 1
  nd : rs.Nodup
  out : D ∉ rs
  row : ∀ i R, rs[i]? = some R → H R = some (.lst (listM M m i))
theorem TabW.at_ {H : Hp} {D : Addr} {rs : List Addr} {M : Nat → Nat → Int} {n m i : Nat} (h : TabW H D rs M n m) (hi : i ≤ n) : ∃ R, rs[i]? = some R ∧ (rs.map V.ref)[i]? = some (.ref R) ∧ H R = some (.lst (listM M m i)) := by
  have hlt : i < rs.length := by have := h.len; omega
  have e := List.getElem?_eq_getElem hlt
  exact ⟨rs[i], e, by rw [List.getElem?_map, e]; rfl, h.row i _ e⟩
theorem TabW.set {H : Hp} {D : Addr} {rs : List Addr} {M : Nat → Nat → Int} {n m i k : Nat} {R : Addr} (h : TabW H D rs M n m) (hR : rs[i]? = some R) (hk : k ≤ m) (x : Int) : TabW (upd H R (.lst ((listM M m i).set k (.int x)))) D rs (fun i' k' => if i' = i ∧ k' = k then x else M i' k') n m := by
  have hm : R ∈ rs := List.mem_of_getElem? hR
  refine ⟨?_, h.len, h.nd, h.out, fun j S hS => ?_⟩
  · rw [upd_ne fun z => h.out (by rw [z]; exact hm)]
    exact h.top
  · by_cases e : j = i
    · subst e
      rw [hR] at hS
      cases hS
      rw [upd_same, listM_set hk]
    · have ne : S ≠ R := fun z => by
        subst z
        exact e (nodup_at h.nd hS hR)
      rw [upd_ne ne, h.row j S hS]
      exact congrArg (fun l => some (HO.lst l)) (listM_congr fun k' _ => (if_neg fun z => e z.1).symm)
/-- cells behind a place are as they should be -/
def Done (old new : List Str) (M : Nat → Nat → Int) (i k : Nat) : Prop := ∀ i' k', i' ≤ old.length → k' ≤ new.length → (i < i' ∨ (i' = i ∧ k ≤ k')) → M i' k' = (cellD old new i' k' : Nat)
section
variable {P : Program} {w : World} {K : PySem.W.Frag} {mg : Str → Option Value} {base : Heap}
theorem scTable : FnScope ["old", "new", "costs", "i", "k", "_"] ["old", "new"] (defScope sTable) := ⟨rfl, rfl, rfl, by decide +kernel, rfl, by decide +kernel, by decide +kernel⟩
theorem scLeast : FnScope ["costs", "old", "new", "i", "k"] ["costs", "old", "new", "i", "k"] (defScope sLeastCost) := ⟨rfl, rfl, rfl, by decide +kernel, rfl, by decide +kernel, by decide +kernel⟩
theorem scApart : FnScope ["old", "new"] ["old", "new"] (defScope sApart) := ⟨rfl, rfl, rfl, by decide +kernel, rfl, by decide +kernel, by decide +kernel⟩
def spLeast (K : PySem.W.Frag) : Sp := fun vs H Q _ => ∃ (D p r : Addr) (old new : List Str) (i k : Nat) (rs : List Addr) (M : Nat → Nat → Int), vs = [.ref D, .ref p, .ref r, .int (i : Int), .int (k : Int)] ∧ TabW H D rs M old.length new.length ∧ SqL K H p (old.map V.str) ∧ SqL K H r (new.map V.str) ∧ i ≤ old.length ∧ k ≤ new.length ∧ Done old new M i (k + 1) ∧ Q (.int (cellD old new i k : Nat)) H
theorem ok_least {f : Addr} {fd : FuncData} (F : FnP K "least_cost" sLeastCost f fd) (mL : mg "len" = none) (mM : mg "min" = none) : FnOk P w K mg base (L2.CX P w) 1 f fd ["costs", "old", "new", "i", "k"] (spLeast K) := by
  refine F.ok scLeast (fun vs H Q E h => ?_) (fun cdv A outer s H vs Q E hr h => ?_)
  · obtain ⟨D, p, r, old, new, i, k, rs, M, rfl, _⟩ := h
    rfl
  · obtain ⟨D, p, r, old, new, i, k, rs, M, rfl, hT, hp, hr', hi, hk, dn, q⟩ := h
    refine ⟨_, pss_cons (ps_if (pt_cmpR op_eq (pv 3) (pe_callB call_len_seq (by rfl) mL PySem.boot_len (pa_cons (pv 1) pa_nil)) (by rfl))
        (pss_one (ps_ret (pe_op op_sub (pe_callB call_len_seq (by rfl) mL PySem.boot_len (pa_cons (pv 2) pa_nil)) (pv 4)))) pss_nil)
      (pss_cons (ps_if (pt_cmpR op_eq (pv 4) (pe_callB call_len_seq (by rfl) mL PySem.boot_len (pa_cons (pv 2) pa_nil)) (by rfl))
        (pss_one (ps_ret (pe_op op_sub (pe_callB call_len_seq (by rfl) mL PySem.boot_len (pa_cons (pv 1) pa_nil)) (pv 3)))) pss_nil)
      (pss_cons (ps_if (pt_cmpR op_eq (pe_ix ix_list (pv 1) (pv 3) (fun _ _ => rfl)) (pe_ix ix_list (pv 2) (pv 4) (fun _ _ => rfl)) (by rfl)) (pss_one (ps_ret (pe_ix ix_list (pe_ix ix_list (pv 0) (pe_op op_add (pv 3) pe_int) (fun _ _ => rfl)) (pe_op op_add (pv 4) pe_int) (fun _ _ => rfl)))) pss_nil)
      (pss_one (ps_ret (pe_op op_add pe_int (pe_callB (call_min2 rfl) (by rfl) mM (by decide +kernel) (pa_cons (pe_ix ix_list (pe_ix ix_list (pv 0) (pe_op op_add (pv 3) pe_int) (fun _ _ => rfl)) (pv 4) (fun _ _ => rfl)) (pa_cons (pe_ix ix_list (pe_ix ix_list (pv 0) (pv 3) (fun _ _ => rfl)) (pe_op op_add (pv 4) pe_int) (fun _ _ => rfl)) pa_nil)))))))), ?_⟩
    have lo : ((old.map V.str).length : Int) = (old.length : Int) := by rw [List.length_map]
    have ln : ((new.map V.str).length : Int) = (new.length : Int) := by rw [List.length_map]
    refine ⟨_, rfl, _, rfl, p, _, rfl, .inl hp, rfl, _, rfl, ite2 (fun e => ?_) (fun e => ?_)⟩
    · have e1 : i = old.length := by
        have := V.int.inj (of_decide_eq_true e)
        omega
      rw [cellD_end hi hk (.inl e1)] at q
      have e2 : ((new.map V.str).length : Int) - (k : Int) = (((old.length - i) + (new.length - k) : Nat) : Int) := by
        rw [ln]
        omega
      rw [← e2] at q
      exact ⟨_, rfl, r, _, rfl, .inl hr', _, rfl, _, _, rfl, rfl, q⟩
    · have n1 : i ≠ old.length := fun z => e (decide_eq_true (by rw [lo, z]))
      refine ⟨_, rfl, _, rfl, r, _, rfl, .inl hr', rfl, _, rfl, ite2 (fun e => ?_) (fun e => ?_)⟩
      · have e1 : k = new.length := by
          have := V.int.inj (of_decide_eq_true e)
          omega
        rw [cellD_end hi hk (.inr e1)] at q
        have e2 : ((old.map V.str).length : Int) - (i : Int) = (((old.length - i) + (new.length - k) : Nat) : Int) := by
          rw [lo]
          omega
        rw [← e2] at q
        exact ⟨_, rfl, p, _, rfl, .inl hp, _, rfl, _, _, rfl, rfl, q⟩
      · have n2 : k ≠ new.length := fun z => e (decide_eq_true (by rw [ln, z]))
        have hi2 : i < old.length := by omega
        have hk2 : k < new.length := by omega
        obtain ⟨a, ha⟩ : ∃ a, old[i]? = some a := ⟨_, List.getElem?_eq_getElem hi2⟩
        obtain ⟨b, hb⟩ : ∃ b, new[k]? = some b := ⟨_, List.getElem?_eq_getElem hk2⟩
        rw [cellD_in ha hb] at q
        obtain ⟨R0, _, h0, hR0⟩ := hT.at_ (i := i) hi
        obtain ⟨R1, _, h1, hR1⟩ := hT.at_ (i := i + 1) (by omega)
        have i1 : ((i : Int) + 1) = ((i + 1 : Nat) : Int) := by omega
        have k1 : ((k : Int) + 1) = ((k + 1 : Nat) : Int) := by omega
        have c11 : (listM M new.length (i + 1))[k + 1]? = some (.int (cellD old new (i + 1) (k + 1) : Nat)) := by
          rw [listM_at (by omega), dn _ _ (by omega) (by omega) (.inl (by omega))]
        have c10 : (listM M new.length (i + 1))[k]? = some (.int (cellD old new (i + 1) k : Nat)) := by
          rw [listM_at (by omega), dn _ _ (by omega) (by omega) (.inl (by omega))]
        have c01 : (listM M new.length i)[k + 1]? = some (.int (cellD old new i (k + 1) : Nat)) := by
          rw [listM_at (by omega), dn _ _ (by omega) (by omega) (.inr ⟨rfl, by omega⟩)]
        have hD : SqL K H D (rs.map V.ref) := .inl (.inl hT.top)
        refine ⟨_, rfl, _, rfl, p, _, _, _, rfl, rfl, hp, atI_nat (by rw [List.getElem?_map, ha]; rfl), _, rfl, _, rfl, r, _, _, _, rfl, rfl, hr', atI_nat (by rw [List.getElem?_map, hb]; rfl), rfl, _, rfl, ite2 (fun e => ?_) (fun e => ?_)⟩
        · have e1 : a = b := V.str.inj (of_decide_eq_true e)
          rw [if_pos e1] at q
          exact ⟨_, rfl, _, rfl, _, _, rfl, rfl, D, _, _, _, rfl, rfl, hD, by rw [i1]; exact atI_nat h1, _, rfl, _, _, rfl, rfl, R1, _, _, _, rfl, rfl, .inl (.inl hR1), by rw [k1]; exact atI_nat c11, q⟩
        · have e1 : a ≠ b := fun z => e (decide_eq_true (congrArg V.str z))
          rw [if_neg e1] at q
          refine ⟨_, rfl, _, rfl, _, _, rfl, rfl, D, _, _, _, rfl, rfl, hD, by rw [i1]; exact atI_nat h1, _, rfl, R1, _, _, _, rfl, rfl, .inl (.inl hR1), atI_nat c10, _, rfl, _, rfl, D, _, _, _, rfl, rfl, hD, atI_nat h0, _, rfl, _, _, rfl, rfl, R0, _, _, _, rfl, rfl, .inl (.inl hR0), by rw [k1]; exact atI_nat c01, _, _, rfl, _, _, rfl, rfl, ?_⟩
          have e2 : (1 : Int) + (if ((cellD old new i (k + 1) : Nat) : Int) < ((cellD old new (i + 1) k : Nat) : Int) then ((cellD old new i (k + 1) : Nat) : Int) else ((cellD old new (i + 1) k : Nat) : Int)) = ((1 + min (cellD old new (i + 1) k) (cellD old new i (k + 1)) : Nat) : Int) := by
            split <;> omega
          rw [← e2] at q
          exact q
theorem ok_table {Ps : List Addr} {f fC fL : Addr} {fd fdC fdL : FuncData} (F : FnP K "table" sTable f fd)
    (GC : FnOk P w K mg base (L2.CX P w) 5 fC fdC ["words"] (spCheckText K Ps)) (kC : PySem.W.keepIn K (.ref fC) = true) (bC : Binds K fdC ["words"] []) (gC : mg "check_text" = some (.ref fC))
    (GL : FnOk P w K mg base (L2.CX P w) 1 fL fdL ["costs", "old", "new", "i", "k"] (spLeast K)) (kL : PySem.W.keepIn K (.ref fL) = true) (bL : Binds K fdL ["costs", "old", "new", "i", "k"] []) (gL : mg "least_cost" = some (.ref fL))
    (mL : mg "len" = none) (mR : mg "range" = none) : FnOk P w K mg base (L2.CX P w) 6 f fd ["old", "new"] (spTable K Ps) := by
  refine F.ok scTable (fun vs H Q E h => ?_) (fun cdv A outer s H vs Q E hr h => ?_)
  · obtain ⟨p, q, old, new, rfl, _⟩ := h
    rfl
  · obtain ⟨p, r, old, new, rfl, hp, hq, wO, wN, lO, lN, ht, q⟩ := h
    have r1 : Room 1 (A.deeper (envOfC "table" (defScope sTable) s.heap.objs.size f cdv)) := hr.mono (by decide)
    refine ⟨_, pss_cons (ps_expr (pe_call GC hr (by rfl) gC kC bC .nil passL (pa_cons (pv 0) pa_nil)))
      (pss_cons (ps_expr (pe_call GC hr (by rfl) gC kC bC .nil passL (pa_cons (pv 1) pa_nil)))
      (pss_cut (ps_setLc (i := 2) (own := [("_", 5)]) (g := gName 5) (tt := tYes) rfl scTable.nd rfl rfl (sw_true rfl rfl rfl (by decide +kernel)) (pi_range1 (by rfl) mR (pa_cons (pe_op op_add (pe_callB call_len_seq (by rfl) mL PySem.boot_len (pa_cons (pv 0) pa_nil)) pe_int) pa_nil)) (blkOk_by (N := ["old", "new", "costs", "i", "k", "_"]) (sc := defScope sTable) (by decide +kernel))
        (fun _ _ _ _ _ => pg_name (i := 5) scTable.nd rfl (Or.inl rfl)) (fun _ _ _ _ _ => pts_nil) (fun _ _ _ _ _ => pe_op op_rep (pe_lst (pa_cons pe_int pa_nil)) (pe_op op_add (pe_callB (r := rLenS K) call_len_seq (by rfl) mL PySem.boot_len (pa_cons (pv 1) pa_nil)) pe_int)))
      (pss_cons (ps_for (passes_of rfl) rfl (pi_range3 (by rfl) mR (pa_cons (pe_callB call_len_seq (by rfl) mL PySem.boot_len (pa_cons (pv 0) pa_nil)) (pa_cons (pe_un un_neg pe_int) (pa_cons (pe_un un_neg pe_int) pa_nil)))) (pg_name (i := 3) scTable.nd rfl (.inl rfl))
        (pss_one (ps_for (passes_of rfl) rfl (pi_range3 (by rfl) mR (pa_cons (pe_callB call_len_seq (by rfl) mL PySem.boot_len (pa_cons (pv 1) pa_nil)) (pa_cons (pe_un un_neg pe_int) (pa_cons (pe_un un_neg pe_int) pa_nil)))) (pg_name (i := 4) scTable.nd rfl (.inl rfl))
          (pss_one (ps_asg (pe_call GL r1 (by rfl) gL kL bL .nil passL (pa_cons (pv 2) (pa_cons (pv 0) (pa_cons (pv 1) (pa_cons (pv 3) (pa_cons (pv 4) pa_nil)))))) (pg_sub (pe_ix ix_list (pv 2) (pv 3) (fun _ _ => rfl)) (pv 4) set_list))))))
      (pss_one (ps_ret (pv 2)))))), ?_⟩
    refine ⟨_, rfl, p, old, rfl, hp, wO, lO, ht, fun H1 k1 => ?_⟩
    refine ⟨_, rfl, r, new, rfl, k1.seq ht hq, wN, lN, k1.1, fun H2 k2 => ?_⟩
    have k12 := k1.trans k2
    have hp2 := k12.seq ht hp
    have hq2 := k12.seq ht hq
    refine ⟨fun σ' H' => ∃ D rs, σ' = [some (.ref p), some (.ref r), some (.ref D), none, none, none] ∧ Same H2 H' ∧ H2 D = none ∧ (∀ R ∈ rs, H2 R = none) ∧ TabW H' D rs (fun _ _ => 0) old.length new.length, ?_, fun σ3 H3 hM => ?_⟩
    · refine ⟨_, rfl, p, _, rfl, .inl hp2, _, _, rfl, rfl, _, rfl, by rw [List.length_map]; omega, by rw [List.length_map]; omega, fun D nD => ?_⟩
      refine lc_range (lo := 0) (n := (((old.map V.str).length : Int) + 1).toNat) (fun i H' => Same H2 H' ∧ ∃ rs : List Addr, H' D = some (.lst (rs.map V.ref)) ∧ rs.length = i ∧ rs.Nodup ∧ D ∉ rs ∧ (∀ R ∈ rs, H2 R = none) ∧ ∀ R ∈ rs, H' R = some (.lst (listM (fun _ _ => 0) new.length 0))) ⟨same_upd nD, [], upd_same, rfl, List.nodup_nil, List.not_mem_nil, (fun R h => by cases h), fun R h => by cases h⟩ (fun i H' hi hp => ?_) (fun H3 hp => ?_)
      · obtain ⟨sm, rs, hD, hl, nd, out, fr, hrow⟩ := hp
        refine ⟨rfl, yesT ?_⟩
        refine ⟨by show 1 ≤ sizeLine; decide, fun L nL => ⟨_, rfl, r, _, rfl, .inl ((same_upd nL).seq (sm.seq hq2)), _, _, rfl, rfl, L, _, _, rfl, rfl, upd_same, by rw [List.length_map]; omega, by rw [List.length_map]; omega, ?_, fun R nR => ?_⟩⟩
        · rw [List.length_map]
          exact Nat.le_trans (show 1 * ((new.length : Int) + 1).toNat ≤ 1000 by omega) (by decide)
        · have eZ : (List.replicate (((new.map V.str).length : Int) + 1).toNat [V.int 0]).flatten = listM (fun _ _ => 0) new.length 0 := by
            have e1 : (((new.map V.str).length : Int) + 1).toNat = new.length + 1 := by
              rw [List.length_map]
              omega
            rw [e1]
            unfold listM
            exact rep_zero _
          rw [eZ]
          have u1 := same_upd nL (o := .lst [V.int 0])
          have u2 := same_upd nR (o := .lst (listM (fun _ _ => 0) new.length 0))
          have hD2 := u2 _ _ (u1 _ _ hD)
          have hRD : R ≠ D := fun z => by
            subst z
            have h := u1 _ _ hD
            rw [nR] at h
            cases h
          have hi2 : i < 1000 := by
            rw [List.length_map] at hi
            omega
          have nR2 : H2 R = none := (sm.trans u1).free nR
          refine ⟨_, hD2, ?_, fun b o e => ?_, rs ++ [R], ?_, ?_, ?_, ?_, fun Z hZ => ?_, fun Z hZ => ?_⟩
          · rw [List.length_map, hl]
            exact Nat.lt_of_lt_of_le hi2 (by decide)
          · rw [upd_ne (ne_of_none e nD)]
            exact u2 _ _ (u1 _ _ (sm b o e))
          · rw [upd_same, List.map_append]
            rfl
          · rw [List.length_append, hl]
            rfl
          · refine List.nodup_append.mpr ⟨nd, List.nodup_cons.mpr ⟨List.not_mem_nil, List.nodup_nil⟩, fun a ha b hb => ?_⟩
            rw [List.mem_singleton.mp hb]
            intro z
            subst z
            have h := u1 _ _ (hrow _ ha)
            rw [nR] at h
            cases h
          · intro z
            rcases List.mem_append.mp z with z | z
            · exact out z
            · exact hRD (List.mem_singleton.mp z).symm
          · rcases List.mem_append.mp hZ with hZ | hZ
            · exact fr Z hZ
            · rw [List.mem_singleton.mp hZ]
              exact nR2
          · rcases List.mem_append.mp hZ with hZ | hZ
            · rw [upd_ne fun z => out (by rw [← z]; exact hZ)]
              exact u2 _ _ (u1 _ _ (hrow Z hZ))
            · rw [List.mem_singleton.mp hZ, upd_ne hRD]
              exact upd_same
      · obtain ⟨sm, rs, hD, hl, nd, out, fr, hrow⟩ := hp
        refine ⟨D, rs, rfl, sm, nD, fr, hD, ?_, nd, out, fun i R hR => hrow R (List.mem_of_getElem? hR)⟩
        rw [hl, List.length_map]
        omega
    · obtain ⟨D, rs, rfl, s3, nD, fr, hW⟩ := hM
      have lo : ((old.map V.str).length : Int) = (old.length : Int) := by rw [List.length_map]
      have ln : ((new.map V.str).length : Int) = (new.length : Int) := by rw [List.length_map]
      have keep : ∀ {H' : Hp} {R : Addr} {o : HO}, Same H2 H' → R ∈ rs → Same H2 (upd H' R o) := fun sm hR b u e => by
        rw [upd_ne (ne_of_none e (fr _ hR))]
        exact sm b u e
      refine ⟨_, rfl, p, _, rfl, .inl (s3.seq hp2), _, rfl, _, rfl, _, _, _, _, rfl, RgC.neg (by omega) (by omega) (by omega) (by omega), ?_⟩
      refine for_rangeC (fun t σ' H' => ∃ M y3 y4, σ' = [some (.ref p), some (.ref r), some (.ref D), y3, y4, none] ∧ Same H2 H' ∧ TabW H' D rs M old.length new.length ∧ ∀ i' k', i' ≤ old.length → k' ≤ new.length → old.length + 1 ≤ i' + t → M i' k' = (cellD old new i' k' : Nat)) ⟨_, none, none, rfl, s3, hW, fun i' k' h1 _ h3 => by omega⟩ (fun t σ' H' ht' hp' => ?_) (fun σ' H' hp' => ?_)
      · obtain ⟨M, y3, y4, rfl, sm, hT, dn⟩ := hp'
        obtain ⟨i, hi⟩ : ∃ i, i = old.length - t := ⟨_, rfl⟩
        have eI : ((old.map V.str).length : Int) + (t : Int) * (-1) = (i : Int) := by
          rw [lo]
          omega
        rw [eI]
        refine ⟨_, rfl, r, _, rfl, .inl (sm.seq hq2), _, rfl, _, rfl, _, _, _, _, rfl, RgC.neg (by omega) (by omega) (by omega) (by omega), ?_⟩
        refine for_rangeC (fun u σ' H' => ∃ M y4, σ' = [some (.ref p), some (.ref r), some (.ref D), some (.int (i : Int)), y4, none] ∧ Same H2 H' ∧ TabW H' D rs M old.length new.length ∧ Done old new M i (new.length + 1 - u)) ⟨M, y4, rfl, sm, hT, fun i' k' h1 h2 h3 => ?_⟩ (fun u σ' H' hu hp' => ?_) (fun σ' H' hp' => ?_)
        · refine dn i' k' h1 h2 ?_
          rcases h3 with h3 | ⟨h3, h4⟩ <;> omega
        · obtain ⟨M, y4, rfl, sm, hT, dn⟩ := hp'
          obtain ⟨k, hk⟩ : ∃ k, k = new.length - u := ⟨_, rfl⟩
          have eK : ((new.map V.str).length : Int) + (u : Int) * (-1) = (k : Int) := by
            rw [ln]
            omega
          rw [eK]
          obtain ⟨R, h1, h2, h3⟩ := hT.at_ (i := i) (by omega)
          have hRm := List.mem_of_getElem? h1
          refine ⟨_, rfl, _, rfl, _, rfl, _, rfl, _, rfl, D, p, r, old, new, i, k, rs, M, rfl, hT, sm.seq hp2, sm.seq hq2, by omega, by omega, ?_, ?_⟩
          · have e : k + 1 = new.length + 1 - u := by omega
            rw [e]
            exact dn
          · refine ⟨_, rfl, _, rfl, D, _, _, _, rfl, rfl, .inl (.inl hT.top), atI_nat h2, _, rfl, R, _, _, k, rfl, rfl, h3, ixN_nat (by rw [listM_len]; omega), ?_⟩
            refine ⟨_, _, rfl, keep sm hRm, hT.set h1 (by omega) _, fun i' k' h4 h5 h6 => ?_⟩
            show (if i' = i ∧ k' = k then _ else M i' k') = _
            by_cases e : i' = i ∧ k' = k
            · rw [if_pos e, e.1, e.2]
            · rw [if_neg e]
              refine dn i' k' h4 h5 ?_
              rcases h6 with h6 | ⟨h6, h7⟩
              · exact .inl h6
              · exact .inr ⟨h6, by omega⟩
        · obtain ⟨M, y4, rfl, sm, hT, dn⟩ := hp'
          refine ⟨M, _, _, rfl, sm, hT, fun i' k' h1 h2 h3 => dn i' k' h1 h2 ?_⟩
          rw [lo] at ht'
          by_cases e : i' = i
          · exact .inr ⟨e, by rw [ln]; omega⟩
          · exact .inl (by omega)
      · obtain ⟨M, y3, y4, rfl, sm, hT, dn⟩ := hp'
        refine ⟨_, rfl, q H' D (k12.trans (Kp.same k12.1 sm)) (k12.free ht nD) ⟨rs.map V.ref, .inl (.inl hT.top), by rw [List.length_map]; exact hT.len, fun i v e => ?_⟩⟩
        rw [List.getElem?_map] at e
        obtain ⟨R, hR, rfl⟩ := Option.map_eq_some_iff.mp e
        refine ⟨R, rfl, .inl (.inl ?_)⟩
        have hil : i < rs.length := (List.getElem?_eq_some_iff.mp hR).1
        have hle := hT.len
        rw [hT.row i R hR]
        refine congrArg (fun l => some (HO.lst l)) ?_
        unfold listM rowD
        refine List.map_congr_left fun k hk => ?_
        have hk := List.mem_range.mp hk
        rw [dn i k (by omega) (by omega) (by rw [lo]; omega)]
theorem ok_apart {Ps : List Addr} {f fT : Addr} {fd fdT : FuncData} (F : FnP K "apart" sApart f fd)
    (GT : FnOk P w K mg base (L2.CX P w) 6 fT fdT ["old", "new"] (spTable K Ps)) (kT : PySem.W.keepIn K (.ref fT) = true) (bT : Binds K fdT ["old", "new"] []) (gT : mg "table" = some (.ref fT)) : FnOk P w K mg base (L2.CX P w) 7 f fd ["old", "new"] (spApart K Ps) := by
  refine F.ok scApart (fun vs H Q E h => ?_) (fun cdv A outer s H vs Q E hr h => ?_)
  · obtain ⟨p, q, old, new, rfl, _⟩ := h
    rfl
  · obtain ⟨p, r, old, new, rfl, hp, hq, wO, wN, lO, lN, ht, q⟩ := h
    refine ⟨_, pss_one (ps_ret (pe_ix ix_list (pe_ix ix_list (pe_call GT hr (by rfl) gT kT bT .nil passL (pa_cons (pv 0) (pa_cons (pv 1) pa_nil))) pe_int (fun _ _ => rfl)) pe_int (fun _ _ => rfl))), ?_⟩
    refine ⟨_, rfl, _, rfl, p, r, old, new, rfl, hp, hq, wO, wN, lO, lN, ht, fun H' D k nD hT => ?_⟩
    obtain ⟨rs, R, h1, h2, h3⟩ := hT.row (i := 0) (by omega)
    exact ⟨D, _, _, _, rfl, rfl, h1, at_of (j := 0) rfl h2, R, _, _, _, rfl, rfl, h3, at_of (j := 0) rfl (rowD_at (by omega)), q H' k⟩
end
/-! ### the law of the table -/
section
variable {P : Program} {w : World} {K : PySem.W.Frag} {mg : Str → Option Value} {base : Heap}
theorem scKinds : FnScope ["_law_found", "_law_rows", "_law_columns", "_law_row", "_law_one"] ["_law_found", "_law_rows", "_law_columns"] (defScope sKinds) := ⟨rfl, rfl, rfl, by decide +kernel, rfl, by decide +kernel, by decide +kernel⟩
theorem scDue : FnScope ["_law_found", "_law_old", "_law_new", "_law_i", "_law_k"] ["_law_found", "_law_old", "_law_new", "_law_i", "_law_k"] (defScope sDue) := ⟨rfl, rfl, rfl, by decide +kernel, rfl, by decide +kernel, by decide +kernel⟩
theorem scLaw : FnScope ["_law_script", "_law_steps", "_law_old", "_law_new", "_law_handed", "_law_found", "_law_i", "_law_k", "_law_far"] ["_law_script"] (defScope sLaw) := ⟨rfl, rfl, rfl, by decide +kernel, rfl, by decide +kernel, by decide +kernel⟩
def spKinds (K : PySem.W.Frag) : Sp := fun vs H Q _ => ∃ (D : Addr) (old new : List Str), vs = [.ref D, .int ((old.length + 1 : Nat) : Int), .int ((new.length + 1 : Nat) : Int)] ∧ TabAt K H D old new ∧ new.length ≤ 120 ∧ ∀ H', Same H H' → Q (.bl true) H'
theorem ok_kinds {f fW : Addr} {fd fdW : FuncData} (F : FnP K "_law_kinds" sKinds f fd)
    (GW : FnOk P w K mg base (L2.CX P w) 1 fW fdW ["_law_found"] spWhole) (kW : PySem.W.keepIn K (.ref fW) = true) (bW : Binds K fdW ["_law_found"] []) (gW : mg "_law_whole" = some (.ref fW))
    (mI : mg "isinstance" = none) (mT : mg "list" = none) (mL : mg "len" = none) (mA : mg "all" = none) : FnOk P w K mg base (L2.CX P w) 2 f fd ["_law_found", "_law_rows", "_law_columns"] (spKinds K) := by
  refine F.ok scKinds (fun vs H Q E h => ?_) (fun cdv A outer s H vs Q E hr h => ?_)
  · obtain ⟨D, old, new, rfl, _⟩ := h
    rfl
  · obtain ⟨D, old, new, rfl, hT, hnl, q⟩ := h
    refine ⟨_, pss_cons (ps_if (PW.pt (pw_or (pt_not (pt_val (pe_callB call_isi (by rfl) mI (by decide +kernel) (pa_cons (pv 0) (pa_cons (pe_bltn (v := .ty "list") (by rfl) mT (by decide +kernel) rfl) pa_nil)))))
        (pw_or1 (pt_cmpR op_ne (pe_callB call_len_seq (by rfl) mL PySem.boot_len (pa_cons (pv 0) pa_nil)) (pv 1) (nomark _))))) pss_never pss_nil)
      (pss_cons (ps_for (passes_of rfl) rfl (pi_list (pv 0)) (pg_name (i := 3) scKinds.nd rfl (.inl rfl))
        (pss_one (ps_if (PW.pt (pw_or (pt_not (pt_val (pe_callB call_isi (by rfl) mI (by decide +kernel) (pa_cons (pv 3) (pa_cons (pe_bltn (v := .ty "list") (by rfl) mT (by decide +kernel) rfl) pa_nil)))))
          (pw_or (pt_cmpR op_ne (pe_callB call_len_seq (by rfl) mL PySem.boot_len (pa_cons (pv 3) pa_nil)) (pv 2) (nomark _))
          (pw_or1 (pt_not (pt_val (pe_callB (cr_all rfl) (by rfl) mA (by decide +kernel) (pa_cons (pe_lc (own := [("_law_one", 4)]) (g := gName 4) (tt := tYes) rfl scKinds.nd (pi_list (pv 3)) (blkOk_by (N := ["_law_found", "_law_rows", "_law_columns", "_law_row", "_law_one"]) (sc := defScope sKinds) (by decide +kernel))
            (fun _ _ _ _ _ => pg_name (i := 4) scKinds.nd rfl (Or.inl rfl)) (fun _ _ _ _ _ => pts_nil) (fun _ _ _ _ _ => pe_call GW hr (by rfl) gW kW bW .nil passL (pa_cons (pv 4) pa_nil))) pa_nil)))))))) pss_never pss_nil)))
      (pss_one (ps_ret pe_bl))), ?_⟩
    obtain ⟨rs, hS, hl, hrow⟩ := hT
    refine ⟨_, rfl, .ref D, .ty "list", _, _, true, rfl, .ty _, tyL hS, kit_ty (by decide +kernel), true, rfl, iteF ?_⟩
    refine ⟨_, rfl, D, _, rfl, .inl hS, _, rfl, rfl, _, rfl, ?_⟩
    rw [decide_eq_true (by rw [hl])]
    refine iteF ⟨_, rfl, D, rfl, ⟨_, hS⟩, for_list (xs := rs) (fun i σ' H' => Same H H' ∧ ∃ y3 y4, σ' = [some (.ref D), some (.int ((old.length + 1 : Nat) : Int)), some (.int ((new.length + 1 : Nat) : Int)), y3, y4]) ⟨Same.refl _, none, none, rfl⟩ (fun i σ' H' _ hp => hp.1.seq hS) (fun i x σ' H' hx hp => ?_) (fun σ' H' hp => ?_)⟩
    · obtain ⟨sm, y3, y4, rfl⟩ := hp
      obtain ⟨R, rfl, hR⟩ := hrow i x hx
      have hR1 := sm.seq hR
      refine ⟨_, rfl, .ref R, .ty "list", _, _, true, rfl, .ty _, tyL hR1, kit_ty (by decide +kernel), true, rfl, iteF ?_⟩
      refine ⟨_, rfl, R, _, rfl, .inl hR1, _, rfl, rfl, _, rfl, ?_⟩
      rw [decide_eq_true (by rw [rowD_len])]
      refine iteF ⟨_, rfl, R, rfl, ⟨_, hR1⟩, fun L nL => ?_⟩
      refine lc_list (xs := rowD old new i) (fun j H2 => Same H' H2 ∧ H2 L = some (.lst ((List.replicate j true).map V.bl))) ⟨same_upd nL, upd_same⟩ (fun j H2 _ hP => hP.1.seq hR1) (fun j x H2 hx hP => ?_) (fun H2 hP => ?_)
      · obtain ⟨s2, hL⟩ := hP
        have hj : j < (rowD old new i).length := (List.getElem?_eq_some_iff.mp hx).1
        rw [rowD_len] at hj
        obtain ⟨c, rfl⟩ : ∃ c : Int, x = .int c := by
          unfold rowD at hx
          rw [List.getElem?_map] at hx
          obtain ⟨c, _, e⟩ := Option.map_eq_some_iff.mp hx
          exact ⟨_, e.symm⟩
        refine ⟨rfl, yesT ?_⟩
        refine ⟨_, rfl, c, rfl, _, hL, ?_, fun b o e => ?_, ?_⟩
        · rw [List.length_map, List.length_replicate]
          exact Nat.lt_of_lt_of_le (show j < 1001 by omega) (by decide)
        · rw [upd_ne (ne_of_none e nL)]
          exact s2 b o e
        · rw [upd_same, List.replicate_succ', List.map_append]
          rfl
      · obtain ⟨s2, hL⟩ := hP
        refine ⟨L, _, rfl, .inl (.inl hL), true, ?_, iteF ⟨sm.trans s2, _, _, rfl⟩⟩
        have e : ∀ n, (List.replicate n true).all id = true := fun n => by simp
        rw [e]
    · obtain ⟨sm, y3, y4, rfl⟩ := hp
      exact q H' sm
def spDue (K : PySem.W.Frag) : Sp := fun vs H Q _ => ∃ (D p r : Addr) (old new : List Str) (i k : Nat), vs = [.ref D, .ref p, .ref r, .int (i : Int), .int (k : Int)] ∧ TabAt K H D old new ∧ SqL K H p (old.map V.str) ∧ SqL K H r (new.map V.str) ∧ i ≤ old.length ∧ k ≤ new.length ∧ Q (.int (cellD old new i k : Nat)) H
theorem ok_due {f : Addr} {fd : FuncData} (F : FnP K "_law_due" sDue f fd) (mL : mg "len" = none) (mM : mg "min" = none) : FnOk P w K mg base (L2.CX P w) 1 f fd ["_law_found", "_law_old", "_law_new", "_law_i", "_law_k"] (spDue K) := by
  refine F.ok scDue (fun vs H Q E h => ?_) (fun cdv A outer s H vs Q E hr h => ?_)
  · obtain ⟨D, p, r, old, new, i, k, rfl, _⟩ := h
    rfl
  · obtain ⟨D, p, r, old, new, i, k, rfl, hT, hp, hr', hi, hk, q⟩ := h
    refine ⟨_, pss_cons (ps_if (PW.pt (pw_or (pt_cmpR op_eq (pv 3) (pe_callB call_len_seq (by rfl) mL PySem.boot_len (pa_cons (pv 1) pa_nil)) (by rfl)) (pw_or1 (pt_cmpR op_eq (pv 4) (pe_callB call_len_seq (by rfl) mL PySem.boot_len (pa_cons (pv 2) pa_nil)) (by rfl)))))
        (pss_one (ps_ret (pe_op op_sub (pe_op op_add (pe_op op_sub (pe_callB call_len_seq (by rfl) mL PySem.boot_len (pa_cons (pv 1) pa_nil)) (pv 3)) (pe_callB call_len_seq (by rfl) mL PySem.boot_len (pa_cons (pv 2) pa_nil))) (pv 4)))) pss_nil)
      (pss_cons (ps_if (pt_cmpR op_eq (pe_ix ix_list (pv 1) (pv 3) (fun _ _ => rfl)) (pe_ix ix_list (pv 2) (pv 4) (fun _ _ => rfl)) (by rfl)) (pss_one (ps_ret (pe_ix ix_list (pe_ix ix_list (pv 0) (pe_op op_add (pv 3) pe_int) (fun _ _ => rfl)) (pe_op op_add (pv 4) pe_int) (fun _ _ => rfl)))) pss_nil)
      (pss_one (ps_ret (pe_op op_add pe_int (pe_callB (call_min2 rfl) (by rfl) mM (by decide +kernel) (pa_cons (pe_ix ix_list (pe_ix ix_list (pv 0) (pe_op op_add (pv 3) pe_int) (fun _ _ => rfl)) (pv 4) (fun _ _ => rfl)) (pa_cons (pe_ix ix_list (pe_ix ix_list (pv 0) (pv 3) (fun _ _ => rfl)) (pe_op op_add (pv 4) pe_int) (fun _ _ => rfl)) pa_nil))))))), ?_⟩
    have lo : ((old.map V.str).length : Int) = (old.length : Int) := by rw [List.length_map]
    have ln : ((new.map V.str).length : Int) = (new.length : Int) := by rw [List.length_map]
    have endR : (i = old.length ∨ k = new.length) → Q (.int ((((old.map V.str).length : Int) - (i : Int)) + ((new.map V.str).length : Int) - (k : Int))) H := fun h => by
      rw [cellD_end hi hk h] at q
      have e : ((((old.map V.str).length : Int) - (i : Int)) + ((new.map V.str).length : Int) - (k : Int)) = (((old.length - i) + (new.length - k) : Nat) : Int) := by
        rw [lo, ln]
        omega
      rw [e]
      exact q
    refine ⟨_, rfl, _, rfl, p, _, rfl, .inl hp, rfl, _, rfl, ite2 (fun e => ?_) (fun e => ?_)⟩
    · have e1 : i = old.length := by
        have := V.int.inj (of_decide_eq_true e)
        omega
      exact ⟨_, rfl, p, _, rfl, .inl hp, _, rfl, _, _, rfl, rfl, _, rfl, r, _, rfl, .inl hr', _, _, rfl, rfl, _, rfl, _, _, rfl, rfl, endR (.inl e1)⟩
    · have n1 : i ≠ old.length := fun z => e (decide_eq_true (by rw [lo, z]))
      refine ⟨_, rfl, _, rfl, r, _, rfl, .inl hr', rfl, _, rfl, ite2 (fun e => ?_) (fun e => ?_)⟩
      · have e1 : k = new.length := by
          have := V.int.inj (of_decide_eq_true e)
          omega
        exact ⟨_, rfl, p, _, rfl, .inl hp, _, rfl, _, _, rfl, rfl, _, rfl, r, _, rfl, .inl hr', _, _, rfl, rfl, _, rfl, _, _, rfl, rfl, endR (.inr e1)⟩
      · have n2 : k ≠ new.length := fun z => e (decide_eq_true (by rw [ln, z]))
        have hi2 : i < old.length := by omega
        have hk2 : k < new.length := by omega
        obtain ⟨a, ha⟩ : ∃ a, old[i]? = some a := ⟨_, List.getElem?_eq_getElem hi2⟩
        obtain ⟨b, hb⟩ : ∃ b, new[k]? = some b := ⟨_, List.getElem?_eq_getElem hk2⟩
        rw [cellD_in ha hb] at q
        obtain ⟨rs, R0, hD0, h0, hR0⟩ := hT.row (i := i) hi
        obtain ⟨rs1, R1, hD1, h1, hR1⟩ := hT.row (i := i + 1) (by omega)
        have i1 : ((i : Int) + 1) = ((i + 1 : Nat) : Int) := by omega
        have k1 : ((k : Int) + 1) = ((k + 1 : Nat) : Int) := by omega
        refine ⟨_, rfl, _, rfl, p, _, _, _, rfl, rfl, hp, atI_nat (by rw [List.getElem?_map, ha]; rfl), _, rfl, _, rfl, r, _, _, _, rfl, rfl, hr', atI_nat (by rw [List.getElem?_map, hb]; rfl), rfl, _, rfl, ite2 (fun e => ?_) (fun e => ?_)⟩
        · have e1 : a = b := V.str.inj (of_decide_eq_true e)
          rw [if_pos e1] at q
          exact ⟨_, rfl, _, rfl, _, _, rfl, rfl, D, _, _, _, rfl, rfl, hD1, by rw [i1]; exact atI_nat h1, _, rfl, _, _, rfl, rfl, R1, _, _, _, rfl, rfl, hR1, by rw [k1]; exact atI_nat (rowD_at (by omega)), q⟩
        · have e1 : a ≠ b := fun z => e (decide_eq_true (congrArg V.str z))
          rw [if_neg e1] at q
          refine ⟨_, rfl, _, rfl, _, _, rfl, rfl, D, _, _, _, rfl, rfl, hD1, by rw [i1]; exact atI_nat h1, _, rfl, R1, _, _, _, rfl, rfl, hR1, atI_nat (rowD_at (by omega)), _, rfl, _, rfl, D, _, _, _, rfl, rfl, hD0, atI_nat h0, _, rfl, _, _, rfl, rfl, R0, _, _, _, rfl, rfl, hR0, by rw [k1]; exact atI_nat (rowD_at (by omega)), _, _, rfl, _, _, rfl, rfl, ?_⟩
          have e2 : (1 : Int) + (if ((cellD old new i (k + 1) : Nat) : Int) < ((cellD old new (i + 1) k : Nat) : Int) then ((cellD old new i (k + 1) : Nat) : Int) else ((cellD old new (i + 1) k : Nat) : Int)) = ((1 + min (cellD old new (i + 1) k) (cellD old new i (k + 1)) : Nat) : Int) := by
            split <;> omega
          rw [← e2] at q
          exact q
end
section
variable {P : Program} {w : World} {K : PySem.W.Frag} {mg : Str → Option Value} {base : Heap}
def spLaw (K : PySem.W.Frag) (Ps : List Addr) : Sp := fun vs H Q _ => ∃ (a : Addr) (ns : List Int), vs = [.ref a] ∧ SqL K H a (ns.map V.int) ∧ Tb Ps H ∧ ∀ H', Q (.bl true) H'
theorem ok_law {Ps : List Addr} {kt ka : Nat} (hkt : kt ≤ 30) (hka : ka ≤ 30) {f fY fS fT fK fD fA fW : Addr} {fd fdY fdS fdT fdK fdD fdA fdW : FuncData} (F : FnP K "law" sLaw f fd)
    (GY : FnOk P w K mg base (L2.CX P w) 4 fY fdY ["_law_script", "_law_many"] (spWay K)) (kY : PySem.W.keepIn K (.ref fY) = true) (bY : Binds K fdY ["_law_script", "_law_many"] []) (gY : mg "_law_way" = some (.ref fY))
    (GS : FnOk P w K mg base (L2.CX P w) 1 fS fdS ["_law_steps", "_law_kind"] (spSide K)) (kS : PySem.W.keepIn K (.ref fS) = true) (bS : Binds K fdS ["_law_steps", "_law_kind"] []) (gS : mg "_law_side" = some (.ref fS))
    (GT : FnOk P w K mg base (L2.CX P w) kt fT fdT ["old", "new"] (spTable K Ps)) (kT : PySem.W.keepIn K (.ref fT) = true) (bT : Binds K fdT ["old", "new"] []) (gT : mg "table" = some (.ref fT))
    (GK : FnOk P w K mg base (L2.CX P w) 2 fK fdK ["_law_found", "_law_rows", "_law_columns"] (spKinds K)) (kK : PySem.W.keepIn K (.ref fK) = true) (bK : Binds K fdK ["_law_found", "_law_rows", "_law_columns"] []) (gK : mg "_law_kinds" = some (.ref fK))
    (GD : FnOk P w K mg base (L2.CX P w) 1 fD fdD ["_law_found", "_law_old", "_law_new", "_law_i", "_law_k"] (spDue K)) (kD : PySem.W.keepIn K (.ref fD) = true) (bD : Binds K fdD ["_law_found", "_law_old", "_law_new", "_law_i", "_law_k"] []) (gD : mg "_law_due" = some (.ref fD))
    (GA : FnOk P w K mg base (L2.CX P w) ka fA fdA ["old", "new"] (spApart K Ps)) (kA : PySem.W.keepIn K (.ref fA) = true) (bA : Binds K fdA ["old", "new"] []) (gA : mg "apart" = some (.ref fA))
    (GW : FnOk P w K mg base (L2.CX P w) 1 fW fdW ["_law_found"] spWhole) (kW : PySem.W.keepIn K (.ref fW) = true) (bW : Binds K fdW ["_law_found"] []) (gW : mg "_law_whole" = some (.ref fW))
    (mT : mg "list" = none) (mL : mg "len" = none) (mR : mg "range" = none) : FnOk P w K mg base (L2.CX P w) 31 f fd ["_law_script"] (spLaw K Ps) := by
  refine F.ok scLaw (fun vs H Q E h => ?_) (fun cdv A outer s H vs Q E hr h => ?_)
  · obtain ⟨a, ns, rfl, _⟩ := h
    rfl
  · obtain ⟨a, ns, rfl, hS, ht, q⟩ := h
    have r4 : Room 4 (A.deeper (envOfC "law" (defScope sLaw) s.heap.objs.size f cdv)) := hr.mono (by decide)
    have r2 : Room 2 (A.deeper (envOfC "law" (defScope sLaw) s.heap.objs.size f cdv)) := hr.mono (by decide)
    have r1 : Room 1 (A.deeper (envOfC "law" (defScope sLaw) s.heap.objs.size f cdv)) := hr.mono (by decide)
    have rt : Room kt (A.deeper (envOfC "law" (defScope sLaw) s.heap.objs.size f cdv)) := hr.mono hkt
    have ra : Room ka (A.deeper (envOfC "law" (defScope sLaw) s.heap.objs.size f cdv)) := hr.mono hka
    refine ⟨_, pss_cons (ps_set (i := 1) scLaw.nd rfl (.inl rfl) (pe_call GY r4 (by rfl) gY kY bY .nil passL (pa_cons (pv 0) (pa_cons pe_int pa_nil))))
      (pss_cons (ps_set (i := 2) scLaw.nd rfl (.inl rfl) (pe_call GS r1 (by rfl) gS kS bS .nil passL (pa_cons (pv 1) (pa_cons pe_str pa_nil))))
      (pss_cons (ps_set (i := 3) scLaw.nd rfl (.inl rfl) (pe_call GS r1 (by rfl) gS kS bS .nil passL (pa_cons (pv 1) (pa_cons pe_str pa_nil))))
      (pss_cons (ps_set (i := 4) scLaw.nd rfl (.inl rfl) (pe_lst (pa_cons (pe_callTy call_list_of (by rfl) mT (by decide +kernel) (pa_cons (pv 2) pa_nil)) (pa_cons (pe_callTy call_list_of (by rfl) mT (by decide +kernel) (pa_cons (pv 3) pa_nil)) pa_nil))))
      (pss_cons (ps_set (i := 5) scLaw.nd rfl (.inl rfl) (pe_call GT rt (by rfl) gT kT bT .nil passL (pa_cons (pe_ix ix_list (pv 4) pe_int (fun _ _ => rfl)) (pa_cons (pe_ix ix_list (pv 4) pe_int (fun _ _ => rfl)) pa_nil))))
      (pss_cons (ps_if (PW.pt (pw_or (pt_cmpR (op_neD hr.units) (pe_ix ix_list (pv 4) pe_int (fun _ _ => rfl)) (pv 2) (nomark _)) (pw_or (pt_cmpR (op_neD hr.units) (pe_ix ix_list (pv 4) pe_int (fun _ _ => rfl)) (pv 3) (nomark _))
          (pw_or1 (pt_not (pt_val (pe_call GK r2 (by rfl) gK kK bK .nil passL (pa_cons (pv 5) (pa_cons (pe_op op_add (pe_callB call_len_seq (by rfl) mL PySem.boot_len (pa_cons (pv 2) pa_nil)) pe_int) (pa_cons (pe_op op_add (pe_callB call_len_seq (by rfl) mL PySem.boot_len (pa_cons (pv 3) pa_nil)) pe_int) pa_nil)))))))))) pss_never pss_nil)
      (pss_cons (ps_for (passes_of rfl) rfl (pi_range1 (by rfl) mR (pa_cons (pe_op op_add (pe_callB call_len_seq (by rfl) mL PySem.boot_len (pa_cons (pv 2) pa_nil)) pe_int) pa_nil)) (pg_name (i := 6) scLaw.nd rfl (.inl rfl))
        (pss_one (ps_for (passes_of rfl) rfl (pi_range1 (by rfl) mR (pa_cons (pe_op op_add (pe_callB call_len_seq (by rfl) mL PySem.boot_len (pa_cons (pv 3) pa_nil)) pe_int) pa_nil)) (pg_name (i := 7) scLaw.nd rfl (.inl rfl))
          (pss_one (ps_if (pt_cmpR op_ne (pe_ix ix_list (pe_ix ix_list (pv 5) (pv 6) (fun _ _ => rfl)) (pv 7) (fun _ _ => rfl)) (pe_call GD r1 (by rfl) gD kD bD .nil passL (pa_cons (pv 5) (pa_cons (pv 2) (pa_cons (pv 3) (pa_cons (pv 6) (pa_cons (pv 7) pa_nil)))))) (by rfl)) pss_never pss_nil)))))
      (pss_cons (ps_set (i := 8) scLaw.nd rfl (.inl rfl) (pe_call GA ra (by rfl) gA kA bA .nil passL (pa_cons (pe_ix ix_list (pv 4) pe_int (fun _ _ => rfl)) (pa_cons (pe_ix ix_list (pv 4) pe_int (fun _ _ => rfl)) pa_nil))))
      (pss_one (ps_ret (pe_and (pe_call GW r1 (by rfl) gW kW bW .nil passL (pa_cons (pv 8) pa_nil)) (pe_and (pe_cmpR op_eq (pv 8) (pe_ix ix_list (pe_ix ix_list (pv 5) pe_int (fun _ _ => rfl)) pe_int (fun _ _ => rfl)) (by rfl))
        (pe_and (pe_cmpR (op_eqD hr.units) (pe_ix ix_list (pv 4) pe_int (fun _ _ => rfl)) (pv 2) (nomark _)) (pe_one (pe_cmpR (op_eqD hr.units) (pe_ix ix_list (pv 4) pe_int (fun _ _ => rfl)) (pv 3) (nomark _))))))))))))))), ?_⟩
    refine ⟨_, rfl, a, ns, 10, rfl, hS, by decide, fun H1 Y xs ss s1 nY hY hX hok htot => ?_⟩
    refine ⟨_, rfl, Y, "cut", xs, ss, rfl, .inl (.inl hY), hX, by omega, fun H2 O s2 nO hO => ?_⟩
    refine ⟨_, rfl, Y, "put", xs, ss, rfl, .inl (.inl (s2 _ _ hY)), hX.same s2, by omega, fun H3 N s3 nN hN => ?_⟩
    have wO := side_ok (k := "cut") hok
    have wN := side_ok (k := "put") hok
    have lO := side_le "cut" ss
    have lN := side_le "put" ss
    generalize sideOf "cut" ss = old at hO wO lO
    generalize sideOf "put" ss = new at hN wN lN
    have hO3 := s3 _ _ hO
    have t3 : Tb Ps H3 := ht.same (s1.trans (s2.trans s3))
    refine ⟨_, rfl, O, _, rfl, .inl (.inl (.inl hO3)), fun O' nO' => ?_⟩
    have e1 := same_upd nO' (o := .lst (old.map V.str))
    refine ⟨_, rfl, N, _, rfl, .inl (.inl (.inl (e1 _ _ hN))), fun N' nN' => ⟨by show 2 ≤ sizeLine; decide, fun D nD => ?_⟩⟩
    have e2 := same_upd nN' (o := .lst (new.map V.str))
    have e3 := same_upd nD (o := .lst [.ref O', .ref N'])
    have e123 := e1.trans (e2.trans e3)
    have hO6 : (upd (upd (upd H3 O' (.lst (old.map V.str))) N' (.lst (new.map V.str))) D (.lst [.ref O', .ref N'])) O' = some (.lst (old.map V.str)) := e3 _ _ (e2 _ _ upd_same)
    have hN6 : (upd (upd (upd H3 O' (.lst (old.map V.str))) N' (.lst (new.map V.str))) D (.lst [.ref O', .ref N'])) N' = some (.lst (new.map V.str)) := e3 _ _ upd_same
    have hD6 : (upd (upd (upd H3 O' (.lst (old.map V.str))) N' (.lst (new.map V.str))) D (.lst [.ref O', .ref N'])) D = some (.lst [.ref O', .ref N']) := upd_same
    generalize upd (upd (upd H3 O' (.lst (old.map V.str))) N' (.lst (new.map V.str))) D (.lst [.ref O', .ref N']) = H6 at e123 hO6 hN6 hD6 ⊢
    have t6 := t3.same e123
    refine ⟨_, rfl, D, _, _, _, rfl, rfl, .inl (.inl hD6), at_of (j := 0) rfl rfl, _, rfl, D, _, _, _, rfl, rfl, .inl (.inl hD6), at_of (j := 1) rfl rfl, O', N', old, new, rfl, .inl (.inl hO6), .inl (.inl hN6), wO, wN, by omega, by omega, t6, fun H7 T k7 nT hT => ?_⟩
    have O7 : SqL K H7 O (old.map V.str) := k7.seq t6 (.inl (.inl (e123 _ _ hO3)))
    have N7 : SqL K H7 N (new.map V.str) := k7.seq t6 (.inl (.inl (e123 _ _ hN)))
    have O7' : SqL K H7 O' (old.map V.str) := k7.seq t6 (.inl (.inl hO6))
    have N7' : SqL K H7 N' (new.map V.str) := k7.seq t6 (.inl (.inl hN6))
    have D7 : SqL K H7 D [.ref O', .ref N'] := k7.seq t6 (.inl (.inl hD6))
    have shO := shaped_words (ws := old) fun a ha => strOk_word (wO a ha)
    have shN := shaped_words (ws := new) fun a ha => strOk_word (wN a ha)
    have eO : ((old.map V.str).length : Int) + 1 = ((old.length + 1 : Nat) : Int) := by
      rw [List.length_map]
      omega
    have eN : ((new.map V.str).length : Int) + 1 = ((new.length + 1 : Nat) : Int) := by
      rw [List.length_map]
      omega
    refine ⟨_, rfl, D, _, _, _, rfl, rfl, D7, at_of (j := 0) rfl rfl, _, rfl, _, _, .lst O7' (dpStrs H7 K _), .lst O7 (dpStrs H7 K _), shO, shO, _, rfl, ?_⟩
    rw [SeqAt.eqv_refl _ (SeqAt.canLay_of_shaped shO)]
    refine iteF ⟨_, rfl, D, _, _, _, rfl, rfl, D7, at_of (j := 1) rfl rfl, _, rfl, _, _, .lst N7' (dpStrs H7 K _), .lst N7 (dpStrs H7 K _), shN, shN, _, rfl, ?_⟩
    rw [SeqAt.eqv_refl _ (SeqAt.canLay_of_shaped shN)]
    refine iteF ⟨_, rfl, _, rfl, O, _, rfl, .inl O7, _, _, rfl, rfl, _, rfl, N, _, rfl, .inl N7, _, _, rfl, rfl, T, old, new, (show [V.ref T, V.int (((old.map V.str).length : Int) + 1), V.int (((new.map V.str).length : Int) + 1)] = [V.ref T, V.int ((old.length + 1 : Nat) : Int), V.int ((new.length + 1 : Nat) : Int)] by rw [eO, eN]), hT, by omega, fun H8 s8 => ⟨true, rfl, iteF ?_⟩⟩
    have hT8 := hT.same s8
    have O8 := s8.seq O7
    have N8 := s8.seq N7
    have t8 := k7.1.same s8
    -- the loops
    refine ⟨_, rfl, O, _, rfl, .inl O8, _, _, rfl, rfl, _, rfl, by rw [List.length_map]; omega, by rw [List.length_map]; omega, ?_⟩
    refine for_range (lo := 0) (n := (((old.map V.str).length : Int) + 1).toNat) (fun i σ' H' => H' = H8 ∧ ∃ y6 y7, σ' = [some (.ref a), some (.ref Y), some (.ref O), some (.ref N), some (.ref D), some (.ref T), y6, y7, none]) ⟨rfl, none, none, rfl⟩ (fun i σ' H' hi hp => ?_) (fun σ' H' hp => ?_)
    · obtain ⟨rfl, y6, y7, rfl⟩ := hp
      rw [eO, Int.toNat_natCast] at hi
      refine ⟨_, rfl, N, _, rfl, .inl N8, _, _, rfl, rfl, _, rfl, by rw [List.length_map]; omega, by rw [List.length_map]; omega, ?_⟩
      refine for_range (lo := 0) (n := (((new.map V.str).length : Int) + 1).toNat) (fun k σ' H2 => H2 = H' ∧ ∃ y7, σ' = [some (.ref a), some (.ref Y), some (.ref O), some (.ref N), some (.ref D), some (.ref T), some (.int (0 + (i : Int))), y7, none]) ⟨rfl, _, rfl⟩ (fun k σ' H2 hk hp => ?_) (fun σ' H2 hp => ?_)
      · obtain ⟨rfl, y7, rfl⟩ := hp
        rw [eN, Int.toNat_natCast] at hk
        obtain ⟨rs, R, h1, h2, h3⟩ := hT8.row (i := i) (by omega)
        have zi : (0 + (i : Int)) = ((i : Nat) : Int) := by omega
        have zk : (0 + (k : Int)) = ((k : Nat) : Int) := by omega
        refine ⟨_, rfl, _, rfl, T, _, _, _, rfl, rfl, h1, by rw [zi]; exact atI_nat h2, _, rfl, R, _, _, _, rfl, rfl, h3, by rw [zk]; exact atI_nat (rowD_at (by omega)), ?_⟩
        refine ⟨_, rfl, _, rfl, _, rfl, _, rfl, _, rfl, T, O, N, old, new, i, k, (by rw [zi, zk]; rfl), hT8, O8, N8, by omega, by omega, rfl, _, rfl, ?_⟩
        rw [decide_eq_true rfl]
        exact iteF ⟨rfl, _, rfl⟩
      · obtain ⟨rfl, y7, rfl⟩ := hp
        exact ⟨rfl, _, _, rfl⟩
    · obtain ⟨rfl, y6, y7, rfl⟩ := hp
      refine ⟨_, rfl, D, _, _, _, rfl, rfl, s8.seq D7, at_of (j := 0) rfl rfl, _, rfl, D, _, _, _, rfl, rfl, s8.seq D7, at_of (j := 1) rfl rfl, O', N', old, new, rfl, s8.seq O7', s8.seq N7', wO, wN, by omega, by omega, t8, fun H9 k9 => ?_⟩
      obtain ⟨rs, R, h1, h2, h3⟩ := (hT8.kp t8 k9).row (i := 0) (by omega)
      refine ⟨_, rfl, _, rfl, _, rfl, iteT ⟨_, rfl, _, rfl, T, _, _, _, rfl, rfl, h1, at_of (j := 0) rfl h2, R, _, _, _, rfl, rfl, h3, at_of (j := 0) rfl (rowD_at (by omega)), rfl, _, rfl, ?_⟩⟩
      rw [decide_eq_true (show V.int (dist old new : Nat) = V.int (cellD old new 0 0 : Nat) from rfl)]
      refine iteT ⟨_, rfl, D, _, _, _, rfl, rfl, k9.seq t8 (s8.seq D7), at_of (j := 0) rfl rfl, _, rfl, _, _, .lst (k9.seq t8 (s8.seq O7')) (dpStrs H9 K _), .lst (k9.seq t8 O8) (dpStrs H9 K _), shO, shO, ?_⟩
      rw [SeqAt.eqv_refl _ (SeqAt.canLay_of_shaped shO)]
      refine ⟨_, rfl, iteT ⟨_, rfl, D, _, _, _, rfl, rfl, k9.seq t8 (s8.seq D7), at_of (j := 1) rfl rfl, _, rfl, _, _, .lst (k9.seq t8 (s8.seq N7')) (dpStrs H9 K _), .lst (k9.seq t8 N8) (dpStrs H9 K _), shN, shN, ?_⟩⟩
      rw [SeqAt.eqv_refl _ (SeqAt.canLay_of_shaped shN)]
      exact q H9
end
/-! ### the head: facts by names, the run -/
def dd (x : Str) (i : Nat) : He.DefD := ⟨(x, none), x, x, defArgs (top i), defBody (top i), defScope (top i), [], []⟩
def fn : List He.DefD := [dd "is_sign" 7, dd "is_word" 8, dd "check_words" 9, dd "check_length" 10, dd "check_text" 11, dd "table" 13, dd "least_cost" 14, dd "apart" 15, dd "_law_cell_at" 17, dd "_law_sign_by" 18, dd "_law_word_by" 19, dd "_law_near" 20, dd "_law_menu" 21, dd "_law_step" 22, dd "_law_way" 23, dd "_law_side" 24, dd "_law_whole" 25, dd "_law_kinds" 26, dd "_law_due" 27, dd "law" 28]
def fa : List He.Fa := [.glo "is_sign",
  .glo "is_word",
  .glo "check_words",
  .glo "check_length",
  .glo "check_text",
  .glo "table",
  .glo "least_cost",
  .glo "apart",
  .glo "_law_cell_at",
  .glo "_law_sign_by",
  .glo "_law_word_by",
  .glo "_law_near",
  .glo "_law_menu",
  .glo "_law_step",
  .glo "_law_way",
  .glo "_law_side",
  .glo "_law_whole",
  .glo "_law_kinds",
  .glo "_law_due",
  .glo "law",
  .int "LONGEST" 40,
  .int "MOST" 120,
  .free "isinstance",
  .free "str",
  .free "all",
  .free "len",
  .free "enumerate",
  .free "list",
  .free "range",
  .free "min",
  .free "reversed",
  .free "int",
  .free "bool"]
def tf : List He.Defn := [("is_word", none)]
def ts : List He.Tab := []
def ex (K : PySem.W.Frag) : Bool := true
abbrev R : PySem.W.OpenRow := PySem.W.OpenLaw.row PySem.Challenge.rw_redraft_k06_the_table
abbrev hk : PySem.W.Hook := He.hookX 4 fa fn ts tf ex
def ob (s : PySem.W.SharedT) : He.AlX := He.obsX 4 fa fn ts tf ex (HandSHeadRun.getT s)
theorem ob_eq (s : PySem.W.SharedT) : ob s = hk.obs s.abs := He.obsX_eq (HandSHeadRun.getT_eq s)
abbrev loose0 : List Str := ["RedraftError", "NoWord", "TooLong", "is_sign", "is_word", "check_words", "check_length", "check_text", "table", "least_cost", "apart", "_law_cell_at", "_law_sign_by", "_law_word_by", "_law_near", "_law_menu", "_law_step", "_law_way", "_law_side", "_law_whole", "_law_kinds", "_law_due", "LONGEST", "MOST"]
abbrev loose : List Str := loose0
theorem run (w : World) : HandSHeadRun.RunEq R (PySem.W.view R.prog [28]) hk ob 4000 loose w := by
  intro os
  kernel_rfl
theorem facts {w : World} {h : Heap} {K : PySem.W.Frag} {mg : Str → Option Value} {f : Addr} (X : K.In h) (G : h.Ns mainGlobals mg) (hfa : mg ("law" : Str) = some (.ref f)) (c : He.SaysX fa fn ts tf ex w h K) :
    LamX.LawAtS PySem.Challenge.rw_redraft_k06_the_table w K (L2.CX PySem.Challenge.rw_redraft_k06_the_table.prog w) 31 63 "_law_script" mg f h := by
  have d := c.t.d
  obtain ⟨d_is_sign, F_is_sign⟩ := d.def_ 0 (d := dd "is_sign" 7) rfl
  obtain ⟨d_is_word, F_is_word⟩ := d.def_ 1 (d := dd "is_word" 8) rfl
  obtain ⟨d_check_words, F_check_words⟩ := d.def_ 2 (d := dd "check_words" 9) rfl
  obtain ⟨d_check_length, F_check_length⟩ := d.def_ 3 (d := dd "check_length" 10) rfl
  obtain ⟨d_check_text, F_check_text⟩ := d.def_ 4 (d := dd "check_text" 11) rfl
  obtain ⟨d_table, F_table⟩ := d.def_ 5 (d := dd "table" 13) rfl
  obtain ⟨d_least_cost, F_least_cost⟩ := d.def_ 6 (d := dd "least_cost" 14) rfl
  obtain ⟨d_apart, F_apart⟩ := d.def_ 7 (d := dd "apart" 15) rfl
  obtain ⟨d__law_cell_at, F__law_cell_at⟩ := d.def_ 8 (d := dd "_law_cell_at" 17) rfl
  obtain ⟨d__law_sign_by, F__law_sign_by⟩ := d.def_ 9 (d := dd "_law_sign_by" 18) rfl
  obtain ⟨d__law_word_by, F__law_word_by⟩ := d.def_ 10 (d := dd "_law_word_by" 19) rfl
  obtain ⟨d__law_near, F__law_near⟩ := d.def_ 11 (d := dd "_law_near" 20) rfl
  obtain ⟨d__law_menu, F__law_menu⟩ := d.def_ 12 (d := dd "_law_menu" 21) rfl
  obtain ⟨d__law_step, F__law_step⟩ := d.def_ 13 (d := dd "_law_step" 22) rfl
  obtain ⟨d__law_way, F__law_way⟩ := d.def_ 14 (d := dd "_law_way" 23) rfl
  obtain ⟨d__law_side, F__law_side⟩ := d.def_ 15 (d := dd "_law_side" 24) rfl
  obtain ⟨d__law_whole, F__law_whole⟩ := d.def_ 16 (d := dd "_law_whole" 25) rfl
  obtain ⟨d__law_kinds, F__law_kinds⟩ := d.def_ 17 (d := dd "_law_kinds" 26) rfl
  obtain ⟨d__law_due, F__law_due⟩ := d.def_ 18 (d := dd "_law_due" 27) rfl
  obtain ⟨d_law, F_law⟩ := d.def_ 19 (d := dd "law" 28) rfl
  have e := hfa.symm.trans (He.glo_ok X G (d.fact 19 (f := .glo "law") rfl))
  cases e
  have g_is_sign := He.glo_ok X G (d.fact 0 (f := .glo "is_sign") rfl)
  have g_is_word := He.glo_ok X G (d.fact 1 (f := .glo "is_word") rfl)
  have g_check_words := He.glo_ok X G (d.fact 2 (f := .glo "check_words") rfl)
  have g_check_length := He.glo_ok X G (d.fact 3 (f := .glo "check_length") rfl)
  have g_check_text := He.glo_ok X G (d.fact 4 (f := .glo "check_text") rfl)
  have g_table := He.glo_ok X G (d.fact 5 (f := .glo "table") rfl)
  have g_least_cost := He.glo_ok X G (d.fact 6 (f := .glo "least_cost") rfl)
  have g_apart := He.glo_ok X G (d.fact 7 (f := .glo "apart") rfl)
  have g__law_cell_at := He.glo_ok X G (d.fact 8 (f := .glo "_law_cell_at") rfl)
  have g__law_sign_by := He.glo_ok X G (d.fact 9 (f := .glo "_law_sign_by") rfl)
  have g__law_word_by := He.glo_ok X G (d.fact 10 (f := .glo "_law_word_by") rfl)
  have g__law_near := He.glo_ok X G (d.fact 11 (f := .glo "_law_near") rfl)
  have g__law_menu := He.glo_ok X G (d.fact 12 (f := .glo "_law_menu") rfl)
  have g__law_step := He.glo_ok X G (d.fact 13 (f := .glo "_law_step") rfl)
  have g__law_way := He.glo_ok X G (d.fact 14 (f := .glo "_law_way") rfl)
  have g__law_side := He.glo_ok X G (d.fact 15 (f := .glo "_law_side") rfl)
  have g__law_whole := He.glo_ok X G (d.fact 16 (f := .glo "_law_whole") rfl)
  have g__law_kinds := He.glo_ok X G (d.fact 17 (f := .glo "_law_kinds") rfl)
  have g__law_due := He.glo_ok X G (d.fact 18 (f := .glo "_law_due") rfl)
  obtain ⟨t_LONGEST, m_LONGEST⟩ := He.int_ok X G (d.fact 20 (f := .int "LONGEST" 40) rfl)
  obtain ⟨t_MOST, m_MOST⟩ := He.int_ok X G (d.fact 21 (f := .int "MOST" 120) rfl)
  have m_isinstance := He.free_ok X G (d.fact 22 (f := .free "isinstance") rfl)
  have m_str := He.free_ok X G (d.fact 23 (f := .free "str") rfl)
  have m_all := He.free_ok X G (d.fact 24 (f := .free "all") rfl)
  have m_len := He.free_ok X G (d.fact 25 (f := .free "len") rfl)
  have m_enumerate := He.free_ok X G (d.fact 26 (f := .free "enumerate") rfl)
  have m_list := He.free_ok X G (d.fact 27 (f := .free "list") rfl)
  have m_range := He.free_ok X G (d.fact 28 (f := .free "range") rfl)
  have m_min := He.free_ok X G (d.fact 29 (f := .free "min") rfl)
  have m_reversed := He.free_ok X G (d.fact 30 (f := .free "reversed") rfl)
  have m_int := He.free_ok X G (d.fact 31 (f := .free "int") rfl)
  have m_bool := He.free_ok X G (d.fact 32 (f := .free "bool") rfl)
  have more := c.more
  have b_is_sign : Binds K d_is_sign ["sign"] [] := F_is_sign.bindsN fun _ _ _ _ _ _ us hl => match us, hl with | [_], _ => rfl
  have b_is_word : Binds K d_is_word ["word"] [] := F_is_word.bindsN fun _ _ _ _ _ _ us hl => match us, hl with | [_], _ => rfl
  have b_check_words : Binds K d_check_words ["words"] [] := F_check_words.bindsN fun _ _ _ _ _ _ us hl => match us, hl with | [_], _ => rfl
  have b_check_length : Binds K d_check_length ["words"] [] := F_check_length.bindsN fun _ _ _ _ _ _ us hl => match us, hl with | [_], _ => rfl
  have b_check_text : Binds K d_check_text ["words"] [] := F_check_text.bindsN fun _ _ _ _ _ _ us hl => match us, hl with | [_], _ => rfl
  have b_table : Binds K d_table ["old", "new"] [] := F_table.bindsN fun _ _ _ _ _ _ us hl => match us, hl with | [_, _], _ => rfl
  have b_least_cost : Binds K d_least_cost ["costs", "old", "new", "i", "k"] [] := F_least_cost.bindsN fun _ _ _ _ _ _ us hl => match us, hl with | [_, _, _, _, _], _ => rfl
  have b_apart : Binds K d_apart ["old", "new"] [] := F_apart.bindsN fun _ _ _ _ _ _ us hl => match us, hl with | [_, _], _ => rfl
  have b__law_cell_at : Binds K d__law_cell_at ["_law_script", "_law_k"] [] := F__law_cell_at.bindsN fun _ _ _ _ _ _ us hl => match us, hl with | [_, _], _ => rfl
  have b__law_sign_by : Binds K d__law_sign_by ["_law_cell"] [] := F__law_sign_by.bindsN fun _ _ _ _ _ _ us hl => match us, hl with | [_], _ => rfl
  have b__law_word_by : Binds K d__law_word_by ["_law_cell"] [] := F__law_word_by.bindsN fun _ _ _ _ _ _ us hl => match us, hl with | [_], _ => rfl
  have b__law_near : Binds K d__law_near ["_law_word", "_law_cell"] [] := F__law_near.bindsN fun _ _ _ _ _ _ us hl => match us, hl with | [_, _], _ => rfl
  have b__law_menu : Binds K d__law_menu ["_law_script"] [] := F__law_menu.bindsN fun _ _ _ _ _ _ us hl => match us, hl with | [_], _ => rfl
  have b__law_step : Binds K d__law_step ["_law_menu_here", "_law_cell"] [] := F__law_step.bindsN fun _ _ _ _ _ _ us hl => match us, hl with | [_, _], _ => rfl
  have b__law_way : Binds K d__law_way ["_law_script", "_law_many"] [] := F__law_way.bindsN fun _ _ _ _ _ _ us hl => match us, hl with | [_, _], _ => rfl
  have b__law_side : Binds K d__law_side ["_law_steps", "_law_kind"] [] := F__law_side.bindsN fun _ _ _ _ _ _ us hl => match us, hl with | [_, _], _ => rfl
  have b__law_whole : Binds K d__law_whole ["_law_found"] [] := F__law_whole.bindsN fun _ _ _ _ _ _ us hl => match us, hl with | [_], _ => rfl
  have b__law_kinds : Binds K d__law_kinds ["_law_found", "_law_rows", "_law_columns"] [] := F__law_kinds.bindsN fun _ _ _ _ _ _ us hl => match us, hl with | [_, _, _], _ => rfl
  have b__law_due : Binds K d__law_due ["_law_found", "_law_old", "_law_new", "_law_i", "_law_k"] [] := F__law_due.bindsN fun _ _ _ _ _ _ us hl => match us, hl with | [_, _, _, _, _], _ => rfl
  have bL := FunD.bindsA (ps := ["_law_script"]) F_law fun _ _ _ _ _ _ us hl => match us, hl with | [_], _ => rfl
  have TT : ∀ q ∈ tf, (He.cT K q).2 ∈ tf.map fun q => (He.cT K q).2 := fun q hq => List.mem_map_of_mem (f := fun q => (He.cT K q).2) hq
  refine ⟨d_law, tf.map (He.cT K), spLaw K (tf.map fun q => (He.cT K q).2), fun p hp => ?_, fun p hp => ?_, fun p hp => ?_, fun s u => bL s [u] rfl, fun H a ns hl _ hT hS => ⟨a, ns, rfl, hS, fun P hP => ?_, fun _ => rfl⟩, fun base KB GB TBs => ?_⟩
  · obtain ⟨q, hq, rfl⟩ := List.mem_map.mp hp
    exact c.empty q hq
  · obtain ⟨q, hq, rfl⟩ := List.mem_map.mp hp
    exact c.out q hq
  · obtain ⟨q, hq, rfl⟩ := List.mem_map.mp hp
    exact PySem.W.codeHd_of_K X (c.hd q hq)
  · obtain ⟨q, hq, rfl⟩ := List.mem_map.mp hP
    exact ⟨#[], hT _ (List.mem_map_of_mem hq), trivial⟩
  · have TB : ∀ q ∈ tf, GxR.TabB base mg (He.codeOf K q) (He.cT K q).2 := fun q hq => by
      have tb := TBs _ (List.mem_map_of_mem (f := He.cT K) hq)
      exact ⟨tb.code, tb.bm, tb.gP⟩
    have q_is_word : (("is_word", none) : He.Defn) ∈ tf := by unfold tf; simp
    have GW := ok_is_word (P := PySem.Challenge.rw_redraft_k06_the_table.prog) (w := w) (mg := mg) (base := base) F_is_word rfl (TT _ q_is_word) (TB _ q_is_word) F_is_sign b_is_sign g_is_sign m_isinstance m_str m_len m_all m_LONGEST
    have GCW := ok_check_words F_check_words GW F_is_word.kp b_is_word g_is_word m_isinstance m_list m_enumerate
    have GCL := ok_check_length (P := PySem.Challenge.rw_redraft_k06_the_table.prog) (w := w) (mg := mg) (base := base) F_check_length m_len m_MOST
    have GCT := ok_check_text F_check_text GCW F_check_words.kp b_check_words g_check_words GCL F_check_length.kp b_check_length g_check_length
    have GLC := ok_least (P := PySem.Challenge.rw_redraft_k06_the_table.prog) (w := w) (mg := mg) (base := base) F_least_cost m_len m_min
    have GTa := ok_table F_table GCT F_check_text.kp b_check_text g_check_text GLC F_least_cost.kp b_least_cost g_least_cost m_len m_range
    have GAp := ok_apart F_apart GTa F_table.kp b_table g_table
    have GCe := ok_cell_at (P := PySem.Challenge.rw_redraft_k06_the_table.prog) (w := w) (mg := mg) (base := base) F__law_cell_at m_len
    have GS := ok_sign_by (P := PySem.Challenge.rw_redraft_k06_the_table.prog) (w := w) (mg := mg) (base := base) F__law_sign_by
    have GWB := ok_word_by (P := PySem.Challenge.rw_redraft_k06_the_table.prog) (w := w) (mg := mg) (base := base) F__law_word_by F__law_sign_by b__law_sign_by g__law_sign_by m_range
    have GNe := ok_near F__law_near GS F__law_sign_by.kp b__law_sign_by g__law_sign_by m_len m_list m_reversed
    have GM := ok_menu F__law_menu GCe F__law_cell_at.kp b__law_cell_at g__law_cell_at GWB F__law_word_by.kp b__law_word_by g__law_word_by GNe F__law_near.kp b__law_near g__law_near m_range
    have GWh := ok_whole (P := PySem.Challenge.rw_redraft_k06_the_table.prog) (w := w) (mg := mg) (base := base) F__law_whole m_isinstance m_int m_bool
    have GSt := ok_step (P := PySem.Challenge.rw_redraft_k06_the_table.prog) (w := w) (mg := mg) (base := base) F__law_step m_range
    have GWy := ok_way F__law_way GCe F__law_cell_at.kp b__law_cell_at g__law_cell_at GM F__law_menu.kp b__law_menu g__law_menu GSt F__law_step.kp b__law_step g__law_step
    have GSi := ok_side (P := PySem.Challenge.rw_redraft_k06_the_table.prog) (w := w) (mg := mg) (base := base) F__law_side
    
    exact ok_law (kt := 6) (ka := 7) (by decide) (by decide) F_law GWy F__law_way.kp b__law_way g__law_way GSi F__law_side.kp b__law_side g__law_side GTa F_table.kp b_table g_table (ok_kinds F__law_kinds GWh F__law_whole.kp b__law_whole g__law_whole m_isinstance m_list m_len m_all) F__law_kinds.kp b__law_kinds g__law_kinds (ok_due (P := PySem.Challenge.rw_redraft_k06_the_table.prog) (w := w) (mg := mg) (base := base) F__law_due m_len m_min) F__law_due.kp b__law_due g__law_due GAp F_apart.kp b_apart g_apart GWh F__law_whole.kp b__law_whole g__law_whole m_list m_len m_range
end Rd
open PySem PySem.W PySem.Calls PyProof.Rows
set_option maxHeartbeats 0 in
theorem PySem.Challenge.cw_redraft_k06_the_table_holds : PySem.Challenge.rw_redraft_k06_the_table.Holds := by
  w_on; o_law
  refine HandSHeadRun.head_any (r := OpenLaw.row PySem.Challenge.rw_redraft_k06_the_table) (q := view (OpenLaw.row PySem.Challenge.rw_redraft_k06_the_table).prog [28]) (H := Rd.hk) (ob := Rd.ob) (M := 4000) (loose := Rd.loose) (d := HandSHeadRun.topDef (OpenLaw.row PySem.Challenge.rw_redraft_k06_the_table).prog 28) (kwd := []) Rd.ob_eq
    (by kernel_rfl) (fun s => by kernel_rfl) Rd.run (by kernel_rfl) (by kernel_rfl) (by kernel_rfl) (by rfl) (by first | assumption | decide +kernel) (by decide +kernel) ⟨rfl, rfl, rfl, rfl, rfl, by decide +kernel⟩ ?hw ?hc
  case hw => w_witness2
  case hc =>
    refine LamX.walk_ofTsE (l := PySem.Challenge.rw_redraft_k06_the_table) (n := 63) (k := 31) (x := "_law_script") (CX := fun w => L2.CX PySem.Challenge.rw_redraft_k06_the_table.prog w) rfl (by decide) (by kernel_rfl) ⟨rfl, by decide, by decide⟩ ?F fun w H s e s' z => ?z
    case z =>
      obtain ⟨_, _, _, _, _, _, _, _, _, _, _, _, z⟩ := z
      exact z
    case F =>
      intro w mg fa h Y G hmg0
      obtain ⟨K, KX, c⟩ := Y
      have hmg : mg ("law" : PySem.Str) = some (.ref fa) := by
        have e : (HandSHeadRun.topDef (OpenLaw.row PySem.Challenge.rw_redraft_k06_the_table).prog 28).name = ("law" : PySem.Str) := by kernel_rfl
        rw [← e]
        exact hmg0
      exact ⟨K, KX, Rd.facts KX G hmg c⟩

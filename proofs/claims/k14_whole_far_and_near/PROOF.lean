import PyProof.Rows.All
import Wide.All
import OpenK.AllK
import Wide.FinOn
import HandS.ForMost
import HandS.ForExc
import HandS.AnyAll
import HandS.GenOver
import HandS.GenList
import HandS.More
import HandS.Defaults
import HandS.HeadHook4
import HandS.IsInst
import HandS.Iter
import HandS.Text
import HandS.Rev
import HandS.RevTup
import HandS.Head0
import HandS.Head1
import HandS.Head2
import HandS.HeadEnd
import HandS.HeadHook1
import HandS.HeadHook2
import HandS.HeadHook3
import HandS.HeadWalk
import HandS.LawCells
import HandS.Codes
import HandS.TupMul
import PySem.Challenge.RW_redraft_k14_whole_far_and_near
set_option Elab.async false
set_option linter.all false
set_option maxRecDepth 100000
set_option maxHeartbeats 4000000
/-! all(elt for x in iter if ..), any(..): the element any expression that the layer reads (calls of defs, too), the walked thing any that the layer walks -/
namespace Rd
open PySem PySem.Spec PyProof.Rows L2 GxR

/-- the frame of a generator expression of X, made at s -/
abbrev gcx (X : Cx) (s : Shared) (H : Hp) (sc : Scope) (ce : Env) (fp : List Addr) (a : Addr) (o : Obj) (B : Around) : Cx :=
  { X with A := B, s_0 := s, H_0 := H, env := ce, outer := X.stack, stack := ce :: X.stack, ex := fp, fn := fun x => sc.names.lookup x == some .cell, calm := true, pn := [(a, o)], xe := fun _ _ => False }

theorem not_in_frs {X : Cx} {pins : List (Addr × Obj)} {σ : L2.St} {H : Hp} {s : Shared} (I : Inv X pins σ H s) {b : Addr} (hb : s.heap.objs.size ≤ b) : b ∉ frs X.stack := fun hm => by
  obtain ⟨_, o, ho, _⟩ := I.stack.mem hm
  exact Nat.lt_irrefl _ (Nat.lt_of_lt_of_le (Heap.lt_size ho) hb)

theorem gen_start {X : Cx} {pins : List (Addr × Obj)} {σ : L2.St} {H : Hp} {s s' : Shared} {sc : Scope} {own : List (Str × Nat)} {fp : List Addr} {ce : Env} {a : Addr} {o : Obj} {B : Around}
    (I : Inv X pins σ H s) (ok : BlkOk X.N X.env.scope sc own) (nc : ∀ y ∈ sc.names, y.2 ≠ .cell) (hN : X.N.Nodup) (hfp : ∀ b ∈ fp, FpOk X pins H b ∧ b < s.heap.objs.size)
    (e1 : ce.scope = sc) (e2 : ce.locals = s.heap.objs.size) (e3 : ce.globals = X.env.globals) (e4 : ce.builtins = builtinsNs) (e5 : ce.cells = cloFrom X.env.cells sc.names []) (e6 : ce.frame = some s.heap.objs.size)
    (hB : B.frames = some (ce :: X.stack)) (hh : B.handled = none)
    (os : s'.os = s.os) (gb : AllBare s'.gens) (kp : ∀ b u, s.heap.get? b = some u → s'.heap.get? b = some u) (ns : ∃ m, s'.heap.Ns s.heap.objs.size m) (ha : s'.heap.get? a = some o) (hlt : s.heap.objs.size < a) (hod : ∀ v, o.data ≠ .cell v) :
    Inv (gcx X s H sc ce fp a o B) [] (wipe σ (own.map (·.2))) H s' := by
  have nocell : ∀ y, sc.names.lookup y ≠ some .cell := fun y z => nc _ (PySem.mem_of_lookup z) rfl
  have clo : ∀ {y c}, ce.cells.lookup y = some c → X.env.cells.lookup y = some c ∧ c < s.heap.objs.size := fun {y c} e => by
    rw [e5] at e
    rcases cloFrom_mem (PySem.mem_of_lookup e) with hm | ⟨hy, rfl⟩
    · cases hm
    · have h1 : ∃ c, X.env.cells.lookup y = some c := by
        rcases ok.free _ hy rfl with k | k
        · exact I.ok.has _ (.inl k)
        · exact I.ok.has _ (.inr k)
      obtain ⟨c1, h2⟩ := h1
      rw [h2]
      obtain ⟨v, z⟩ := I.cell _ _ h2
      exact ⟨rfl, z.lt⟩
  have has : ∀ {y}, sc.names.lookup y = some .free → ∃ c, ce.cells.lookup y = some c := fun {y} hy => by
    obtain ⟨c, hc⟩ := mem_lookup (cloFrom_has (cells := X.env.cells) (acc := []) (PySem.mem_of_lookup hy))
    exact ⟨c, by rw [e5]; exact hc⟩
  have okB : (gcx X s H sc ce fp a o B).Ok := by
    refine ⟨I.ok.mod, ?_, ?_, e4, ?_, fun y z c h1 h2 => I.ok.inj y z c (clo h1).1 (clo h2).1, fun y hy => ?_, fun y c z _ => ?_, fun _ => hh, hB, .inr ⟨rfl, ?_⟩, fun b hb => ⟨?_, fun y c e z => ?_⟩, I.bs, Nat.le_trans I.ok.bsz I.sz, fun b u e hb => ?_, fun b hb z => ?_, I.stack, I.stkFree⟩
    · show ce.scope.kind = _
      rw [e1]
      exact ok.kind
    · show ce.globals = _
      rw [e3]
      exact I.ok.glob
    · show s.heap.objs.size ≤ ce.locals
      rw [e2]
      exact Nat.le_refl _
    · show ∃ c, ce.cells.lookup y = some c
      rcases hy with hy | hy
      · have hy : ce.scope.names.lookup y = some .cell := hy
        rw [e1] at hy
        exact absurd hy (nocell y)
      · have hy : ce.scope.names.lookup y = some .free := hy
        rw [e1] at hy
        exact has hy
    · have z : (sc.names.lookup y == some NameKind.cell) = true := z
      exact absurd (by simpa using z) (nocell y)
    · show ce.frame = some ce.locals
      rw [e6, e2]
    · show b ≠ ce.locals
      rw [e2]
      exact Nat.ne_of_lt (hfp b hb).2
    · exact (hfp b hb).1.2.2.2.2.1 y c (clo e).1 z
    · rcases (hfp b hb).1.2.2.2.1 with z | z
      · exact I.ok.noex b u e z
      · exact absurd (Nat.lt_of_lt_of_le (Heap.lt_size e) (Nat.le_trans I.ok.bsz z)) (Nat.lt_irrefl _)
    · rcases List.mem_cons.mp (I.stkSub b z) with z | z
      · exact (hfp b hb).1.2.1 z
      · exact (hfp b hb).1.2.2.1 z
  obtain ⟨m1, hm1⟩ := ns
  refine ⟨okB, os, gb, Un.kept kp, ⟨m1, ?_, fun i y av q1 q2 q3 => ?_⟩, fun y c e => ?_, ?_, fun y c e => I.freeC y c (clo e).1, fun p hp => ?_, I.hok.kept kp, by rw [wipe_length]; exact I.len⟩
  · show Heap.Ns _ ce.locals _
    rw [e2]
    exact hm1
  · obtain ⟨q2, hne⟩ := wipe_some q2
    have q3 : Vis ce.scope y := q3
    rw [e1] at q3
    have q1 : X.N[i]? = some y := q1
    have no : ∀ k, sc.names.lookup y = some k → k = .local ∨ k = .cell → False := fun k e hk => by
      rcases ok.own _ (PySem.mem_of_lookup e) hk with z | z
      · obtain ⟨p, hp, hpy⟩ := List.mem_map.mp z
        have z2 := ok.ix p hp
        have hpy : p.1 = y := hpy
        rw [hpy] at z2
        exact hne (List.mem_map.mpr ⟨p, hp, nodup_ix hN z2 q1⟩)
      · exact z (List.mem_of_getElem? q1)
    have hf : sc.names.lookup y = some .free := by
      rcases q3 with z | z | z
      · exact (no _ z (.inl rfl)).elim
      · exact (no _ z (.inr rfl)).elim
      · exact z
    obtain ⟨m, hn, hl⟩ := I.loc
    have hk := ok.free _ (PySem.mem_of_lookup hf) rfl
    obtain ⟨u, r, q⟩ := hl i y av q1 q2 (hk.elim (fun k => .inr (.inl k)) fun k => .inr (.inr k))
    refine ⟨u, r, .inr ⟨.inr ?_, ?_⟩⟩
    · show ce.scope.names.lookup y = some .free
      rw [e1]
      exact hf
    · obtain ⟨c, hc⟩ := has hf
      rcases q with ⟨k, _⟩ | ⟨_, c', e', z⟩
      · have k : X.env.scope.names.lookup y = some .local := k
        rcases hk with hk | hk <;> rw [show X.env.scope.names.lookup y = _ from hk] at k <;> cases k
      · have hc' := (clo hc).1
        rw [hc'] at e'
        cases e'
        exact ⟨c, hc, z.keeps kp⟩
  · obtain ⟨v, z⟩ := I.cell y c (clo e).1
    exact ⟨v, z.keeps kp⟩
  · show H ce.locals = none
    rw [e2]
    exact I.hok.fresh (Nat.le_refl _)
  · have hp : p = (a, o) := by simpa using hp
    subst hp
    refine ⟨ha, I.hok.fresh (Nat.le_of_lt hlt), ?_, not_in_frs I (Nat.le_of_lt hlt), hod⟩
    show a ≠ ce.locals
    rw [e2]
    exact Nat.ne_of_gt hlt

theorem inv_gens {X : Cx} {pins : List (Addr × Obj)} {σ : L2.St} {H : Hp} {s : Shared} {G : Array GenState} (I : Inv X pins σ H s) (hG : AllBare G) : Inv X pins σ H { s with gens := G } :=
  ⟨I.ok, I.os, hG, I.base, I.loc, I.cell, I.free, I.freeC, I.pin, I.hok, I.len⟩

/-- the reading: J what is walked, k the answer that goes on (True for all, False for any) -/
def tGen (k : Bool) (P : Addr) (wi : TI) (g : TG) (tt : TT) (te : TE) (vs : List Nat) : TE := fun σ H Q => wi σ H fun J H1 => TabG H1 P ∧ ∀ H2, Tabbed P H1 H2 →
  ∃ W : Nat → Nat → Hp → Prop, (∃ m, W 0 m H2) ∧ ∀ i m H, W i m H →
    (J.stop i H ∧ Q (.bl k) H) ∨ (J.go i H ∧ ∃ Nx : Hp → Prop, (∀ H', Nx H' → ∃ m', m' < m ∧ W (i + 1) m' H') ∧ ∀ x H', J.yld i H x H' → g x (wipe σ vs) H' fun σ2 H2 => wipe σ2 vs = wipe σ vs ∧ tt σ2 H2 fun b H3 =>
      if b = true then te σ2 H3 fun y H4 => ∃ c, y = .bl c ∧ (c = k → Nx H4) ∧ (c = (!k) → Q (.bl (!k)) H4) else Nx H3)

/-- the answer is known -/
def Fin (X : Cx) (pins : List (Addr × Obj)) (σ : L2.St) (Q : VK) (b : Bool) (s : Shared) : Prop := ∃ H, Inv X pins σ H s ∧ Q (.bl b) H
theorem Fin.gens {X : Cx} {pins : List (Addr × Obj)} {σ : L2.St} {Q : VK} {b : Bool} {s : Shared} {G : Array GenState} (h : Fin X pins σ Q b s) (hG : AllBare G) : Fin X pins σ Q b { s with gens := G } :=
  let ⟨H, I, q⟩ := h; ⟨H, inv_gens I hG, q⟩
theorem Fin.kept {X : Cx} {pins : List (Addr × Obj)} {σ : L2.St} {Q : VK} {b : Bool} {s : Shared} {h' : Heap} (h : Fin X pins σ Q b s) (k : ∀ c u, s.heap.get? c = some u → h'.get? c = some u) : Fin X pins σ Q b { s with heap := h' } :=
  let ⟨H, I, q⟩ := h; ⟨H, I.kept (t' := s.toks) k, q⟩
/-- the generator's end -/
abbrev GR1 (X : Cx) (pins : List (Addr × Obj)) (σ : L2.St) (Q : VK) (k : Bool) : GenEnd := fun _ _ r s => r = .ok .next ∧ (AllBare s.gens ∧ Fin X pins σ Q k s)
/-- an item comes out -/
abbrev GY1 (X : Cx) (pins : List (Addr × Obj)) (σ : L2.St) (Q : VK) (k : Bool) (a : Addr) (g : Nat) : Protocol := fun _ _ v s kap =>
  ∃ b, v = .bool b ∧ s.heap.IsGen a g ∧ s.heap.NoLimit ∧ AllBare s.gens ∧ (b = (!k) → Fin X pins σ Q (!k) s) ∧ (b = k → ∀ G, AllBare G → kap (.send .none) { s with gens := G })
/-- a generator that is to be asked -/
def Live (X : Cx) (pins : List (Addr × Obj)) (σ : L2.St) (Q : VK) (k : Bool) (a : Addr) (g n : Nat) (s : Shared) : Prop :=
  s.heap.IsGen a g ∧ s.heap.NoLimit ∧ AllBare s.gens ∧ ∃ gs, s.gens[g]? = some gs ∧ gs.Goes (model X.prog X.w) X.A.in1.in1 (GR1 X pins σ Q k) (GY1 X pins σ Q k a g) n (.send .none) (s.setGen g .running)

section
variable {X : Cx} {pins : List (Addr × Obj)} {σ : L2.St} {Q : VK} {a : Addr} {g : Nat}
/-- what a step of the consumer finds -/
theorem next_live {k : Bool} {n : Nat} {s : Shared} {Q' : Option Value → Shared → Prop} {E : Value → Shared → Prop} (hh : X.A.handled = none) (hd : X.A.depth < recursionLimit) (h : Live X pins σ Q k a g n s)
    (hy : ∀ (b : Bool) (s' : Shared), (b = (!k) → Fin X pins σ Q (!k) s') → (b = k → ∃ m, m < n ∧ Live X pins σ Q k a g m s') → Q' (some (.bool b)) s') (he : ∀ s', Fin X pins σ Q k s' → Q' none s') :
    wpAny (model X.prog X.w) X.A.in1 (pyNext (.ref a)) Q' E s := by
  obtain ⟨hg, hl, hb0, gs, hgs, hgo⟩ := h
  have hgl : g < s.gens.size := (Array.getElem?_eq_some_iff.mp hgs).1
  refine GenW.wpAny_gsz (n := g + 1) hgl (wpAny_pyNext_genexpQ (A := X.A.in1) (P := fun _ _ s => AllBare s.gens ∧ Fin X pins σ Q k s) hh hl hd hg hgs hgo (fun v s1 gs1 hbare hv => ?_) fun s1 hp h1 hk => ?_)
  · intro hsz
    obtain ⟨b, rfl, hg1, hl1, hb1, q1, q2⟩ := hv
    have hG : AllBare (s1.setGen g gs1).gens := allBare_setGen hb1 hbare
    have es : s1.setGen g gs1 = { s1 with gens := (s1.setGen g gs1).gens } := rfl
    refine hy b _ (fun e => by rw [es]; exact (q1 e).gens hG) fun e => ?_
    have hsz1 : g < s1.gens.size := by
      have z : (s1.setGen g gs1).gens.size = s1.gens.size := GenW.setGen_size _ _ _
      have z2 : g + 1 ≤ (s1.setGen g gs1).gens.size := hsz
      omega
    cases n with
    | zero => exact False.elim (q2 e s1.gens hb1)
    | succ m =>
      refine ⟨m, Nat.lt_succ_self m, hg1, hl1, hG, gs1, setGen_at hsz1, ?_⟩
      exact q2 e ((s1.setGen g gs1).setGen g .running).gens (allBare_setGen hG rfl)
  · intro _
    have z := (Fin.gens (G := (s1.setGen g .finished).gens) hp.2 (allBare_setGen hp.1 rfl)).kept hk
    exact he _ z

theorem all_loop {R : Result → Shared → Prop} (hh : X.A.handled = none) (hd : X.A.depth < recursionLimit) (hR : ∀ b s, Fin X pins σ Q b s → R (.ok (.ret (.bool b))) s) :
    ∀ (n : Nat) (s : Shared), Live X pins σ Q true a g n s → codeAny (model X.prog X.w) X.A (.builtin "all.loop" ⟨[.ref a], []⟩) R s := by
  intro n
  induction n using Nat.strongRecOn with
  | ind n ih =>
    intro s h
    refine codeAny_builtin F.entry_all_loop ?_
    rw [Around.under_plainId F.plain_all_loop _]
    show wpAny _ X.A.in1 (pyNext (.ref a) >>= _) _ _ s
    refine wpAny_bind (next_live hh hd h (fun b s1 q1 q2 => ?_) fun s1 q => ?_)
    · refine wpAny_bind (wpAny_holding (wpAny_truthy_bool ?_))
      refine wpAny_bind (wpAny_letGo ?_)
      cases b with
      | true =>
        simp only [if_true]
        obtain ⟨m, hm, hL⟩ := q2 rfl
        exact wpAny_pure ⟨plainId_quiet F.plain_all_loop _, ih m hm _ hL⟩
      | false =>
        simp only [Bool.false_eq_true, if_false]
        exact wpAny_bind (wpAny_rule (wpAny_pure (hR _ _ (q1 rfl))))
    · exact wpAny_bind (wpAny_rule (wpAny_pure (hR _ _ q)))
theorem any_loop {R : Result → Shared → Prop} (hh : X.A.handled = none) (hd : X.A.depth < recursionLimit) (hR : ∀ b s, Fin X pins σ Q b s → R (.ok (.ret (.bool b))) s) :
    ∀ (n : Nat) (s : Shared), Live X pins σ Q false a g n s → codeAny (model X.prog X.w) X.A (.builtin "any.loop" ⟨[.ref a], []⟩) R s := by
  intro n
  induction n using Nat.strongRecOn with
  | ind n ih =>
    intro s h
    refine codeAny_builtin F.entry_any_loop ?_
    rw [Around.under_plainId F.plain_any_loop _]
    show wpAny _ X.A.in1 (pyNext (.ref a) >>= _) _ _ s
    refine wpAny_bind (next_live hh hd h (fun b s1 q1 q2 => ?_) fun s1 q => ?_)
    · refine wpAny_bind (wpAny_holding (wpAny_truthy_bool ?_))
      refine wpAny_bind (wpAny_letGo ?_)
      cases b with
      | false =>
        simp only [Bool.false_eq_true, if_false]
        obtain ⟨m, hm, hL⟩ := q2 rfl
        exact wpAny_pure ⟨plainId_quiet F.plain_any_loop _, ih m hm _ hL⟩
      | true =>
        simp only [if_true]
        exact wpAny_bind (wpAny_rule (wpAny_pure (hR _ _ (q1 rfl))))
    · exact wpAny_bind (wpAny_rule (wpAny_pure (hR _ _ q)))
theorem call_all_live {n : Nat} {s : Shared} {Q' : Value → Shared → Prop} {E : Value → Shared → Prop} (hh : X.A.handled = none) (hd : X.A.depth < recursionLimit) (h : Live X pins σ Q true a g n s) (hQ : ∀ b s', Fin X pins σ Q b s' → Q' (.bool b) s') :
    wpAny (model X.prog X.w) X.A (call (.builtin "all") [.ref a]) Q' E s := by
  refine call_function_tree F.kind_all F.plain_all F.entry_all (F.args_all1 _) ?_
  unfold Builtin.«all»
  refine wpAny_bind (m := oneArg "all" _) (wpAny_pure ?_)
  refine wpAny_bind (wpAny_pyIter_gen h.1 ?_)
  exact wpAny_pure ⟨plainId_quiet F.plain_all_loop _, all_loop hh hd (fun b s' q => hQ b s' q) n s h⟩
theorem call_any_live {n : Nat} {s : Shared} {Q' : Value → Shared → Prop} {E : Value → Shared → Prop} (hh : X.A.handled = none) (hd : X.A.depth < recursionLimit) (h : Live X pins σ Q false a g n s) (hQ : ∀ b s', Fin X pins σ Q b s' → Q' (.bool b) s') :
    wpAny (model X.prog X.w) X.A (call (.builtin "any") [.ref a]) Q' E s := by
  refine call_function_tree F.kind_any F.plain_any F.entry_any (F.args_any1 _) ?_
  unfold Builtin.«any»
  refine wpAny_bind (m := oneArg "any" _) (wpAny_pure ?_)
  refine wpAny_bind (wpAny_pyIter_gen h.1 ?_)
  exact wpAny_pure ⟨plainId_quiet F.plain_any_loop _, any_loop hh hd (fun b s' q => hQ b s' q) n s h⟩
end

/-! ### the generator's own turns -/
theorem mono_no {α : Type} {t : Sem α} {Q Q' : α → Shared → Prop} {M : Model} {A : Around} {E : Value → Shared → Prop} {s : Shared} (h : wpAny M A t Q (fun _ _ => False) s) (hQ : ∀ a s, Q a s → Q' a s) : wpAny M A t Q' E s :=
  wpAny_mono h hQ fun _ _ z => False.elim z

section
variable {X : Cx} {pins : List (Addr × Obj)} {σ : L2.St} {Q : VK} {k : Bool} {a : Addr} {g : Nat} {o : Obj} {s4 : Shared} {H3 : Hp} {sc : Scope} {own : List (Str × Nat)} {ce : Env} {fp : List Addr} {it : Addr} {tn : Nat → Heap → Prop} {J : It} {B : Around}
  {elt tg iter : Expr} {ifs : List Expr} {pos : Pos} {gt : TG} {tt : TT} {te : TE} {W : Nat → Nat → Hp → Prop}
theorem gen_turns (hB : B = X.A.in1.in1.over (.compLoop (.GeneratorExp elt [⟨tg, iter, ifs, 0⟩] sc pos) 0 (.ref it) .none ce) []) (hco : ce.scope.isCoroutine = false)
    (I4 : Inv X pins σ H3 s4) (T : Turn X.prog X.w X.K tg J fp it tn) (ffp : ∀ b ∈ fp, FpOk X pins H3 b) (hafp : ∀ b ∈ fp, b ≠ a) (hgo : ∃ nm qn, o.cls = .type "generator" ∧ o.data = .fields #[.int g 0, nm, qn] ∧ o.slots = #[])
    (pg : PG (gcx X s4 H3 sc ce fp a o B) tg gt) (pt : PTs (gcx X s4 H3 sc ce fp a o B) ifs tt) (pe : PE (gcx X s4 H3 sc ce fp a o B) elt te)
    (turn : ∀ i m H, W i m H → (J.stop i H ∧ Q (.bl k) H) ∨ (J.go i H ∧ ∃ Nx : Hp → Prop, (∀ H', Nx H' → ∃ m', m' < m ∧ W (i + 1) m' H') ∧ ∀ x H', J.yld i H x H' → gt x (wipe σ (own.map (·.2))) H' fun σ2 H2 => wipe σ2 (own.map (·.2)) = wipe σ (own.map (·.2)) ∧ tt σ2 H2 fun b H3 =>
      if b = true then te σ2 H3 fun y H4 => ∃ c, y = .bl c ∧ (c = k → Nx H4) ∧ (c = (!k) → Q (.bl (!k)) H4) else Nx H3)) :
    ∀ (m n i : Nat) (s0 s : Shared) (H : Hp), m < n → Inv (gcx X s4 H3 sc ce fp a o B) [] (wipe σ (own.map (·.2))) H s → tn i s.heap → (∀ b ∈ fp, H b = none) → W i m H →
      Seg (model X.prog X.w) X.A.in1.in1 (GR1 X pins σ Q k) (GY1 X pins σ Q k a g) n s0 (.compLoop (.GeneratorExp elt [⟨tg, iter, ifs, 0⟩] sc pos) 0 (.ref it) .none ce)
        ((model X.prog X.w).den (.compLoop (.GeneratorExp elt [⟨tg, iter, ifs, 0⟩] sc pos) 0 (.ref it) .none ce)) [] s := by
  have stat : ∀ {σ' : L2.St} {H' : Hp} {s' : Shared}, Inv (gcx X s4 H3 sc ce fp a o B) [] σ' H' s' → (∀ b ∈ fp, H' b = none) → ∀ b ∈ fp, FpOk (gcx X s4 H3 sc ce fp a o B) [] H' b := fun {σ' H' s'} I' hn b hb =>
    ⟨hn b hb, (I'.ok.exf b hb).1, I'.ok.exfs b hb, .inl hb, fun x c e => (I'.ok.exf b hb).2 x c e, fun p hp z => by
      have hp : p = (a, o) := by simpa using hp
      subst hp
      exact hafp b hb z.symm⟩
  -- back in the def's context
  have back : ∀ {σ' : L2.St} {H' : Hp} {s' : Shared} {ps : List (Addr × Obj)}, Inv (gcx X s4 H3 sc ce fp a o B) ps σ' H' s' → Inv X pins σ H' s' := fun {σ' H' s' ps} I6 =>
    I4.call' (ch := fp) I6.os I6.base I6.hok I6.bare fun b hb => ⟨(ffp b hb).2.2.2.1, (ffp b hb).2.1, (ffp b hb).2.2.2.2.1, (ffp b hb).2.2.2.2.2⟩
  have isg : ∀ {σ' : L2.St} {H' : Hp} {s' : Shared} {ps : List (Addr × Obj)}, Inv (gcx X s4 H3 sc ce fp a o B) ps σ' H' s' → s'.heap.IsGen a g := fun {σ' H' s' ps} I6 => by
    obtain ⟨nm, qn, h1, h2, h3⟩ := hgo
    exact ⟨o, nm, qn, (I6.pin (a, o) (by simp)).1, h1, h2, h3⟩
  have hy : ∀ v, yieldOut ce v = yieldValue v := fun v => by simp only [yieldOut, hco, Bool.false_eq_true, if_false]
  intro m
  induction m using Nat.strongRecOn with
  | ind m ih =>
    intro n i s0 s H hmn I st nf w
    show Seg _ X.A.in1.in1 _ _ _ s0 _ ((compTurn (.GeneratorExp elt [⟨tg, iter, ifs, 0⟩] sc pos) 0 (.ref it) .none ce).onRaise (leaving ce)) [] s
    rw [compTurn_gen, Sem.onRaise_eq_wrap]
    refine seg_bind_wrap (wpAny_standAt ?_)
    rcases turn i m H w with ⟨stop, q⟩ | ⟨go, Nx, hNx, step⟩
    · refine seg_bind_wrap ?_
      rw [← hB]
      refine mono_no (T.done (gcx X s4 H3 sc ce fp a o B) rfl rfl rfl rfl i [] s _ H (fun _ _ => False) I (stat I nf) st stop) fun r s6 hr => ?_
      obtain ⟨hr, I6⟩ := hr
      subst hr
      exact seg_end (.ok .next) ⟨rfl, I6.bare, H, back I6, q⟩
    · refine seg_bind_wrap ?_
      rw [← hB]
      refine mono_no (T.item (gcx X s4 H3 sc ce fp a o B) rfl rfl rfl rfl i [] s _ H (fun _ _ => False) I (stat I nf) st go) fun r s6 hr => ?_
      obtain ⟨u, hr, h6⟩ := hr
      subst hr
      refine seg_bind_wrap ?_
      rw [← hB]
      refine mono_no h6 fun _ s7 h7 => ?_
      obtain ⟨x, H7, I7, r7, y7, st7, n7⟩ := h7
      have I7' := I7.pinned (stat I7 n7) (T.obj _ _ st7)
      refine seg_bind_wrap ?_
      rw [← hB]
      refine mono_no (pg.run _ s7 _ H7 x u _ I7' r7 (step x H7 y7)) fun _ s8 h8 => ?_
      obtain ⟨σ8, H8, I8, hw8, q8⟩ := h8
      refine seg_bind_wrap ?_
      rw [← hB]
      refine mono_no (pt.run _ s8 σ8 H8 _ I8 q8) fun b s9 h9 => ?_
      obtain ⟨H9, I9, q9⟩ := h9
      -- the turn's end
      have fin : ∀ {s' : Shared} {H' : Hp}, Inv (gcx X s4 H3 sc ce fp a o B) ([] ++ pinsAt fp s7.heap) σ8 H' s' → Nx H' → ∃ m', m' < m ∧ Inv (gcx X s4 H3 sc ce fp a o B) [] (wipe σ (own.map (·.2))) H' s' ∧ tn (i + 1) s'.heap ∧ (∀ b ∈ fp, H' b = none) ∧ W (i + 1) m' H' := fun {s' H'} I' nx => by
        obtain ⟨m', hm, w'⟩ := hNx H' nx
        have pin' : ∀ b ∈ fp, ∀ ob, s7.heap.get? b = some ob → s'.heap.get? b = some ob ∧ H' b = none := fun b hb ob e => by
          have z := I'.pin (b, ob) (List.mem_append_right _ (List.mem_append_right _ (mem_pinsAt hb e)))
          exact ⟨z.1, z.2.1⟩
        have hl : (wipe σ (own.map (·.2))).length = σ8.length := by rw [← hw8, wipe_length]
        refine ⟨m', hm, (I'.unpinned (pins := [])).weak hl (fun j v e => ?_), T.keep _ _ _ st7 fun b hb ob e => (pin' b hb ob e).1, fun b hb => ?_, w'⟩
        · rw [← hw8] at e
          exact (wipe_some e).1
        · obtain ⟨ob, e, _⟩ := T.obj _ _ st7 b hb
          exact (pin' b hb ob e).2
      cases b with
      | false =>
        simp only [Bool.false_eq_true, if_false] at q9 ⊢
        obtain ⟨m', hm, J1, J2, J3, J4⟩ := fin I9 q9
        exact seg_again rfl (ih m' hm n (i + 1) s0 s9 H9 (Nat.lt_trans hm hmn) J1 J2 J3 J4)
      | true =>
        simp only [if_true] at q9 ⊢
        simp only [hy]
        rw [Sem.bind_eq_wrap', Sem.bind_eq_wrap', Sem.wrap_wrap, Sem.wrap_wrap]
        refine seg_wrap ?_
        rw [← hB]
        refine mono_no (pe.run _ s9 σ8 H9 _ I9 q9) fun z s10 h10 => ?_
        obtain ⟨y, H10, I10, r10, c, rfl, c1, c2⟩ := h10
        obtain rfl : z = Value.bool c := r10
        obtain ⟨n', rfl⟩ : ∃ n', n = n' + 1 := ⟨n - 1, by omega⟩
        refine seg_at (seg_yield rfl rfl rfl ⟨c, rfl, isg I10, I10.nolimit, I10.bare, fun e => ⟨H10, back I10, c2 e⟩, fun e G hG => ?_⟩)
        obtain ⟨m', hm, J1, J2, J3, J4⟩ := fin I10 (c1 e)
        exact seg_again rfl (ih m' hm n' (i + 1) _ _ H10 (by omega) (inv_gens J1 hG) J2 J3 J4)

/-- .. from its start -/
theorem gen_begins (hB : B = X.A.in1.in1.over (.compLoop (.GeneratorExp elt [⟨tg, iter, ifs, 0⟩] sc pos) 0 (.ref it) .none ce) []) (hco : ce.scope.isCoroutine = false)
    (I4 : Inv X pins σ H3 s4) (T : Turn X.prog X.w X.K tg J fp it tn) (ffp : ∀ b ∈ fp, FpOk X pins H3 b) (hafp : ∀ b ∈ fp, b ≠ a) (hgo : ∃ nm qn, o.cls = .type "generator" ∧ o.data = .fields #[.int g 0, nm, qn] ∧ o.slots = #[])
    (pg : PG (gcx X s4 H3 sc ce fp a o B) tg gt) (pt : PTs (gcx X s4 H3 sc ce fp a o B) ifs tt) (pe : PE (gcx X s4 H3 sc ce fp a o B) elt te)
    (turn : ∀ i m H, W i m H → (J.stop i H ∧ Q (.bl k) H) ∨ (J.go i H ∧ ∃ Nx : Hp → Prop, (∀ H', Nx H' → ∃ m', m' < m ∧ W (i + 1) m' H') ∧ ∀ x H', J.yld i H x H' → gt x (wipe σ (own.map (·.2))) H' fun σ2 H2 => wipe σ2 (own.map (·.2)) = wipe σ (own.map (·.2)) ∧ tt σ2 H2 fun b H3 =>
      if b = true then te σ2 H3 fun y H4 => ∃ c, y = .bl c ∧ (c = k → Nx H4) ∧ (c = (!k) → Q (.bl (!k)) H4) else Nx H3))
    {m : Nat} {s0 s : Shared} {H : Hp} (I : Inv (gcx X s4 H3 sc ce fp a o B) [] (wipe σ (own.map (·.2))) H s) (st : tn 0 s.heap) (nf : ∀ b ∈ fp, H b = none) (w : W 0 m H) :
      Seg (model X.prog X.w) X.A.in1.in1 (GR1 X pins σ Q k) (GY1 X pins σ Q k a g) (m + 1) s0 (.compStart (.GeneratorExp elt [⟨tg, iter, ifs, 0⟩] sc pos) 0 (.ref it) .none ce)
        ((model X.prog X.w).den (.compStart (.GeneratorExp elt [⟨tg, iter, ifs, 0⟩] sc pos) 0 (.ref it) .none ce)) [] s := by
  have loop := gen_turns (W := W) hB hco I4 T ffp hafp hgo pg pt pe turn m (m + 1) 0 s0 s H (Nat.lt_succ_self m) I st nf w
  show Seg _ X.A.in1.in1 _ _ _ s0 _ ((compStart (.GeneratorExp elt [⟨tg, iter, ifs, 0⟩] sc pos) 0 (.ref it) .none ce).onRaise (leaving ce)) [] s
  unfold compStart
  rw [Sem.onRaise_eq_wrap]
  show Seg _ X.A.in1.in1 _ _ _ s0 _ ((ask >>= _).wrap _ _ _ _) [] s
  refine seg_bind_wrap (wpAny_askSetting ?_)
  split
  · exact seg_again rfl loop
  · first
      | exact seg_bind_wrap (wpAny_rule (seg_bind_wrap (wpAny_standAt (seg_bind_wrap (T.self _ 0 s _ _ st (seg_again rfl loop))))))
      | (refine seg_bind_wrap (wpAny_rule ?_); show Seg _ X.A.in1.in1 _ _ _ s0 _ ((standAt iter.pos >>= _).wrap _ _ _ _) [] s; exact seg_bind_wrap (wpAny_standAt (seg_bind_wrap (T.self _ 0 s _ _ st (seg_again rfl loop)))))
end

/-- the generator expression's own scope -/
structure GScp (X : Cx) (sc : Scope) (own : List (Str × Nat)) : Prop where
  co : sc.isCoroutine = false
  cell : ∀ y ∈ sc.names, y.2 ≠ .cell
  dot : sc.names.lookup (".0" : Str) = some NameKind.local
  blk : BlkOk X.N X.env.scope sc own

section
variable {X : Cx} {pins : List (Addr × Obj)} {σ : L2.St} {H : Hp} {s : Shared} {Q : VK} {k : Bool} {j : Nat} {c P : Addr} {sc : Scope} {own : List (Str × Nat)} {elt tg iter : Expr} {ifs : List Expr} {gpos p pos : Pos} {wi : TI} {gt : TG} {tt : TT} {te : TE}
theorem gen_room {X : Cx} {j : Nat} {code : Code} (hr : Room (j + 1) X.A) (h1 : code.weight = 1) (h2 : code.cUnits ≤ 3) : Room j (X.A.in1.in1.over code []) := by
  refine ⟨hr.hd, ?_, ?_⟩
  · have e : (X.A.in1.in1.over code []).depth = X.A.depth + 0 + code.weight := rfl
    have := hr.dp
    rw [e, h1]
    omega
  · have e : (X.A.in1.in1.over code []).units = X.A.units + 1 + 1 + 0 + code.cUnits := rfl
    have := hr.un
    rw [e]
    omega
theorem gen_frames {A : Around} {l : List Env} {ce : Env} {iv acc : Value} (h : A.frames = some l) : (A.in1.in1.over (.compLoop (.GeneratorExp elt [⟨tg, iter, ifs, 0⟩] sc gpos) 0 iv acc ce) []).frames = some (ce :: l) := by
  have e : A.in1.in1.frames = some l := h
  have e2 : (A.in1.in1.over (.compLoop (.GeneratorExp elt [⟨tg, iter, ifs, 0⟩] sc gpos) 0 iv acc ce) []).frames = pushEnvs (Code.envs (.compLoop (.GeneratorExp elt [⟨tg, iter, ifs, 0⟩] sc gpos) 0 iv acc ce)) (pushEnvs (envsOf []) A.in1.in1.frames) := rfl
  rw [e2, e]
  rfl
theorem gen_made {Q' : Value → Shared → Prop} (hr : Room (j + 1) X.A) (hN : X.N.Nodup) (TB : TabB X.base X.mg c P) (hcode : X.env.code = .ref c) (S : GScp X sc own) (hi : PI X tg iter wi)
    (hg : ∀ (s : Shared) (H : Hp) (cl : List (Str × Addr)) (C : Addr) (code : Value) (fp : List Addr) (a : Addr) (o : Obj) (B : Around), PG (gcx X s H sc (genEnv sc cl C code builtinsNs X.env) fp a o B) tg gt)
    (ht : ∀ (s : Shared) (H : Hp) (cl : List (Str × Addr)) (C : Addr) (code : Value) (fp : List Addr) (a : Addr) (o : Obj) (B : Around), Room j B → PTs (gcx X s H sc (genEnv sc cl C code builtinsNs X.env) fp a o B) ifs tt)
    (he : ∀ (s : Shared) (H : Hp) (cl : List (Str × Addr)) (C : Addr) (code : Value) (fp : List Addr) (a : Addr) (o : Obj) (B : Around), Room j B → PE (gcx X s H sc (genEnv sc cl C code builtinsNs X.env) fp a o B) elt te)
    (hs : ∀ v, genFold iter X.env v = pure v) (I : Inv X pins σ H s) (h : tGen k P wi gt tt te (own.map (·.2)) σ H Q) (hQ : ∀ a g n s5, Live X pins σ Q k a g n s5 → Q' (.ref a) s5) :
    wpAny (model X.prog X.w) X.A (eval (.GeneratorExp elt [⟨tg, iter, ifs, 0⟩] sc gpos) X.env) Q' X.xe s := by
  have hfree : ∀ y ∈ sc.names, y.2 = .free → ∃ c, X.env.cells.lookup y.1 = some c := fun y hy e => by
    rcases S.blk.free y hy e with k | k
    · exact I.ok.has _ (.inl k)
    · exact I.ok.has _ (.inr k)
  refine wpAny_GeneratorExp_make S.co (closure_ok hfree) S.cell S.dot S.blk.kind (by have := hr.dp; omega) ?_ hs
  refine thn (hi.run pins s σ H _ I h) fun xv s1 hx => thn hx fun itv s2 h2 => ?_
  obtain ⟨it, fp, tn, J, H2, rfl, I2, T, st2, f2, ⟨ps, hP, hTr⟩, q⟩ := h2
  have hPs : s2.heap.get? P = some { cls := .none, data := .fields ps } := I2.hok P _ hP
  have cd : PySem.W.CodeHd s2.heap c P := TB.code.keeps fun b u e => I2.bk b u e
  refine ⟨I2.nolimit, ?_⟩
  have nP : ∀ b, H2 b = none → b ≠ P := fun b e z => by
    rw [z, hP] at e
    cases e
  have szf : ∀ b ∈ fp, b < s2.heap.objs.size := fun b hb => by
    obtain ⟨u, e, _⟩ := T.obj _ _ st2 b hb
    exact Heap.lt_size e
  have cont : ∀ (code : Value) (h3 : Heap) (tk : Nat) (ps' : Array Value), Heap.ExtBut P s2.heap h3 → s2.heap.objs.size ≤ h3.objs.size → h3.get? P = some { cls := .none, data := .fields ps' } → (∃ more, ps' = ps ++ more) → TriplesOk ps'.toList →
      wpAny (model X.prog X.w) X.A (builtinsFor X.env.globals X.env.builtins) (fun bi s₄ =>
        ∀ h', h'.Ns s₄.heap.objs.size (fun y => if y = ".0" then some (.ref it) else none) → Heap.SameBut s₄.heap.objs.size (s₄.heap.push { cls := .type "frame", data := .dict #[] }) h' →
          Q' (.ref h'.objs.size) { s₄ with
            gens := s₄.gens.push (.fresh (.compStart (.GeneratorExp elt [⟨tg, iter, ifs, 0⟩] sc gpos) 0 (.ref it) .none (genEnv sc (cloFrom X.env.cells sc.names []) s₄.heap.objs.size code bi X.env))),
            toks := s₄.toks + 1 + 1 + 1,
            heap := h'.push { cls := .type "generator", data := .fields #[.int s₄.gens.size 0, .str "<genexpr>" (s₄.toks + 1), .str (X.env.qual ++ "<genexpr>") (s₄.toks + 1 + 1)] } }) X.xe { s2 with heap := h3, toks := tk } := by
    intro code h3 tk ps' hx3 hsz3 hP3 hmore ht3
    have I3 : Inv X pins σ (upd H2 P (.tbl ps')) { s2 with heap := h3, toks := tk } := by
      obtain ⟨more, rfl⟩ := hmore
      exact inv_tab (more := more) (h' := h3) (g' := s2.gens) (d' := s2.drawn) (t' := tk) I2 hP (fun b u hb e => hx3 b u hb e) hP3 I2.bare
    generalize hH3 : upd H2 P (.tbl ps') = H3 at I3
    have hT3 : Tabbed P H2 H3 := by
      rw [← hH3]
      exact ⟨⟨ps', upd_same, ht3⟩, fun b hb => upd_ne hb⟩
    obtain ⟨W, ⟨m0, w0⟩, turn⟩ := q H3 hT3
    obtain ⟨bm, ob, e1, e2, e3, e4, e5, e6, e7, e8⟩ := TB.bm
    refine wpAny_builtinsFor (m := X.mg) (by rw [I3.ok.glob]; exact I3.mod.glob.keeps I3.bk) e1 e2 (I3.bk _ _ e5) e6 e7 e8 ?_
    intro h' hn' hs'
    have hsz : h'.objs.size = h3.objs.size + 1 := by
      rw [hs'.1, Heap.size_push]
    have keep' : ∀ b u, h3.get? b = some u → h'.get? b = some u := fun b u e => hs'.extBut b u (Nat.ne_of_lt (Heap.lt_size e)) (Heap.get?_push_of_some _ e)
    have hlt : h3.objs.size < h'.objs.size := by
      have hsz' : h'.objs.size = h3.objs.size + 1 := hsz
      omega
    have f3 : ∀ b ∈ fp, FpOk X pins H3 b := fun b hb => by
      have z := f2 b hb
      exact ⟨(hT3.2 b (nP b z.1)).trans z.1, z.2⟩
    have st3 : tn 0 h3 := T.keep _ _ _ st2 fun b hb u e => hx3 b u (nP b (f2 b hb).1) e
    have gb : AllBare (s2.gens.push (.fresh (.compStart (.GeneratorExp elt [⟨tg, iter, ifs, 0⟩] sc gpos) 0 (.ref it) .none (genEnv sc (cloFrom X.env.cells sc.names []) h3.objs.size code builtinsNs X.env)))) := I2.bare.push rfl
    have hsz2 : ∀ b ∈ fp, b < h3.objs.size := fun b hb => Nat.lt_of_lt_of_le (szf b hb) hsz3
    have keep5 : ∀ (u : Obj) b v, h3.get? b = some v → (h'.push u).get? b = some v := fun u b v e => Heap.get?_push_of_some _ (keep' b v e)
    refine hQ _ s2.gens.size (m0 + 1) _ ⟨⟨_, _, _, Heap.get?_push_size _ rfl, rfl, rfl, rfl⟩, I3.nolimit.keeps (keep5 _), gb, _, Array.getElem?_push_size .., rfl, ?_⟩
    refine gen_begins (own := own) (fp := fp) (tn := tn) (J := J) (W := W) (H3 := H3) (s4 := { s2 with heap := h3, toks := tk }) rfl S.co I3 T f3 (fun b hb z => ?_) ⟨_, _, rfl, rfl, rfl⟩ (hg _ _ _ _ _ _ _ _ _) (ht _ _ _ _ _ _ _ _ _ (gen_room hr rfl (by show (3 : Nat) ≤ 3; decide))) (he _ _ _ _ _ _ _ _ _ (gen_room hr rfl (by show (3 : Nat) ≤ 3; decide))) turn
      (inv_gens (gen_start (s' := { s2 with heap := h'.push _, toks := tk + 1 + 1 + 1, gens := s2.gens.push _ }) (a := h'.objs.size) I3 S.blk S.cell hN (fun b hb => ⟨f3 b hb, hsz2 b hb⟩) rfl rfl rfl rfl rfl rfl ?_ hr.hd rfl gb (keep5 _) ⟨_, Heap.Ns.push hn' _⟩ (Heap.get?_push_size _ rfl) hlt (fun v z => by cases z)) (allBare_setGen (s := { s2 with heap := h'.push _, toks := tk + 1 + 1 + 1, gens := s2.gens.push _ }) gb rfl))
      (T.keep _ _ _ st3 fun b hb u e => keep5 _ b u e) (fun b hb => (f3 b hb).1) w0
    · have h1 := hsz2 b hb
      rw [z] at h1
      exact absurd (Nat.lt_trans h1 hlt) (Nat.lt_irrefl _)
    · exact gen_frames I3.ok.frames
  cases hf : codeAmong gpos ps.toList with
  | none =>
    refine wpAny_genexprCodeX hcode (cd.code hPs hTr) (cd.tab hPs) hf fun c' h' tk hx hge hlt hco' _ htab' _ => ?_
    obtain ⟨o1, vs, f1, tf, fl, tg1, inF, tx, tt1, op, _, _, _, _, _, _, _, _, _, htr, _⟩ := hco'
    exact cont _ h' tk _ hx (Nat.le_trans hge (Nat.le_of_lt hlt)) htab'.2 ⟨_, rfl⟩ htr
  | some cv =>
    refine wpAny_genexprCode_hit hcode (cd.code hPs hTr) hf ?_
    exact cont cv s2.heap s2.toks ps (Heap.ExtBut.refl _ _) (Nat.le_refl _) hPs ⟨#[], by simp⟩ hTr

/-- all(elt for tg in iter if ..) -/
theorem pe_allG (hr : Room (j + 1) X.A) (hN : X.N.Nodup) (hgl : Gl X "all") (hm : X.mg "all" = none) (hb : bootBuiltins "all" = some (.builtin "all")) (TB : TabB X.base X.mg c P) (hcode : X.env.code = .ref c) (S : GScp X sc own) (hi : PI X tg iter wi)
    (hg : ∀ (s : Shared) (H : Hp) (cl : List (Str × Addr)) (C : Addr) (code : Value) (fp : List Addr) (a : Addr) (o : Obj) (B : Around), PG (gcx X s H sc (genEnv sc cl C code builtinsNs X.env) fp a o B) tg gt)
    (ht : ∀ (s : Shared) (H : Hp) (cl : List (Str × Addr)) (C : Addr) (code : Value) (fp : List Addr) (a : Addr) (o : Obj) (B : Around), Room j B → PTs (gcx X s H sc (genEnv sc cl C code builtinsNs X.env) fp a o B) ifs tt)
    (he : ∀ (s : Shared) (H : Hp) (cl : List (Str × Addr)) (C : Addr) (code : Value) (fp : List Addr) (a : Addr) (o : Obj) (B : Around), Room j B → PE (gcx X s H sc (genEnv sc cl C code builtinsNs X.env) fp a o B) elt te)
    (hs : ∀ v, genFold iter X.env v = pure v := by intro _; rfl)
    (hst : starEach [.GeneratorExp elt [⟨tg, iter, ifs, 0⟩] sc gpos] X.env = (false, eval (.GeneratorExp elt [⟨tg, iter, ifs, 0⟩] sc gpos) X.env) :: starEach [] X.env := by rfl) :
    PE X (.Call (.Name "all" p) [.GeneratorExp elt [⟨tg, iter, ifs, 0⟩] sc gpos] [] pos) (tGen true P wi gt tt te (own.map (·.2))) := by
  refine ⟨fun pins s σ H Q I h => ?_⟩
  refine wpAny_Call_Name_kw (ld_blt I hgl hm hb ?_)
  refine PyProof.Rows.callWith_builtin1 ?_ hst (by rfl)
  rw [hst]
  show wpAny _ _ (spliced ((false, eval (.GeneratorExp elt [⟨tg, iter, ifs, 0⟩] sc gpos) X.env) :: backTo pos (starEach [] X.env))) _ _ s
  refine Calls.spliced_cons (gen_made hr hN TB hcode S hi hg ht he hs I h fun a g n s5 hL => ?_)
  refine Calls.spliced_nil ?_
  refine call_all_live hr.hd (by have := hr.dp; omega) hL fun b s' hf => ?_
  obtain ⟨H', I', q⟩ := hf
  exact ⟨.bl b, H', I', rfl, q⟩
/-- any(elt for tg in iter if ..) -/
theorem pe_anyG (hr : Room (j + 1) X.A) (hN : X.N.Nodup) (hgl : Gl X "any") (hm : X.mg "any" = none) (hb : bootBuiltins "any" = some (.builtin "any")) (TB : TabB X.base X.mg c P) (hcode : X.env.code = .ref c) (S : GScp X sc own) (hi : PI X tg iter wi)
    (hg : ∀ (s : Shared) (H : Hp) (cl : List (Str × Addr)) (C : Addr) (code : Value) (fp : List Addr) (a : Addr) (o : Obj) (B : Around), PG (gcx X s H sc (genEnv sc cl C code builtinsNs X.env) fp a o B) tg gt)
    (ht : ∀ (s : Shared) (H : Hp) (cl : List (Str × Addr)) (C : Addr) (code : Value) (fp : List Addr) (a : Addr) (o : Obj) (B : Around), Room j B → PTs (gcx X s H sc (genEnv sc cl C code builtinsNs X.env) fp a o B) ifs tt)
    (he : ∀ (s : Shared) (H : Hp) (cl : List (Str × Addr)) (C : Addr) (code : Value) (fp : List Addr) (a : Addr) (o : Obj) (B : Around), Room j B → PE (gcx X s H sc (genEnv sc cl C code builtinsNs X.env) fp a o B) elt te)
    (hs : ∀ v, genFold iter X.env v = pure v := by intro _; rfl)
    (hst : starEach [.GeneratorExp elt [⟨tg, iter, ifs, 0⟩] sc gpos] X.env = (false, eval (.GeneratorExp elt [⟨tg, iter, ifs, 0⟩] sc gpos) X.env) :: starEach [] X.env := by rfl) :
    PE X (.Call (.Name "any" p) [.GeneratorExp elt [⟨tg, iter, ifs, 0⟩] sc gpos] [] pos) (tGen false P wi gt tt te (own.map (·.2))) := by
  refine ⟨fun pins s σ H Q I h => ?_⟩
  refine wpAny_Call_Name_kw (ld_blt I hgl hm hb ?_)
  refine PyProof.Rows.callWith_builtin1 ?_ hst (by rfl)
  rw [hst]
  show wpAny _ _ (spliced ((false, eval (.GeneratorExp elt [⟨tg, iter, ifs, 0⟩] sc gpos) X.env) :: backTo pos (starEach [] X.env))) _ _ s
  refine Calls.spliced_cons (gen_made hr hN TB hcode S hi hg ht he hs I h fun a g n s5 hL => ?_)
  refine Calls.spliced_nil ?_
  refine call_any_live hr.hd (by have := hr.dp; omega) hL fun b s' hf => ?_
  obtain ⟨H', I', q⟩ := hf
  exact ⟨.bl b, H', I', rfl, q⟩
end
end Rd

namespace Rd
open PySem PySem.Spec PyProof.Rows L2 GxR

/-! ### heaps: all that was tracked is as it was, but for the tables of the defs that hold a generator expression -/
def Tb (Ps : List Addr) (H : Hp) : Prop := ∀ P ∈ Ps, TabG H P
def Kp (Ps : List Addr) (H H' : Hp) : Prop := Tb Ps H' ∧ ∀ b o, b ∉ Ps → H b = some o → H' b = some o
theorem Kp.refl {Ps : List Addr} {H : Hp} (t : Tb Ps H) : Kp Ps H H := ⟨t, fun _ _ _ e => e⟩
theorem Kp.trans {Ps : List Addr} {H H1 H2 : Hp} (a : Kp Ps H H1) (b : Kp Ps H1 H2) : Kp Ps H H2 := ⟨b.1, fun c o hc e => b.2 c o hc (a.2 c o hc e)⟩
theorem Tb.notin {Ps : List Addr} {H : Hp} (t : Tb Ps H) {b : Addr} {o : HO} (e : H b = some o) (ho : ∀ ps, o ≠ .tbl ps) : b ∉ Ps := fun hb => by
  obtain ⟨ps, h1, _⟩ := t b hb
  rw [e] at h1
  exact ho ps (Option.some.inj h1)
theorem Tb.none {Ps : List Addr} {H : Hp} (t : Tb Ps H) {b : Addr} (e : H b = Option.none) : b ∉ Ps := fun hb => by
  obtain ⟨ps, h1, _⟩ := t b hb
  rw [e] at h1
  cases h1
theorem Tb.same {Ps : List Addr} {H H' : Hp} (t : Tb Ps H) (s : Same H H') : Tb Ps H' := fun P hP => by
  obtain ⟨ps, h1, h2⟩ := t P hP
  exact ⟨ps, s _ _ h1, h2⟩
theorem Kp.same {Ps : List Addr} {H H' : Hp} (t : Tb Ps H) (s : Same H H') : Kp Ps H H' := ⟨t.same s, fun b o _ e => s b o e⟩
theorem Kp.at {Ps : List Addr} {H H' : Hp} (t : Tb Ps H) (k : Kp Ps H H') {b : Addr} {o : HO} (e : H b = some o) (ho : ∀ ps, o ≠ .tbl ps) : H' b = some o := k.2 b o (t.notin e ho) e
theorem Kp.seq {Ps : List Addr} {H H' : Hp} {K : PySem.W.Frag} {a : Addr} {xs : List V} (t : Tb Ps H) (k : Kp Ps H H') (h : SqL K H a xs) : SqL K H' a xs := by
  rcases h with (h | ⟨o, h⟩) | h
  · exact .inl (.inl (k.at t h fun _ z => by cases z))
  · exact .inl (.inr ⟨o, k.at t h fun _ z => by cases z⟩)
  · exact .inr h
theorem Kp.seqT {Ps : List Addr} {H H' : Hp} {K : PySem.W.Frag} {a : Addr} {xs : List V} (t : Tb Ps H) (k : Kp Ps H H') (h : SqT K H a xs) : SqT K H' a xs := by
  rcases h with (h | ⟨o, h⟩) | h
  · exact .inl (.inl (k.at t h fun _ z => by cases z))
  · exact .inl (.inr ⟨o, k.at t h fun _ z => by cases z⟩)
  · exact .inr h
theorem same_upd {H : Hp} {p : Addr} {o : HO} (h : H p = Option.none) : Same H (upd H p o) := fun b x e => by
  rw [upd_ne (ne_of_none e h)]
  exact e
theorem Kp.new {Ps : List Addr} {H : Hp} (t : Tb Ps H) {p : Addr} {o : HO} (h : H p = Option.none) : Kp Ps H (upd H p o) := Kp.same t (same_upd h)
theorem Kp.tab {Ps : List Addr} {P : Addr} {H H' : Hp} (t : Tb Ps H) (hP : P ∈ Ps) (h : Tabbed P H H') : Kp Ps H H' := by
  refine ⟨fun p hp => ?_, fun b o hb e => ?_⟩
  · by_cases z : p = P
    · rw [z]
      exact h.1
    · obtain ⟨ps, h1, h2⟩ := t p hp
      exact ⟨ps, (h.2 p z).trans h1, h2⟩
  · have z : b ≠ P := fun z => hb (by rw [z]; exact hP)
    exact (h.2 b z).trans e
/-- what was free before is free or new -/
theorem Kp.free {Ps : List Addr} {H H' : Hp} (t : Tb Ps H) (k : Kp Ps H H') {l : Addr} (h : H' l = Option.none) : H l = Option.none := by
  cases q : H l with
  | none => rfl
  | some o =>
    by_cases hl : l ∈ Ps
    · obtain ⟨ps, h1, _⟩ := k.1 l hl
      rw [h] at h1
      cases h1
    · rw [k.2 l o hl q] at h
      cases h

/-! ### a def whose code object is known -/
theorem okC {CX : CXT} {P : Program} {w : World} {K : PySem.W.Frag} {mg : Str → Option Value} {base : Heap} {x qual : Str} {params : Arguments} {body : List Stmt} {scope : Scope} {f : Addr} {fd : FuncData} {N ps : List Str} {k : Nat} {sp : Sp} {p : He.Defn}
    (F : FunD K x qual params body scope [] [] f fd) (hf : f = He.fAd K p) (S : FnScope N ps scope) (len : ∀ vs H Q E, sp vs H Q E → vs.length = ps.length)
    (hbody : ∀ (A : Around) (outer : List Env) (s : Shared) (H : Hp) (vs : List V) (Q : VK) (E : XK), Room k (A.deeper (envOfC qual scope s.heap.objs.size f (.ref (He.codeOf K p)))) → sp vs H Q E →
      ∃ t, PSs (cxOf CX P w K mg base N qual scope f (.ref (He.codeOf K p)) A outer s H E) body t ∧ t { nx := fun _ H' => Q .non H', rt := Q } (start N vs) H) : FnOk P w K mg base CX (k + 1) f fd ps sp := by
  obtain ⟨oc, od, dV, kV, doc, pm, an, cdv, ct, osl, rfl, lk, hcd, _, _⟩ := F.ex
  obtain ⟨c, rfl⟩ := He.codeIn_ref hcd
  have e : He.codeOf K p = c := He.codeOf_eq (by rw [← hf]; exact lk) rfl
  rw [e] at hbody
  exact fn_of lk hcd S len fun A outer s H vs Q E hr hsp => hbody A outer s H vs Q E hr hsp

/-! ### readings of generator expressions -/
theorem take_all {α : Type} {l : List α} {pb : α → Bool} {i : Nat} {x : α} (h : l[i]? = some x) (ht : (l.take i).all pb = true) : (l.take (i + 1)).all pb = pb x := by
  rw [List.take_add_one, List.all_append, ht, h]
  simp
theorem all_fail {α : Type} {l : List α} {pb : α → Bool} {i : Nat} {x : α} (h : l[i]? = some x) (hx : pb x = false) : l.all pb = false := by
  cases e : l.all pb with
  | false => rfl
  | true =>
    have := List.all_eq_true.mp e x (List.mem_of_getElem? h)
    rw [hx] at this
    cases this
/-- all(.. for x in text) -/
theorem read_all_str {x : Str} {pb : Nat → Bool} {Pv : Hp → Prop} {g : TG} {te : TE} {vs : List Nat} {σ : L2.St} {H2 : Hp} {Q : VK} (h0 : Pv H2)
    (he : ∀ (i c : Nat) (H : Hp) (R : V → Hp → Prop), x.cps.toList[i]? = some c → Pv H → (∀ H4, Pv H4 → R (.bl (pb c)) H4) → g (.str ⟨#[c]⟩) (wipe σ vs) H fun σ2 H2 => wipe σ2 vs = wipe σ vs ∧ te σ2 H2 R) (hd : ∀ H, Pv H → Q (.bl (x.cps.toList.all pb)) H) :
    ∃ W : Nat → Nat → Hp → Prop, (∃ m, W 0 m H2) ∧ ∀ i m H, W i m H →
      ((Its x).stop i H ∧ Q (.bl true) H) ∨ ((Its x).go i H ∧ ∃ Nx : Hp → Prop, (∀ H', Nx H' → ∃ m', m' < m ∧ W (i + 1) m' H') ∧ ∀ v H', (Its x).yld i H v H' → g v (wipe σ vs) H' fun σ2 H2 => wipe σ2 vs = wipe σ vs ∧ tYes σ2 H2 fun b H3 =>
        if b = true then te σ2 H3 fun y H4 => ∃ c, y = .bl c ∧ (c = true → Nx H4) ∧ (c = (!true) → Q (.bl (!true)) H4) else Nx H3) := by
  have esz : x.cps.size = x.cps.toList.length := by simp
  refine ⟨fun i m H => m = x.cps.size - i ∧ i ≤ x.cps.size ∧ Pv H ∧ (x.cps.toList.take i).all pb = true, ⟨x.cps.size, by simp, Nat.zero_le _, h0, rfl⟩, ?_⟩
  rintro i m H ⟨rfl, hi, hp, ha⟩
  by_cases hlt : i < x.cps.size
  · refine .inr ⟨hlt, fun H' => Pv H' ∧ (x.cps.toList.take (i + 1)).all pb = true, fun H' q => ⟨x.cps.size - (i + 1), by omega, rfl, hlt, q⟩, fun v H' y => ?_⟩
    obtain ⟨rfl, c, hc, rfl⟩ := y
    have hc' : x.cps.toList[i]? = some c := by rw [Array.getElem?_toList]; exact hc
    refine he i c H' _ hc' hp fun H4 p4 => ⟨pb c, rfl, fun z => ⟨p4, ?_⟩, fun z => ?_⟩
    · rw [take_all hc' ha]
      exact z
    · have z : pb c = false := z
      have q5 := hd H4 p4
      rw [all_fail hc' z] at q5
      exact q5
  · have e : i = x.cps.size := by omega
    subst e
    refine .inl ⟨Nat.le_refl _, ?_⟩
    have q := hd H hp
    rw [List.take_of_length_le (by omega)] at ha
    rw [ha] at q
    exact q
/-- all(.. for x in xs), xs a tuple -/
theorem read_all_tup {K : PySem.W.Frag} {a : Addr} {xs : List V} {pb : V → Bool} {Pv : Hp → Prop} {g : TG} {te : TE} {vs : List Nat} {σ : L2.St} {H2 : Hp} {Q : VK} (h0 : Pv H2) (hl : ∀ H, Pv H → SqT K H a xs)
    (he : ∀ (i : Nat) (v : V) (H : Hp) (R : V → Hp → Prop), xs[i]? = some v → Pv H → (∀ H4, Pv H4 → R (.bl (pb v)) H4) → g v (wipe σ vs) H fun σ2 H2 => wipe σ2 vs = wipe σ vs ∧ te σ2 H2 R) (hd : ∀ H, Pv H → Q (.bl (xs.all pb)) H) :
    ∃ W : Nat → Nat → Hp → Prop, (∃ m, W 0 m H2) ∧ ∀ i m H, W i m H →
      ((Itt K a).stop i H ∧ Q (.bl true) H) ∨ ((Itt K a).go i H ∧ ∃ Nx : Hp → Prop, (∀ H', Nx H' → ∃ m', m' < m ∧ W (i + 1) m' H') ∧ ∀ v H', (Itt K a).yld i H v H' → g v (wipe σ vs) H' fun σ2 H2 => wipe σ2 vs = wipe σ vs ∧ tYes σ2 H2 fun b H3 =>
        if b = true then te σ2 H3 fun y H4 => ∃ c, y = .bl c ∧ (c = true → Nx H4) ∧ (c = (!true) → Q (.bl (!true)) H4) else Nx H3) := by
  refine ⟨fun i m H => m = xs.length - i ∧ i ≤ xs.length ∧ Pv H ∧ (xs.take i).all pb = true, ⟨xs.length, by simp, Nat.zero_le _, h0, rfl⟩, ?_⟩
  rintro i m H ⟨rfl, hi, hp, ha⟩
  by_cases hlt : i < xs.length
  · refine .inr ⟨⟨xs, xs[i], hl H hp, List.getElem?_eq_getElem hlt⟩, fun H' => Pv H' ∧ (xs.take (i + 1)).all pb = true, fun H' q => ⟨xs.length - (i + 1), by omega, rfl, hlt, q⟩, fun v H' y => ?_⟩
    obtain ⟨rfl, y⟩ := y
    have hc' : xs[i]? = some v := y xs (hl H' hp)
    refine he i v H' _ hc' hp fun H4 p4 => ⟨pb v, rfl, fun z => ⟨p4, ?_⟩, fun z => ?_⟩
    · rw [take_all hc' ha]
      exact z
    · have z : pb v = false := z
      have q5 := hd H4 p4
      rw [all_fail hc' z] at q5
      exact q5
  · have e : i = xs.length := by omega
    subst e
    refine .inl ⟨⟨xs, hl H hp, Nat.le_refl _⟩, ?_⟩
    have q := hd H hp
    rw [List.take_of_length_le (Nat.le_refl _)] at ha
    rw [ha] at q
    exact q
end Rd

/-! list(reversed(text)) -/
namespace Rs
open PySem PySem.Spec PyProof.Rows RT
theorem norev_str : typeLookup (.type "str") "__reversed__" = pure none := by rw [typeLookup_type, builtinLookup_eq_fast]; kernel_rfl
theorem item_str : typeLookup (.type "str") "__getitem__" = pure (some (.builtin "str.__getitem__")) := by rw [typeLookup_type, builtinLookup_eq_fast]; kernel_rfl
theorem nolen_rev : typeLookup (.type "reversed") "__len__" = pure none := by rw [typeLookup_type, builtinLookup_eq_fast]; kernel_rfl
theorem hint_rev : typeLookup (.type "reversed") "__length_hint__" = pure (some (.builtin "reversed.__length_hint__")) := by rw [typeLookup_type, builtinLookup_eq_fast]; kernel_rfl
theorem slot_hint : Slot "reversed" "__length_hint__" "reversed.__length_hint__" :=
  .of (owner := "reversed") (n := "__length_hint__") hint_rev (by decide +kernel) (by decide +kernel) (by decide +kernel) (by first | exact .inl (by decide +kernel) | exact .inr (by decide +kernel)) (by rw [isSubtype_type]; kernel_rfl)
theorem entry_hint : entryFor table "reversed.__length_hint__" = some Builtin.«reversed.__length_hint__» := entryFor_of_tree (by kernel_rfl)
theorem args_hint (a : Value) : argsOk "reversed.__length_hint__" ⟨[a], []⟩ := by
  unfold argsOk
  rw [signature?_of (id := "reversed.__length_hint__") (n := ['_', '_', 't', 'n', 'i', 'h', '_', 'h', 't', 'g', 'n', 'e', 'l', '_', '_']) (o := ['d', 'e', 's', 'r', 'e', 'v', 'e', 'r']) (by kernel_rfl) owner_rt]
  kernel_rfl
theorem desc_hint : typeOf (.builtin "reversed.__length_hint__") = pure (.type "method_descriptor") := by show builtinType _ = _; rw [builtinType_eq_fast]; kernel_rfl
theorem sub_str_dict : isSubtype (.type "str") (.type "dict") = pure false := by rw [isSubtype_type]; kernel_rfl
def rsObj (x : Str) (t : Tok) (i : Int) : Obj := { cls := .type "reversed", data := .fields #[.str x t, rawInt i] }
def IsRs (h : Heap) (a : Addr) (x : Str) (t : Tok) (i : Int) : Prop := ∃ o, h.get? a = some o ∧ o.cls = .type "reversed" ∧ o.data = .fields #[.str x t, rawInt i]
theorem IsRs.at {h h' : Heap} {a : Addr} {x : Str} {t : Tok} {i : Int} (z : IsRs h a x t i) (e : ∀ o, h.get? a = some o → h'.get? a = some o) : IsRs h' a x t i := let ⟨o, ho, r⟩ := z; ⟨o, e _ ho, r⟩
section
variable {prog : Program} {w : World} {A : Around} {E : Value → Shared → Prop} {s : Shared} {x : Str} {t : Tok}
theorem IsRs.typeIs {a : Addr} {i : Int} (z : IsRs s.heap a x t i) : s.TypeIs (.ref a) "reversed" := let ⟨o, ho, hc, _⟩ := z; ⟨o, ho, hc⟩
theorem line_index {n : Nat} (h : n ≤ sizeLine) : ¬ ((n : Int) ≥ 2 ^ 63) := by
  rw [sizeLine_eq] at h
  omega
theorem code_rs {Q1 : Value → Shared → Prop} (hz : x.length ≤ sizeLine) (h : Q1 (.ref s.heap.objs.size) { s with heap := s.heap.push (rsObj x t ((x.length : Int) - 1)), toks := s.toks + 1 + 1 }) :
    codeAny (model prog w) A (.call (.builtin "reversed.__new__") ⟨[.type "reversed", .str x t], []⟩) (wants Q1 E) s := by
  have hT : s.TypeIs (.str x t) "str" := rfl
  refine codeAny_of_tree ?_
  show wpAny _ A.in1 (do checkBuiltinCall "reversed.__new__" ⟨[.type "reversed", .str x t], []⟩; again (.builtin "reversed.__new__" ⟨[.type "reversed", .str x t], []⟩)) _ _ s
  refine wpAny_bind (wpAny_of_eq (F.newCall_reversed_1 _) (wpAny_pure ⟨plainId_quiet F.plain_reversed_new _, codeAny_builtin F.entry_reversed_new ?_⟩))
  rw [Around.under_plainId F.plain_reversed_new _]
  unfold Builtin.«reversed.__new__»
  refine wpAny_bind (wpAny_of_eq (newClass_reversed _) ?_)
  try dsimp only
  refine wpAny_bind (wpAny_of_eq (a := ()) (by first | rfl | kernel_rfl) ?_)
  try dsimp only
  refine wpAny_bind (wpAny_of_eq (a := ()) (by first | rfl | kernel_rfl) ?_)
  try dsimp only
  refine wpAny_bind (wpAny_specialOf hT norev_str ?_)
  try dsimp only
  refine wpAny_bind ?_
  wp_delta
  refine wpAny_bind (wpAny_isInstance (T := "str") (U := "dict") (b := false) hT sub_str_dict ?_)
  try dsimp only
  try rw [if_neg Bool.false_ne_true]
  try dsimp only
  refine wpAny_bind (wpAny_specialOf hT item_str ?_)
  try dsimp only
  try rw [if_pos (by decide +kernel)]
  refine wpAny_pure ?_
  try dsimp only
  try rw [if_neg (by decide)]
  try dsimp only
  refine wpAny_bind (len_str (line_index hz) ?_)
  refine wpAny_bind (wpAny_of_eq (a := some ((x.length : Nat) : Int)) rfl ?_)
  try dsimp only
  refine wpAny_bind ?_
  show wpAny _ _ (newObj (.type "reversed") (.fields #[.str x t, rawInt ((x.length : Int) - 1)])) _ _ _
  refine wpAny_newObj_type ?_
  exact wpAny_pure h
theorem call_rs {Q : Value → Shared → Prop} (hz : x.length ≤ sizeLine) (h : Q (.ref s.heap.objs.size) { s with heap := s.heap.push (rsObj x t ((x.length : Int) - 1)), toks := s.toks + 1 + 1 }) :
    wpAny (model prog w) A (call (.type "reversed") [.str x t]) Q E s := by
  refine callType_codes (Q₁ := fun obj s₁ => s₁.TypeIs obj "reversed" ∧ Q obj s₁) called_rt (F.typeCall_reversed_1 _) F.entry_object_init (code_rs (A := A.in1) hz ⟨⟨_, Heap.get?_push_size _ rfl, rfl⟩, h⟩) fun obj s1 h1 => ?_
  exact ⟨h1.1, F.args_object_init_2 obj _, object_init_meets called_rt.init.lookup called_rt.made (by decide) prog w A.in1 _ s1 ⟨h1.1, rfl, h1.2⟩⟩
theorem next_rs {it : Addr} {i : Nat} {c : Nat} {Q : Option Value → Shared → Prop} (hit : IsRs s.heap it x t (i : Int)) (hc0 : x.cps[i]? = some c) (hz : x.length ≤ sizeLine)
    (hQ : ∀ h' u k, IsRs h' it x t ((i : Int) - 1) → Heap.SameBut it s.heap h' → Q (some (.str ⟨#[c]⟩ u)) { s with heap := h', toks := k }) : wpAny (model prog w) A (pyNext (.ref it)) Q E s := by
  obtain ⟨o, ho, hc, hd⟩ := id hit
  have hi : i < x.cps.size := (Array.getElem?_eq_some_iff.mp hc0).1
  have hT : s.TypeIs (.str x t) "str" := rfl
  have hz2 := hz
  rw [sizeLine_eq] at hz2
  have hi2 : i < x.length := hi
  unfold pyNext
  refine wpAny_bind (wpAny_attempt (wpAny_callSpecial?_slot (name := Str.ofString "__next__") hit.typeIs slot_rt_next (wpAny_call_entry slot_rt_next hit.typeIs entry_rt_next ?_ (args_rt_next _))))
  unfold Builtin.«reversed.__next__»
  refine wpAny_bind (wpAny_of_eq (a := (Value.ref it, [])) rfl ?_)
  try dsimp only
  refine wpAny_bind (wpAny_field ho hd (x := .str x t) rfl ?_)
  try dsimp only
  refine wpAny_bind (wpAny_field ho hd (x := rawInt (i : Int)) rfl ?_)
  show wpAny _ _ (if (i : Int) < 0 then _ else _) _ _ s
  rw [if_neg (by omega)]
  try dsimp only
  refine wpAny_bind (wpAny_specialOf hT item_str ?_)
  try dsimp only
  try rw [if_neg (by decide)]
  try dsimp only
  refine wpAny_bind (wpAny_mkInt ?_)
  refine wpAny_bind (wpAny_attempt ?_)
  have fin : seqIndex? (i : Int) x.length = some i := seqIndex_of (by omega) (by omega)
  refine getItem_str (s := { s with toks := s.toks + 1 }) (c := c) (by rw [decide_eq_false (by omega), decide_eq_false (by omega)]; rfl) (by rw [fin]; exact hc0) ?_
  try dsimp only
  refine wpAny_bind (wpAny_field (s := { s with toks := s.toks + 1 + 1 }) ho hd (x := rawInt (i : Int)) rfl ?_)
  try dsimp only
  refine wpAny_bind (wpAny_setField (s := { s with toks := s.toks + 1 + 1 }) ho hd (by simp) ?_)
  first
  | refine wpAny_pure ⟨_, rfl, wpAny_pure (hQ _ _ _ ?_ (Heap.SameBut.update ..))⟩
  | refine wpAny_bind (wpAny_pure (wpAny_pure ⟨_, rfl, wpAny_pure (hQ _ _ _ ?_ (Heap.SameBut.update ..))⟩))
  exact ⟨_, Heap.get?_update_self _ ho (Obj.isFreed_of_fields (Obj.data_mapFields hd _)), (Obj.cls_mapFields ..).trans hc, by
    rw [Obj.data_mapFields hd]; simp⟩
theorem end_rs {it : Addr} {Q : Option Value → Shared → Prop} (hh : A.handled = none) (hit : IsRs s.heap it x t (-1)) (hQ : ∀ h', Heap.ExtBut it s.heap h' → Q none { s with heap := h' }) : wpAny (model prog w) A (pyNext (.ref it)) Q E s := by
  obtain ⟨o, ho, hc, hd⟩ := id hit
  unfold pyNext
  refine wpAny_bind (wpAny_attempt (wpAny_callSpecial?_slot (name := Str.ofString "__next__") hit.typeIs slot_rt_next (wpAny_call_entry slot_rt_next hit.typeIs entry_rt_next ?_ (args_rt_next _))))
  unfold Builtin.«reversed.__next__»
  refine wpAny_bind (wpAny_of_eq (a := (Value.ref it, [])) rfl ?_)
  try dsimp only
  refine wpAny_bind (wpAny_field ho hd (x := .str x t) rfl ?_)
  try dsimp only
  refine wpAny_bind (wpAny_field ho hd (x := rawInt (-1)) rfl ?_)
  show wpAny _ _ (if (-1 : Int) < 0 then _ else _) _ _ s
  rw [if_pos (by decide)]
  try dsimp only
  refine wpAny_bind (wpAny_rule ?_)
  refine wpAny_bind ?_
  wp_delta
  refine wpAny_bind (wpAny_setField ho hd (by simp) ?_)
  have ho2 := Heap.get?_update_self (Obj.mapFields (·.setIfInBounds 1 (rawInt (-1)))) ho (Obj.isFreed_of_fields (Obj.data_mapFields hd _))
  refine wpAny_setField (s := { s with heap := s.heap.update it (Obj.mapFields (·.setIfInBounds 1 (rawInt (-1)))) }) ho2 (Obj.data_mapFields hd _) (by simp) ?_
  try dsimp only
  first
  | show wpAny _ _ (newExc (.type "StopIteration") [] >>= _) _ _ _
  | (refine wpAny_bind ?_; show wpAny _ _ (newExc (.type "StopIteration") [] >>= _) _ _ _)
  | (refine wpAny_bind ?_; wp_delta; show wpAny _ _ (newExc (.type "StopIteration") [] >>= _) _ _ _)
  refine wpAny_bind ?_
  simp only [newExc, newTuple]
  refine wpAny_bind (wpAny_newObj_type ?_ (by size_fits))
  refine wpAny_bind (m := firstArgMember _ _) (wpAny_of_eq (a := Value.none) (by first | rfl | (simp only [firstArgMember]; rfl)) ?_)
  refine wpAny_newObj_type ?_ (by size_fits)
  simp only [raiseNew]
  refine wpAny_bind (wpAny_handled ?_)
  first | rw [show A.in1.handled = none from hh] | rw [hh]
  refine wpAny_bind (wpAny_pure (wpAny_throw ?_))
  refine wpAny_bind (wpAny_isInstance (T := "StopIteration") (b := true) ⟨_, Heap.get?_push_size _ rfl, rfl⟩ isSubtype_stop ?_)
  refine wpAny_pure (hQ _ ?_)
  refine ((?_ : Heap.ExtBut it s.heap _).push _).push _
  exact fun b ob hb e => (Heap.get?_update_other _ _ (Ne.symm hb)).trans ((Heap.get?_update_other _ _ (Ne.symm hb)).trans e)
theorem iter_rs {it : Addr} {i : Int} {Q : Value → Shared → Prop} (hit : IsRs s.heap it x t i) (h : Q (.ref it) s) : wpAny (model prog w) A (pyIter (.ref it)) Q E s := by
  refine wpAny_pyIter_slot hit.typeIs slot_rt_iter (wpAny_call_entry slot_rt_iter hit.typeIs entry_rt_iter ?_ (args_rt_iter _))
  show wpAny _ _ (ret (.ref it)) _ _ s
  exact wpAny_pure ⟨_, rfl, "reversed", _, hit.typeIs, slot_rt_next.lookup, h⟩
end
theorem walks_rs {prog : Program} {w : World} {A : Around} (hh : A.handled = none) (it : Addr) (x : Str) (t : Tok) (hz : x.length ≤ sizeLine) :
    Walks prog w A it [it] [it] x.cps.size (fun i v => ∃ c u, x.cps[x.cps.size - 1 - i]? = some c ∧ v = .str ⟨#[c]⟩ u) (fun i h => i ≤ x.cps.size ∧ IsRs h it x t ((x.cps.size : Int) - 1 - (i : Int))) where
  sub := fun b hb => hb
  frame := fun _ _ _ z hk => ⟨z.1, z.2.at fun o e => hk it (by simp) o e⟩
  item := fun i s Q E hi z hQ => by
    have e : (x.cps.size : Int) - 1 - (i : Int) = ((x.cps.size - 1 - i : Nat) : Int) := by omega
    have hit := z.2
    rw [e] at hit
    have hx : x.cps[x.cps.size - 1 - i]? = some (x.cps[x.cps.size - 1 - i]'(by omega)) := Array.getElem?_eq_getElem (by omega)
    refine next_rs hit hx hz fun h' u k hit' hs' => ?_
    have e2 : ((x.cps.size - 1 - i : Nat) : Int) - 1 = (x.cps.size : Int) - 1 - ((i + 1 : Nat) : Int) := by omega
    rw [e2] at hit'
    exact hQ _ h' k ⟨_, _, hx, rfl⟩ ⟨hi, hit'⟩ fun b o hb eo => hs'.extBut b o (fun h => hb (by simp [h])) eo
  done := fun s Q E z hQ => by
    have e : (x.cps.size : Int) - 1 - (x.cps.size : Int) = -1 := by omega
    have hit := z.2
    rw [e] at hit
    exact end_rs hh hit fun h' he' => hQ h' s.toks fun b o hb eo => he' b o (fun h => hb (by simp [h])) eo
  self := fun _ _ _ _ z hQ => iter_rs z.2 hQ

section
variable {prog : Program} {w : World} {A : Around} {E : Value → Shared → Prop} {s : Shared} {x : Str} {t : Tok}
theorem code_hint {it : Addr} {i : Nat} {Q : Value → Shared → Prop} (hit : IsRs s.heap it x t (i : Int)) (hi : i < x.length) (hz : x.length ≤ sizeLine) (hQ : ∀ u k, Q (.int ((i : Int) + 1) u) { s with toks := k }) :
    wpAny (model prog w) A (call (.builtin "reversed.__length_hint__") [.ref it]) Q E s := by
  obtain ⟨o, ho, hc, hd⟩ := id hit
  have hz2 := hz
  rw [sizeLine_eq] at hz2
  refine wpAny_call_entry slot_hint hit.typeIs entry_hint ?_ (args_hint _)
  unfold Builtin.«reversed.__length_hint__»
  refine wpAny_bind (wpAny_of_eq (a := Value.ref it) rfl ?_)
  try dsimp only
  refine wpAny_bind (wpAny_field ho hd (x := .str x t) rfl ?_)
  try dsimp only
  try rw [if_neg (by decide)]
  try dsimp only
  refine wpAny_bind (len_str (line_index hz) ?_)
  refine wpAny_bind (wpAny_of_eq (a := some ((x.length : Nat) : Int)) rfl ?_)
  try dsimp only
  refine wpAny_bind (wpAny_field (s := { s with toks := s.toks + 1 + 1 }) ho hd (x := rawInt (i : Int)) rfl ?_)
  show wpAny _ _ (if ((x.length : Nat) : Int) < (i : Int) + 1 then _ else _) _ _ _
  rw [if_neg (by omega)]
  show wpAny _ _ (retInt ((i : Int) + 1)) _ _ _
  exact wpAny_bind (wpAny_mkInt (wpAny_pure ⟨_, rfl, hQ _ _⟩))
/-- the length hint -/
theorem hint_rs {it : Addr} {i : Nat} {Q : Bool → Shared → Prop} (hit : IsRs s.heap it x t (i : Int)) (hi : i < x.length) (hz : x.length ≤ 1000000) (hQ : ∀ k, Q true { s with toks := k }) : wpAny (model prog w) A (Builtin.List.listLengthHint (.ref it)) Q E s := by
  obtain ⟨o, ho, hc, hd⟩ := id hit
  unfold Builtin.List.listLengthHint
  refine wpAny_bind (wpAny_specialOf hit.typeIs nolen_rev ?_)
  show wpAny _ _ (specialOf (Value.ref it) (Str.ofString "__length_hint__") >>= _) _ _ _
  refine wpAny_bind (wpAny_specialOf hit.typeIs hint_rev ?_)
  generalize hid : ("reversed.__length_hint__" : String) = id0
  wp_delta
  rw [show splitId id0 = some ("reversed", "__length_hint__") from by subst hid; decide +kernel]
  subst hid
  refine wpAny_bind (wpAny_isInstance (b := true) hit.typeIs (by rw [isSubtype_type]; kernel_rfl) ?_)
  try dsimp only
  rw [if_neg (show ¬ (!true) = true by decide)]
  rw [if_neg (by decide +kernel)]
  refine wpAny_bind (wpAny_rule ?_)
  refine wpAny_bind ?_
  unfold bindSpecial
  refine wpAny_bind (wpAny_of_eq desc_hint ?_)
  rw [if_pos (by decide +kernel)]
  refine wpAny_pure ?_
  try dsimp only
  refine wpAny_bind (wpAny_attempt (code_hint hit hi (Nat.le_trans hz (by decide)) fun u k => ?_))
  try dsimp only
  obtain ⟨j, hj⟩ : ∃ j : Int, j = (i : Int) + 1 := ⟨_, rfl⟩
  rw [← hj]
  refine wpAny_bind (wpAny_of_eq (show asInt? (.int j u) = pure (some j) from rfl) ?_)
  try dsimp only
  have h1 : Builtin.List.listFitsIndex j = true := by
    unfold Builtin.List.listFitsIndex
    rw [Bool.and_eq_true]
    exact ⟨decide_eq_true (by omega), decide_eq_true (by omega)⟩
  have h2 : Builtin.List.listTooLong j.toNat = false := by
    unfold Builtin.List.listTooLong
    exact decide_eq_false (by rw [sizeLine_eq]; omega)
  rw [if_neg (by rw [h1]; decide), if_neg (by omega), if_neg (by rw [h2]; decide)]
  have h3 : (j != 0) = true := by
    rw [bne_iff_ne]
    omega
  rw [h3]
  exact wpAny_pure (hQ k)
end

section
variable {prog : Program} {w : World} {A : Around} {E : Value → Shared → Prop} {s : Shared} {x : Str} {t : Tok}
/-- what is collected -/
abbrev RevAt (x : Str) (i : Nat) (v : Value) : Prop := ∃ c u, x.cps[x.cps.size - 1 - i]? = some c ∧ v = .str ⟨#[c]⟩ u
theorem extend_rs {R : Result → Shared → Prop} (hh : A.handled = none) {it S : Addr} {res : Value} {c0 : Nat} (hit : IsRs s.heap it x t ((x.cps.size : Int) - 1)) (h1 : 1 ≤ x.length) (hz : x.length ≤ 1000000) (hSI : S ≠ it) (hS : s.heap.get? S = some { cls := .type "list", data := .seq #[] c0 })
    (hR : ∀ h' tk acc' c', (∀ b o, b ≠ S → b ≠ it → s.heap.get? b = some o → h'.get? b = some o) → h'.get? S = some { cls := .type "list", dict := none, data := .seq acc' c', slots := #[] } → ItemsOf (RevAt x) acc' x.cps.size → R (.ok (.ret res)) { s with heap := h', toks := tk }) :
    wpAny (model prog w) A.in1 (Builtin.List.listExtendWith (.ref S) (.ref it) res)
      (fun fin s' => match fin with | .done f => R (.ok f) s' | .again c' => c'.quiet = true ∧ codeAny (model prog w) A c' R s') (fun e s' => R (.error e) s') s := by
  have hz2 : x.length ≤ sizeLine := Nat.le_trans hz (by decide)
  have W := (walks_rs (prog := prog) (w := w) (A := A.in1) hh it x t hz2).toS
  have hSf : S ∉ [it] := fun hm => hSI (List.mem_singleton.mp hm)
  have hx1 : 1 ≤ x.cps.size := h1
  have e0 : (x.cps.size : Int) - 1 = ((x.cps.size - 1 : Nat) : Int) := by omega
  unfold Builtin.List.listExtendWith
  refine wpAny_bind (wpAny_typeOf hit.typeIs ?_)
  have q1 : Builtin.List.listSameRef (.ref S) (.ref it) = false := by simp [Builtin.List.listSameRef, hSI]
  have q2 : (Value.type "reversed" == Value.type "list") = false := by decide
  have q3 : (Value.type "reversed" == Value.type "tuple") = false := by decide
  simp only [q1, q2, q3, Bool.or_false, Bool.false_eq_true, if_false]
  refine wpAny_bind (iter_rs hit ?_)
  refine wpAny_bind (wpAny_holding ?_)
  refine hint_rs (i := x.cps.size - 1) (by rw [← e0]; exact hit) (by show x.cps.size - 1 < x.cps.size; omega) hz fun k => ?_
  show wpAny _ A.in1 (rule "list.extend.makes-room" >>= fun _ => Builtin.List.listTouch (.ref S) >>= fun _ => again (.builtin "list.extend.loop" ⟨[.ref S, .ref it, res], []⟩)) _ _ _
  refine wpAny_bind (wpAny_rule ?_)
  refine wpAny_bind ?_
  show wpAny _ A.in1 (updateSeq S (·.push .none) >>= fun _ => updateSeq S (·.pop)) _ _ _
  refine wpAny_bind (wpAny_updateSeq (s := { s with toks := k }) hS rfl ?_)
  have hS2 := Heap.get?_update_self (Obj.mapSeq (·.push Value.none)) hS rfl
  refine wpAny_updateSeq (hz := by seq_fits) hS2 rfl ?_
  have hS3 := Heap.get?_update_self (Obj.mapSeq (·.pop)) hS2 rfl
  have oth : ∀ b o, b ≠ S → s.heap.get? b = some o → ((s.heap.update S (Obj.mapSeq (·.push Value.none))).update S (Obj.mapSeq (·.pop))).get? b = some o :=
    fun b o hb e => (Heap.get?_update_other _ _ (Ne.symm hb)).trans ((Heap.get?_update_other _ _ (Ne.symm hb)).trans e)
  have ez : (x.cps.size : Int) - 1 - ((0 : Nat) : Int) = (x.cps.size : Int) - 1 := by omega
  refine wpAny_pure ⟨plainId_quiet F.plain_extend_loop _, codeAny_extend_loopS W hz2 _ hSf _ x.cps.size 0 _ _ _ rfl (Nat.zero_le _) ⟨Nat.zero_le _, by rw [ez]; exact hit.at fun o e => oth it o (Ne.symm hSI) e⟩ hS3 (ItemsOf.nil _) fun s' acc' c' hm hS' hacc => ?_⟩
  rw [Moved.eq_with hm]
  refine hR s'.heap s'.toks acc' c' (fun b ob hb hi e => hm.heap b ob (fun hmem => ?_) (oth b ob hb e)) hS' hacc
  rcases List.mem_cons.mp hmem with e' | hmem
  · exact hb e'
  · exact hi (List.mem_singleton.mp hmem)
theorem call_list_rs {Q : Value → Shared → Prop} (hh : A.handled = none) {it : Addr} (hit : IsRs s.heap it x t ((x.cps.size : Int) - 1)) (h1 : 1 ≤ x.length) (hz : x.length ≤ 1000000)
    (hQ : ∀ h' tk acc' c', (∀ b o, b ≠ it → s.heap.get? b = some o → h'.get? b = some o) → h'.get? s.heap.objs.size = some { cls := .type "list", dict := none, data := .seq acc' c', slots := #[] } → ItemsOf (RevAt x) acc' x.cps.size → Q (.ref s.heap.objs.size) { s with heap := h', toks := tk }) :
    wpAny (model prog w) A (call (.type "list") [.ref it]) Q E s := by
  have hlt : it < s.heap.objs.size := let ⟨_, ho, _⟩ := hit; Heap.lt_size ho
  refine callType_codes (Q₁ := fun obj s₁ => obj = .ref s.heap.objs.size ∧ s₁ = { s with heap := s.heap.push { cls := .type "list", data := .seq #[] } }) F.called_list (F.typeCall_list_1 _) F.entry_list_init
    (code_list_new _ ⟨rfl, rfl⟩) fun obj s1 hs1 => ?_
  obtain ⟨rfl, rfl⟩ := hs1
  have hS : (s.heap.push { cls := .type "list", data := .seq #[] }).get? s.heap.objs.size = some { cls := .type "list", data := .seq #[] } := Heap.get?_push_size _ rfl
  refine ⟨⟨_, hS, rfl⟩, F.args_list_init_2 _ _, ?_⟩
  show wpAny _ A.in1.in1 (do let old ← Builtin.List.listItems (.ref s.heap.objs.size); Builtin.List.listUpdate (.ref s.heap.objs.size) (fun _ => #[]); letGo old.toList.reverse; Builtin.List.listExtendWith (.ref s.heap.objs.size) (.ref it) .none) _ _ _
  refine wpAny_bind ?_
  unfold Builtin.List.listItems
  refine wpAny_bind (wpAny_seqItems hS rfl (wpAny_pure ?_))
  show wpAny _ A.in1.in1 (updateSeq s.heap.objs.size (fun _ => #[]) >>= fun _ => letGo (#[] : Array Value).toList.reverse >>= fun _ => Builtin.List.listExtendWith (.ref s.heap.objs.size) (.ref it) .none) _ _ _
  refine wpAny_bind (wpAny_updateSeq hS rfl ?_)
  have hS2 := Heap.get?_update_self (Obj.mapSeq (fun _ => (#[] : Array Value))) hS rfl
  have oth : ∀ b o, b ≠ s.heap.objs.size → (s.heap.push { cls := .type "list", data := .seq #[] }).get? b = some o → ((s.heap.push { cls := .type "list", data := .seq #[] }).update s.heap.objs.size (Obj.mapSeq (fun _ => (#[] : Array Value)))).get? b = some o :=
    fun b o hb e => (Heap.get?_update_other _ _ (Ne.symm hb)).trans e
  have old : ∀ b o, s.heap.get? b = some o → ((s.heap.push { cls := .type "list", data := .seq #[] }).update s.heap.objs.size (Obj.mapSeq (fun _ => (#[] : Array Value)))).get? b = some o :=
    fun b o e => oth b o (Nat.ne_of_lt (Heap.lt_size e)) (Heap.get?_push_of_some _ e)
  refine wpAny_bind (wpAny_letGo ?_)
  refine extend_rs (A := A.in1) hh (hit.at fun o e => old it o e) h1 hz (Nat.ne_of_gt hlt) hS2 fun h' tk acc' c' hk hS' hacc => ?_
  exact ⟨rfl, hQ h' tk acc' c' (fun b o hb e => hk b o (Nat.ne_of_lt (Heap.lt_size e)) hb (old b o e)) hS' hacc⟩
end
theorem vals_rs {x : Str} {acc : Array Value} (h : ItemsOf (RevAt x) acc x.cps.size) : L2.Vals (x.cps.toList.reverse.map fun c => L2.V.str ⟨#[c]⟩) acc.toList := by
  have key : ∀ (l : List L2.V) (us : List Value), l.length = us.length → (∀ (i : Nat) (v : L2.V) (u : Value), l[i]? = some v → us[i]? = some u → L2.RelV v u) → L2.Vals l us := by
    intro l
    induction l with
    | nil =>
      intro us hl _
      cases us with
      | nil => exact .nil
      | cons _ _ => cases hl
    | cons v r ih =>
      intro us hl hr
      cases us with
      | nil => cases hl
      | cons u us => exact .cons (hr 0 v u rfl rfl) (ih us (Nat.succ.inj hl) fun i a b h1 h2 => hr (i + 1) a b h1 h2)
  have hs : acc.toList.length = x.cps.size := by rw [Array.length_toList]; exact h.1
  refine key _ _ (by rw [List.length_map, List.length_reverse, Array.length_toList, hs]) fun i v u h1 h2 => ?_
  rw [Array.getElem?_toList] at h2
  obtain ⟨c, tk, hc, rfl⟩ := h.2 i u h2
  have hi : i < x.cps.size := by
    have := (Array.getElem?_eq_some_iff.mp h2).1
    rw [h.1] at this
    exact this
  rw [List.getElem?_map, List.getElem?_reverse (by rw [Array.length_toList]; exact hi), Array.length_toList, Array.getElem?_toList, hc] at h1
  cases h1
  exact ⟨tk, rfl⟩
section
open L2
variable {X : Cx}
/-- list(reversed(x)), x a text: a new list of its signs, from behind -/
def tListRs (te : TE) : TE := fun σ H Q => te σ H fun v H1 => ∃ x : Str, v = .str x ∧ 1 ≤ x.length ∧ x.length ≤ 1000000 ∧ ∀ q, H1 q = none → Q (.ref q) (upd H1 q (.lst (x.cps.toList.reverse.map fun c => V.str ⟨#[c]⟩)))
theorem pe_listRs {e : Expr} {te : TE} {p p2 pos pos2 : Pos} (hc : X.calm = true) (hg : Gl X "list") (hm : X.mg "list" = none) (hg2 : Gl X "reversed") (hm2 : X.mg "reversed" = none) (he : PE X e te)
    (hs : starEach [e] X.env = (false, eval e X.env) :: starEach [] X.env := by rfl)
    (hs2 : starEach [.Call (.Name "reversed" p2) [e] [] pos2] X.env = (false, eval (.Call (.Name "reversed" p2) [e] [] pos2) X.env) :: starEach [] X.env := by rfl) :
    PE X (.Call (.Name "list" p) [.Call (.Name "reversed" p2) [e] [] pos2] [] pos) (tListRs te) := by
  refine ⟨fun pins s σ H Q I h => ?_⟩
  refine Call_ (ld_blt (u := .type "list") I hg hm (by decide +kernel) (PyProof.Rows.callWith_type1 (args_cons (Call_ (ld_blt I hg2 hm2 PyProof.Rows.boot_reversed (PyProof.Rows.callWith_type1 (args_cons (thn (he.run pins s σ H _ I h) fun u s1 hq => args_nil ?_) hs) hs rfl))) hs2) hs2 rfl))
  obtain ⟨v, H1, I1, r1, x, ev, h1, hz, q⟩ := hq
  subst ev
  obtain ⟨t, rfl⟩ := r1
  refine call_rs (Nat.le_trans hz (by decide)) (args_nil ?_)
  have k0 : ∀ b o, s1.heap.get? b = some o → (s1.heap.push (rsObj x t ((x.length : Int) - 1))).get? b = some o := fun b o e => Heap.get?_push_of_some _ e
  have I2 : Inv X pins σ H1 { s1 with heap := s1.heap.push (rsObj x t ((x.length : Int) - 1)), toks := s1.toks + 1 + 1 } := I1.kept k0
  obtain ⟨f0, f1, f2, f3, f4, f5⟩ := I1.fpOk (H' := H1) (b := s1.heap.objs.size) (Nat.le_refl _) (I1.hok.fresh (Nat.le_refl _))
  refine call_list_rs (s := { s1 with heap := s1.heap.push (rsObj x t ((x.length : Int) - 1)), toks := s1.toks + 1 + 1 }) (I1.ok.hd hc) ⟨_, Heap.get?_push_size _ rfl, rfl, rfl⟩ h1 hz fun h' tk acc c' hk hS hi => ?_
  have hne : (s1.heap.push (rsObj x t ((x.length : Int) - 1))).objs.size ≠ s1.heap.objs.size := by
    rw [Heap.size_push]
    exact Nat.succ_ne_self _
  have kp : ∀ b u, s1.heap.get? b = some u → h'.get? b = some u := fun b u e => hk b u (Nat.ne_of_lt (Heap.lt_size e)) (Heap.get?_push_of_some _ e)
  have hD : s1.heap.objs.size ≤ (s1.heap.push (rsObj x t ((x.length : Int) - 1))).objs.size := by
    rw [Heap.size_push]
    exact Nat.le_succ _
  refine ⟨.ref (s1.heap.push (rsObj x t ((x.length : Int) - 1))).objs.size, _, I1.laid (t' := tk) kp hD (show ObjOk X.prog X.w _ h' _ (.lst (x.cps.toList.reverse.map fun c => V.str ⟨#[c]⟩)) from ⟨?_, acc.toList, c', vals_rs hi, ?_⟩), rfl, q _ (I1.hok.fresh hD)⟩
  · rw [List.length_map, List.length_reverse, Array.length_toList]
    exact Nat.le_trans hz (by decide)
  · rw [hS, Array.toArray_toList]
end
end Rs

namespace Rd
open PySem PySem.Spec PyProof.Rows L2 GxR
open C8 (pss_cut tCut)
/-! ### words, plainly -/
theorem one_lt (a b : Nat) : decide (([a] : List Nat) < [b]) = decide (a < b) := by
  by_cases h : a < b
  · rw [decide_eq_true h]
    exact decide_eq_true (List.cons_lt_cons_iff.mpr (.inl h))
  · rw [decide_eq_false h]
    refine decide_eq_false fun z => ?_
    rcases List.cons_lt_cons_iff.mp z with z | ⟨_, z⟩
    · exact h z
    · exact List.not_lt_nil _ z
def signB (c : Nat) : Bool := (!decide (c < 33) && !decide (36 < c)) || (!decide (c < 38) && !decide (126 < c))
def wordB (a : Str) : Bool := decide ((1 : Int) ≤ (a.length : Int)) && (decide ((a.length : Int) ≤ 40) && a.cps.toList.all signB)
theorem wordB_len {a : Str} (h : wordB a = true) : 1 ≤ a.length ∧ a.length ≤ 40 := by
  unfold wordB at h
  rw [Bool.and_eq_true, Bool.and_eq_true] at h
  obtain ⟨h1, h2, _⟩ := h
  have h1 := of_decide_eq_true h1
  have h2 := of_decide_eq_true h2
  omega
theorem wordB_signs {a : Str} (h : wordB a = true) : ∀ c ∈ a.cps.toList, signB c = true := by
  unfold wordB at h
  rw [Bool.and_eq_true, Bool.and_eq_true] at h
  exact List.all_eq_true.mp h.2.2
theorem small_line {n : Nat} (h : n ≤ 1000000) : n ≤ sizeLine := Nat.le_trans h (by decide)
theorem tyL {K : PySem.W.Frag} {H : Hp} {a : Addr} {xs : List V} (h : SqL K H a xs) : TyX K H (.ref a) (.type "list") := by
  rcases h with (h | ⟨o, h⟩) | ⟨o, its, n, e, c, _⟩
  · exact .base (.lst h)
  · exact .base (.frz h)
  · exact .kList e c
theorem tyT {K : PySem.W.Frag} {H : Hp} {a : Addr} {xs : List V} (h : SqT K H a xs) : TyX K H (.ref a) (.type "tuple") := by
  rcases h with (h | ⟨o, h⟩) | ⟨o, its, n, e, c, _⟩
  · exact .base (.tup h)
  · exact .fTuple h
  · exact .kTuple e c
theorem for_enum {K : PySem.W.Frag} {a : Addr} {xs : List V} {g : TG} {tb : TS} {D : Ends} {σ : L2.St} {H : Hp} (Pv : Nat → L2.St → Hp → Prop) (h0 : Pv 0 σ H) (hl : ∀ i σ H, i ≤ xs.length → Pv i σ H → SqL K H a xs)
    (hs : ∀ (i : Nat) (x : V) (T : Addr) (σ : L2.St) (H : Hp), xs[i]? = some x → H T = none → Pv i σ H → g (.ref T) σ (upd H T (.tup [.int (i : Nat), x])) fun σ2 H2 => tb { D with nx := Pv (i + 1), ct := Pv (i + 1), bk := D.nx } σ2 H2) (hd : ∀ σ H, Pv xs.length σ H → D.nx σ H) :
    ∃ W : Nat → Nat → L2.St → Hp → Prop, (∃ m, W 0 m σ H) ∧ ∀ i m σ H, W i m σ H →
      ((Ite K a).stop i H ∧ D.nx σ H) ∨ ((Ite K a).go i H ∧ ∃ N : L2.St → Hp → Prop, (∀ σ' H', N σ' H' → ∃ m', m' < m ∧ W (i + 1) m' σ' H') ∧ ∀ x H', (Ite K a).yld i H x H' → g x σ H' fun σ2 H2 => tb { D with nx := N, ct := N, bk := D.nx } σ2 H2) := by
  refine ⟨fun i m σ H => m = xs.length - i ∧ i ≤ xs.length ∧ Pv i σ H, ⟨xs.length, by simp, Nat.zero_le _, h0⟩, ?_⟩
  rintro i m σ H ⟨rfl, hi, p⟩
  have q := hl i σ H hi p
  by_cases hlt : i < xs.length
  · refine .inr ⟨⟨xs, xs[i], q, by simp [hlt]⟩, Pv (i + 1), fun σ' H' p' => ⟨xs.length - (i + 1), by omega, rfl, hlt, p'⟩, fun x H' y => ?_⟩
    obtain ⟨T, z, rfl, nT, rfl, hz⟩ := y
    exact hs i z T σ H (hz xs q) nT p
  · have e : i = xs.length := by omega
    subst e
    exact .inl ⟨⟨xs, q, Nat.le_refl _⟩, hd σ H p⟩
theorem yesT {σ : L2.St} {H : Hp} {f g : Hp → Prop} (h : f H) : tYes σ H fun b H3 => if b = true then f H3 else g H3 := by
  show if true = true then f H else g H
  exact iteT h
theorem Kp.set {Ps : List Addr} {H H' : Hp} (t : Tb Ps H) (k : Kp Ps H H') {D : Addr} {o : HO} (h : H D = Option.none) : Kp Ps H (upd H' D o) := by
  have hD := t.none h
  refine ⟨fun P hP => ?_, fun b u hb e => ?_⟩
  · obtain ⟨ps, h1, h2⟩ := k.1 P hP
    exact ⟨ps, by rw [upd_ne (fun z => hD (by rw [← z]; exact hP))]; exact h1, h2⟩
  · rw [upd_ne (ne_of_none e h)]
    exact k.2 b u hb e
theorem take_snoc {α : Type} {l : List α} {i : Nat} {x : α} (h : l[i]? = some x) : l.take (i + 1) = l.take i ++ [x] := by
  rw [List.take_add_one, h]
  rfl
def top (i : Nat) : Stmt := PySem.Challenge.pw_redraft_k14_whole_far_and_near.main.body.getD i (.Pass ⟨0, 0, 0, 0⟩)
abbrev sIsSign : Stmt := top 8
abbrev sIsWord : Stmt := top 9
abbrev sCheckWords : Stmt := top 10
abbrev sCheckLength : Stmt := top 11
abbrev sCheckText : Stmt := top 12
abbrev sIsNumber : Stmt := top 20
abbrev sRowWords : Stmt := top 21
abbrev sIsRow : Stmt := top 22
abbrev sCheckRows : Stmt := top 23
abbrev sCost : Stmt := top 24
abbrev sTable : Stmt := top 26
abbrev sLeastCost : Stmt := top 27
abbrev sApart : Stmt := top 28
abbrev sNextKind : Stmt := top 29
abbrev sStepsBetween : Stmt := top 30
abbrev sStretchesOf : Stmt := top 31
abbrev sTold : Stmt := top 32
abbrev sCellAt : Stmt := top 34
abbrev sSignBy : Stmt := top 35
abbrev sWordBy : Stmt := top 36
abbrev sNear : Stmt := top 37
abbrev sMenu : Stmt := top 38
abbrev sWhole : Stmt := top 39
abbrev sTexts : Stmt := top 40
abbrev sBounds : Stmt := top 41
abbrev sLaw : Stmt := top 42
/-! ### the program's words -/
section
variable {P : Program} {w : World} {K : PySem.W.Frag} {mg : Str → Option Value} {base : Heap}
abbrev FnP (K : PySem.W.Frag) (x : Str) (st : Stmt) (f : Addr) (fd : FuncData) : Prop := FunD K x x (defArgs st) (defBody st) (defScope st) [] [] f fd
theorem scIsSign : FnScope ["sign"] ["sign"] (defScope sIsSign) := ⟨rfl, rfl, rfl, by decide +kernel, rfl, by decide +kernel, by decide +kernel⟩
theorem scIsWord : FnScope ["word", "sign"] ["word"] (defScope sIsWord) := ⟨rfl, rfl, rfl, by decide +kernel, rfl, by decide +kernel, by decide +kernel⟩
def spIsSign : Sp := fun vs H Q _ => ∃ c : Nat, vs = [.str ⟨#[c]⟩] ∧ Q (.bl (signB c)) H
theorem ok_is_sign {f : Addr} {fd : FuncData} (F : FnP K "is_sign" sIsSign f fd) : FnOk P w K mg base (L2.CX P w) 1 f fd ["sign"] spIsSign := by
  refine F.ok scIsSign (fun vs H Q E h => ?_) (fun cdv A outer s H vs Q E hr h => ?_)
  · obtain ⟨c, rfl, _⟩ := h
    rfl
  · obtain ⟨c, rfl, q⟩ := h
    refine ⟨_, pss_one (ps_ret (pe_or (pe_chain op_le_str op_le_str pe_str (pv 0) pe_str) (pe_one (pe_chain op_le_str op_le_str pe_str (pv 0) pe_str)))), ?_⟩
    have k1 : ("!" : Str).cps.toList = [33] := by decide +kernel
    have k2 : ("$" : Str).cps.toList = [36] := by decide +kernel
    have k3 : ("&" : Str).cps.toList = [38] := by decide +kernel
    have k4 : ("~" : Str).cps.toList = [126] := by decide +kernel
    have kc : (⟨#[c]⟩ : Str).cps.toList = [c] := rfl
    refine ⟨_, rfl, _, _, rfl, rfl, _, rfl, ?_⟩
    rw [k1, kc, one_lt]
    unfold signB at q
    by_cases h1 : c < 33
    · rw [decide_eq_true h1] at q ⊢
      refine iteF ⟨_, rfl, iteF ⟨_, rfl, _, _, rfl, rfl, _, rfl, ?_⟩⟩
      rw [k3, kc, one_lt]
      by_cases h3 : c < 38
      · rw [decide_eq_true h3] at q ⊢
        exact iteF q
      · omega
    · rw [decide_eq_false h1] at q ⊢
      refine iteT ⟨_, _, rfl, rfl, ?_⟩
      rw [k2, kc, one_lt]
      by_cases h2 : 36 < c
      · rw [decide_eq_true h2] at q ⊢
        refine ⟨_, rfl, iteF ⟨_, rfl, _, _, rfl, rfl, _, rfl, ?_⟩⟩
        rw [k3, kc, one_lt]
        by_cases h3 : c < 38
        · rw [decide_eq_true h3] at q ⊢
          exact iteF q
        · rw [decide_eq_false h3] at q ⊢
          refine iteT ⟨_, _, rfl, rfl, ?_⟩
          rw [k4, kc, one_lt]
          exact q
      · rw [decide_eq_false h2] at q ⊢
        exact ⟨_, rfl, iteT q⟩

def spIsWord (Ps : List Addr) : Sp := fun vs H Q _ => ∃ a : Str, vs = [.str a] ∧ a.length ≤ sizeLine ∧ Tb Ps H ∧ ∀ H', Kp Ps H H' → Q (.bl (wordB a)) H'
theorem ok_is_word {Ps : List Addr} {f fS Pw : Addr} {fd fdS : FuncData} (F : FnP K "is_word" sIsWord f fd) (hf : f = He.fAd K ("is_word", none)) (hPw : Pw ∈ Ps) (TB : GxR.TabB base mg (He.codeOf K ("is_word", none)) Pw)
    (FS : FnP K "is_sign" sIsSign fS fdS) (bS : Binds K fdS ["sign"] []) (gS : mg "is_sign" = some (.ref fS)) (mI : mg "isinstance" = none) (mS : mg "str" = none) (mL : mg "len" = none) (mA : mg "all" = none) {tL : Tok} (mN : mg "LONGEST" = some (.int 40 tL)) :
    FnOk P w K mg base (L2.CX P w) 3 f fd ["word"] (spIsWord Ps) := by
  have GS : FnOk P w K mg base (L2.CX P w) 1 fS fdS ["sign"] spIsSign := ok_is_sign FS
  refine okC F hf scIsWord (fun vs H Q E h => ?_) (fun A outer s H vs Q E hr h => ?_)
  · obtain ⟨a, rfl, _⟩ := h
    rfl
  · obtain ⟨a, rfl, hz, ht, q⟩ := h
    refine ⟨_, pss_cons (ps_if (pt_not (pt_val (pe_callB call_isi (by rfl) mI (by decide +kernel) (pa_cons (pv 0) (pa_cons (pe_bltn (v := .ty "str") (by rfl) mS (by decide +kernel) rfl) pa_nil))))) (pss_one (ps_ret pe_bl)) pss_nil)
      (pss_one (ps_ret (pe_and (pe_chain op_le op_le pe_int (pe_callB call_len_str (by rfl) mL PySem.boot_len (pa_cons (pv 0) pa_nil)) (pe_glob (v := .int 40) (by rfl) mN ⟨_, rfl⟩))
        (pe_one (pe_allG (own := [("sign", 1)]) (gt := gName 1) (tt := tYes) (P := Pw) hr scIsWord.nd (by rfl) mA (by decide +kernel) TB rfl ⟨rfl, by decide +kernel, rfl, blkOk_by (N := ["word", "sign"]) (sc := defScope sIsWord) (by decide +kernel)⟩ (pi_str (pv 0))
          (fun _ _ _ _ _ _ _ _ _ => pg_name (i := 1) scIsWord.nd rfl (Or.inl rfl)) (fun _ _ _ _ _ _ _ _ _ _ => pts_nil) (fun _ _ _ _ _ _ _ _ _ hb => pe_call GS hb (by rfl) gS FS.kp bS .nil passL (pa_cons (pv 1) pa_nil))))))), ?_⟩
    refine ⟨_, rfl, .str a, .ty "str", _, _, true, rfl, .ty _, .base (.str a), kit_ty (by decide +kernel), true, rfl, iteF ?_⟩
    refine ⟨_, rfl, a, rfl, hz, 1, (a.length : Int), rfl, rfl, _, rfl, ?_⟩
    have eN : wordB a = (decide ((1 : Int) ≤ (a.length : Int)) && (decide ((a.length : Int) ≤ 40) && a.cps.toList.all signB)) := rfl
    rw [eN] at q
    by_cases h1 : (1 : Int) ≤ (a.length : Int)
    · rw [decide_eq_true h1] at q ⊢
      refine iteT ⟨(a.length : Int), 40, rfl, rfl, _, rfl, ?_⟩
      by_cases h2 : (a.length : Int) ≤ 40
      · rw [decide_eq_true h2] at q ⊢
        refine iteT ⟨_, rfl, a, rfl, ht Pw hPw, fun H2 hT => ?_⟩
        have k2 := Kp.tab ht hPw hT
        refine read_all_str (pb := signB) (Pv := fun H3 => H3 = H2) rfl (fun i c H3 R _ p hR => ?_) (fun H3 p => ?_)
        · subst p
          refine ⟨rfl, _, rfl, c, rfl, hR _ rfl⟩
        · subst p
          exact q _ k2
      · rw [decide_eq_false h2] at q ⊢
        exact iteF (q H (Kp.refl ht))
    · rw [decide_eq_false h1] at q ⊢
      exact iteF ⟨_, rfl, iteF (q H (Kp.refl ht))⟩
end
section
variable {P : Program} {w : World} {K : PySem.W.Frag} {mg : Str → Option Value} {base : Heap}
theorem scCheckWords : FnScope ["words", "at", "word"] ["words"] (defScope sCheckWords) := ⟨rfl, rfl, rfl, by decide +kernel, rfl, by decide +kernel, by decide +kernel⟩
theorem scCheckLength : FnScope ["words"] ["words"] (defScope sCheckLength) := ⟨rfl, rfl, rfl, by decide +kernel, rfl, by decide +kernel, by decide +kernel⟩
theorem scCheckText : FnScope ["words"] ["words"] (defScope sCheckText) := ⟨rfl, rfl, rfl, by decide +kernel, rfl, by decide +kernel, by decide +kernel⟩
def spCheckWords (K : PySem.W.Frag) (Ps : List Addr) : Sp := fun vs H Q _ => ∃ (p : Addr) (ws : List Str), vs = [.ref p] ∧ SqL K H p (ws.map V.str) ∧ (∀ a ∈ ws, wordB a = true) ∧ Tb Ps H ∧ ∀ H', Kp Ps H H' → Q .non H'
theorem ok_check_words {Ps : List Addr} {f fW : Addr} {fd fdW : FuncData} (F : FnP K "check_words" sCheckWords f fd) (GW : FnOk P w K mg base (L2.CX P w) 3 fW fdW ["word"] (spIsWord Ps)) (kW : PySem.W.keepIn K (.ref fW) = true) (bW : Binds K fdW ["word"] []) (gW : mg "is_word" = some (.ref fW))
    (mI : mg "isinstance" = none) (mT : mg "list" = none) (mE : mg "enumerate" = none) : FnOk P w K mg base (L2.CX P w) 4 f fd ["words"] (spCheckWords K Ps) := by
  refine F.ok scCheckWords (fun vs H Q E h => ?_) (fun cdv A outer s H vs Q E hr h => ?_)
  · obtain ⟨p, ws, rfl, _⟩ := h
    rfl
  · obtain ⟨p, ws, rfl, hS, hw, ht, q⟩ := h
    refine ⟨_, pss_cons (ps_if (pt_not (pt_val (pe_callB call_isi (by rfl) mI (by decide +kernel) (pa_cons (pv 0) (pa_cons (pe_bltn (v := .ty "list") (by rfl) mT (by decide +kernel) rfl) pa_nil))))) pss_never pss_nil)
      (pss_one (ps_for (passes_of rfl) rfl (pi_enum (by rfl) mE (pa_cons (pv 0) pa_nil)) (pg_tup rfl (pgs_cons (pg_name (i := 1) scCheckWords.nd rfl (.inl rfl)) (pgs_cons (pg_name (i := 2) scCheckWords.nd rfl (.inl rfl)) pgs_nil)))
        (pss_one (ps_if (pt_not (pt_val (pe_call GW hr (by rfl) gW kW bW .nil passL (pa_cons (pv 2) pa_nil)))) pss_never pss_nil)))), ?_⟩
    refine ⟨_, rfl, .ref p, .ty "list", _, _, true, rfl, .ty _, tyL hS, kit_ty (by decide +kernel), true, rfl, iteF ?_⟩
    refine ⟨_, rfl, p, _, rfl, hS, for_enum (xs := ws.map V.str) (fun i σ' H' => Kp Ps H H' ∧ ∃ y1 y2, σ' = [some (.ref p), y1, y2]) ⟨Kp.refl ht, none, none, rfl⟩ (fun i σ' H' _ hp => hp.1.seq ht hS) (fun i x T σ' H' hx nT hp => ?_) (fun σ' H' hp => q H' hp.1)⟩
    obtain ⟨k, y1, y2, rfl⟩ := hp
    rw [List.getElem?_map] at hx
    obtain ⟨a, ha, rfl⟩ := Option.map_eq_some_iff.mp hx
    have hwa := hw a (List.mem_of_getElem? ha)
    have k2 : Kp Ps H (upd H' T (.tup [.int (i : Nat), .str a])) := k.trans (Kp.new k.1 nT)
    refine ⟨T, _, rfl, .inl (.inl upd_same), rfl, _, _, rfl, _, _, rfl, rfl, ?_⟩
    refine ⟨_, rfl, a, rfl, small_line (by have := wordB_len hwa; omega), k2.1, fun H3 k3 => ⟨_, rfl, ?_⟩⟩
    rw [hwa]
    exact iteF ⟨k2.trans k3, _, _, rfl⟩

def spCheckLength (K : PySem.W.Frag) : Sp := fun vs H Q _ => ∃ (p : Addr) (xs : List V), vs = [.ref p] ∧ SqL K H p xs ∧ xs.length ≤ 120 ∧ Q .non H
theorem ok_check_length {f : Addr} {fd : FuncData} (F : FnP K "check_length" sCheckLength f fd) (mL : mg "len" = none) {tM : Tok} (mM : mg "MOST" = some (.int 120 tM)) : FnOk P w K mg base (L2.CX P w) 1 f fd ["words"] (spCheckLength K) := by
  refine F.ok scCheckLength (fun vs H Q E h => ?_) (fun cdv A outer s H vs Q E hr h => ?_)
  · obtain ⟨p, xs, rfl, _⟩ := h
    rfl
  · obtain ⟨p, xs, rfl, hS, hl, q⟩ := h
    refine ⟨_, pss_one (ps_if (pt_cmpR op_gt (pe_callB call_len_seq (by rfl) mL PySem.boot_len (pa_cons (pv 0) pa_nil)) (pe_glob (v := .int 120) (by rfl) mM ⟨_, rfl⟩) (nomark _)) pss_never pss_nil), ?_⟩
    refine ⟨_, rfl, p, _, rfl, .inl hS, _, _, rfl, rfl, _, rfl, ?_⟩
    have e : decide ((xs.length : Int) > 120) = false := decide_eq_false (by omega)
    show if decide ((xs.length : Int) > 120) = true then _ else _
    rw [e]
    exact iteF q
def spCheckText (K : PySem.W.Frag) (Ps : List Addr) : Sp := fun vs H Q _ => ∃ (p : Addr) (ws : List Str), vs = [.ref p] ∧ SqL K H p (ws.map V.str) ∧ (∀ a ∈ ws, wordB a = true) ∧ ws.length ≤ 120 ∧ Tb Ps H ∧ ∀ H', Kp Ps H H' → Q .non H'
theorem ok_check_text {Ps : List Addr} {f fW fL : Addr} {fd fdW fdL : FuncData} (F : FnP K "check_text" sCheckText f fd) (GW : FnOk P w K mg base (L2.CX P w) 4 fW fdW ["words"] (spCheckWords K Ps)) (kW : PySem.W.keepIn K (.ref fW) = true) (bW : Binds K fdW ["words"] []) (gW : mg "check_words" = some (.ref fW))
    (GL : FnOk P w K mg base (L2.CX P w) 1 fL fdL ["words"] (spCheckLength K)) (kL : PySem.W.keepIn K (.ref fL) = true) (bL : Binds K fdL ["words"] []) (gL : mg "check_length" = some (.ref fL)) : FnOk P w K mg base (L2.CX P w) 5 f fd ["words"] (spCheckText K Ps) := by
  refine F.ok scCheckText (fun vs H Q E h => ?_) (fun cdv A outer s H vs Q E hr h => ?_)
  · obtain ⟨p, ws, rfl, _⟩ := h
    rfl
  · obtain ⟨p, ws, rfl, hS, hw, hl, ht, q⟩ := h
    refine ⟨_, pss_cons (ps_expr (pe_call GW hr (by rfl) gW kW bW .nil passL (pa_cons (pv 0) pa_nil))) (pss_one (ps_expr (pe_call GL (hr.mono (by decide)) (by rfl) gL kL bL .nil passL (pa_cons (pv 0) pa_nil)))), ?_⟩
    refine ⟨_, rfl, p, ws, rfl, hS, hw, ht, fun H' k => ?_⟩
    exact ⟨_, rfl, p, _, rfl, k.seq ht hS, by rw [List.length_map]; exact hl, q H' k⟩
end
/-! ### rows, plainly -/
structure RowD where
  kind : Str
  num : Int
  ws : List Str
def plainK : List Str := ["keep", "cut", "put"]
def blockK : List Str := ["take", "lay"]
def oldK : List Str := ["keep", "cut", "take"]
def newK : List Str := ["keep", "put", "lay"]
def numB (k : Str) (n : Int) : Bool := if inV (.str k) (blockK.map V.str) = true then decide (1 ≤ n) && decide (n ≤ 999999999) else decide (V.int n = V.int 0)
structure RowOk (r : RowD) : Prop where
  kind : r.kind ∈ plainK ++ blockK
  num : numB r.kind r.num = true
  some : r.ws ≠ []
  words : ∀ a ∈ r.ws, wordB a = true
def RowAt (K : PySem.W.Frag) (H : Hp) (v : V) (r : RowD) : Prop := ∃ T W, v = .ref T ∧ SqT K H T [.str r.kind, .int r.num, .ref W] ∧ SqT K H W (r.ws.map V.str)
def RowsAt (K : PySem.W.Frag) (H : Hp) (xs : List V) (rs : List RowD) : Prop := xs.length = rs.length ∧ ∀ (i : Nat) (v : V), xs[i]? = some v → ∃ r, rs[i]? = some r ∧ RowAt K H v r
theorem RowAt.kp {K : PySem.W.Frag} {Ps : List Addr} {H H' : Hp} {v : V} {r : RowD} (t : Tb Ps H) (k : Kp Ps H H') (h : RowAt K H v r) : RowAt K H' v r :=
  let ⟨T, W, e, h1, h2⟩ := h; ⟨T, W, e, k.seqT t h1, k.seqT t h2⟩
theorem RowsAt.kp {K : PySem.W.Frag} {Ps : List Addr} {H H' : Hp} {xs : List V} {rs : List RowD} (t : Tb Ps H) (k : Kp Ps H H') (h : RowsAt K H xs rs) : RowsAt K H' xs rs :=
  ⟨h.1, fun i v e => let ⟨r, h1, h2⟩ := h.2 i v e; ⟨r, h1, h2.kp t k⟩⟩
theorem inV_strs (k : Str) : ∀ l : List Str, inV (.str k) (l.map V.str) = decide (k ∈ l) := by
  intro l
  unfold inV
  induction l with
  | nil => rfl
  | cons a r ih =>
    rw [List.map_cons, List.any_cons, ih]
    have e : eqV (V.str a) (V.str k) = decide (k = a) := by
      show decide (a = k) = decide (k = a)
      by_cases h : a = k
      · subst h
        rfl
      · rw [decide_eq_false h, decide_eq_false (Ne.symm h)]
    rw [e]
    by_cases h : k = a
    · rw [decide_eq_true h, decide_eq_true (show k ∈ a :: r from h ▸ List.mem_cons_self)]
      rfl
    · by_cases h2 : k ∈ r
      · rw [decide_eq_true h2, decide_eq_true (List.mem_cons_of_mem _ h2), Bool.or_true]
      · rw [decide_eq_false h, decide_eq_false h2, decide_eq_false (fun z => (List.mem_cons.mp z).elim h h2)]
        rfl
theorem flat_strs : ∀ l : List Str, (l.map V.str).all flatV = true := by
  intro l
  induction l with
  | nil => rfl
  | cons a r ih =>
    rw [List.map_cons, List.all_cons, ih]
    rfl
/-- a tuple of texts that stands at the top -/
def KTup (K : PySem.W.Frag) (a : Addr) (l : List Str) : Prop := ∀ H, SqT K H a (l.map V.str)
def tupB (K : PySem.W.Frag) (a : Addr) (l : List Str) : Bool := match K.lookup a with
  | some ⟨.type c, _, .seq its _, _⟩ => decide (c = "tuple") && (decide (its.size ≤ 100) && He.relAll (l.map V.str) its.toList)
  | _ => false
theorem tupB_ok {K : PySem.W.Frag} {a : Addr} {l : List Str} (h : tupB K a l = true) : KTup K a l := by
  intro H
  unfold tupB at h
  cases q : K.lookup a with
  | none =>
    rw [q] at h
    cases h
  | some o =>
    obtain ⟨oc, od, dt, osl⟩ := o
    rw [q] at h
    cases oc with
    | type c =>
      cases dt with
      | seq its n =>
        have h2 : (decide (c = "tuple") && (decide (its.size ≤ 100) && He.relAll (l.map V.str) its.toList)) = true := h
        rw [Bool.and_eq_true, Bool.and_eq_true] at h2
        obtain ⟨h3, h4, h5⟩ := h2
        refine .inr ⟨_, its, n, q, congrArg Value.type (of_decide_eq_true h3), rfl, Nat.le_trans (of_decide_eq_true h4) (by decide), He.relAll_ok h5⟩
      | _ => cases h
    | _ => cases dt <;> cases h
def strV : V → Bool
  | .str a => wordB a
  | _ => false
theorem all_strV : ∀ ws : List Str, (ws.map V.str).all strV = ws.all wordB := by
  intro ws
  induction ws with
  | nil => rfl
  | cons a r ih =>
    rw [List.map_cons, List.all_cons, List.all_cons, ih]
    rfl
/-! ### the program's rows -/
section
variable {P : Program} {w : World} {K : PySem.W.Frag} {mg : Str → Option Value} {base : Heap}
theorem scIsNumber : FnScope ["kind", "number"] ["kind", "number"] (defScope sIsNumber) := ⟨rfl, rfl, rfl, by decide +kernel, rfl, by decide +kernel, by decide +kernel⟩
theorem scRowWords : FnScope ["words", "word"] ["words"] (defScope sRowWords) := ⟨rfl, rfl, rfl, by decide +kernel, rfl, by decide +kernel, by decide +kernel⟩
theorem scIsRow : FnScope ["row", "kind", "number", "words"] ["row"] (defScope sIsRow) := ⟨rfl, rfl, rfl, by decide +kernel, rfl, by decide +kernel, by decide +kernel⟩
theorem scCheckRows : FnScope ["rows", "at", "row"] ["rows"] (defScope sCheckRows) := ⟨rfl, rfl, rfl, by decide +kernel, rfl, by decide +kernel, by decide +kernel⟩
def spIsNumber : Sp := fun vs H Q _ => ∃ (k : Str) (n : Int), vs = [.str k, .int n] ∧ Q (.bl (numB k n)) H
theorem ok_is_number {aB f : Addr} {fd : FuncData} (F : FnP K "is_number" sIsNumber f fd) (mI : mg "isinstance" = none) (mN : mg "int" = none) (mO : mg "bool" = none) (mB : mg "BLOCK_KINDS" = some (.ref aB)) (kB : KTup K aB blockK) {tL : Tok} (mL : mg "LAST_BLOCK" = some (.int 999999999 tL)) :
    FnOk P w K mg base (L2.CX P w) 1 f fd ["kind", "number"] spIsNumber := by
  refine F.ok scIsNumber (fun vs H Q E h => ?_) (fun cdv A outer s H vs Q E hr h => ?_)
  · obtain ⟨k, n, rfl, _⟩ := h
    rfl
  · obtain ⟨k, n, rfl, q⟩ := h
    refine ⟨_, pss_cons (ps_if (PW.pt (pw_or (pt_not (pt_val (pe_callB call_isi (by rfl) mI (by decide +kernel) (pa_cons (pv 1) (pa_cons (pe_bltn (v := .ty "int") (by rfl) mN (by decide +kernel) rfl) pa_nil)))))
        (pw_or1 (pt_val (pe_callB call_isi (by rfl) mI (by decide +kernel) (pa_cons (pv 1) (pa_cons (pe_bltn (v := .ty "bool") (by rfl) mO (by decide +kernel) rfl) pa_nil))))))) (pss_one (ps_ret pe_bl)) pss_nil)
      (pss_cons (ps_if (pt_cmpR op_in_seq (pv 0) (pe_glob (v := .ref aB) (by rfl) mB rfl) (by rfl)) (pss_one (ps_ret (pe_chain op_le op_le pe_int (pv 1) (pe_glob (v := .int 999999999) (by rfl) mL ⟨_, rfl⟩)))) pss_nil)
      (pss_one (ps_ret (pe_cmpR op_eq (pv 1) pe_int (nomark _))))), ?_⟩
    refine ⟨_, rfl, .int n, .ty "int", _, _, true, rfl, .ty _, .base (.int n), kit_ty (by decide +kernel), true, rfl, iteF ?_⟩
    refine ⟨_, rfl, .int n, .ty "bool", _, _, false, rfl, .ty _, .base (.int n), kit_ty (by decide +kernel), false, rfl, iteF ?_⟩
    refine ⟨_, rfl, aB, blockK.map V.str, rfl, .inr (kB H), rfl, flat_strs _, _, rfl, ?_⟩
    unfold numB at q
    show if inV (.str k) (blockK.map V.str) = true then _ else _
    cases e : inV (.str k) (blockK.map V.str) with
    | true =>
      rw [e, if_pos rfl] at q
      refine iteT ⟨_, rfl, _, _, rfl, rfl, _, rfl, ?_⟩
      by_cases h1 : 1 ≤ n
      · rw [decide_eq_true h1] at q ⊢
        exact iteT ⟨_, _, rfl, rfl, q⟩
      · rw [decide_eq_false h1] at q ⊢
        exact iteF q
    | false =>
      rw [e, if_neg Bool.false_ne_true] at q
      exact iteF ⟨_, rfl, rfl, q⟩
def spRowWords (K : PySem.W.Frag) (Ps : List Addr) : Sp := fun vs H Q _ => ∃ (W : Addr) (ws : List Str), vs = [.ref W] ∧ SqT K H W (ws.map V.str) ∧ ws ≠ [] ∧ (∀ a ∈ ws, a.length ≤ sizeLine) ∧ Tb Ps H ∧ ∀ H', Kp Ps H H' → Q (.bl (ws.all wordB)) H'
theorem ok_row_words {Ps : List Addr} {f fW Pr : Addr} {fd fdW : FuncData} (F : FnP K "is_row_of_words" sRowWords f fd) (hf : f = He.fAd K ("is_row_of_words", none)) (hPr : Pr ∈ Ps) (TB : GxR.TabB base mg (He.codeOf K ("is_row_of_words", none)) Pr)
    (GW : FnOk P w K mg base (L2.CX P w) 3 fW fdW ["word"] (spIsWord Ps)) (kW : PySem.W.keepIn K (.ref fW) = true) (bW : Binds K fdW ["word"] []) (gW : mg "is_word" = some (.ref fW))
    (mI : mg "isinstance" = none) (mT : mg "tuple" = none) (mL : mg "len" = none) (mA : mg "all" = none) : FnOk P w K mg base (L2.CX P w) 5 f fd ["words"] (spRowWords K Ps) := by
  refine okC F hf scRowWords (fun vs H Q E h => ?_) (fun A outer s H vs Q E hr h => ?_)
  · obtain ⟨W, ws, rfl, _⟩ := h
    rfl
  · obtain ⟨W, ws, rfl, hS, hne, hz, ht, q⟩ := h
    refine ⟨_, pss_cons (ps_if (PW.pt (pw_or (pt_not (pt_val (pe_callB call_isi (by rfl) mI (by decide +kernel) (pa_cons (pv 0) (pa_cons (pe_bltn (v := .ty "tuple") (by rfl) mT (by decide +kernel) rfl) pa_nil)))))
        (pw_or1 (pt_cmpR op_eq (pe_callB call_len_seq (by rfl) mL PySem.boot_len (pa_cons (pv 0) pa_nil)) pe_int (nomark _))))) (pss_one (ps_ret pe_bl)) pss_nil)
      (pss_one (ps_ret (pe_allG (own := [("word", 1)]) (gt := gName 1) (tt := tYes) (P := Pr) hr scRowWords.nd (by rfl) mA (by decide +kernel) TB rfl ⟨rfl, by decide +kernel, rfl, blkOk_by (N := ["words", "word"]) (sc := defScope sRowWords) (by decide +kernel)⟩ (pi_tup (pv 0))
          (fun _ _ _ _ _ _ _ _ _ => pg_name (i := 1) scRowWords.nd rfl (Or.inl rfl)) (fun _ _ _ _ _ _ _ _ _ _ => pts_nil) (fun _ _ _ _ _ _ _ _ _ hb => pe_call GW hb (by rfl) gW kW bW .nil passL (pa_cons (pv 1) pa_nil))))), ?_⟩
    refine ⟨_, rfl, .ref W, .ty "tuple", _, _, true, rfl, .ty _, tyT hS, kit_ty (by decide +kernel), true, rfl, iteF ?_⟩
    refine ⟨_, rfl, W, _, rfl, .inr hS, rfl, _, rfl, ?_⟩
    have e0 : decide (V.int ((ws.map V.str).length : Int) = V.int 0) = false := decide_eq_false fun z => by
      have z2 := V.int.inj z
      rw [List.length_map] at z2
      exact hne (List.length_eq_zero_iff.mp (by omega))
    rw [e0]
    refine iteF ⟨_, rfl, W, rfl, ⟨_, hS⟩, ht Pr hPr, fun H2 hT => ?_⟩
    have k2 := Kp.tab ht hPr hT
    refine read_all_tup (xs := ws.map V.str) (pb := strV) (Pv := fun H3 => Kp Ps H H3) k2 (fun H3 p => p.seqT ht hS) (fun i v H3 R hx p hR => ?_) (fun H3 p => ?_)
    · rw [List.getElem?_map] at hx
      obtain ⟨a, ha, rfl⟩ := Option.map_eq_some_iff.mp hx
      exact ⟨rfl, _, rfl, a, rfl, hz a (List.mem_of_getElem? ha), p.1, fun H4 k4 => hR H4 (p.trans k4)⟩
    · rw [all_strV]
      exact q H3 p
def spIsRow (K : PySem.W.Frag) (Ps : List Addr) : Sp := fun vs H Q _ => ∃ (v : V) (r : RowD), vs = [v] ∧ RowAt K H v r ∧ RowOk r ∧ Tb Ps H ∧ ∀ H', Kp Ps H H' → Q (.bl true) H'
theorem ok_is_row {Ps : List Addr} {aP aB f fN fW : Addr} {fd fdN fdW : FuncData} (F : FnP K "is_row" sIsRow f fd)
    (GN : FnOk P w K mg base (L2.CX P w) 1 fN fdN ["kind", "number"] spIsNumber) (kN : PySem.W.keepIn K (.ref fN) = true) (bN : Binds K fdN ["kind", "number"] []) (gN : mg "is_number" = some (.ref fN))
    (GW : FnOk P w K mg base (L2.CX P w) 5 fW fdW ["words"] (spRowWords K Ps)) (kW : PySem.W.keepIn K (.ref fW) = true) (bW : Binds K fdW ["words"] []) (gW : mg "is_row_of_words" = some (.ref fW))
    (mI : mg "isinstance" = none) (mT : mg "tuple" = none) (mL : mg "len" = none) (mP : mg "PLAIN_KINDS" = some (.ref aP)) (kP : KTup K aP plainK) (mB : mg "BLOCK_KINDS" = some (.ref aB)) (kB : KTup K aB blockK) : FnOk P w K mg base (L2.CX P w) 6 f fd ["row"] (spIsRow K Ps) := by
  refine F.ok scIsRow (fun vs H Q E h => ?_) (fun cdv A outer s H vs Q E hr h => ?_)
  · obtain ⟨v, r, rfl, _⟩ := h
    rfl
  · obtain ⟨v, r, rfl, ⟨T, W, rfl, hT, hW⟩, ok, ht, q⟩ := h
    refine ⟨_, pss_cons (ps_if (PW.pt (pw_or (pt_not (pt_val (pe_callB call_isi (by rfl) mI (by decide +kernel) (pa_cons (pv 0) (pa_cons (pe_bltn (v := .ty "tuple") (by rfl) mT (by decide +kernel) rfl) pa_nil)))))
        (pw_or1 (pt_cmpR op_ne (pe_callB call_len_seq (by rfl) mL PySem.boot_len (pa_cons (pv 0) pa_nil)) pe_int (nomark _))))) (pss_one (ps_ret pe_bl)) pss_nil)
      (pss_cons (ps_asg (pv 0) (pg_tup (by rfl) (pgs_cons (pg_name (i := 1) scIsRow.nd rfl (.inl rfl)) (pgs_cons (pg_name (i := 2) scIsRow.nd rfl (.inl rfl)) (pgs_cons (pg_name (i := 3) scIsRow.nd rfl (.inl rfl)) pgs_nil)))))
      (pss_cons (ps_if (PW.pt (pw_and (pt_cmpR op_notIn_seq (pv 1) (pe_glob (v := .ref aP) (by rfl) mP rfl) (by rfl)) (pw_and1 (pt_cmpR op_notIn_seq (pv 1) (pe_glob (v := .ref aB) (by rfl) mB rfl) (by rfl))))) (pss_one (ps_ret pe_bl)) pss_nil)
      (pss_one (ps_ret (pe_and (pe_call GN (hr.mono (by decide)) (by rfl) gN kN bN .nil passL (pa_cons (pv 1) (pa_cons (pv 2) pa_nil))) (pe_one (pe_call GW hr (by rfl) gW kW bW .nil passL (pa_cons (pv 3) pa_nil)))))))), ?_⟩
    refine ⟨_, rfl, .ref T, .ty "tuple", _, _, true, rfl, .ty _, tyT hT, kit_ty (by decide +kernel), true, rfl, iteF ?_⟩
    refine ⟨_, rfl, T, _, rfl, .inr hT, rfl, _, rfl, iteF ?_⟩
    refine ⟨_, rfl, T, _, rfl, hT, rfl, _, _, rfl, _, _, rfl, _, _, rfl, rfl, ?_⟩
    refine ⟨_, rfl, aP, plainK.map V.str, rfl, .inr (kP H), rfl, flat_strs _, _, rfl, ?_⟩
    have rest : ∀ b : Bool, b = (!inV (.str r.kind) (blockK.map V.str)) → b = false ∨ (!inV (.str r.kind) (plainK.map V.str)) = false := fun b hb => by
      rw [inV_strs] at hb
      rw [inV_strs]
      rcases List.mem_append.mp ok.kind with h | h
      · exact .inr (by rw [decide_eq_true h]; rfl)
      · exact .inl (by rw [hb, decide_eq_true h]; rfl)
    have fin : ∀ H1, H1 = H → ((FnOk P w K mg base (L2.CX P w) 1 fN fdN ["kind", "number"] spIsNumber) → tAndV (tCall spIsNumber [] E0 (tCons (tVar 1) (tCons (tVar 2) tNil))) (tCall (spRowWords K Ps) [] E0 (tCons (tVar 3) tNil)) [some (.ref T), some (.str r.kind), some (.int r.num), some (.ref W)] H1 Q) := fun H1 e _ => by
      subst e
      refine ⟨_, rfl, _, rfl, r.kind, r.num, rfl, _, rfl, ?_⟩
      rw [ok.num]
      refine iteT ⟨_, rfl, W, r.ws, rfl, hW, ok.some, fun a ha => small_line (by have := wordB_len (ok.words a ha); omega), ht, fun H' k => ?_⟩
      rw [List.all_eq_true.mpr ok.words]
      exact q H' k
    cases e : inV (.str r.kind) (plainK.map V.str) with
    | true => exact iteF (iteF (fin H rfl GN))
    | false =>
      refine iteT ⟨_, rfl, aB, blockK.map V.str, rfl, .inr (kB H), rfl, flat_strs _, _, rfl, ?_⟩
      rcases rest _ rfl with h | h
      · show if (!inV (.str r.kind) (blockK.map V.str)) = true then _ else _
        rw [h]
        exact iteF (fin H rfl GN)
      · rw [e] at h
        cases h
def spCheckRows (K : PySem.W.Frag) (Ps : List Addr) : Sp := fun vs H Q _ => ∃ (p : Addr) (xs : List V) (rs : List RowD), vs = [.ref p] ∧ SqL K H p xs ∧ RowsAt K H xs rs ∧ (∀ r ∈ rs, RowOk r) ∧ Tb Ps H ∧ ∀ H', Kp Ps H H' → Q .non H'
theorem ok_check_rows {Ps : List Addr} {f fR : Addr} {fd fdR : FuncData} (F : FnP K "check_rows" sCheckRows f fd) (GR : FnOk P w K mg base (L2.CX P w) 6 fR fdR ["row"] (spIsRow K Ps)) (kR : PySem.W.keepIn K (.ref fR) = true) (bR : Binds K fdR ["row"] []) (gR : mg "is_row" = some (.ref fR))
    (mI : mg "isinstance" = none) (mT : mg "list" = none) (mE : mg "enumerate" = none) : FnOk P w K mg base (L2.CX P w) 7 f fd ["rows"] (spCheckRows K Ps) := by
  refine F.ok scCheckRows (fun vs H Q E h => ?_) (fun cdv A outer s H vs Q E hr h => ?_)
  · obtain ⟨p, xs, rs, rfl, _⟩ := h
    rfl
  · obtain ⟨p, xs, rs, rfl, hS, hR, hok, ht, q⟩ := h
    refine ⟨_, pss_cons (ps_if (pt_not (pt_val (pe_callB call_isi (by rfl) mI (by decide +kernel) (pa_cons (pv 0) (pa_cons (pe_bltn (v := .ty "list") (by rfl) mT (by decide +kernel) rfl) pa_nil))))) pss_never pss_nil)
      (pss_one (ps_for (passes_of rfl) rfl (pi_enum (by rfl) mE (pa_cons (pv 0) pa_nil)) (pg_tup rfl (pgs_cons (pg_name (i := 1) scCheckRows.nd rfl (.inl rfl)) (pgs_cons (pg_name (i := 2) scCheckRows.nd rfl (.inl rfl)) pgs_nil)))
        (pss_one (ps_if (pt_not (pt_val (pe_call GR hr (by rfl) gR kR bR .nil passL (pa_cons (pv 2) pa_nil)))) pss_never pss_nil)))), ?_⟩
    refine ⟨_, rfl, .ref p, .ty "list", _, _, true, rfl, .ty _, tyL hS, kit_ty (by decide +kernel), true, rfl, iteF ?_⟩
    refine ⟨_, rfl, p, _, rfl, hS, for_enum (xs := xs) (fun i σ' H' => Kp Ps H H' ∧ ∃ y1 y2, σ' = [some (.ref p), y1, y2]) ⟨Kp.refl ht, none, none, rfl⟩ (fun i σ' H' _ hp => hp.1.seq ht hS) (fun i x T σ' H' hx nT hp => ?_) (fun σ' H' hp => q H' hp.1)⟩
    obtain ⟨k, y1, y2, rfl⟩ := hp
    obtain ⟨r, hr1, hr2⟩ := hR.2 i x hx
    have k2 : Kp Ps H (upd H' T (.tup [.int (i : Nat), x])) := k.trans (Kp.new k.1 nT)
    refine ⟨T, _, rfl, .inl (.inl upd_same), rfl, _, _, rfl, _, _, rfl, rfl, ?_⟩
    exact ⟨_, rfl, x, r, rfl, hr2.kp ht k2, hok r (List.mem_of_getElem? hr1), k2.1, fun H3 k3 => ⟨_, rfl, iteF ⟨k2.trans k3, _, _, rfl⟩⟩⟩
end
/-! ### the way back, the cost -/
def wayB (k : Str) : Str := if k = "cut" then "put" else if k = "put" then "cut" else if k = "take" then "lay" else if k = "lay" then "take" else "keep"
def cutPut : List Str := ["cut", "put"]
def turnR (r : RowD) : RowD := { r with kind := wayB r.kind }
def rowCost (r : RowD) : Int := if inV (.str r.kind) (cutPut.map V.str) = true then (r.ws.length : Int) else if r.kind = "take" then 3 else 0
def costOf (rs : List RowD) : Int := (rs.map rowCost).sum
theorem RowAt.set {K : PySem.W.Frag} {H : Hp} {D : Addr} {o : HO} {v : V} {r : RowD} (hD : ∀ xs, ¬ Rd H D (.tup xs)) (h : RowAt K H v r) : RowAt K (upd H D o) v r := by
  obtain ⟨T, W, e, h1, h2⟩ := h
  have key : ∀ {a : Addr} {xs : List V}, SqT K H a xs → SqT K (upd H D o) a xs := fun {a xs} h => by
    rcases h with h | h
    · have ne : a ≠ D := fun z => hD xs (by rw [← z]; exact h)
      rcases h with h | ⟨ob, h⟩
      · exact .inl (.inl (by rw [upd_ne ne]; exact h))
      · exact .inl (.inr ⟨ob, by rw [upd_ne ne]; exact h⟩)
    · exact .inr h
  exact ⟨T, W, e, key h1, key h2⟩
theorem noTup {H : Hp} {D : Addr} {ys : List V} (h : H D = some (.lst ys)) : ∀ xs, ¬ Rd H D (.tup xs) := fun xs z => by
  rcases z with z | ⟨o, z⟩
  · rw [h] at z
    cases z
  · rw [h] at z
    cases z
section
variable {P : Program} {w : World} {K : PySem.W.Frag} {mg : Str → Option Value} {base : Heap}
theorem scCost : FnScope ["rows", "total", "kind", "_", "words"] ["rows"] (defScope sCost) := ⟨rfl, rfl, rfl, by decide +kernel, rfl, by decide +kernel, by decide +kernel⟩
def spCost (K : PySem.W.Frag) (Ps : List Addr) : Sp := fun vs H Q _ => ∃ (p : Addr) (xs : List V) (rs : List RowD), vs = [.ref p] ∧ SqL K H p xs ∧ RowsAt K H xs rs ∧ (∀ r ∈ rs, RowOk r) ∧ Tb Ps H ∧ ∀ H', Kp Ps H H' → Q (.int (costOf rs)) H'
theorem ok_cost {Ps : List Addr} {f fC : Addr} {fd fdC : FuncData} (F : FnP K "cost" sCost f fd) (GC : FnOk P w K mg base (L2.CX P w) 7 fC fdC ["rows"] (spCheckRows K Ps)) (kC : PySem.W.keepIn K (.ref fC) = true) (bC : Binds K fdC ["rows"] []) (gC : mg "check_rows" = some (.ref fC))
    (mL : mg "len" = none) {tP : Tok} (mP : mg "PRICE" = some (.int 3 tP)) : FnOk P w K mg base (L2.CX P w) 8 f fd ["rows"] (spCost K Ps) := by
  refine F.ok scCost (fun vs H Q E h => ?_) (fun cdv A outer s H vs Q E hr h => ?_)
  · obtain ⟨p, xs, rs, rfl, _⟩ := h
    rfl
  · obtain ⟨p, xs, rs, rfl, hS, hR, hok, ht, q⟩ := h
    refine ⟨_, pss_cons (ps_expr (pe_call GC hr (by rfl) gC kC bC .nil passL (pa_cons (pv 0) pa_nil)))
      (pss_cons (ps_set (i := 1) scCost.nd rfl (.inl rfl) pe_int)
      (pss_cons (ps_for (passes_of rfl) rfl (pi_list (pv 0)) (pg_tup rfl (pgs_cons (pg_name (i := 2) scCost.nd rfl (.inl rfl)) (pgs_cons (pg_name (i := 3) scCost.nd rfl (.inl rfl)) (pgs_cons (pg_name (i := 4) scCost.nd rfl (.inl rfl)) pgs_nil))))
        (pss_one (ps_if (pt_cmpR op_in_seq (pv 2) (pe_tup (pa_cons pe_str (pa_cons pe_str pa_nil))) (by rfl)) (pss_one (ps_aug (i := 1) scCost.nd rfl (.inl rfl) (pe_callB call_len_seq (by rfl) mL PySem.boot_len (pa_cons (pv 4) pa_nil)) ip_add))
          (pss_one (ps_if (pt_cmpR op_eq (pv 2) pe_str (nomark _)) (pss_one (ps_aug (i := 1) scCost.nd rfl (.inl rfl) (pe_glob (v := .int 3) (by rfl) mP ⟨_, rfl⟩) ip_add)) pss_nil)))))
      (pss_one (ps_ret (pv 1))))), ?_⟩
    refine ⟨_, rfl, p, xs, rs, rfl, hS, hR, hok, ht, fun H1 k1 => ?_⟩
    have hS1 := k1.seq ht hS
    refine ⟨_, rfl, p, rfl, ⟨_, hS1⟩, for_list (xs := xs) (fun i σ' H' => Kp Ps H H' ∧ ∃ y2 y3 y4, σ' = [some (.ref p), some (.int (costOf (rs.take i))), y2, y3, y4]) ⟨k1, none, none, none, rfl⟩ (fun i σ' H' _ hp => hp.1.seq ht hS) (fun i x σ' H' hx hp => ?_) (fun σ' H' hp => ?_)⟩
    · obtain ⟨k, y2, y3, y4, rfl⟩ := hp
      obtain ⟨r, hr1, hr2⟩ := hR.2 i x hx
      obtain ⟨T, W, rfl, hT, hW⟩ := hr2.kp ht k
      have ec : costOf (rs.take (i + 1)) = costOf (rs.take i) + rowCost r := by
        unfold costOf
        rw [List.take_add_one, hr1, List.map_append, List.sum_append]
        show _ + (rowCost r + 0) = _
        omega
      refine ⟨T, _, rfl, hT, rfl, _, _, rfl, _, _, rfl, _, _, rfl, rfl, ?_⟩
      refine ⟨_, rfl, by show 2 ≤ sizeLine; decide, fun t nt => ?_⟩
      have k2 := k.trans (Kp.new (p := t) (o := .tup [.str "cut", .str "put"]) k.1 nt)
      refine ⟨t, cutPut.map V.str, rfl, .inr (.inl (.inl upd_same)), rfl, flat_strs _, _, rfl, ?_⟩
      show if inV (.str r.kind) (cutPut.map V.str) = true then _ else _
      cases e : inV (.str r.kind) (cutPut.map V.str) with
      | true =>
        have er : rowCost r = (r.ws.length : Int) := by
          unfold rowCost
          rw [e, if_pos rfl]
        refine iteT ⟨_, rfl, _, rfl, W, _, rfl, .inr ((Kp.new k.1 nt).seqT k.1 hW), _, _, rfl, rfl, ?_⟩
        refine ⟨k2, some (.str r.kind), some (.int r.num), some (.ref W), ?_⟩
        rw [ec, er, List.length_map]
        rfl
      | false =>
        refine iteF ⟨_, rfl, rfl, _, rfl, ite2 (fun e2 => ?_) (fun e2 => ?_)⟩
        · have e3 : r.kind = "take" := V.str.inj (of_decide_eq_true e2)
          have er : rowCost r = 3 := by
            unfold rowCost
            rw [e, if_neg Bool.false_ne_true, if_pos e3]
          refine ⟨_, rfl, _, _, rfl, rfl, k2, some (.str r.kind), some (.int r.num), some (.ref W), ?_⟩
          rw [ec, er]
          rfl
        · have e3 : r.kind ≠ "take" := fun z => e2 (decide_eq_true (congrArg V.str z))
          have er : rowCost r = 0 := by
            unfold rowCost
            rw [e, if_neg Bool.false_ne_true, if_neg e3]
          refine ⟨k2, some (.str r.kind), some (.int r.num), some (.ref W), ?_⟩
          rw [ec, er, Int.add_zero]
          rfl
    · obtain ⟨k, y2, y3, y4, rfl⟩ := hp
      have e : rs.take xs.length = rs := List.take_of_length_le (by rw [hR.1]; exact Nat.le_refl _)
      rw [e]
      exact ⟨_, rfl, q H' k⟩
end
/-! ### rows as data; what the laws say of rows -/
theorem signB_lt' {c : Nat} (h : signB c = true) : c < 127 := by
  unfold signB at h
  rw [Bool.or_eq_true, Bool.and_eq_true, Bool.and_eq_true, Bool.not_eq_true', Bool.not_eq_true', Bool.not_eq_true', Bool.not_eq_true'] at h
  rcases h with ⟨_, h⟩ | ⟨_, h⟩
  · have := of_decide_eq_false h
    omega
  · have := of_decide_eq_false h
    omega
theorem strOk_word {a : Str} (h : wordB a = true) : PyData.strOk a = true := by
  unfold PyData.strOk
  rw [Array.all_eq_true]
  intro i hi
  have h1 : a.cps[i] ∈ a.cps.toList := by simp
  have h2 := signB_lt' (wordB_signs h _ h1)
  exact decide_eq_true (by omega)
theorem dpStrs (H : Hp) (K : PySem.W.Frag) : ∀ ws : List Str, DpAll K H (ws.map V.str) (ws.map PyData.str)
  | [] => .nil
  | x :: r => .cons (.str x) (dpStrs H K r)
theorem lay_strs : ∀ ws : List Str, (∀ a ∈ ws, PyData.strOk a = true) → PyData.canLayAll0 (ws.map PyData.str) = true := fun ws => by
  induction ws with
  | nil => exact fun _ => rfl
  | cons x r ih =>
    intro h
    show (PyData.canLay0 (.str x) && PyData.canLayAll0 (r.map PyData.str)) = true
    rw [ih fun b hb => h b (List.mem_cons_of_mem _ hb), show PyData.canLay0 (.str x) = PyData.strOk x from rfl, h x List.mem_cons_self]
    rfl
theorem depth_strs : ∀ ws : List Str, PyData.depthAll (ws.map PyData.str) = 0 := fun ws => by
  induction ws with
  | nil => rfl
  | cons x r ih =>
    show max (PyData.depth (.str x)) (PyData.depthAll (r.map PyData.str)) = 0
    rw [ih]
    rfl
theorem shaped_words {ws : List Str} (h : ∀ a ∈ ws, PyData.strOk a = true) : SeqAt.shaped (.list (ws.map PyData.str)) = true := by
  show (PyData.canLayAll0 (ws.map PyData.str) && decide (PyData.depthAll (ws.map PyData.str) + 1 ≤ 64)) = true
  rw [lay_strs ws h, depth_strs]
  rfl
def rowData (r : RowD) : PyData := .tuple [.str r.kind, .int r.num, .tuple (r.ws.map PyData.str)]
theorem dpRow {K : PySem.W.Frag} {H : Hp} {v : V} {r : RowD} (h : RowAt K H v r) : Dp K H v (rowData r) := by
  obtain ⟨T, W, rfl, hT, hW⟩ := h
  exact .tup hT (.cons (.str _) (.cons (.int _) (.cons (.tup hW (dpStrs H K r.ws)) .nil)))
theorem dpRows {K : PySem.W.Frag} {H : Hp} : ∀ {xs : List V} {rs : List RowD}, RowsAt K H xs rs → DpAll K H xs (rs.map rowData)
  | [], [], _ => .nil
  | [], _ :: _, h => nomatch h.1
  | _ :: _, [], h => nomatch h.1
  | x :: xs, r :: rs, h => by
    obtain ⟨r', h1, h2⟩ := h.2 0 x rfl
    cases h1
    exact .cons (dpRow h2) (dpRows ⟨Nat.succ.inj h.1, fun i v e => h.2 (i + 1) v e⟩)
theorem kinds_strOk : ∀ k ∈ plainK ++ blockK, PyData.strOk k = true := by decide +kernel
theorem lay_rows : ∀ rs : List RowD, (∀ r ∈ rs, RowOk r) → PyData.canLayAll0 (rs.map rowData) = true := fun rs => by
  induction rs with
  | nil => exact fun _ => rfl
  | cons x r ih =>
    intro h
    have hx := h x List.mem_cons_self
    show (((PyData.strOk x.kind && (true && (PyData.canLayAll0 (x.ws.map PyData.str) && true)))) && PyData.canLayAll0 (r.map rowData)) = true
    rw [ih fun b hb => h b (List.mem_cons_of_mem _ hb), lay_strs x.ws fun a ha => strOk_word (hx.words a ha), kinds_strOk _ hx.kind]
    rfl
theorem depth_rows : ∀ rs : List RowD, PyData.depthAll (rs.map rowData) ≤ 2 := fun rs => by
  induction rs with
  | nil => exact Nat.zero_le _
  | cons x r ih =>
    show max (max (0 : Nat) (max (0 : Nat) (max (PyData.depthAll (x.ws.map PyData.str) + 1) 0)) + 1) (PyData.depthAll (r.map rowData)) ≤ 2
    rw [depth_strs]
    omega
theorem shaped_rows {rs : List RowD} (h : ∀ r ∈ rs, RowOk r) : SeqAt.shaped (.list (rs.map rowData)) = true := by
  show (PyData.canLayAll0 (rs.map rowData) && decide (PyData.depthAll (rs.map rowData) + 1 ≤ 64)) = true
  rw [lay_rows rs h, decide_eq_true (show PyData.depthAll (rs.map rowData) + 1 ≤ 64 by have := depth_rows rs; omega)]
  rfl
theorem noTb {H : Hp} : Tb [] H := fun _ h => by cases h
theorem RowAt.same {K : PySem.W.Frag} {H H' : Hp} {v : V} {r : RowD} (s : Same H H') (h : RowAt K H v r) : RowAt K H' v r := h.kp noTb (Kp.same noTb s)
theorem RowsAt.same {K : PySem.W.Frag} {H H' : Hp} {xs : List V} {rs : List RowD} (s : Same H H') (h : RowsAt K H xs rs) : RowsAt K H' xs rs := h.kp noTb (Kp.same noTb s)
theorem sameT {K : PySem.W.Frag} {H H' : Hp} {a : Addr} {xs : List V} (s : Same H H') (h : SqT K H a xs) : SqT K H' a xs := (Kp.same noTb s).seqT noTb h
theorem atM {α : Type} {l : List α} {c : Int} {n : Nat} {x : α} (hn : 0 < n) (h : l[(c % (n : Int)).toNat]? = some x) : atI l (c % (n : Int)) = some x := by
  have h1 : 0 ≤ c % (n : Int) := Int.emod_nonneg c (by omega)
  have e : c % (n : Int) = (((c % (n : Int)).toNat : Nat) : Int) := (Int.toNat_of_nonneg h1).symm
  rw [e]
  exact atI_nat h
theorem ltM {c : Int} {n : Nat} (hn : 0 < n) : (c % (n : Int)).toNat < n := by
  have h1 : 0 ≤ c % (n : Int) := Int.emod_nonneg c (by omega)
  have h2 : c % (n : Int) < (n : Int) := Int.emod_lt_of_pos c (by omega)
  omega
theorem lay_words {ws : List Str} (h : ∀ a ∈ ws, wordB a = true) : (PyData.tuple (ws.map PyData.str)).canLay0 = true := lay_strs ws fun a ha => strOk_word (h a ha)
theorem shaped_tup {ws : List Str} (h : ∀ a ∈ ws, wordB a = true) : SeqAt.shaped (.tuple (ws.map PyData.str)) = true := by
  show (PyData.canLayAll0 (ws.map PyData.str) && decide (PyData.depthAll (ws.map PyData.str) + 1 ≤ 64)) = true
  rw [lay_strs ws fun a ha => strOk_word (h a ha), depth_strs]
  rfl
theorem same_set {H H' : Hp} (m : Same H H') {D : Addr} {o : HO} (n : H D = none) : Same H (upd H' D o) := fun b u e => by
  rw [upd_ne (ne_of_none e n)]
  exact m b u e
/-! ### more of rows -/
theorem cut30 (xs : List V) : (cutV xs (some 4) (some 34)).length ≤ 30 := by
  unfold cutV
  have h1 : HT.sIx xs.length 0 (some 4) = min 4 xs.length := HT.sIx_nat _ _ 4
  have h2 : HT.sIx xs.length xs.length (some 34) = min 34 xs.length := HT.sIx_nat _ _ 34
  rw [h1, h2, List.length_take, List.length_drop]
  omega
theorem cut_mem {xs : List V} {lo hi : Option Int} {x : V} (h : x ∈ cutV xs lo hi) : x ∈ xs := List.mem_of_mem_drop (List.mem_of_mem_take h)
theorem RowsAt.snoc {K : PySem.W.Frag} {H : Hp} {xs : List V} {rs : List RowD} {v : V} {r : RowD} (h : RowsAt K H xs rs) (h2 : RowAt K H v r) : RowsAt K H (xs ++ [v]) (rs ++ [r]) := by
  refine ⟨by rw [List.length_append, List.length_append, h.1]; rfl, fun i x e => ?_⟩
  by_cases hi : i < xs.length
  · rw [List.getElem?_append_left hi] at e
    obtain ⟨r', h3, h4⟩ := h.2 i x e
    exact ⟨r', by rw [List.getElem?_append_left (by rw [← h.1]; exact hi)]; exact h3, h4⟩
  · have hl := (List.getElem?_eq_some_iff.mp e).1
    rw [List.length_append] at hl
    have hl : i < xs.length + 1 := hl
    have e2 : i = xs.length := by omega
    subst e2
    rw [List.getElem?_append_right (Nat.le_refl _), Nat.sub_self] at e
    cases e
    exact ⟨r, by rw [List.getElem?_append_right (by rw [← h.1]; exact Nat.le_refl _), h.1, Nat.sub_self]; rfl, h2⟩
theorem RowsAt.set {K : PySem.W.Frag} {H : Hp} {D : Addr} {o : HO} {xs : List V} {rs : List RowD} (hD : ∀ xs, ¬ Rd H D (.tup xs)) (h : RowsAt K H xs rs) : RowsAt K (upd H D o) xs rs :=
  ⟨h.1, fun i v e => let ⟨r, h1, h2⟩ := h.2 i v e; ⟨r, h1, h2.set hD⟩⟩
theorem turnR_ok {r : RowD} (h : RowOk r) : RowOk (turnR r) := by
  have key : ∀ k ∈ plainK ++ blockK, wayB k ∈ plainK ++ blockK ∧ (decide (k ∈ blockK) = decide (wayB k ∈ blockK)) := by decide +kernel
  obtain ⟨h1, h2⟩ := key _ h.kind
  refine ⟨h1, ?_, h.some, h.words⟩
  have h3 := h.num
  unfold numB at h3 ⊢
  rw [inV_strs] at h3 ⊢
  show (if decide (wayB r.kind ∈ blockK) = true then _ else _) = true
  rw [← h2]
  exact h3
theorem numB_block {k : Str} {n : Int} (hk : k = "take" ∨ k = "lay") (h1 : 1 ≤ n) (h2 : n ≤ 999999999) : numB k n = true := by
  unfold numB
  rw [inV_strs, decide_eq_true (show k ∈ blockK by rcases hk with rfl | rfl <;> decide +kernel), if_pos rfl, decide_eq_true h1, decide_eq_true h2]
  rfl
theorem numB_plain {k : Str} (h1 : k ≠ "take") (h2 : k ≠ "lay") : numB k 0 = true := by
  unfold numB
  rw [inV_strs, decide_eq_false (show ¬ k ∈ blockK from fun z => by
    rcases List.mem_cons.mp z with z | z
    · exact h1 z
    · rcases List.mem_cons.mp z with z | z
      · exact h2 z
      · cases z), if_neg Bool.false_ne_true]
  rfl
/-! ### the words of a telling -/
def wordsOf (ks : List Str) (rs : List RowD) : List Str := (rs.filter fun r => decide (r.kind ∈ ks)).flatMap (·.ws)
theorem wordsOf_snoc (ks : List Str) (rs : List RowD) (r : RowD) : wordsOf ks (rs ++ [r]) = if r.kind ∈ ks then wordsOf ks rs ++ r.ws else wordsOf ks rs := by
  unfold wordsOf
  rw [List.filter_append, List.flatMap_append]
  by_cases h : r.kind ∈ ks
  · rw [if_pos h, List.filter_cons_of_pos (p := fun r : RowD => decide (r.kind ∈ ks)) (decide_eq_true h)]
    simp
  · rw [if_neg h, List.filter_cons_of_neg (by simpa using h)]
    simp
theorem wordsOf_append (ks : List Str) (rs qs : List RowD) : wordsOf ks (rs ++ qs) = wordsOf ks rs ++ wordsOf ks qs := by
  unfold wordsOf
  rw [List.filter_append, List.flatMap_append]
theorem wordsOf_take_le (ks : List Str) (rs : List RowD) (i : Nat) : (wordsOf ks (rs.take i)).length ≤ (wordsOf ks rs).length := by
  have h := wordsOf_append ks (rs.take i) (rs.drop i)
  rw [List.take_append_drop] at h
  rw [h, List.length_append]
  omega
theorem wordsOf_ok {ks : List Str} {rs : List RowD} (h : ∀ r ∈ rs, RowOk r) : ∀ a ∈ wordsOf ks rs, wordB a = true := fun a ha => by
  unfold wordsOf at ha
  obtain ⟨r, h1, h2⟩ := List.mem_flatMap.mp ha
  exact (h r (List.mem_filter.mp h1).1).words a h2
/-! ### whole numbers -/
section
variable {P : Program} {w : World} {K : PySem.W.Frag} {mg : Str → Option Value} {base : Heap}
theorem scWhole : FnScope ["_law_found"] ["_law_found"] (defScope sWhole) := ⟨rfl, rfl, rfl, by decide +kernel, rfl, by decide +kernel, by decide +kernel⟩
def spWhole : Sp := fun vs H Q _ => ∃ n : Int, vs = [.int n] ∧ Q (.bl true) H
theorem ok_whole {f : Addr} {fd : FuncData} (F : FnP K "_law_whole" sWhole f fd) (mI : mg "isinstance" = none) (mN : mg "int" = none) (mO : mg "bool" = none) : FnOk P w K mg base (L2.CX P w) 1 f fd ["_law_found"] spWhole := by
  refine F.ok scWhole (fun vs H Q E h => ?_) (fun cdv A outer s H vs Q E hr h => ?_)
  · obtain ⟨n, rfl, _⟩ := h
    rfl
  · obtain ⟨n, rfl, q⟩ := h
    refine ⟨_, pss_one (ps_ret (pe_and (pe_callB call_isi (by rfl) mI (by decide +kernel) (pa_cons (pv 0) (pa_cons (pe_bltn (v := .ty "int") (by rfl) mN (by decide +kernel) rfl) pa_nil)))
      (pe_one (pe_not (pe_callB call_isi (by rfl) mI (by decide +kernel) (pa_cons (pv 0) (pa_cons (pe_bltn (v := .ty "bool") (by rfl) mO (by decide +kernel) rfl) pa_nil))))))), ?_⟩
    refine ⟨_, rfl, .int n, .ty "int", _, _, true, rfl, .ty _, .base (.int n), kit_ty (by decide +kernel), true, rfl, iteT ?_⟩
    exact ⟨_, rfl, .int n, .ty "bool", _, _, false, rfl, .ty _, .base (.int n), kit_ty (by decide +kernel), _, rfl, q⟩
end
/-! ### the law's own helpers -/
def sg (i : Nat) : Nat := if i < 4 then 33 + i else 34 + i
def sgnOf (c : Int) : Nat := sg (c % 93).toNat
theorem sg_ok {i : Nat} (h : i < 93) : signB (sg i) = true := by
  unfold signB sg
  by_cases h1 : i < 4
  · rw [if_pos h1, decide_eq_false (show ¬ 33 + i < 33 by omega), decide_eq_false (show ¬ 36 < 33 + i by omega)]
    rfl
  · rw [if_neg h1, decide_eq_false (show ¬ 34 + i < 38 by omega), decide_eq_false (show ¬ 126 < 34 + i by omega)]
    exact Bool.or_true _
theorem sgnOf_ok (c : Int) : signB (sgnOf c) = true := sg_ok (by
  have h1 : 0 ≤ c % 93 := Int.emod_nonneg c (by decide)
  have h2 : c % 93 < 93 := Int.emod_lt_of_pos c (by decide)
  omega)
def wMore (c : Int) : Int := (c + 5) * 48271 % 1000003
def wSize (c : Int) : Int := if wMore c / 3 % 3 = 1 then 1 + wMore c / 9 % 40 else 1 + wMore c % 3
def wSign (c : Int) (k : Nat) : Nat := sgnOf ((wMore c + 11 * (0 + (k : Int)) + 1) * (wMore c + 211 * (0 + (k : Int)) + 3) % 1000033)
def wCodes (c : Int) (n : Nat) : List Nat := (List.range n).map (wSign c)
def wordOf (c : Int) : Str := ⟨(wCodes c (wSize c).toNat).toArray⟩
theorem wMore_b (c : Int) : 0 ≤ wMore c ∧ wMore c < 1000003 := ⟨Int.emod_nonneg _ (by decide), Int.emod_lt_of_pos _ (by decide)⟩
theorem wSize_b (c : Int) : 1 ≤ wSize c ∧ wSize c ≤ 40 := by
  have h := wMore_b c
  unfold wSize
  by_cases h1 : wMore c / 3 % 3 = 1
  · rw [if_pos h1]
    omega
  · rw [if_neg h1]
    omega
theorem wordOf_len (c : Int) : (wordOf c).length = (wSize c).toNat := by
  show (wCodes c (wSize c).toNat).toArray.size = _
  rw [List.size_toArray]
  unfold wCodes
  rw [List.length_map, List.length_range]
theorem wordOf_ok (c : Int) : wordB (wordOf c) = true := by
  have h := wSize_b c
  have hl := wordOf_len c
  unfold wordB
  rw [Bool.and_eq_true, Bool.and_eq_true]
  refine ⟨decide_eq_true (by omega), decide_eq_true (by omega), List.all_eq_true.mpr fun x hx => ?_⟩
  have hx : x ∈ wCodes c (wSize c).toNat := hx
  obtain ⟨k, _, rfl⟩ := List.mem_map.mp hx
  exact sgnOf_ok _
/-- signs put together -/
theorem join_signs : ∀ l : List Nat, Txt.join ("" : Str) (l.map fun c => (⟨#[c]⟩ : Str)) = (⟨l.toArray⟩ : Str) := by
  intro l
  show Builtin.Str.glued ("" : Str) (l.map fun c => (⟨#[c]⟩ : Str)) = _
  rw [StrLaws.glued_eq_join]
  have e0 : ("" : Str) = ⟨#[]⟩ := by decide +kernel
  rw [e0]
  induction l with
  | nil => rfl
  | cons c r ih =>
    cases r with
    | nil => rfl
    | cons d r =>
      show (⟨#[c]⟩ : Str) ++ (⟨#[]⟩ : Str) ++ Str.join ⟨#[]⟩ ((d :: r).map fun c => (⟨#[c]⟩ : Str)) = _
      rw [ih]
      refine Str.ext' (Array.toList_inj.mp ?_)
      rw [Str.cps_append, Str.cps_append, Array.toList_append, Array.toList_append]
      simp
section
variable {P : Program} {w : World} {K : PySem.W.Frag} {mg : Str → Option Value} {base : Heap}
theorem scCellAt : FnScope ["_law_script", "_law_k"] ["_law_script", "_law_k"] (defScope sCellAt) := ⟨rfl, rfl, rfl, by decide +kernel, rfl, by decide +kernel, by decide +kernel⟩
theorem scSignBy : FnScope ["_law_cell", "_law_some"] ["_law_cell"] (defScope sSignBy) := ⟨rfl, rfl, rfl, by decide +kernel, rfl, by decide +kernel, by decide +kernel⟩
theorem scWordBy : FnScope ["_law_cell", "_law_more", "_law_size", "_law_k"] ["_law_cell"] (defScope sWordBy) := ⟨rfl, rfl, rfl, by decide +kernel, rfl, by decide +kernel, by decide +kernel⟩
theorem ok_cell_at {f : Addr} {fd : FuncData} (F : FnP K "_law_cell_at" sCellAt f fd) (mL : mg "len" = none) : FnOk P w K mg base (L2.CX P w) 1 f fd ["_law_script", "_law_k"] (spCell K) := by
  refine F.ok scCellAt (fun vs H Q E h => ?_) (fun cdv A outer s H vs Q E hr h => ?_)
  · obtain ⟨l, ns, j, rfl, _⟩ := h
    rfl
  · obtain ⟨l, ns, j, rfl, hS, q⟩ := h
    refine ⟨_, pss_cons (ps_if (pt_cmpR op_lt (pv 1) (pe_callB call_len_seq (by rfl) mL PySem.boot_len (pa_cons (pv 0) pa_nil)) (nomark _)) (pss_one (ps_ret (pe_ix ix_list (pv 0) (pv 1) (fun _ _ => rfl)))) pss_nil) (pss_one (ps_ret pe_int)), ?_⟩
    refine ⟨_, rfl, _, rfl, l, _, rfl, .inl hS, _, _, rfl, rfl, _, rfl, ite2 (fun e => ?_) (fun e => ?_)⟩
    · have e1 := of_decide_eq_true e
      rw [List.length_map] at e1
      exact ⟨_, rfl, _, rfl, l, _, _, _, rfl, rfl, hS, atI_cell (by omega), q⟩
    · have hj : ¬ j < ns.length := fun z => e (decide_eq_true (by rw [List.length_map]; omega))
      rw [cell_out hj] at q
      exact q
def spSignBy : Sp := fun vs H Q _ => ∃ c : Int, vs = [.int c] ∧ Q (.str ⟨#[sgnOf c]⟩) H
theorem ok_sign_by {f : Addr} {fd : FuncData} (F : FnP K "_law_sign_by" sSignBy f fd) : FnOk P w K mg base (L2.CX P w) 1 f fd ["_law_cell"] spSignBy := by
  refine F.ok scSignBy (fun vs H Q E h => ?_) (fun cdv A outer s H vs Q E hr h => ?_)
  · obtain ⟨c, rfl, _⟩ := h
    rfl
  · obtain ⟨c, rfl, q⟩ := h
    refine ⟨_, pss_cons (ps_set (i := 1) scSignBy.nd rfl (.inl rfl) pe_str) (pss_cons (ps_set (i := 1) scSignBy.nd rfl (.inl rfl) (pe_op op_add_str (pv 1) pe_str)) (pss_one (ps_ret (pe_ix ix_str (pv 1) (pe_op op_mod (pv 0) pe_int) (fun _ _ => rfl))))), ?_⟩
    refine ⟨_, rfl, _, _, rfl, rfl, by decide +kernel, ?_⟩
    refine ⟨_, rfl, _, rfl, _, _, rfl, rfl, (by show (0 : Int) < 93; decide), _, _, sgnOf c, rfl, rfl, by decide +kernel, ?_, q⟩
    have h1 : 0 ≤ c % 93 := Int.emod_nonneg c (by decide)
    have h2 : c % 93 < 93 := Int.emod_lt_of_pos c (by decide)
    have e : c % 93 = (((c % 93).toNat : Nat) : Int) := (Int.toNat_of_nonneg h1).symm
    have hn : (c % 93).toNat < 93 := by omega
    unfold sgnOf
    rw [e, Int.toNat_natCast]
    generalize (c % 93).toNat = i at hn
    refine atI_nat ?_
    have key : ∀ i, i < 93 → (("!\"#$&'()*+,-./0123456789:;<=>?@ABCDEFGHIJKLMNOPQRSTUVWXYZ[\\]^_`" : Str) ++ ("abcdefghijklmnopqrstuvwxyz{|}~" : Str)).cps.toList[i]? = some (sg i) := by decide +kernel
    exact key i hn
def spWordBy : Sp := fun vs H Q _ => ∃ c : Int, vs = [.int c] ∧ ∀ H', Same H H' → Q (.str (wordOf c)) H'
theorem ok_word_by {f fS : Addr} {fd fdS : FuncData} (F : FnP K "_law_word_by" sWordBy f fd) (FS : FnP K "_law_sign_by" sSignBy fS fdS) (bS : Binds K fdS ["_law_cell"] []) (gS : mg "_law_sign_by" = some (.ref fS)) (mR : mg "range" = none) :
    FnOk P w K mg base (L2.CX P w) 2 f fd ["_law_cell"] spWordBy := by
  have GS : FnOk P w K mg base (L2.CX P w) 1 fS fdS ["_law_cell"] spSignBy := ok_sign_by FS
  refine F.ok scWordBy (fun vs H Q E h => ?_) (fun cdv A outer s H vs Q E hr h => ?_)
  · obtain ⟨c, rfl, _⟩ := h
    rfl
  · obtain ⟨c, rfl, q⟩ := h
    refine ⟨_, pss_cons (ps_set (i := 1) scWordBy.nd rfl (.inr rfl) (pe_op op_mod (pe_op op_mul (pe_op op_add (pv 0) pe_int) pe_int) pe_int))
      (pss_cons (ps_set (i := 2) scWordBy.nd rfl (.inl rfl) (pe_op op_add pe_int (pe_op op_mod (pv 1) pe_int)))
      (pss_cons (ps_if (pt_cmpR op_eq (pe_op op_mod (pe_op op_fdiv (pv 1) pe_int) pe_int) pe_int (nomark _)) (pss_one (ps_set (i := 2) scWordBy.nd rfl (.inl rfl) (pe_op op_add pe_int (pe_op op_mod (pe_op op_fdiv (pv 1) pe_int) pe_int)))) pss_nil)
      (pss_one (ps_ret (pe_join pe_str (pe_lc (own := [("_law_k", 3)]) (g := gName 3) (tt := tYes) rfl scWordBy.nd (pi_range1 (by rfl) mR (pa_cons (pv 2) pa_nil)) (blkOk_by (N := ["_law_cell", "_law_more", "_law_size", "_law_k"]) (sc := defScope sWordBy) (by decide +kernel))
        (fun _ _ _ _ _ => pg_name (i := 3) scWordBy.nd rfl (Or.inl rfl)) (fun _ _ _ _ _ => pts_nil)
        (fun _ _ _ _ _ => pe_call GS hr (by rfl) gS FS.kp bS .nil passL (pa_cons (pe_op op_mod (pe_op op_mul (pe_op op_add (pe_op op_add (pv 1) (pe_op op_mul pe_int (pv 3))) pe_int) (pe_op op_add (pe_op op_add (pv 1) (pe_op op_mul pe_int (pv 3))) pe_int)) pe_int) pa_nil)))))))), ?_⟩
    have hm := wMore_b c
    have hsz := wSize_b c
    refine ⟨_, rfl, _, _, rfl, rfl, _, _, rfl, rfl, .inr (by decide), _, _, rfl, rfl, (by show (0 : Int) < 1000003; decide), ?_⟩
    refine ⟨_, rfl, _, _, rfl, rfl, (by show (0 : Int) < 3; decide), _, _, rfl, rfl, ?_⟩
    refine ⟨_, rfl, _, _, rfl, rfl, ⟨by decide, by decide⟩, _, _, rfl, rfl, (by show (0 : Int) < 3; decide), rfl, _, rfl, ?_⟩
    -- both ways lead to the size
    have rest : ∀ σ0, σ0 = [some (V.int c), some (.int (wMore c)), some (.int (wSize c)), none] → tRet (tM1 (fun x xs H Q => ∃ a p, ∃ ys : List Str, x = .str a ∧ xs = [.ref p] ∧ (SqL K H p (ys.map V.str) ∨ SqT K H p (ys.map V.str)) ∧
        (ys.map (·.length)).sum + ys.length * a.length ≤ 16777216 ∧ Q (.str (Txt.join a ys)) H) (tC (.str "")) (tLc (iRng1 (tCons (tVar 2) tNil)) (gName 3) tYes
          (tCall spSignBy [] E0 (tCons (tOp (rI (fun _ j => 0 < j) fun i j => .int (i % j)) (tOp (rI CMul fun i j => .int (i * j)) (tOp (rI0 fun i j => .int (i + j)) (tOp (rI0 fun i j => .int (i + j)) (tVar 1) (tOp (rI CMul fun i j => .int (i * j)) (tC (.int 11)) (tVar 3))) (tC (.int 1)))
            (tOp (rI0 fun i j => .int (i + j)) (tOp (rI0 fun i j => .int (i + j)) (tVar 1) (tOp (rI CMul fun i j => .int (i * j)) (tC (.int 211)) (tVar 3))) (tC (.int 3)))) (tC (.int 1000033))) tNil)) [3])) { nx := fun _ H' => Q .non H', rt := Q } σ0 H := by
      rintro _ rfl
      refine ⟨⟨_, rfl⟩, _, rfl, _, rfl, by omega, by omega, fun D nD => ?_⟩
      refine lc_range (lo := 0) (n := (wSize c).toNat) (fun i H' => Same H H' ∧ H' D = some (.lst ((wCodes c i).map fun z => V.str ⟨#[z]⟩))) ⟨same_upd nD, upd_same⟩ (fun i H' hi hp => ?_) (fun H' hp => ?_)
      · obtain ⟨sm, hD⟩ := hp
        refine ⟨rfl, yesT ?_⟩
        refine ⟨_, rfl, _, rfl, _, _, rfl, rfl, .inl (by decide), _, _, rfl, rfl, _, _, rfl, rfl, _, rfl, _, rfl, _, _, rfl, rfl, .inl (by decide), _, _, rfl, rfl, _, _, rfl, rfl, _, _, rfl, rfl, .inl ⟨by omega, by omega⟩, _, _, rfl, rfl, (by show (0 : Int) < 1000033; decide), _, rfl, ?_⟩
        refine ⟨_, hD, ?_, fun b o e => ?_, ?_⟩
        · rw [List.length_map]
          unfold wCodes
          rw [List.length_map, List.length_range]
          exact Nat.lt_of_lt_of_le (show i < 1000 by omega) (by decide)
        · rw [upd_ne (ne_of_none e nD)]
          exact sm b o e
        · rw [upd_same]
          unfold wCodes
          rw [List.range_succ, List.map_append, List.map_append]
          rfl
      · obtain ⟨sm, hD⟩ := hp
        refine ⟨_, _, (wCodes c (wSize c).toNat).map fun z => (⟨#[z]⟩ : Str), rfl, rfl, .inl (.inl (.inl ?_)), ?_, ?_⟩
        · rw [hD, List.map_map]
          rfl
        · have e0 : ("" : Str).length = 0 := by decide +kernel
          rw [e0, Nat.mul_zero, Nat.add_zero]
          have e1 : ∀ l : List Nat, ((l.map fun z => (⟨#[z]⟩ : Str)).map (·.length)).sum = l.length := fun l => by
            induction l with
            | nil => rfl
            | cons a r ih =>
              rw [List.map_cons, List.map_cons, List.sum_cons, ih, List.length_cons]
              show 1 + r.length = _
              omega
          rw [e1]
          unfold wCodes
          rw [List.length_map, List.length_range]
          omega
        · rw [join_signs]
          exact q H' sm
    refine ite2 (fun e => ?_) (fun e => ?_)
    · have e1 : wMore c / 3 % 3 = 1 := V.int.inj (of_decide_eq_true e)
      refine ⟨_, rfl, _, _, rfl, rfl, ⟨by decide, by decide⟩, _, _, rfl, rfl, (by show (0 : Int) < 40; decide), _, _, rfl, rfl, rest _ ?_⟩
      unfold wSize
      rw [if_pos e1]
      rfl
    · have e1 : ¬ wMore c / 3 % 3 = 1 := fun z => e (decide_eq_true (congrArg V.int z))
      refine rest _ ?_
      unfold wSize
      rw [if_neg e1]
      rfl
end
/-! ### near words, the menu -/
theorem wordB_of {b : Str} (h1 : 1 ≤ b.length) (h2 : b.length ≤ 40) (h : ∀ c ∈ b.cps.toList, signB c = true) : wordB b = true := by
  unfold wordB
  rw [Bool.and_eq_true, Bool.and_eq_true]
  exact ⟨decide_eq_true (by omega), decide_eq_true (by omega), List.all_eq_true.mpr h⟩
theorem str_len (a : Str) : a.length = a.cps.toList.length := by simp [Str.length]
theorem cut_lo (a : Str) (k : Nat) (h : k ≤ a.length) : (cutS a none (some (k : Int))).cps.toList = a.cps.toList.take k := by
  unfold cutS
  rw [HT.sIx_none, HT.sIx_nat, Nat.min_eq_left h, Nat.sub_zero]
  rfl
theorem cut_hi (a : Str) (k : Nat) (h : k ≤ a.length) : (cutS a (some (k : Int)) none).cps.toList = a.cps.toList.drop k := by
  unfold cutS
  rw [HT.sIx_none, HT.sIx_nat, Nat.min_eq_left h]
  show (a.cps.toList.drop k).take (a.length - k) = _
  rw [List.take_of_length_le (by rw [List.length_drop, str_len]; exact Nat.le_refl _)]
section
variable {P : Program} {w : World} {K : PySem.W.Frag} {mg : Str → Option Value} {base : Heap}
theorem scNear : FnScope ["_law_word", "_law_cell", "_law_at"] ["_law_word", "_law_cell"] (defScope sNear) := ⟨rfl, rfl, rfl, by decide +kernel, rfl, by decide +kernel, by decide +kernel⟩
theorem scMenu : FnScope ["_law_script", "_law_base", "_law_k"] ["_law_script"] (defScope sMenu) := ⟨rfl, rfl, rfl, by decide +kernel, rfl, by decide +kernel, by decide +kernel⟩
def spNear : Sp := fun vs H Q _ => ∃ (a : Str) (c : Int), vs = [.str a, .int c] ∧ wordB a = true ∧ ∀ H' b, Same H H' → wordB b = true → Q (.str b) H'
theorem ok_near {f fS : Addr} {fd fdS : FuncData} (F : FnP K "_law_near" sNear f fd) (GS : FnOk P w K mg base (L2.CX P w) 1 fS fdS ["_law_cell"] spSignBy) (kS : PySem.W.keepIn K (.ref fS) = true) (bS : Binds K fdS ["_law_cell"] []) (gS : mg "_law_sign_by" = some (.ref fS))
    (mL : mg "len" = none) (mT : mg "list" = none) (mV : mg "reversed" = none) : FnOk P w K mg base (L2.CX P w) 2 f fd ["_law_word", "_law_cell"] spNear := by
  refine F.ok scNear (fun vs H Q E h => ?_) (fun cdv A outer s H vs Q E hr h => ?_)
  · obtain ⟨a, c, rfl, _⟩ := h
    rfl
  · obtain ⟨a, c, rfl, ha, q⟩ := h
    refine ⟨_, pss_cut (ps_set (i := 2) scNear.nd rfl (.inl rfl) (pe_op op_mod (pv 1) (pe_callB call_len_str (by rfl) mL PySem.boot_len (pa_cons (pv 0) pa_nil))))
      (pss_cons (ps_if (pt_cmpR op_eq (pe_op op_mod (pe_op op_fdiv (pv 1) pe_int) pe_int) pe_int (nomark _)) (pss_one (ps_ret (pe_join pe_str (Rs.pe_listRs rfl (by rfl) mT (by rfl) mV (pv 0))))) pss_nil)
      (pss_cut (ps_if (PW.pt (pw_and (pt_cmpR op_eq (pe_op op_mod (pe_op op_fdiv (pv 1) pe_int) pe_int) pe_int (nomark _)) (pw_and1 (pt_cmpR op_gt (pe_callB call_len_str (by rfl) mL PySem.boot_len (pa_cons (pv 0) pa_nil)) pe_int (nomark _)))))
        (pss_one (ps_ret (pe_op op_add_str (pe_slice sl_str (pv 0) po_none (po_some (pv 2))) (pe_slice sl_str (pv 0) (po_some (pe_op op_add (pv 2) pe_int)) po_none)))) pss_nil)
      (pss_one (ps_ret (pe_op op_add_str (pe_op op_add_str (pe_slice sl_str (pv 0) po_none (po_some (pv 2))) (pe_call GS hr (by rfl) gS kS bS .nil passL (pa_cons (pe_op op_fdiv (pv 1) pe_int) pa_nil))) (pe_slice sl_str (pv 0) (po_some (pe_op op_add (pv 2) pe_int)) po_none)))))), ?_⟩
    have hl := wordB_len ha
    have hz : a.length ≤ sizeLine := small_line (by omega)
    have hsg := wordB_signs ha
    have h1 : 0 ≤ c % (a.length : Int) := Int.emod_nonneg c (by omega)
    have h2 : c % (a.length : Int) < (a.length : Int) := Int.emod_lt_of_pos c (by omega)
    obtain ⟨k, hk⟩ : ∃ k : Nat, c % (a.length : Int) = (k : Int) := ⟨(c % (a.length : Int)).toNat, (Int.toNat_of_nonneg h1).symm⟩
    have hka : k < a.length := by omega
    have el := str_len a
    have lo := cut_lo a k (by omega)
    have hi := cut_hi a (k + 1) (by omega)
    have llo : (cutS a none (some (k : Int))).length = k := by
      rw [str_len, lo, List.length_take]
      omega
    have lhi : (cutS a (some ((k + 1 : Nat) : Int)) none).length = a.length - (k + 1) := by
      rw [str_len, hi, List.length_drop]
      omega
    have slo : ∀ x ∈ (cutS a none (some (k : Int))).cps.toList, signB x = true := fun x hx => hsg x (by rw [lo] at hx; exact List.mem_of_mem_take hx)
    have shi : ∀ x ∈ (cutS a (some ((k + 1 : Nat) : Int)) none).cps.toList, signB x = true := fun x hx => hsg x (by rw [hi] at hx; exact List.mem_of_mem_drop hx)
    have ek : ((k : Int) + 1) = ((k + 1 : Nat) : Int) := by omega
    refine ⟨fun σ' H' => σ' = [some (.str a), some (.int c), some (.int (k : Int))] ∧ H' = H, ⟨_, rfl, _, rfl, a, rfl, hz, _, _, rfl, rfl, by omega, ?_, rfl⟩, fun σ' H' hM => ?_⟩
    · show [some (V.str a), some (V.int c), some (V.int (c % (a.length : Int)))] = _
      rw [hk]
    obtain ⟨rfl, rfl⟩ := hM
    refine ⟨_, rfl, _, _, rfl, rfl, ⟨by decide, by decide⟩, _, _, rfl, rfl, (by show (0 : Int) < 3; decide), rfl, _, rfl, ite2 (fun e => ?_) (fun e => ?_)⟩
    · refine ⟨⟨_, rfl⟩, _, rfl, a, rfl, hl.1, by omega, fun p np => ?_⟩
      refine ⟨_, p, a.cps.toList.reverse.map fun c => (⟨#[c]⟩ : Str), rfl, rfl, .inl (.inl (.inl ?_)), ?_, ?_⟩
      · rw [upd_same, List.map_map]
        rfl
      · have e0 : ("" : Str).length = 0 := by decide +kernel
        rw [e0, Nat.mul_zero, Nat.add_zero]
        have e1 : ∀ l : List Nat, ((l.map fun z => (⟨#[z]⟩ : Str)).map (·.length)).sum = l.length := fun l => by
          induction l with
          | nil => rfl
          | cons a r ih =>
            rw [List.map_cons, List.map_cons, List.sum_cons, ih, List.length_cons]
            show 1 + r.length = _
            omega
        rw [e1, List.length_reverse]
        omega
      · rw [join_signs]
        refine q _ _ (same_upd np) (wordB_of ?_ ?_ fun x hx => hsg x ?_)
        · show 1 ≤ (a.cps.toList.reverse.toArray).size
          rw [List.size_toArray, List.length_reverse]
          omega
        · show (a.cps.toList.reverse.toArray).size ≤ 40
          rw [List.size_toArray, List.length_reverse]
          omega
        · exact List.mem_reverse.mp hx
    · refine ⟨fun σ' H2 => σ' = [some (.str a), some (.int c), some (.int (k : Int))] ∧ H2 = H', ?_, fun σ' H2 hM => ?_⟩
      · refine ⟨_, rfl, _, _, rfl, rfl, ⟨by decide, by decide⟩, _, _, rfl, rfl, (by show (0 : Int) < 3; decide), rfl, _, rfl, ?_⟩
        cases decide (V.int (c / 41 % 3) = V.int 1) with
        | false => exact iteF (iteF ⟨rfl, rfl⟩)
        | true =>
          refine iteT ⟨_, rfl, a, rfl, hz, _, _, rfl, rfl, _, rfl, ite2 (fun e => ?_) (fun e => ⟨rfl, rfl⟩)⟩
          have e1 : (1 : Int) < (a.length : Int) := of_decide_eq_true e
          refine ⟨_, rfl, _, rfl, _, rfl, a, rfl, hz, _, rfl, _, rfl, _, _, rfl, rfl, _, rfl, a, rfl, hz, _, _, rfl, rfl, ?_, ?_⟩
          · rw [ek, llo, lhi]
            exact small_line (by omega)
          · rw [ek]
            refine q _ _ (Same.refl _) (wordB_of ?_ ?_ fun x hx => ?_)
            · rw [Str.length_append, llo, lhi]
              omega
            · rw [Str.length_append, llo, lhi]
              omega
            · rw [Str.cps_append, Array.toList_append] at hx
              rcases List.mem_append.mp hx with hx | hx
              · exact slo x hx
              · exact shi x hx
      · obtain ⟨rfl, rfl⟩ := hM
        refine ⟨_, rfl, _, rfl, _, rfl, a, rfl, hz, _, rfl, _, _, rfl, rfl, ⟨by decide, by decide⟩, _, rfl, _, _, rfl, rfl, ?_, _, rfl, _, rfl, _, _, rfl, rfl, _, rfl, a, rfl, hz, _, _, rfl, rfl, ?_, ?_⟩
        · rw [llo]
          exact small_line (by show k + 1 ≤ 1000000; omega)
        · rw [ek, Str.length_append, llo, lhi]
          exact small_line (by show k + 1 + (a.length - (k + 1)) ≤ 1000000; omega)
        · rw [ek]
          refine q _ _ (Same.refl _) (wordB_of ?_ ?_ fun x hx => ?_)
          · rw [Str.length_append, Str.length_append, llo, lhi]
            show 1 ≤ k + 1 + (a.length - (k + 1))
            omega
          · rw [Str.length_append, Str.length_append, llo, lhi]
            show k + 1 + (a.length - (k + 1)) ≤ 40
            omega
          · rw [Str.cps_append, Array.toList_append, Str.cps_append, Array.toList_append] at hx
            rcases List.mem_append.mp hx with hx | hx
            · rcases List.mem_append.mp hx with hx | hx
              · exact slo x hx
              · have hx : x ∈ [sgnOf (c / 123)] := hx
                rw [List.mem_singleton.mp hx]
                exact sgnOf_ok _
            · exact shi x hx

def spMenu (K : PySem.W.Frag) : Sp := fun vs H Q _ => ∃ (a : Addr) (ns : List Int), vs = [.ref a] ∧ SqL K H a (ns.map V.int) ∧ ∀ (H' : Hp) (p : Addr) (ws : List Str), Same H H' → H p = none → H' p = some (.lst (ws.map V.str)) → ws.length = 12 → (∀ x ∈ ws, wordB x = true) → Q (.ref p) H'
theorem ok_menu {f fC fW fN : Addr} {fd fdC fdW fdN : FuncData} (F : FnP K "_law_menu" sMenu f fd)
    (GC : FnOk P w K mg base (L2.CX P w) 1 fC fdC ["_law_script", "_law_k"] (spCell K)) (kC : PySem.W.keepIn K (.ref fC) = true) (bC : Binds K fdC ["_law_script", "_law_k"] []) (gC : mg "_law_cell_at" = some (.ref fC))
    (GW : FnOk P w K mg base (L2.CX P w) 2 fW fdW ["_law_cell"] spWordBy) (kW : PySem.W.keepIn K (.ref fW) = true) (bW : Binds K fdW ["_law_cell"] []) (gW : mg "_law_word_by" = some (.ref fW))
    (GN : FnOk P w K mg base (L2.CX P w) 2 fN fdN ["_law_word", "_law_cell"] spNear) (kN : PySem.W.keepIn K (.ref fN) = true) (bN : Binds K fdN ["_law_word", "_law_cell"] []) (gN : mg "_law_near" = some (.ref fN)) (mR : mg "range" = none) :
    FnOk P w K mg base (L2.CX P w) 3 f fd ["_law_script"] (spMenu K) := by
  refine F.ok scMenu (fun vs H Q E h => ?_) (fun cdv A outer s H vs Q E hr h => ?_)
  · obtain ⟨a, ns, rfl, _⟩ := h
    rfl
  · obtain ⟨a, ns, rfl, hS, q⟩ := h
    have r1 : Room 1 (A.deeper (envOfC "_law_menu" (defScope sMenu) s.heap.objs.size f cdv)) := hr.mono (by decide)
    refine ⟨_, pss_cut (ps_setLc (i := 1) (own := [("_law_k", 2)]) (g := gName 2) (tt := tYes) rfl scMenu.nd rfl rfl (sw_true rfl rfl rfl (by decide +kernel)) (pi_range1 (by rfl) mR (pa_cons pe_int pa_nil)) (blkOk_by (N := ["_law_script", "_law_base", "_law_k"]) (sc := defScope sMenu) (by decide +kernel))
        (fun _ _ _ _ _ => pg_name (i := 2) scMenu.nd rfl (Or.inl rfl)) (fun _ _ _ _ _ => pts_nil) (fun _ _ _ _ _ => pe_call GW hr (by rfl) gW kW bW .nil passL (pa_cons (pe_op op_add (pe_call GC r1 (by rfl) gC kC bC .nil passL (pa_cons (pv 0) (pa_cons (pv 2) pa_nil))) (pe_op op_mul pe_int (pv 2))) pa_nil)))
      (pss_cut (ps_if (pt_cmpR op_eq (pe_op op_mod (pe_call GC r1 (by rfl) gC kC bC .nil passL (pa_cons (pv 0) (pa_cons pe_int pa_nil))) pe_int) pe_int (nomark _))
        (pss_cons (ps_asg (pe_call GN hr (by rfl) gN kN bN .nil passL (pa_cons (pe_ix ix_list (pv 1) pe_int (fun _ _ => rfl)) (pa_cons (pe_call GC r1 (by rfl) gC kC bC .nil passL (pa_cons (pv 0) (pa_cons pe_int pa_nil))) pa_nil))) (pg_sub (pv 1) pe_int set_list))
          (pss_one (ps_asg (pe_call GN hr (by rfl) gN kN bN .nil passL (pa_cons (pe_ix ix_list (pv 1) pe_int (fun _ _ => rfl)) (pa_cons (pe_call GC r1 (by rfl) gC kC bC .nil passL (pa_cons (pv 0) (pa_cons pe_int pa_nil))) pa_nil))) (pg_sub (pv 1) pe_int set_list)))) pss_nil)
      (pss_cons (ps_if (pt_cmpR op_eq (pe_op op_mod (pe_call GC r1 (by rfl) gC kC bC .nil passL (pa_cons (pv 0) (pa_cons pe_int pa_nil))) pe_int) pe_int (nomark _))
        (pss_one (ps_ret (pe_op op_cat (pv 1) (pe_lc (own := [("_law_k", 2)]) (g := gName 2) (tt := tYes) rfl scMenu.nd (pi_range1 (by rfl) mR (pa_cons pe_int pa_nil)) (blkOk_by (N := ["_law_script", "_law_base", "_law_k"]) (sc := defScope sMenu) (by decide +kernel))
          (fun _ _ _ _ _ => pg_name (i := 2) scMenu.nd rfl (Or.inl rfl)) (fun _ _ _ _ _ => pts_nil)
          (fun _ _ _ _ _ => pe_call GW hr (by rfl) gW kW bW .nil passL (pa_cons (pe_op op_add (pe_op op_add (pe_call GC r1 (by rfl) gC kC bC .nil passL (pa_cons (pv 0) (pa_cons (pe_op op_mod (pv 2) pe_int) pa_nil))) (pe_op op_mul pe_int (pv 2))) pe_int) pa_nil)))))) pss_nil)
      (pss_one (ps_ret (pe_op op_rep (pv 1) pe_int))))), ?_⟩
    -- the base of four
    refine ⟨fun σ' H' => ∃ D ws, σ' = [some (.ref a), some (.ref D), none] ∧ H D = none ∧ Same H H' ∧ H' D = some (.lst ((ws : List Str).map V.str)) ∧ ws.length = 4 ∧ ∀ x ∈ ws, wordB x = true, ?_, fun σ1 H1 hM => ?_⟩
    · refine ⟨_, rfl, by decide, by decide, fun D nD => ?_⟩
      refine lc_range (lo := 0) (n := 4) (fun i H' => Same H H' ∧ H' D = some (.lst (((List.range i).map fun k => wordOf (cellOf ns (0 + k) + 97 * (0 + (k : Int)))).map V.str))) ⟨same_upd nD, upd_same⟩ (fun i H' hi hp => ?_) (fun H1 hp => ?_)
      · obtain ⟨sm, hD⟩ := hp
        refine ⟨rfl, yesT ?_⟩
        refine ⟨_, rfl, _, rfl, a, ns, 0 + i, congrArg (fun t : Int => [V.ref a, V.int t]) (show (0 : Int) + (i : Int) = ((0 + i : Nat) : Int) by omega), sm.seq hS, _, rfl, _, _, rfl, rfl, .inl (by decide), _, _, rfl, rfl, _, rfl, fun H2 sm2 => ?_⟩
        refine ⟨_, sm2 _ _ hD, ?_, fun b o e => ?_, ?_⟩
        · rw [List.length_map, List.length_map, List.length_range]
          exact Nat.lt_of_lt_of_le (show i < 1000 by omega) (by decide)
        · rw [upd_ne (ne_of_none e nD)]
          exact sm2 b o (sm b o e)
        · rw [upd_same, List.range_succ, List.map_append, List.map_append]
          rfl
      · obtain ⟨sm, hD⟩ := hp
        refine ⟨D, _, rfl, nD, sm, hD, by rw [List.length_map, List.length_range], fun x hx => ?_⟩
        obtain ⟨k, _, rfl⟩ := List.mem_map.mp hx
        exact wordOf_ok _
    obtain ⟨D, ws, rfl, nD, sm1, hD1, hl, hw⟩ := hM
    refine ⟨fun σ' H' => ∃ ws, σ' = [some (.ref a), some (.ref D), none] ∧ Same H H' ∧ H' D = some (.lst ((ws : List Str).map V.str)) ∧ ws.length = 4 ∧ ∀ x ∈ ws, wordB x = true, ?_, fun σ2 H2 hM => ?_⟩
    · have hS1 := sm1.seq hS
      refine ⟨_, rfl, a, ns, 0, rfl, hS1, _, _, rfl, rfl, (by show (0 : Int) < 2; decide), rfl, _, rfl, ite2 (fun _ => ?_) (fun _ => ⟨ws, rfl, sm1, hD1, hl, hw⟩)⟩
      have step : ∀ (H1 : Hp) (ws : List Str) (j : Nat), j < 4 → Same H H1 → H1 D = some (.lst (ws.map V.str)) → ws.length = 4 → (∀ x ∈ ws, wordB x = true) → ∃ x, ws[j]? = some x ∧ wordB x = true := fun H1 ws j hj _ _ hl hw => by
        have : j < ws.length := by omega
        exact ⟨ws[j], List.getElem?_eq_getElem this, hw _ (List.getElem_mem this)⟩
      have put : ∀ (ws : List Str) (j : Nat) (b : Str), (ws.map V.str).set j (.str b) = (ws.set j b).map V.str := fun ws j b => by rw [List.map_set]
      have good : ∀ (ws : List Str) (j : Nat) (b : Str), (∀ x ∈ ws, wordB x = true) → wordB b = true → ∀ x ∈ ws.set j b, wordB x = true := fun ws j b h hb x hx => by
        rcases List.mem_or_eq_of_mem_set hx with h1 | h1
        · exact h x h1
        · rw [h1]
          exact hb
      obtain ⟨x0, hx0, hb0⟩ := step H1 ws 0 (by decide) sm1 hD1 hl hw
      refine ⟨_, rfl, D, _, _, _, rfl, rfl, .inl (.inl hD1), at_of (j := 0) rfl (by rw [List.getElem?_map, hx0]; rfl), _, rfl, a, ns, 1, rfl, hS1, x0, _, rfl, hb0, fun H3 b sm3 hb => ?_⟩
      have hD3 := sm3 _ _ hD1
      refine ⟨_, rfl, D, _, _, 1, rfl, rfl, hD3, by rw [List.length_map, hl]; rfl, ?_⟩
      rw [put]
      have s4 : Same H (upd H3 D (.lst ((ws.set 1 b).map V.str))) := fun c o e => by
        rw [upd_ne (ne_of_none e nD)]
        exact sm3 c o (sm1 c o e)
      have hl4 : (ws.set 1 b).length = 4 := by rw [List.length_set]; exact hl
      have hw4 := good ws 1 b hw hb
      have hD4 : (upd H3 D (.lst ((ws.set 1 b).map V.str))) D = some (.lst ((ws.set 1 b).map V.str)) := upd_same
      obtain ⟨x2, hx2, hb2⟩ := step _ _ 2 (by decide) s4 hD4 hl4 hw4
      refine ⟨_, rfl, D, _, _, _, rfl, rfl, .inl (.inl hD4), at_of (j := 2) rfl (by rw [List.getElem?_map, hx2]; rfl), _, rfl, a, ns, 2, rfl, s4.seq hS, x2, _, rfl, hb2, fun H5 b5 sm5 hb5 => ?_⟩
      have hD5 := sm5 _ _ hD4
      refine ⟨_, rfl, D, _, _, 3, rfl, rfl, hD5, by rw [List.length_map, hl4]; rfl, ?_⟩
      rw [put]
      refine ⟨_, rfl, fun c o e => ?_, upd_same, by rw [List.length_set]; exact hl4, good _ 3 b5 hw4 hb5⟩
      rw [upd_ne (ne_of_none e nD)]
      exact sm5 c o (s4 c o e)
    obtain ⟨ws, rfl, sm2, hD2, hl, hw⟩ := hM
    have hS2 := sm2.seq hS
    refine ⟨_, rfl, a, ns, 3, rfl, hS2, _, _, rfl, rfl, (by show (0 : Int) < 4; decide), rfl, _, rfl, ite2 (fun _ => ?_) (fun _ => ?_)⟩
    · refine ⟨_, rfl, _, rfl, by decide, by decide, fun E nE => ?_⟩
      refine lc_range (lo := 0) (n := 8) (fun i H' => Same H2 H' ∧ ∃ vs, H' E = some (.lst ((vs : List Str).map V.str)) ∧ vs.length = i ∧ ∀ x ∈ vs, wordB x = true) ⟨same_upd nE, [], upd_same, rfl, fun x hx => by cases hx⟩ (fun i H' hi hp => ?_) (fun H3 hp => ?_)
      · obtain ⟨sm, vs, hE, hlv, hv⟩ := hp
        refine ⟨rfl, yesT ?_⟩
        have hk : ∃ j : Nat, (0 + (i : Int)) % 3 = (j : Int) := ⟨((0 + (i : Int)) % 3).toNat, (Int.toNat_of_nonneg (Int.emod_nonneg _ (by decide))).symm⟩
        obtain ⟨j, hj⟩ := hk
        refine ⟨_, rfl, _, rfl, _, _, rfl, rfl, (by show (0 : Int) < 3; decide), a, ns, j, congrArg (fun t : Int => [V.ref a, V.int t]) hj, sm.seq hS2, _, rfl, _, _, rfl, rfl, .inl (by decide), _, _, rfl, rfl, _, _, rfl, rfl, _, rfl, fun H4 sm4 => ?_⟩
        refine ⟨_, sm4 _ _ hE, ?_, fun b o e => ?_, vs ++ [wordOf (cellOf ns j + 97 * (0 + (i : Int)) + 13)], ?_, ?_, ?_⟩
        · rw [List.length_map, hlv]
          exact Nat.lt_of_lt_of_le (show i < 1000 by omega) (by decide)
        · rw [upd_ne (ne_of_none e nE)]
          exact sm4 b o (sm b o e)
        · rw [upd_same, List.map_append]
          rfl
        · rw [List.length_append, hlv]
          rfl
        · intro x hx
          rcases List.mem_append.mp hx with hx | hx
          · exact hv x hx
          · rw [List.mem_singleton.mp hx]
            exact wordOf_ok _
      · obtain ⟨sm, vs, hE, hlv, hv⟩ := hp
        have hD3 := sm _ _ hD2
        refine ⟨D, E, _, _, rfl, rfl, hD3, hE, by rw [List.length_map, List.length_map, hl, hlv]; decide, fun p np => ?_⟩
        have s3 : Same H H3 := sm2.trans sm
        refine q _ p (ws ++ vs) (s3.trans (same_upd np)) (s3.free np) ?_ (by rw [List.length_append, hl, hlv]) fun x hx => ?_
        · rw [upd_same, List.map_append]
        · rcases List.mem_append.mp hx with hx | hx
          · exact hw x hx
          · exact hv x hx
    · refine ⟨_, rfl, D, _, _, rfl, rfl, hD2, by decide, by decide, by rw [List.length_map, hl]; decide, fun p np => ?_⟩
      refine q _ p (ws ++ (ws ++ (ws ++ []))) (sm2.trans (same_upd np)) (sm2.free np) ?_ (by simp [hl]) fun x hx => ?_
      · rw [upd_same, List.map_append, List.map_append, List.map_append]
        rfl
      · simp at hx
        exact hw x hx
end
/-! ### the table, plainly -/
def dist : List Str → List Str → Nat
  | [], m => m.length
  | _ :: l, [] => l.length + 1
  | a :: l, b :: m => if a = b then dist l m else 1 + min (dist l (b :: m)) (dist (a :: l) m)
termination_by l m => l.length + m.length
theorem dist_nil (m : List Str) : dist [] m = m.length := by rw [dist]
theorem dist_nil2 (l : List Str) : dist l [] = l.length := by
  cases l with
  | nil => rw [dist]
  | cons a l =>
    rw [dist]
    rfl
theorem dist_cons (a b : Str) (l m : List Str) : dist (a :: l) (b :: m) = if a = b then dist l m else 1 + min (dist l (b :: m)) (dist (a :: l) m) := by rw [dist]
theorem dist_le : ∀ (l m : List Str), dist l m ≤ l.length + m.length
  | [], m => by rw [dist_nil]; exact Nat.le_add_left _ _
  | a :: l, [] => by rw [dist_nil2]; exact Nat.le_add_right _ _
  | a :: l, b :: m => by
    rw [dist_cons]
    have h1 := dist_le l m
    have h2 := dist_le l (b :: m)
    simp only [List.length_cons] at h2 ⊢
    split
    · omega
    · omega
termination_by l m => l.length + m.length
def cellD (old new : List Str) (i k : Nat) : Nat := dist (old.drop i) (new.drop k)
def rowD (old new : List Str) (i : Nat) : List V := (List.range (new.length + 1)).map fun k => V.int (cellD old new i k : Nat)
/-- a table as it stands in memory -/
def TabAt (K : PySem.W.Frag) (H : Hp) (D : Addr) (old new : List Str) : Prop := ∃ rs : List V, SqL K H D rs ∧ rs.length = old.length + 1 ∧ ∀ (i : Nat) (v : V), rs[i]? = some v → ∃ R, v = .ref R ∧ SqL K H R (rowD old new i)
theorem TabAt.kp {K : PySem.W.Frag} {Ps : List Addr} {H H' : Hp} (t : Tb Ps H) (k : Kp Ps H H') {D : Addr} {old new : List Str} (h : TabAt K H D old new) : TabAt K H' D old new :=
  let ⟨rs, h1, h2, h3⟩ := h
  ⟨rs, k.seq t h1, h2, fun i v e => let ⟨R, e1, e2⟩ := h3 i v e; ⟨R, e1, k.seq t e2⟩⟩
theorem TabAt.same {K : PySem.W.Frag} {H H' : Hp} (s : Same H H') {D : Addr} {old new : List Str} (h : TabAt K H D old new) : TabAt K H' D old new := h.kp noTb (Kp.same noTb s)
theorem TabAt.row {K : PySem.W.Frag} {H : Hp} {D : Addr} {old new : List Str} (h : TabAt K H D old new) {i : Nat} (hi : i ≤ old.length) : ∃ rs R, SqL K H D rs ∧ rs[i]? = some (.ref R) ∧ SqL K H R (rowD old new i) := by
  obtain ⟨rs, h1, h2, h3⟩ := h
  have hlt : i < rs.length := by omega
  obtain ⟨R, e1, e2⟩ := h3 i rs[i] (List.getElem?_eq_getElem hlt)
  exact ⟨rs, R, h1, by rw [List.getElem?_eq_getElem hlt, e1], e2⟩
theorem rowD_at {old new : List Str} {i k : Nat} (hk : k ≤ new.length) : (rowD old new i)[k]? = some (.int (cellD old new i k : Nat)) := by
  unfold rowD
  rw [List.getElem?_map, List.getElem?_range (by omega)]
  rfl
theorem rowD_len (old new : List Str) (i : Nat) : (rowD old new i).length = new.length + 1 := by
  unfold rowD
  rw [List.length_map, List.length_range]
theorem cellD_end {old new : List Str} {i k : Nat} (hi : i ≤ old.length) (hk : k ≤ new.length) (h : i = old.length ∨ k = new.length) : cellD old new i k = (old.length - i) + (new.length - k) := by
  unfold cellD
  rcases h with h | h
  · rw [List.drop_of_length_le (by omega), dist_nil, List.length_drop]
    omega
  · rw [List.drop_of_length_le (l := new) (by omega), dist_nil2, List.length_drop]
    omega
theorem cellD_in {old new : List Str} {i k : Nat} {a b : Str} (ha : old[i]? = some a) (hb : new[k]? = some b) : cellD old new i k = if a = b then cellD old new (i + 1) (k + 1) else 1 + min (cellD old new (i + 1) k) (cellD old new i (k + 1)) := by
  have key : ∀ {l : List Str} {j : Nat} {x : Str}, l[j]? = some x → l.drop j = x :: l.drop (j + 1) := fun {l j x} h => by
    obtain ⟨h1, h2⟩ := List.getElem?_eq_some_iff.mp h
    rw [List.drop_eq_getElem_cons h1, h2]
  unfold cellD
  rw [key ha, key hb, dist_cons]
def spTable (K : PySem.W.Frag) (Ps : List Addr) : Sp := fun vs H Q _ => ∃ (p q : Addr) (old new : List Str), vs = [.ref p, .ref q] ∧ SqL K H p (old.map V.str) ∧ SqL K H q (new.map V.str) ∧ (∀ a ∈ old, wordB a = true) ∧ (∀ a ∈ new, wordB a = true) ∧ old.length ≤ 120 ∧ new.length ≤ 120 ∧ Tb Ps H ∧
  ∀ (H' : Hp) (D : Addr), Kp Ps H H' → H D = none → TabAt K H' D old new → Q (.ref D) H'
def spApart (K : PySem.W.Frag) (Ps : List Addr) : Sp := fun vs H Q _ => ∃ (p q : Addr) (old new : List Str), vs = [.ref p, .ref q] ∧ SqL K H p (old.map V.str) ∧ SqL K H q (new.map V.str) ∧ (∀ a ∈ old, wordB a = true) ∧ (∀ a ∈ new, wordB a = true) ∧ old.length ≤ 120 ∧ new.length ≤ 120 ∧ Tb Ps H ∧
  ∀ (H' : Hp), Kp Ps H H' → Q (.int (dist old new : Nat)) H'
/-! ### table and apart, as landed -/
abbrev rLenS (K : PySem.W.Frag) : List V → Hp → (V → Hp → Prop) → Prop := fun xs H Q => ∃ p ys, xs = [V.ref p] ∧ (SqL K H p ys ∨ SqT K H p ys) ∧ Q (.int ys.length) H
def listM (M : Nat → Nat → Int) (m i : Nat) : List V := (List.range (m + 1)).map fun k => V.int (M i k)
theorem listM_len (M : Nat → Nat → Int) (m i : Nat) : (listM M m i).length = m + 1 := by
  unfold listM
  rw [List.length_map, List.length_range]
theorem listM_at {M : Nat → Nat → Int} {m i k : Nat} (hk : k ≤ m) : (listM M m i)[k]? = some (.int (M i k)) := by
  unfold listM
  rw [List.getElem?_map, List.getElem?_range (by omega)]
  rfl
theorem listM_congr {M M' : Nat → Nat → Int} {m i : Nat} (h : ∀ k ≤ m, M i k = M' i k) : listM M m i = listM M' m i := by
  unfold listM
  refine List.map_congr_left fun k hk => ?_
  rw [h k (by have := List.mem_range.mp hk; omega)]
theorem rep_zero : ∀ n, (List.replicate n [V.int 0]).flatten = (List.range n).map fun _ => V.int 0 := fun n => by
  rw [List.map_const', List.length_range]
  induction n with
  | zero => rfl
  | succ n ih => rw [List.replicate_succ, List.flatten_cons, ih, List.replicate_succ]; rfl
theorem ixN_nat {n k : Nat} (h : k < n) : ixN n (k : Int) = some k := by
  unfold ixN
  rw [if_pos (by omega), if_pos (by omega), Int.toNat_natCast]
theorem listM_set {M : Nat → Nat → Int} {m i k : Nat} {x : Int} (hk : k ≤ m) : (listM M m i).set k (.int x) = listM (fun i' k' => if i' = i ∧ k' = k then x else M i' k') m i := by
  refine List.ext_getElem? fun j => ?_
  rw [List.getElem?_set, listM_len]
  by_cases h : k = j
  · subst h
    rw [if_pos rfl, if_pos (by omega), listM_at hk, if_pos ⟨rfl, rfl⟩]
  · rw [if_neg h]
    by_cases hj : j ≤ m
    · rw [listM_at hj, listM_at hj, if_neg fun z => h z.2.symm]
    · rw [List.getElem?_eq_none (by rw [listM_len]; omega), List.getElem?_eq_none (by rw [listM_len]; omega)]
theorem nodup_at {α : Type} : ∀ {l : List α}, l.Nodup → ∀ {i j : Nat} {x : α}, l[i]? = some x → l[j]? = some x → i = j
  | [], _, i, j, x, h, _ => by cases h
  | a :: r, nd, i, j, x, h, g => by
    rw [List.nodup_cons] at nd
    cases i with
    | zero =>
      cases h
      cases j with
      | zero => rfl
      | succ j => exact absurd (List.mem_of_getElem? (l := r) (i := j) g) nd.1
    | succ i =>
      cases j with
      | zero =>
        cases g
        exact absurd (List.mem_of_getElem? (l := r) (i := i) h) nd.1
      | succ j => exact congrArg _ (nodup_at nd.2 h g)
/-- a table under work -/
structure TabW (H : Hp) (D : Addr) (rs : List Addr) (M : Nat → Nat → Int) (n m : Nat) : Prop where
  top : H D = some (.lst (rs.map V.ref))
  len : rs.length = n + 1
  nd : rs.Nodup
  out : D ∉ rs
  row : ∀ i R, rs[i]? = some R → H R = some (.lst (listM M m i))
theorem TabW.at_ {H : Hp} {D : Addr} {rs : List Addr} {M : Nat → Nat → Int} {n m i : Nat} (h : TabW H D rs M n m) (hi : i ≤ n) : ∃ R, rs[i]? = some R ∧ (rs.map V.ref)[i]? = some (.ref R) ∧ H R = some (.lst (listM M m i)) := by
  have hlt : i < rs.length := by have := h.len; omega
  have e := List.getElem?_eq_getElem hlt
  exact ⟨rs[i], e, by rw [List.getElem?_map, e]; rfl, h.row i _ e⟩
theorem TabW.set {H : Hp} {D : Addr} {rs : List Addr} {M : Nat → Nat → Int} {n m i k : Nat} {R : Addr} (h : TabW H D rs M n m) (hR : rs[i]? = some R) (hk : k ≤ m) (x : Int) : TabW (upd H R (.lst ((listM M m i).set k (.int x)))) D rs (fun i' k' => if i' = i ∧ k' = k then x else M i' k') n m := by
  have hm : R ∈ rs := List.mem_of_getElem? hR
  refine ⟨?_, h.len, h.nd, h.out, fun j S hS => ?_⟩
  · rw [upd_ne fun z => h.out (by rw [z]; exact hm)]
    exact h.top
  · by_cases e : j = i
    · subst e
      rw [hR] at hS
      cases hS
      rw [upd_same, listM_set hk]
    · have ne : S ≠ R := fun z => by
        subst z
        exact e (nodup_at h.nd hS hR)
      rw [upd_ne ne, h.row j S hS]
      exact congrArg (fun l => some (HO.lst l)) (listM_congr fun k' _ => (if_neg fun z => e z.1).symm)
/-- cells behind a place are as they should be -/
def Done (old new : List Str) (M : Nat → Nat → Int) (i k : Nat) : Prop := ∀ i' k', i' ≤ old.length → k' ≤ new.length → (i < i' ∨ (i' = i ∧ k ≤ k')) → M i' k' = (cellD old new i' k' : Nat)
section
variable {P : Program} {w : World} {K : PySem.W.Frag} {mg : Str → Option Value} {base : Heap}
theorem scTable : FnScope ["old", "new", "costs", "i", "k", "_"] ["old", "new"] (defScope sTable) := ⟨rfl, rfl, rfl, by decide +kernel, rfl, by decide +kernel, by decide +kernel⟩
theorem scLeast : FnScope ["costs", "old", "new", "i", "k"] ["costs", "old", "new", "i", "k"] (defScope sLeastCost) := ⟨rfl, rfl, rfl, by decide +kernel, rfl, by decide +kernel, by decide +kernel⟩
def spLeast (K : PySem.W.Frag) : Sp := fun vs H Q _ => ∃ (D p r : Addr) (old new : List Str) (i k : Nat) (rs : List Addr) (M : Nat → Nat → Int), vs = [.ref D, .ref p, .ref r, .int (i : Int), .int (k : Int)] ∧ TabW H D rs M old.length new.length ∧ SqL K H p (old.map V.str) ∧ SqL K H r (new.map V.str) ∧ i ≤ old.length ∧ k ≤ new.length ∧ Done old new M i (k + 1) ∧ Q (.int (cellD old new i k : Nat)) H
theorem ok_least {f : Addr} {fd : FuncData} (F : FnP K "least_cost" sLeastCost f fd) (mL : mg "len" = none) (mM : mg "min" = none) : FnOk P w K mg base (L2.CX P w) 1 f fd ["costs", "old", "new", "i", "k"] (spLeast K) := by
  refine F.ok scLeast (fun vs H Q E h => ?_) (fun cdv A outer s H vs Q E hr h => ?_)
  · obtain ⟨D, p, r, old, new, i, k, rs, M, rfl, _⟩ := h
    rfl
  · obtain ⟨D, p, r, old, new, i, k, rs, M, rfl, hT, hp, hr', hi, hk, dn, q⟩ := h
    refine ⟨_, pss_cons (ps_if (pt_cmpR op_eq (pv 3) (pe_callB call_len_seq (by rfl) mL PySem.boot_len (pa_cons (pv 1) pa_nil)) (by rfl))
        (pss_one (ps_ret (pe_op op_sub (pe_callB call_len_seq (by rfl) mL PySem.boot_len (pa_cons (pv 2) pa_nil)) (pv 4)))) pss_nil)
      (pss_cons (ps_if (pt_cmpR op_eq (pv 4) (pe_callB call_len_seq (by rfl) mL PySem.boot_len (pa_cons (pv 2) pa_nil)) (by rfl))
        (pss_one (ps_ret (pe_op op_sub (pe_callB call_len_seq (by rfl) mL PySem.boot_len (pa_cons (pv 1) pa_nil)) (pv 3)))) pss_nil)
      (pss_cons (ps_if (pt_cmpR op_eq (pe_ix ix_list (pv 1) (pv 3) (fun _ _ => rfl)) (pe_ix ix_list (pv 2) (pv 4) (fun _ _ => rfl)) (by rfl)) (pss_one (ps_ret (pe_ix ix_list (pe_ix ix_list (pv 0) (pe_op op_add (pv 3) pe_int) (fun _ _ => rfl)) (pe_op op_add (pv 4) pe_int) (fun _ _ => rfl)))) pss_nil)
      (pss_one (ps_ret (pe_op op_add pe_int (pe_callB (call_min2 rfl) (by rfl) mM (by decide +kernel) (pa_cons (pe_ix ix_list (pe_ix ix_list (pv 0) (pe_op op_add (pv 3) pe_int) (fun _ _ => rfl)) (pv 4) (fun _ _ => rfl)) (pa_cons (pe_ix ix_list (pe_ix ix_list (pv 0) (pv 3) (fun _ _ => rfl)) (pe_op op_add (pv 4) pe_int) (fun _ _ => rfl)) pa_nil)))))))), ?_⟩
    have lo : ((old.map V.str).length : Int) = (old.length : Int) := by rw [List.length_map]
    have ln : ((new.map V.str).length : Int) = (new.length : Int) := by rw [List.length_map]
    refine ⟨_, rfl, _, rfl, p, _, rfl, .inl hp, rfl, _, rfl, ite2 (fun e => ?_) (fun e => ?_)⟩
    · have e1 : i = old.length := by
        have := V.int.inj (of_decide_eq_true e)
        omega
      rw [cellD_end hi hk (.inl e1)] at q
      have e2 : ((new.map V.str).length : Int) - (k : Int) = (((old.length - i) + (new.length - k) : Nat) : Int) := by
        rw [ln]
        omega
      rw [← e2] at q
      exact ⟨_, rfl, r, _, rfl, .inl hr', _, rfl, _, _, rfl, rfl, q⟩
    · have n1 : i ≠ old.length := fun z => e (decide_eq_true (by rw [lo, z]))
      refine ⟨_, rfl, _, rfl, r, _, rfl, .inl hr', rfl, _, rfl, ite2 (fun e => ?_) (fun e => ?_)⟩
      · have e1 : k = new.length := by
          have := V.int.inj (of_decide_eq_true e)
          omega
        rw [cellD_end hi hk (.inr e1)] at q
        have e2 : ((old.map V.str).length : Int) - (i : Int) = (((old.length - i) + (new.length - k) : Nat) : Int) := by
          rw [lo]
          omega
        rw [← e2] at q
        exact ⟨_, rfl, p, _, rfl, .inl hp, _, rfl, _, _, rfl, rfl, q⟩
      · have n2 : k ≠ new.length := fun z => e (decide_eq_true (by rw [ln, z]))
        have hi2 : i < old.length := by omega
        have hk2 : k < new.length := by omega
        obtain ⟨a, ha⟩ : ∃ a, old[i]? = some a := ⟨_, List.getElem?_eq_getElem hi2⟩
        obtain ⟨b, hb⟩ : ∃ b, new[k]? = some b := ⟨_, List.getElem?_eq_getElem hk2⟩
        rw [cellD_in ha hb] at q
        obtain ⟨R0, _, h0, hR0⟩ := hT.at_ (i := i) hi
        obtain ⟨R1, _, h1, hR1⟩ := hT.at_ (i := i + 1) (by omega)
        have i1 : ((i : Int) + 1) = ((i + 1 : Nat) : Int) := by omega
        have k1 : ((k : Int) + 1) = ((k + 1 : Nat) : Int) := by omega
        have c11 : (listM M new.length (i + 1))[k + 1]? = some (.int (cellD old new (i + 1) (k + 1) : Nat)) := by
          rw [listM_at (by omega), dn _ _ (by omega) (by omega) (.inl (by omega))]
        have c10 : (listM M new.length (i + 1))[k]? = some (.int (cellD old new (i + 1) k : Nat)) := by
          rw [listM_at (by omega), dn _ _ (by omega) (by omega) (.inl (by omega))]
        have c01 : (listM M new.length i)[k + 1]? = some (.int (cellD old new i (k + 1) : Nat)) := by
          rw [listM_at (by omega), dn _ _ (by omega) (by omega) (.inr ⟨rfl, by omega⟩)]
        have hD : SqL K H D (rs.map V.ref) := .inl (.inl hT.top)
        refine ⟨_, rfl, _, rfl, p, _, _, _, rfl, rfl, hp, atI_nat (by rw [List.getElem?_map, ha]; rfl), _, rfl, _, rfl, r, _, _, _, rfl, rfl, hr', atI_nat (by rw [List.getElem?_map, hb]; rfl), rfl, _, rfl, ite2 (fun e => ?_) (fun e => ?_)⟩
        · have e1 : a = b := V.str.inj (of_decide_eq_true e)
          rw [if_pos e1] at q
          exact ⟨_, rfl, _, rfl, _, _, rfl, rfl, D, _, _, _, rfl, rfl, hD, by rw [i1]; exact atI_nat h1, _, rfl, _, _, rfl, rfl, R1, _, _, _, rfl, rfl, .inl (.inl hR1), by rw [k1]; exact atI_nat c11, q⟩
        · have e1 : a ≠ b := fun z => e (decide_eq_true (congrArg V.str z))
          rw [if_neg e1] at q
          refine ⟨_, rfl, _, rfl, _, _, rfl, rfl, D, _, _, _, rfl, rfl, hD, by rw [i1]; exact atI_nat h1, _, rfl, R1, _, _, _, rfl, rfl, .inl (.inl hR1), atI_nat c10, _, rfl, _, rfl, D, _, _, _, rfl, rfl, hD, atI_nat h0, _, rfl, _, _, rfl, rfl, R0, _, _, _, rfl, rfl, .inl (.inl hR0), by rw [k1]; exact atI_nat c01, _, _, rfl, _, _, rfl, rfl, ?_⟩
          have e2 : (1 : Int) + (if ((cellD old new i (k + 1) : Nat) : Int) < ((cellD old new (i + 1) k : Nat) : Int) then ((cellD old new i (k + 1) : Nat) : Int) else ((cellD old new (i + 1) k : Nat) : Int)) = ((1 + min (cellD old new (i + 1) k) (cellD old new i (k + 1)) : Nat) : Int) := by
            split <;> omega
          rw [← e2] at q
          exact q
theorem ok_table {Ps : List Addr} {f fC fL : Addr} {fd fdC fdL : FuncData} (F : FnP K "table" sTable f fd)
    (GC : FnOk P w K mg base (L2.CX P w) 5 fC fdC ["words"] (spCheckText K Ps)) (kC : PySem.W.keepIn K (.ref fC) = true) (bC : Binds K fdC ["words"] []) (gC : mg "check_text" = some (.ref fC))
    (GL : FnOk P w K mg base (L2.CX P w) 1 fL fdL ["costs", "old", "new", "i", "k"] (spLeast K)) (kL : PySem.W.keepIn K (.ref fL) = true) (bL : Binds K fdL ["costs", "old", "new", "i", "k"] []) (gL : mg "least_cost" = some (.ref fL))
    (mL : mg "len" = none) (mR : mg "range" = none) : FnOk P w K mg base (L2.CX P w) 6 f fd ["old", "new"] (spTable K Ps) := by
  refine F.ok scTable (fun vs H Q E h => ?_) (fun cdv A outer s H vs Q E hr h => ?_)
  · obtain ⟨p, q, old, new, rfl, _⟩ := h
    rfl
  · obtain ⟨p, r, old, new, rfl, hp, hq, wO, wN, lO, lN, ht, q⟩ := h
    have r1 : Room 1 (A.deeper (envOfC "table" (defScope sTable) s.heap.objs.size f cdv)) := hr.mono (by decide)
    refine ⟨_, pss_cons (ps_expr (pe_call GC hr (by rfl) gC kC bC .nil passL (pa_cons (pv 0) pa_nil)))
      (pss_cons (ps_expr (pe_call GC hr (by rfl) gC kC bC .nil passL (pa_cons (pv 1) pa_nil)))
      (pss_cut (ps_setLc (i := 2) (own := [("_", 5)]) (g := gName 5) (tt := tYes) rfl scTable.nd rfl rfl (sw_true rfl rfl rfl (by decide +kernel)) (pi_range1 (by rfl) mR (pa_cons (pe_op op_add (pe_callB call_len_seq (by rfl) mL PySem.boot_len (pa_cons (pv 0) pa_nil)) pe_int) pa_nil)) (blkOk_by (N := ["old", "new", "costs", "i", "k", "_"]) (sc := defScope sTable) (by decide +kernel))
        (fun _ _ _ _ _ => pg_name (i := 5) scTable.nd rfl (Or.inl rfl)) (fun _ _ _ _ _ => pts_nil) (fun _ _ _ _ _ => pe_op op_rep (pe_lst (pa_cons pe_int pa_nil)) (pe_op op_add (pe_callB (r := rLenS K) call_len_seq (by rfl) mL PySem.boot_len (pa_cons (pv 1) pa_nil)) pe_int)))
      (pss_cons (ps_for (passes_of rfl) rfl (pi_range3 (by rfl) mR (pa_cons (pe_callB call_len_seq (by rfl) mL PySem.boot_len (pa_cons (pv 0) pa_nil)) (pa_cons (pe_un un_neg pe_int) (pa_cons (pe_un un_neg pe_int) pa_nil)))) (pg_name (i := 3) scTable.nd rfl (.inl rfl))
        (pss_one (ps_for (passes_of rfl) rfl (pi_range3 (by rfl) mR (pa_cons (pe_callB call_len_seq (by rfl) mL PySem.boot_len (pa_cons (pv 1) pa_nil)) (pa_cons (pe_un un_neg pe_int) (pa_cons (pe_un un_neg pe_int) pa_nil)))) (pg_name (i := 4) scTable.nd rfl (.inl rfl))
          (pss_one (ps_asg (pe_call GL r1 (by rfl) gL kL bL .nil passL (pa_cons (pv 2) (pa_cons (pv 0) (pa_cons (pv 1) (pa_cons (pv 3) (pa_cons (pv 4) pa_nil)))))) (pg_sub (pe_ix ix_list (pv 2) (pv 3) (fun _ _ => rfl)) (pv 4) set_list))))))
      (pss_one (ps_ret (pv 2)))))), ?_⟩
    refine ⟨_, rfl, p, old, rfl, hp, wO, lO, ht, fun H1 k1 => ?_⟩
    refine ⟨_, rfl, r, new, rfl, k1.seq ht hq, wN, lN, k1.1, fun H2 k2 => ?_⟩
    have k12 := k1.trans k2
    have hp2 := k12.seq ht hp
    have hq2 := k12.seq ht hq
    refine ⟨fun σ' H' => ∃ D rs, σ' = [some (.ref p), some (.ref r), some (.ref D), none, none, none] ∧ Same H2 H' ∧ H2 D = none ∧ (∀ R ∈ rs, H2 R = none) ∧ TabW H' D rs (fun _ _ => 0) old.length new.length, ?_, fun σ3 H3 hM => ?_⟩
    · refine ⟨_, rfl, p, _, rfl, .inl hp2, _, _, rfl, rfl, _, rfl, by rw [List.length_map]; omega, by rw [List.length_map]; omega, fun D nD => ?_⟩
      refine lc_range (lo := 0) (n := (((old.map V.str).length : Int) + 1).toNat) (fun i H' => Same H2 H' ∧ ∃ rs : List Addr, H' D = some (.lst (rs.map V.ref)) ∧ rs.length = i ∧ rs.Nodup ∧ D ∉ rs ∧ (∀ R ∈ rs, H2 R = none) ∧ ∀ R ∈ rs, H' R = some (.lst (listM (fun _ _ => 0) new.length 0))) ⟨same_upd nD, [], upd_same, rfl, List.nodup_nil, List.not_mem_nil, (fun R h => by cases h), fun R h => by cases h⟩ (fun i H' hi hp => ?_) (fun H3 hp => ?_)
      · obtain ⟨sm, rs, hD, hl, nd, out, fr, hrow⟩ := hp
        refine ⟨rfl, yesT ?_⟩
        refine ⟨by show 1 ≤ sizeLine; decide, fun L nL => ⟨_, rfl, r, _, rfl, .inl ((same_upd nL).seq (sm.seq hq2)), _, _, rfl, rfl, L, _, _, rfl, rfl, upd_same, by rw [List.length_map]; omega, by rw [List.length_map]; omega, ?_, fun R nR => ?_⟩⟩
        · rw [List.length_map]
          exact Nat.le_trans (show 1 * ((new.length : Int) + 1).toNat ≤ 1000 by omega) (by decide)
        · have eZ : (List.replicate (((new.map V.str).length : Int) + 1).toNat [V.int 0]).flatten = listM (fun _ _ => 0) new.length 0 := by
            have e1 : (((new.map V.str).length : Int) + 1).toNat = new.length + 1 := by
              rw [List.length_map]
              omega
            rw [e1]
            unfold listM
            exact rep_zero _
          rw [eZ]
          have u1 := same_upd nL (o := .lst [V.int 0])
          have u2 := same_upd nR (o := .lst (listM (fun _ _ => 0) new.length 0))
          have hD2 := u2 _ _ (u1 _ _ hD)
          have hRD : R ≠ D := fun z => by
            subst z
            have h := u1 _ _ hD
            rw [nR] at h
            cases h
          have hi2 : i < 1000 := by
            rw [List.length_map] at hi
            omega
          have nR2 : H2 R = none := (sm.trans u1).free nR
          refine ⟨_, hD2, ?_, fun b o e => ?_, rs ++ [R], ?_, ?_, ?_, ?_, fun Z hZ => ?_, fun Z hZ => ?_⟩
          · rw [List.length_map, hl]
            exact Nat.lt_of_lt_of_le hi2 (by decide)
          · rw [upd_ne (ne_of_none e nD)]
            exact u2 _ _ (u1 _ _ (sm b o e))
          · rw [upd_same, List.map_append]
            rfl
          · rw [List.length_append, hl]
            rfl
          · refine List.nodup_append.mpr ⟨nd, List.nodup_cons.mpr ⟨List.not_mem_nil, List.nodup_nil⟩, fun a ha b hb => ?_⟩
            rw [List.mem_singleton.mp hb]
            intro z
            subst z
            have h := u1 _ _ (hrow _ ha)
            rw [nR] at h
            cases h
          · intro z
            rcases List.mem_append.mp z with z | z
            · exact out z
            · exact hRD (List.mem_singleton.mp z).symm
          · rcases List.mem_append.mp hZ with hZ | hZ
            · exact fr Z hZ
            · rw [List.mem_singleton.mp hZ]
              exact nR2
          · rcases List.mem_append.mp hZ with hZ | hZ
            · rw [upd_ne fun z => out (by rw [← z]; exact hZ)]
              exact u2 _ _ (u1 _ _ (hrow Z hZ))
            · rw [List.mem_singleton.mp hZ, upd_ne hRD]
              exact upd_same
      · obtain ⟨sm, rs, hD, hl, nd, out, fr, hrow⟩ := hp
        refine ⟨D, rs, rfl, sm, nD, fr, hD, ?_, nd, out, fun i R hR => hrow R (List.mem_of_getElem? hR)⟩
        rw [hl, List.length_map]
        omega
    · obtain ⟨D, rs, rfl, s3, nD, fr, hW⟩ := hM
      have lo : ((old.map V.str).length : Int) = (old.length : Int) := by rw [List.length_map]
      have ln : ((new.map V.str).length : Int) = (new.length : Int) := by rw [List.length_map]
      have keep : ∀ {H' : Hp} {R : Addr} {o : HO}, Same H2 H' → R ∈ rs → Same H2 (upd H' R o) := fun sm hR b u e => by
        rw [upd_ne (ne_of_none e (fr _ hR))]
        exact sm b u e
      refine ⟨_, rfl, p, _, rfl, .inl (s3.seq hp2), _, rfl, _, rfl, _, _, _, _, rfl, RgC.neg (by omega) (by omega) (by omega) (by omega), ?_⟩
      refine for_rangeC (fun t σ' H' => ∃ M y3 y4, σ' = [some (.ref p), some (.ref r), some (.ref D), y3, y4, none] ∧ Same H2 H' ∧ TabW H' D rs M old.length new.length ∧ ∀ i' k', i' ≤ old.length → k' ≤ new.length → old.length + 1 ≤ i' + t → M i' k' = (cellD old new i' k' : Nat)) ⟨_, none, none, rfl, s3, hW, fun i' k' h1 _ h3 => by omega⟩ (fun t σ' H' ht' hp' => ?_) (fun σ' H' hp' => ?_)
      · obtain ⟨M, y3, y4, rfl, sm, hT, dn⟩ := hp'
        obtain ⟨i, hi⟩ : ∃ i, i = old.length - t := ⟨_, rfl⟩
        have eI : ((old.map V.str).length : Int) + (t : Int) * (-1) = (i : Int) := by
          rw [lo]
          omega
        rw [eI]
        refine ⟨_, rfl, r, _, rfl, .inl (sm.seq hq2), _, rfl, _, rfl, _, _, _, _, rfl, RgC.neg (by omega) (by omega) (by omega) (by omega), ?_⟩
        refine for_rangeC (fun u σ' H' => ∃ M y4, σ' = [some (.ref p), some (.ref r), some (.ref D), some (.int (i : Int)), y4, none] ∧ Same H2 H' ∧ TabW H' D rs M old.length new.length ∧ Done old new M i (new.length + 1 - u)) ⟨M, y4, rfl, sm, hT, fun i' k' h1 h2 h3 => ?_⟩ (fun u σ' H' hu hp' => ?_) (fun σ' H' hp' => ?_)
        · refine dn i' k' h1 h2 ?_
          rcases h3 with h3 | ⟨h3, h4⟩ <;> omega
        · obtain ⟨M, y4, rfl, sm, hT, dn⟩ := hp'
          obtain ⟨k, hk⟩ : ∃ k, k = new.length - u := ⟨_, rfl⟩
          have eK : ((new.map V.str).length : Int) + (u : Int) * (-1) = (k : Int) := by
            rw [ln]
            omega
          rw [eK]
          obtain ⟨R, h1, h2, h3⟩ := hT.at_ (i := i) (by omega)
          have hRm := List.mem_of_getElem? h1
          refine ⟨_, rfl, _, rfl, _, rfl, _, rfl, _, rfl, D, p, r, old, new, i, k, rs, M, rfl, hT, sm.seq hp2, sm.seq hq2, by omega, by omega, ?_, ?_⟩
          · have e : k + 1 = new.length + 1 - u := by omega
            rw [e]
            exact dn
          · refine ⟨_, rfl, _, rfl, D, _, _, _, rfl, rfl, .inl (.inl hT.top), atI_nat h2, _, rfl, R, _, _, k, rfl, rfl, h3, ixN_nat (by rw [listM_len]; omega), ?_⟩
            refine ⟨_, _, rfl, keep sm hRm, hT.set h1 (by omega) _, fun i' k' h4 h5 h6 => ?_⟩
            show (if i' = i ∧ k' = k then _ else M i' k') = _
            by_cases e : i' = i ∧ k' = k
            · rw [if_pos e, e.1, e.2]
            · rw [if_neg e]
              refine dn i' k' h4 h5 ?_
              rcases h6 with h6 | ⟨h6, h7⟩
              · exact .inl h6
              · exact .inr ⟨h6, by omega⟩
        · obtain ⟨M, y4, rfl, sm, hT, dn⟩ := hp'
          refine ⟨M, _, _, rfl, sm, hT, fun i' k' h1 h2 h3 => dn i' k' h1 h2 ?_⟩
          rw [lo] at ht'
          by_cases e : i' = i
          · exact .inr ⟨e, by rw [ln]; omega⟩
          · exact .inl (by omega)
      · obtain ⟨M, y3, y4, rfl, sm, hT, dn⟩ := hp'
        refine ⟨_, rfl, q H' D (k12.trans (Kp.same k12.1 sm)) (k12.free ht nD) ⟨rs.map V.ref, .inl (.inl hT.top), by rw [List.length_map]; exact hT.len, fun i v e => ?_⟩⟩
        rw [List.getElem?_map] at e
        obtain ⟨R, hR, rfl⟩ := Option.map_eq_some_iff.mp e
        refine ⟨R, rfl, .inl (.inl ?_)⟩
        have hil : i < rs.length := (List.getElem?_eq_some_iff.mp hR).1
        have hle := hT.len
        rw [hT.row i R hR]
        refine congrArg (fun l => some (HO.lst l)) ?_
        unfold listM rowD
        refine List.map_congr_left fun k hk => ?_
        have hk := List.mem_range.mp hk
        rw [dn i k (by omega) (by omega) (by rw [lo]; omega)]
end
/-! ### apart -/
section
variable {P : Program} {w : World} {K : PySem.W.Frag} {mg : Str → Option Value} {base : Heap}
theorem scApart : FnScope ["old", "new"] ["old", "new"] (defScope sApart) := ⟨rfl, rfl, rfl, by decide +kernel, rfl, by decide +kernel, by decide +kernel⟩
theorem ok_apart {Ps : List Addr} {f fT : Addr} {fd fdT : FuncData} (F : FnP K "apart" sApart f fd)
    (GT : FnOk P w K mg base (L2.CX P w) 6 fT fdT ["old", "new"] (spTable K Ps)) (kT : PySem.W.keepIn K (.ref fT) = true) (bT : Binds K fdT ["old", "new"] []) (gT : mg "table" = some (.ref fT)) : FnOk P w K mg base (L2.CX P w) 7 f fd ["old", "new"] (spApart K Ps) := by
  refine F.ok scApart (fun vs H Q E h => ?_) (fun cdv A outer s H vs Q E hr h => ?_)
  · obtain ⟨p, q, old, new, rfl, _⟩ := h
    rfl
  · obtain ⟨p, r, old, new, rfl, hp, hq, wO, wN, lO, lN, ht, q⟩ := h
    refine ⟨_, pss_one (ps_ret (pe_ix ix_list (pe_ix ix_list (pe_call GT hr (by rfl) gT kT bT .nil passL (pa_cons (pv 0) (pa_cons (pv 1) pa_nil))) pe_int (fun _ _ => rfl)) pe_int (fun _ _ => rfl))), ?_⟩
    refine ⟨_, rfl, _, rfl, p, r, old, new, rfl, hp, hq, wO, wN, lO, lN, ht, fun H' D k nD hT => ?_⟩
    obtain ⟨rs, R, h1, h2, h3⟩ := hT.row (i := 0) (by omega)
    exact ⟨D, _, _, _, rfl, rfl, h1, at_of (j := 0) rfl h2, R, _, _, _, rfl, rfl, h3, at_of (j := 0) rfl (rowD_at (by omega)), q H' k⟩
end
/-! ### the telling of two texts, plainly -/
abbrev Stp : Type := Str × Str
def goS : List Str → List Str → List Stp
  | [], [] => []
  | [], b :: m => (("put" : Str), b) :: goS [] m
  | a :: l, [] => (("cut" : Str), a) :: goS l []
  | a :: l, b :: m => if a = b then (("keep" : Str), a) :: goS l m else if dist l (b :: m) ≤ dist (a :: l) m then (("cut" : Str), a) :: goS l (b :: m) else (("put" : Str), b) :: goS (a :: l) m
termination_by l m => l.length + m.length
theorem goS_put (b : Str) (m : List Str) : goS [] (b :: m) = (("put" : Str), b) :: goS [] m := by rw [goS]
theorem goS_cut (a : Str) (l : List Str) : goS (a :: l) [] = (("cut" : Str), a) :: goS l [] := by rw [goS]
theorem goS_cons (a b : Str) (l m : List Str) : goS (a :: l) (b :: m) = if a = b then (("keep" : Str), a) :: goS l m else if dist l (b :: m) ≤ dist (a :: l) m then (("cut" : Str), a) :: goS l (b :: m) else (("put" : Str), b) :: goS (a :: l) m := by rw [goS]
def goAt (old new : List Str) (i k : Nat) : List Stp := goS (old.drop i) (new.drop k)
theorem drop_at {l : List Str} {j : Nat} {x : Str} (h : l[j]? = some x) : l.drop j = x :: l.drop (j + 1) := by
  obtain ⟨h1, h2⟩ := List.getElem?_eq_some_iff.mp h
  rw [List.drop_eq_getElem_cons h1, h2]
theorem goAt_end {old new : List Str} {i k : Nat} (hi : old.length ≤ i) (hk : new.length ≤ k) : goAt old new i k = [] := by
  unfold goAt
  rw [List.drop_of_length_le hi, List.drop_of_length_le hk, goS]
inductive NextK (old new : List Str) (i k : Nat) : Str → Prop where
  | put (b : Str) (h : new[k]? = some b) (e : goAt old new i k = (("put" : Str), b) :: goAt old new i (k + 1)) : NextK old new i k "put"
  | cut (a : Str) (h : old[i]? = some a) (e : goAt old new i k = (("cut" : Str), a) :: goAt old new (i + 1) k) : NextK old new i k "cut"
  | keep (a : Str) (h : old[i]? = some a) (g : new[k]? = some a) (e : goAt old new i k = (("keep" : Str), a) :: goAt old new (i + 1) (k + 1)) : NextK old new i k "keep"
theorem next_put_end {old new : List Str} {i k : Nat} (hi : old.length ≤ i) {b : Str} (h : new[k]? = some b) : NextK old new i k "put" := by
  refine .put b h ?_
  unfold goAt
  rw [List.drop_of_length_le hi, drop_at h, goS_put]
theorem next_cut_end {old new : List Str} {i k : Nat} (hk : new.length ≤ k) {a : Str} (h : old[i]? = some a) : NextK old new i k "cut" := by
  refine .cut a h ?_
  unfold goAt
  rw [List.drop_of_length_le (l := new) hk, drop_at h, goS_cut]
theorem next_keep {old new : List Str} {i k : Nat} {a b : Str} (h : old[i]? = some a) (g : new[k]? = some b) (e : a = b) : NextK old new i k "keep" := by
  subst e
  refine .keep a h g ?_
  unfold goAt
  rw [drop_at h, drop_at g, goS_cons, if_pos rfl]
theorem next_cut {old new : List Str} {i k : Nat} {a b : Str} (h : old[i]? = some a) (g : new[k]? = some b) (e : a ≠ b) (le : cellD old new (i + 1) k ≤ cellD old new i (k + 1)) : NextK old new i k "cut" := by
  refine .cut a h ?_
  unfold cellD at le
  rw [drop_at g, drop_at h] at le
  unfold goAt
  rw [drop_at h, drop_at g, goS_cons, if_neg e, if_pos le]
theorem next_put {old new : List Str} {i k : Nat} {a b : Str} (h : old[i]? = some a) (g : new[k]? = some b) (e : a ≠ b) (le : ¬ cellD old new (i + 1) k ≤ cellD old new i (k + 1)) : NextK old new i k "put" := by
  refine .put b g ?_
  unfold cellD at le
  rw [drop_at g, drop_at h] at le
  unfold goAt
  rw [drop_at h, drop_at g, goS_cons, if_neg e, if_neg le]
theorem goS_len : ∀ (l m : List Str), (goS l m).length ≤ l.length + m.length
  | [], [] => by rw [goS]; exact Nat.zero_le _
  | [], b :: m => by
    rw [goS_put]
    have := goS_len [] m
    simp only [List.length_cons, List.length_nil] at this ⊢
    omega
  | a :: l, [] => by
    rw [goS_cut]
    have := goS_len l []
    simp only [List.length_cons, List.length_nil] at this ⊢
    omega
  | a :: l, b :: m => by
    rw [goS_cons]
    have h1 := goS_len l m
    have h2 := goS_len l (b :: m)
    have h3 := goS_len (a :: l) m
    simp only [List.length_cons] at h1 h2 h3 ⊢
    split
    · simp only [List.length_cons]
      omega
    · split
      · simp only [List.length_cons]
        omega
      · simp only [List.length_cons]
        omega
termination_by l m => l.length + m.length
/-- each step is a keep, a cut or a put of a word -/
def StpOk (x : Stp) : Prop := x.1 ∈ plainK ∧ wordB x.2 = true
theorem goS_ok : ∀ (l m : List Str), (∀ a ∈ l, wordB a = true) → (∀ a ∈ m, wordB a = true) → ∀ x ∈ goS l m, StpOk x
  | [], [] => by
    rw [goS]
    exact fun _ _ x hx => by cases hx
  | [], b :: m => by
    rw [goS_put]
    intro h1 h2 x hx
    rcases List.mem_cons.mp hx with rfl | hx
    · exact ⟨by show ("put" : Str) ∈ plainK; decide +kernel, h2 _ List.mem_cons_self⟩
    · exact goS_ok [] m h1 (fun a ha => h2 a (List.mem_cons_of_mem _ ha)) x hx
  | a :: l, [] => by
    rw [goS_cut]
    intro h1 h2 x hx
    rcases List.mem_cons.mp hx with rfl | hx
    · exact ⟨by show ("cut" : Str) ∈ plainK; decide +kernel, h1 _ List.mem_cons_self⟩
    · exact goS_ok l [] (fun a ha => h1 a (List.mem_cons_of_mem _ ha)) h2 x hx
  | a :: l, b :: m => by
    rw [goS_cons]
    intro h1 h2 x hx
    have h1' := fun a ha => h1 a (List.mem_cons_of_mem _ ha)
    have h2' := fun a ha => h2 a (List.mem_cons_of_mem _ ha)
    split at hx
    · rcases List.mem_cons.mp hx with rfl | hx
      · exact ⟨by show ("keep" : Str) ∈ plainK; decide +kernel, h1 _ List.mem_cons_self⟩
      · exact goS_ok l m h1' h2' x hx
    · split at hx
      · rcases List.mem_cons.mp hx with rfl | hx
        · exact ⟨by show ("cut" : Str) ∈ plainK; decide +kernel, h1 _ List.mem_cons_self⟩
        · exact goS_ok l (b :: m) h1' h2 x hx
      · rcases List.mem_cons.mp hx with rfl | hx
        · exact ⟨by show ("put" : Str) ∈ plainK; decide +kernel, h2 _ List.mem_cons_self⟩
        · exact goS_ok (a :: l) m h1 h2' x hx
termination_by l m => l.length + m.length
/-- stretches -/
def keptB (x : Stp) : Bool := decide (x.1 = ("keep" : Str))
abbrev GrpS : Type := List (List Stp) × Bool
def addG (g : GrpS) (x : Stp) : GrpS := (if g.1 = [] ∨ keptB x ≠ g.2 then g.1 ++ [[x]] else g.1.dropLast ++ [(g.1.getLast?.getD []) ++ [x]], keptB x)
def grpL (ss : List Stp) : GrpS := ss.foldl addG ([], false)
theorem grpL_snoc (ss : List Stp) (x : Stp) : grpL (ss ++ [x]) = addG (grpL ss) x := by
  unfold grpL
  rw [List.foldl_append]
  rfl
def wordsK (k : Str) (st : List Stp) : List Str := (st.filter fun x : Stp => decide (x.1 = k)).map (·.2)
theorem wordsK_snoc (k : Str) (st : List Stp) (x : Stp) : wordsK k (st ++ [x]) = if x.1 = k then wordsK k st ++ [x.2] else wordsK k st := by
  unfold wordsK
  rw [List.filter_append, List.map_append]
  by_cases h : x.1 = k
  · rw [if_pos h, List.filter_cons_of_pos (p := fun x : Stp => decide (x.1 = k)) (decide_eq_true h)]
    rfl
  · rw [if_neg h, List.filter_cons_of_neg (by simpa using h)]
    exact List.append_nil _
theorem wordsK_len (k : Str) (st : List Stp) : (wordsK k st).length ≤ st.length := by
  unfold wordsK
  rw [List.length_map]
  exact List.length_filter_le _ _
def rowsK (st : List Stp) (k : Str) : List RowD := if wordsK k st = [] then [] else [⟨k, 0, wordsK k st⟩]
def rowsG (st : List Stp) : List RowD := plainK.flatMap (rowsK st)
def toldRows (old new : List Str) : List RowD := (grpL (goS old new)).1.flatMap rowsG
theorem snocInd {α : Type} {p : List α → Prop} (h0 : p []) (h1 : ∀ l x, p l → p (l ++ [x])) : ∀ l, p l := by
  have key : ∀ l : List α, p l.reverse := fun l => by
    induction l with
    | nil => exact h0
    | cons a r ih =>
      rw [List.reverse_cons]
      exact h1 _ _ ih
  intro l
  have := key l.reverse
  rwa [List.reverse_reverse] at this
theorem grp_flat : ∀ ss : List Stp, (grpL ss).1.flatten = ss ∧ (∀ st ∈ (grpL ss).1, st ≠ []) := by
  refine snocInd ⟨rfl, fun _ h => by cases h⟩ fun ss x ih => ?_
  · rw [grpL_snoc]
    unfold addG
    obtain ⟨ih1, ih2⟩ := ih
    split
    · refine ⟨?_, fun st hst => ?_⟩
      · show ((grpL ss).1 ++ [[x]]).flatten = _
        rw [List.flatten_append, ih1]
        rfl
      · rcases List.mem_append.mp hst with h | h
        · exact ih2 st h
        · rw [List.mem_singleton.mp h]
          exact List.cons_ne_nil _ _
    · next hn =>
      have hne : (grpL ss).1 ≠ [] := fun z => hn (.inl z)
      refine ⟨?_, fun st hst => ?_⟩
      · show ((grpL ss).1.dropLast ++ [(grpL ss).1.getLast?.getD [] ++ [x]]).flatten = _
        rw [List.getLast?_eq_some_getLast hne, List.flatten_append]
        have e := congrArg List.flatten (List.dropLast_concat_getLast hne)
        rw [List.flatten_append, ih1] at e
        refine Eq.trans ?_ (congrArg (· ++ [x]) e)
        simp
      · rcases List.mem_append.mp hst with h | h
        · exact ih2 st (List.dropLast_subset _ h)
        · rw [List.mem_singleton.mp h]
          simp
theorem grp_len (ss : List Stp) : (grpL ss).1.length ≤ ss.length ∧ ∀ st ∈ (grpL ss).1, st.length ≤ ss.length := by
  obtain ⟨h1, h2⟩ := grp_flat ss
  have key : ∀ G : List (List Stp), (∀ st ∈ G, st ≠ []) → G.length ≤ G.flatten.length ∧ ∀ st ∈ G, st.length ≤ G.flatten.length := fun G => by
    induction G with
    | nil => exact fun _ => ⟨Nat.le_refl _, fun _ h => by cases h⟩
    | cons a r ih =>
      intro h
      obtain ⟨i1, i2⟩ := ih fun s hs => h s (List.mem_cons_of_mem _ hs)
      have ha : 1 ≤ a.length := by
        cases a with
        | nil => exact absurd rfl (h _ List.mem_cons_self)
        | cons _ _ => exact Nat.succ_le_succ (Nat.zero_le _)
      rw [List.flatten_cons, List.length_append, List.length_cons]
      refine ⟨by omega, fun st hst => ?_⟩
      rcases List.mem_cons.mp hst with rfl | hst
      · omega
      · have := i2 st hst
        omega
  have k := key _ h2
  rw [h1] at k
  exact k
theorem rowsK_ok {st : List Stp} (h : ∀ x ∈ st, StpOk x) {k : Str} (hk : k ∈ plainK) : ∀ r ∈ rowsK st k, RowOk r ∧ r.num = 0 ∧ r.kind = k := fun r hr => by
  unfold rowsK at hr
  split at hr
  · cases hr
  · next hne =>
    rw [List.mem_singleton.mp hr]
    refine ⟨⟨List.mem_append.mpr (.inl hk), ?_, hne, fun a ha => ?_⟩, rfl, rfl⟩
    · show numB k 0 = true
      unfold numB
      rw [inV_strs, if_neg]
      · rfl
      · have e : ∀ k ∈ plainK, decide (k ∈ blockK) = false := by decide +kernel
        rw [e k hk]
        decide
    · unfold wordsK at ha
      obtain ⟨x, h1, h2⟩ := List.mem_map.mp ha
      rw [← h2]
      exact (h x (List.mem_filter.mp h1).1).2
theorem told_ok {old new : List Str} (h1 : ∀ a ∈ old, wordB a = true) (h2 : ∀ a ∈ new, wordB a = true) : ∀ r ∈ toldRows old new, RowOk r ∧ r.num = 0 ∧ r.kind ∈ plainK := fun r hr => by
  unfold toldRows at hr
  obtain ⟨st, hst, hr⟩ := List.mem_flatMap.mp hr
  have ok : ∀ x ∈ st, StpOk x := fun x hx => goS_ok old new h1 h2 x (by
    rw [← (grp_flat (goS old new)).1]
    exact List.mem_flatten.mpr ⟨st, hst, hx⟩)
  unfold rowsG at hr
  obtain ⟨k, hk, hr⟩ := List.mem_flatMap.mp hr
  obtain ⟨a, b, c⟩ := rowsK_ok ok hk r hr
  exact ⟨a, b, c ▸ hk⟩
/-! ### told, as landed -/
def StpAt (H : Hp) (v : V) (x : Stp) : Prop := ∃ T, v = .ref T ∧ H T = some (.tup [.str x.1, .str x.2])
def StpsAt (H : Hp) : List V → List Stp → Prop := Paired (StpAt H)
theorem StpAt.same {H H' : Hp} (s : Same H H') {v : V} {x : Stp} (h : StpAt H v x) : StpAt H' v x := let ⟨T, e, h1⟩ := h; ⟨T, e, s _ _ h1⟩
theorem StpsAt.same {H H' : Hp} (s : Same H H') {xs : List V} {ss : List Stp} (h : StpsAt H xs ss) : StpsAt H' xs ss := by
  unfold StpsAt at h ⊢
  induction h with
  | nil => exact .nil
  | cons h t ih => exact .cons (h.same s) ih
/-- a store to a list leaves steps as they are -/
theorem StpAt.set {H : Hp} {D : Addr} {o : HO} {zs : List V} (hD : H D = some (.lst zs)) {v : V} {x : Stp} (h : StpAt H v x) : StpAt (upd H D o) v x := by
  obtain ⟨T, e, h1⟩ := h
  exact ⟨T, e, by rw [upd_ne fun z => by subst z; rw [hD] at h1; cases h1]; exact h1⟩
theorem StpsAt.set {H : Hp} {D : Addr} {o : HO} {zs : List V} (hD : H D = some (.lst zs)) {xs : List V} {ss : List Stp} (h : StpsAt H xs ss) : StpsAt (upd H D o) xs ss := by
  unfold StpsAt at h ⊢
  induction h with
  | nil => exact .nil
  | cons h t ih => exact .cons (h.set hD) ih
theorem prd_app {α β : Type} {F : α → β → Prop} {a c : List α} {b d : List β} (h : Paired F a b) (g : Paired F c d) : Paired F (a ++ c) (b ++ d) := by
  induction h with
  | nil => exact g
  | cons h t ih => exact .cons h ih
theorem prd_len {α β : Type} {F : α → β → Prop} {a : List α} {b : List β} (h : Paired F a b) : a.length = b.length := by
  induction h with
  | nil => rfl
  | cons h t ih => rw [List.length_cons, List.length_cons, ih]
theorem prd_at {α β : Type} {F : α → β → Prop} {a : List α} {b : List β} (h : Paired F a b) : ∀ {i : Nat} {x : α}, a[i]? = some x → ∃ y, b[i]? = some y ∧ F x y := by
  induction h with
  | nil => intro i x e; cases e
  | cons h t ih =>
    intro i x e
    cases i with
    | zero =>
      cases e
      exact ⟨_, rfl, h⟩
    | succ i => exact ih e
section
variable {P : Program} {w : World} {K : PySem.W.Frag} {mg : Str → Option Value} {base : Heap}
theorem scNextKind : FnScope ["costs", "old", "new", "i", "k"] ["costs", "old", "new", "i", "k"] (defScope sNextKind) := ⟨rfl, rfl, rfl, by decide +kernel, rfl, by decide +kernel, by decide +kernel⟩
theorem scSteps : FnScope ["old", "new", "costs", "steps", "i", "k", "kind", "word"] ["old", "new"] (defScope sStepsBetween) := ⟨rfl, rfl, rfl, by decide +kernel, rfl, by decide +kernel, by decide +kernel⟩
def spNextKind (K : PySem.W.Frag) : Sp := fun vs H Q _ => ∃ (D p r : Addr) (old new : List Str) (i k : Nat), vs = [.ref D, .ref p, .ref r, .int (i : Int), .int (k : Int)] ∧ TabAt K H D old new ∧ SqL K H p (old.map V.str) ∧ SqL K H r (new.map V.str) ∧ i ≤ old.length ∧ k ≤ new.length ∧ (i < old.length ∨ k < new.length) ∧ ∀ kd, NextK old new i k kd → Q (.str kd) H
theorem ok_next_kind {f : Addr} {fd : FuncData} (F : FnP K "next_kind" sNextKind f fd) (mL : mg "len" = none) : FnOk P w K mg base (L2.CX P w) 1 f fd ["costs", "old", "new", "i", "k"] (spNextKind K) := by
  refine F.ok scNextKind (fun vs H Q E h => ?_) (fun cdv A outer s H vs Q E hr h => ?_)
  · obtain ⟨D, p, r, old, new, i, k, rfl, _⟩ := h
    rfl
  · obtain ⟨D, p, r, old, new, i, k, rfl, hT, hp, hr', hi, hk, hlt, q⟩ := h
    refine ⟨_, pss_cons (ps_if (pt_cmpR op_eq (pv 3) (pe_callB call_len_seq (by rfl) mL PySem.boot_len (pa_cons (pv 1) pa_nil)) (by rfl)) (pss_one (ps_ret pe_str)) pss_nil)
      (pss_cons (ps_if (pt_cmpR op_eq (pv 4) (pe_callB call_len_seq (by rfl) mL PySem.boot_len (pa_cons (pv 2) pa_nil)) (by rfl)) (pss_one (ps_ret pe_str)) pss_nil)
      (pss_cons (ps_if (pt_cmpR op_eq (pe_ix ix_list (pv 1) (pv 3) (fun _ _ => rfl)) (pe_ix ix_list (pv 2) (pv 4) (fun _ _ => rfl)) (by rfl)) (pss_one (ps_ret pe_str)) pss_nil)
      (pss_cons (ps_if (pt_cmpR op_le (pe_ix ix_list (pe_ix ix_list (pv 0) (pe_op op_add (pv 3) pe_int) (fun _ _ => rfl)) (pv 4) (fun _ _ => rfl)) (pe_ix ix_list (pe_ix ix_list (pv 0) (pv 3) (fun _ _ => rfl)) (pe_op op_add (pv 4) pe_int) (fun _ _ => rfl)) (by rfl)) (pss_one (ps_ret pe_str)) pss_nil)
      (pss_one (ps_ret pe_str))))), ?_⟩
    have lo : ((old.map V.str).length : Int) = (old.length : Int) := by rw [List.length_map]
    have ln : ((new.map V.str).length : Int) = (new.length : Int) := by rw [List.length_map]
    refine ⟨_, rfl, _, rfl, p, _, rfl, .inl hp, rfl, _, rfl, ite2 (fun e => ?_) (fun e => ?_)⟩
    · have e1 : i = old.length := by
        have := V.int.inj (of_decide_eq_true e)
        omega
      have hk2 : k < new.length := by omega
      exact q _ (next_put_end (by omega) (List.getElem?_eq_getElem hk2))
    · have n1 : i ≠ old.length := fun z => e (decide_eq_true (by rw [lo, z]))
      have hi2 : i < old.length := by omega
      have ha := List.getElem?_eq_getElem hi2
      refine ⟨_, rfl, _, rfl, r, _, rfl, .inl hr', rfl, _, rfl, ite2 (fun e => ?_) (fun e => ?_)⟩
      · have e1 : k = new.length := by
          have := V.int.inj (of_decide_eq_true e)
          omega
        exact q _ (next_cut_end (by omega) ha)
      · have n2 : k ≠ new.length := fun z => e (decide_eq_true (by rw [ln, z]))
        have hk2 : k < new.length := by omega
        have hb := List.getElem?_eq_getElem hk2
        obtain ⟨rs, R0, hD0, h0, hR0⟩ := hT.row (i := i) hi
        obtain ⟨rs1, R1, hD1, h1, hR1⟩ := hT.row (i := i + 1) (by omega)
        have i1 : ((i : Int) + 1) = ((i + 1 : Nat) : Int) := by omega
        have k1 : ((k : Int) + 1) = ((k + 1 : Nat) : Int) := by omega
        refine ⟨_, rfl, _, rfl, p, _, _, _, rfl, rfl, hp, atI_nat (by rw [List.getElem?_map, ha]; rfl), _, rfl, _, rfl, r, _, _, _, rfl, rfl, hr', atI_nat (by rw [List.getElem?_map, hb]; rfl), rfl, _, rfl, ite2 (fun e => ?_) (fun e => ?_)⟩
        · exact q _ (next_keep ha hb (V.str.inj (of_decide_eq_true e)))
        · have e1 : old[i] ≠ new[k] := fun z => e (decide_eq_true (congrArg V.str z))
          refine ⟨_, rfl, _, rfl, _, _, rfl, rfl, D, _, _, _, rfl, rfl, hD1, by rw [i1]; exact atI_nat h1, _, rfl, R1, _, _, _, rfl, rfl, hR1, atI_nat (rowD_at (by omega)), _, rfl, _, rfl, D, _, _, _, rfl, rfl, hD0, atI_nat h0, _, rfl, _, _, rfl, rfl, R0, _, _, _, rfl, rfl, hR0, by rw [k1]; exact atI_nat (rowD_at (by omega)), _, _, rfl, rfl, _, rfl, ite2 (fun e2 => ?_) (fun e2 => ?_)⟩
          · refine q _ (next_cut ha hb e1 ?_)
            have := of_decide_eq_true e2
            omega
          · refine q _ (next_put ha hb e1 fun z => e2 (decide_eq_true ?_))
            omega
def spSteps (K : PySem.W.Frag) (Ps : List Addr) : Sp := fun vs H Q _ => ∃ (p q : Addr) (old new : List Str), vs = [.ref p, .ref q] ∧ SqL K H p (old.map V.str) ∧ SqL K H q (new.map V.str) ∧ (∀ a ∈ old, wordB a = true) ∧ (∀ a ∈ new, wordB a = true) ∧ old.length ≤ 120 ∧ new.length ≤ 120 ∧ Tb Ps H ∧
  ∀ (H' : Hp) (S : Addr) (xs : List V), Kp Ps H H' → H S = none → H' S = some (.lst xs) → StpsAt H' xs (goS old new) → Q (.ref S) H'
def StepW (p r D S : Addr) (old new : List Str) (H1 : Hp) (i k : Nat) (σ' : L2.St) (H' : Hp) : Prop := ∃ (xs : List V) (ss : List Stp) (y6 y7 : Option V), σ' = [some (.ref p), some (.ref r), some (.ref D), some (.ref S), some (.int (i : Int)), some (.int (k : Int)), y6, y7] ∧ i ≤ old.length ∧ k ≤ new.length ∧ Same H1 H' ∧ H' S = some (.lst xs) ∧ StpsAt H' xs ss ∧ ss ++ goAt old new i k = goS old new
theorem ok_steps_between {Ps : List Addr} {aO f fT fN : Addr} {fd fdT fdN : FuncData} (F : FnP K "steps_between" sStepsBetween f fd)
    (GT : FnOk P w K mg base (L2.CX P w) 6 fT fdT ["old", "new"] (spTable K Ps)) (kT : PySem.W.keepIn K (.ref fT) = true) (bT : Binds K fdT ["old", "new"] []) (gT : mg "table" = some (.ref fT))
    (GN : FnOk P w K mg base (L2.CX P w) 1 fN fdN ["costs", "old", "new", "i", "k"] (spNextKind K)) (kN : PySem.W.keepIn K (.ref fN) = true) (bN : Binds K fdN ["costs", "old", "new", "i", "k"] []) (gN : mg "next_kind" = some (.ref fN))
    {aN : Addr} (mL : mg "len" = none) (mO : mg "OLD_KINDS" = some (.ref aO)) (kO : KTup K aO oldK) (mW : mg "NEW_KINDS" = some (.ref aN)) (kW : KTup K aN newK) : FnOk P w K mg base (L2.CX P w) 7 f fd ["old", "new"] (spSteps K Ps) := by
  refine F.ok scSteps (fun vs H Q E h => ?_) (fun cdv A outer s H vs Q E hr h => ?_)
  · obtain ⟨p, q, old, new, rfl, _⟩ := h
    rfl
  · obtain ⟨p, r, old, new, rfl, hp, hq, wO, wN, lO, lN, ht, q⟩ := h
    have r1 : Room 1 (A.deeper (envOfC "steps_between" (defScope sStepsBetween) s.heap.objs.size f cdv)) := hr.mono (by decide)
    refine ⟨_, pss_cons (ps_set (i := 2) scSteps.nd rfl (.inl rfl) (pe_call GT hr (by rfl) gT kT bT .nil passL (pa_cons (pv 0) (pa_cons (pv 1) pa_nil))))
      (pss_cons (ps_set (i := 3) scSteps.nd rfl (.inl rfl) (pe_lst pa_nil))
      (pss_cons (ps_set (i := 4) scSteps.nd rfl (.inl rfl) pe_int)
      (pss_cons (ps_set (i := 5) scSteps.nd rfl (.inl rfl) pe_int)
      (pss_cons (ps_while (passes_of rfl) (PW.pt (pw_or (pt_cmpR op_lt (pv 4) (pe_callB call_len_seq (by rfl) mL PySem.boot_len (pa_cons (pv 0) pa_nil)) (by rfl)) (pw_or1 (pt_cmpR op_lt (pv 5) (pe_callB call_len_seq (by rfl) mL PySem.boot_len (pa_cons (pv 1) pa_nil)) (by rfl)))))
        (pss_cons (ps_set (i := 6) scSteps.nd rfl (.inl rfl) (pe_call GN r1 (by rfl) gN kN bN .nil passL (pa_cons (pv 2) (pa_cons (pv 0) (pa_cons (pv 1) (pa_cons (pv 4) (pa_cons (pv 5) pa_nil)))))))
        (pss_cons (ps_set (i := 7) scSteps.nd rfl (.inl rfl) (pe_ifExp (pt_cmpR op_in_seq (pv 6) (pe_glob (v := .ref aO) (by rfl) mO rfl) (by rfl)) (pe_ix ix_list (pv 0) (pv 4) (fun _ _ => rfl)) (pe_ix ix_list (pv 1) (pv 5) (fun _ _ => rfl))))
        (pss_cons (ps_expr (pe_bm PySem.F.plainAttrs_list PySem.F.slot_list_append PySem.F.type_list_append mt_append (pv 3) (pa_cons (pe_tup (pa_cons (pv 6) (pa_cons (pv 7) pa_nil))) pa_nil)))
        (pss_cut (ps_if (pt_cmpR op_in_seq (pv 6) (pe_glob (v := .ref aO) (by rfl) mO rfl) (by rfl)) (pss_one (ps_aug (i := 4) scSteps.nd rfl (.inl rfl) pe_int ip_add)) pss_nil)
        (pss_one (ps_if (pt_cmpR op_in_seq (pv 6) (pe_glob (v := .ref aN) (by rfl) mW rfl) (by rfl)) (pss_one (ps_aug (i := 5) scSteps.nd rfl (.inl rfl) pe_int ip_add)) pss_nil)))))))
      (pss_one (ps_ret (pv 3))))))), ?_⟩
    refine ⟨_, rfl, _, rfl, p, r, old, new, rfl, hp, hq, wO, wN, lO, lN, ht, fun H1 D k1 nD hT => ?_⟩
    have p1 := k1.seq ht hp
    have q1 := k1.seq ht hq
    have t1 := k1.1
    refine ⟨by show 0 ≤ sizeLine; decide, fun S nS => ?_⟩
    have u1 := same_upd nS (o := .lst [])
    have I0 : (upd H1 S (.lst [])) S = some (.lst []) := upd_same
    refine ⟨fun m σ' H' => ∃ i k : Nat, m = (old.length - i) + (new.length - k) ∧ StepW p r D S old new H1 i k σ' H', ⟨_, 0, 0, rfl, [], [], none, none, rfl, Nat.zero_le _, Nat.zero_le _, u1, I0, .nil, rfl⟩, fun m σ' H' hM => ?_⟩
    obtain ⟨i, k, rfl, xs, ss, y6, y7, rfl, hi, hk, sm, hS, hX, hgo⟩ := hM
    have p2 := sm.seq p1
    have q2 := sm.seq q1
    have lo : ((old.map V.str).length : Int) = (old.length : Int) := by rw [List.length_map]
    have ln : ((new.map V.str).length : Int) = (new.length : Int) := by rw [List.length_map]
    refine (fun (body : (i < old.length ∨ k < new.length) → _) => ⟨_, rfl, _, rfl, p, _, rfl, .inl p2, _, _, rfl, rfl, _, rfl, ite2 (fun e => body (.inl ?b1)) (fun e => ⟨_, rfl, _, rfl, r, _, rfl, .inl q2, _, _, rfl, rfl, _, rfl, ite2 (fun e2 => body (.inr ?b2)) (fun e2 => ⟨_, rfl, ?b3⟩)⟩)⟩) ?b4
    case b1 =>
      have := of_decide_eq_true e
      omega
    case b2 =>
      have := of_decide_eq_true e2
      omega
    case b3 =>
      have h1 : old.length ≤ i := Nat.le_of_not_lt fun z => e (decide_eq_true (by omega))
      have h2 : new.length ≤ k := Nat.le_of_not_lt fun z => e2 (decide_eq_true (by omega))
      rw [goAt_end h1 h2, List.append_nil] at hgo
      rw [hgo] at hX
      exact q H' S xs (k1.trans (Kp.same t1 sm)) (k1.free ht nS) hS hX
    case b4 =>
      intro hlt
      refine ⟨_, fun _ _ h => h, ?_⟩
      have hxl : xs.length ≤ 240 := by
        have h1 := prd_len hX
        have h2 := congrArg List.length hgo
        rw [List.length_append] at h2
        have h3 := goS_len old new
        omega
      refine ⟨_, rfl, _, rfl, _, rfl, _, rfl, _, rfl, D, p, r, old, new, i, k, rfl, hT.same sm, p2, q2, hi, hk, hlt, fun kd hkd => ?_⟩
      have fin : ∀ (T : Addr) (kd x : Str) (i' k' : Nat), H' T = none → i' ≤ old.length → k' ≤ new.length → (old.length - i') + (new.length - k') < (old.length - i) + (new.length - k) → goAt old new i k = (kd, x) :: goAt old new i' k' → ∀ σ2, σ2 = ([some (.ref p), some (.ref r), some (.ref D), some (.ref S), some (.int (i' : Int)), some (.int (k' : Int)), some (.str kd), some (.str x)] : L2.St) →
          ∃ m', m' < (old.length - i) + (new.length - k) ∧ ∃ i k : Nat, m' = (old.length - i) + (new.length - k) ∧ StepW p r D S old new H1 i k σ2 (upd (upd H' T (.tup [.str kd, .str x])) S (.lst (xs ++ [.ref T]))) := fun T kd x i' k' nT hi' hk' hm he σ2 hσ => by
        have s1 := same_upd nT (o := .tup [.str kd, .str x])
        have hS1 := s1 _ _ hS
        refine ⟨_, hm, i', k', rfl, xs ++ [.ref T], ss ++ [(kd, x)], _, _, hσ, hi', hk', fun b o e => ?_, upd_same, ?_, ?_⟩
        · rw [upd_ne (ne_of_none e nS)]
          exact s1 b o (sm b o e)
        · exact prd_app (hX.same s1 |>.set hS1) (.cons (StpAt.set hS1 ⟨T, rfl, upd_same⟩) .nil)
        · rw [List.append_assoc, ← hgo, he]
          rfl
      have hlt1 : xs.length < sizeLine := Nat.lt_of_lt_of_le (show xs.length < 1000 by omega) (by decide)
      have oP : inV (.str ("put" : Str)) (oldK.map V.str) = false := by
        rw [inV_strs]
        decide +kernel
      have oC : inV (.str ("cut" : Str)) (oldK.map V.str) = true := by
        rw [inV_strs]
        decide +kernel
      have oK : inV (.str ("keep" : Str)) (oldK.map V.str) = true := by
        rw [inV_strs]
        decide +kernel
      have nP : inV (.str ("put" : Str)) (newK.map V.str) = true := by
        rw [inV_strs]
        decide +kernel
      have nC : inV (.str ("cut" : Str)) (newK.map V.str) = false := by
        rw [inV_strs]
        decide +kernel
      have nK : inV (.str ("keep" : Str)) (newK.map V.str) = true := by
        rw [inV_strs]
        decide +kernel
      cases hkd with
      | put b h e =>
        have hk2 : k < new.length := (List.getElem?_eq_some_iff.mp h).1
        refine ⟨_, rfl, aO, oldK.map V.str, rfl, .inr (kO H'), rfl, flat_strs _, _, rfl, ?_⟩
        rw [oP]
        refine iteF ⟨_, rfl, _, rfl, r, _, _, _, rfl, rfl, q2, atI_nat (by rw [List.getElem?_map, h]; rfl), ?_⟩
        refine ⟨_, rfl, .inl ⟨rfl, _, .inl (.inl hS)⟩, _, rfl, _, rfl, by show 2 ≤ sizeLine; decide, fun T nT => ?_⟩
        refine ⟨S, _, _, rfl, rfl, same_upd nT _ _ hS, hlt1, ?_⟩
        refine ⟨fun σ3 H3 => σ3 = [some (.ref p), some (.ref r), some (.ref D), some (.ref S), some (.int (i : Int)), some (.int (k : Int)), some (.str ("put" : Str)), some (.str b)] ∧ H3 = upd (upd H' T (.tup [.str ("put" : Str), .str b])) S (.lst (xs ++ [.ref T])), ?_, fun σ3 H3 hM => ?_⟩
        · refine ⟨_, rfl, aO, oldK.map V.str, rfl, .inr (kO _), rfl, flat_strs _, _, rfl, ?_⟩
          rw [oP]
          exact iteF ⟨rfl, rfl⟩
        · obtain ⟨rfl, rfl⟩ := hM
          refine ⟨_, rfl, aN, newK.map V.str, rfl, .inr (kW _), rfl, flat_strs _, _, rfl, ?_⟩
          rw [nP]
          exact iteT ⟨_, rfl, _, _, rfl, rfl, fin T "put" b i (k + 1) nT hi (by omega) (by omega) e _ rfl⟩
      | cut a h e =>
        have hi2 : i < old.length := (List.getElem?_eq_some_iff.mp h).1
        refine ⟨_, rfl, aO, oldK.map V.str, rfl, .inr (kO H'), rfl, flat_strs _, _, rfl, ?_⟩
        rw [oC]
        refine iteT ⟨_, rfl, _, rfl, p, _, _, _, rfl, rfl, p2, atI_nat (by rw [List.getElem?_map, h]; rfl), ?_⟩
        refine ⟨_, rfl, .inl ⟨rfl, _, .inl (.inl hS)⟩, _, rfl, _, rfl, by show 2 ≤ sizeLine; decide, fun T nT => ?_⟩
        refine ⟨S, _, _, rfl, rfl, same_upd nT _ _ hS, hlt1, ?_⟩
        refine ⟨fun σ3 H3 => σ3 = [some (.ref p), some (.ref r), some (.ref D), some (.ref S), some (.int ((i + 1 : Nat) : Int)), some (.int (k : Int)), some (.str ("cut" : Str)), some (.str a)] ∧ H3 = upd (upd H' T (.tup [.str ("cut" : Str), .str a])) S (.lst (xs ++ [.ref T])), ?_, fun σ3 H3 hM => ?_⟩
        · refine ⟨_, rfl, aO, oldK.map V.str, rfl, .inr (kO _), rfl, flat_strs _, _, rfl, ?_⟩
          rw [oC]
          exact iteT ⟨_, rfl, _, _, rfl, rfl, rfl, rfl⟩
        · obtain ⟨rfl, rfl⟩ := hM
          refine ⟨_, rfl, aN, newK.map V.str, rfl, .inr (kW _), rfl, flat_strs _, _, rfl, ?_⟩
          rw [nC]
          exact iteF (fin T "cut" a (i + 1) k nT (by omega) hk (by omega) e _ rfl)
      | keep a h g e =>
        have hi2 : i < old.length := (List.getElem?_eq_some_iff.mp h).1
        have hk2 : k < new.length := (List.getElem?_eq_some_iff.mp g).1
        refine ⟨_, rfl, aO, oldK.map V.str, rfl, .inr (kO H'), rfl, flat_strs _, _, rfl, ?_⟩
        rw [oK]
        refine iteT ⟨_, rfl, _, rfl, p, _, _, _, rfl, rfl, p2, atI_nat (by rw [List.getElem?_map, h]; rfl), ?_⟩
        refine ⟨_, rfl, .inl ⟨rfl, _, .inl (.inl hS)⟩, _, rfl, _, rfl, by show 2 ≤ sizeLine; decide, fun T nT => ?_⟩
        refine ⟨S, _, _, rfl, rfl, same_upd nT _ _ hS, hlt1, ?_⟩
        refine ⟨fun σ3 H3 => σ3 = [some (.ref p), some (.ref r), some (.ref D), some (.ref S), some (.int ((i + 1 : Nat) : Int)), some (.int (k : Int)), some (.str ("keep" : Str)), some (.str a)] ∧ H3 = upd (upd H' T (.tup [.str ("keep" : Str), .str a])) S (.lst (xs ++ [.ref T])), ?_, fun σ3 H3 hM => ?_⟩
        · refine ⟨_, rfl, aO, oldK.map V.str, rfl, .inr (kO _), rfl, flat_strs _, _, rfl, ?_⟩
          rw [oK]
          exact iteT ⟨_, rfl, _, _, rfl, rfl, rfl, rfl⟩
        · obtain ⟨rfl, rfl⟩ := hM
          refine ⟨_, rfl, aN, newK.map V.str, rfl, .inr (kW _), rfl, flat_strs _, _, rfl, ?_⟩
          rw [nK]
          exact iteT ⟨_, rfl, _, _, rfl, rfl, fin T "keep" a (i + 1) (k + 1) nT (by omega) (by omega) (by omega) e _ rfl⟩
end
/-! ### stretches, told -/
structure GrpW (H : Hp) (G : Addr) (as : List Addr) (gs : List (List Stp)) : Prop where
  top : H G = some (.lst (as.map V.ref))
  nd : as.Nodup
  out : G ∉ as
  len : as.length = gs.length
  at_ : ∀ (i : Nat) (a : Addr) (g : List Stp), as[i]? = some a → gs[i]? = some g → ∃ xs, H a = some (.lst xs) ∧ StpsAt H xs g
theorem GrpW.same {H H' : Hp} (s : Same H H') {G : Addr} {as : List Addr} {gs : List (List Stp)} (h : GrpW H G as gs) : GrpW H' G as gs :=
  ⟨s _ _ h.top, h.nd, h.out, h.len, fun i a g e1 e2 => let ⟨xs, h1, h2⟩ := h.at_ i a g e1 e2; ⟨xs, s _ _ h1, h2.same s⟩⟩
theorem get_last {α : Type} (l : List α) (x : α) : (l ++ [x])[l.length]? = some x := by
  rw [List.getElem?_append_right (Nat.le_refl _), Nat.sub_self]
  rfl
/-- one more in the last group -/
theorem GrpW.last {H : Hp} {G A T : Addr} {as : List Addr} {gs : List (List Stp)} {g : List Stp} {x : Stp} {xs : List V} (h : GrpW H G (as ++ [A]) (gs ++ [g])) (hA : H A = some (.lst xs)) (hX : StpsAt H xs g) (hT : H T = some (.tup [.str x.1, .str x.2])) :
    GrpW (upd H A (.lst (xs ++ [.ref T]))) G (as ++ [A]) (gs ++ [g ++ [x]]) := by
  have hm : A ∈ as ++ [A] := List.mem_append_right _ (List.mem_singleton.mpr rfl)
  have hl : as.length = gs.length := by
    have := h.len
    rw [List.length_append, List.length_append] at this
    exact Nat.succ.inj this
  refine ⟨?_, h.nd, h.out, ?_, fun i a g' e1 e2 => ?_⟩
  · rw [upd_ne fun z => h.out (by rw [z]; exact hm)]
    exact h.top
  · rw [List.length_append, List.length_append, hl]
    rfl
  · by_cases e : i = as.length
    · subst e
      rw [get_last] at e1
      rw [hl, get_last] at e2
      cases e1
      cases e2
      exact ⟨_, upd_same, prd_app (hX.set hA) (.cons (StpAt.set hA ⟨T, rfl, hT⟩) .nil)⟩
    · have hlt : i < as.length := by
        have h1 := (List.getElem?_eq_some_iff.mp e1).1
        rw [List.length_append] at h1
        have h1 : i < as.length + 1 := h1
        omega
      have ne : a ≠ A := fun z => by
        subst z
        exact e (nodup_at h.nd e1 (get_last as a))
      have e2' : (gs ++ [g])[i]? = some g' := by
        rw [List.getElem?_append_left (by omega)] at e2 ⊢
        exact e2
      obtain ⟨ys, h1, h2⟩ := h.at_ i a g' e1 e2'
      exact ⟨ys, by rw [upd_ne ne]; exact h1, h2.set hA⟩
/-- a new group -/
theorem GrpW.more {H : Hp} {G A : Addr} {as : List Addr} {gs : List (List Stp)} (h : GrpW H G as gs) (nA : H A = none) : GrpW (upd (upd H A (.lst [])) G (.lst ((as ++ [A]).map V.ref))) G (as ++ [A]) (gs ++ [[]]) := by
  have s1 := same_upd nA (o := .lst [])
  have hAG : A ≠ G := fun z => by
    subst z
    rw [h.top] at nA
    cases nA
  have hG1 := s1 _ _ h.top
  refine ⟨upd_same, ?_, ?_, ?_, fun i a g e1 e2 => ?_⟩
  · refine List.nodup_append.mpr ⟨h.nd, List.nodup_cons.mpr ⟨List.not_mem_nil, List.nodup_nil⟩, fun a ha b hb => ?_⟩
    rw [List.mem_singleton.mp hb]
    intro z
    subst z
    obtain ⟨i, hi⟩ := List.mem_iff_getElem?.mp ha
    have hig : i < gs.length := by
      rw [← h.len]
      exact (List.getElem?_eq_some_iff.mp hi).1
    obtain ⟨xs, h1, _⟩ := h.at_ i a _ hi (List.getElem?_eq_getElem hig)
    rw [nA] at h1
    cases h1
  · intro z
    rcases List.mem_append.mp z with z | z
    · exact h.out z
    · exact hAG (List.mem_singleton.mp z).symm
  · rw [List.length_append, List.length_append, h.len]
    rfl
  · by_cases e : i = as.length
    · subst e
      rw [get_last] at e1
      rw [h.len, get_last] at e2
      cases e1
      cases e2
      exact ⟨[], by rw [upd_ne hAG]; exact upd_same, .nil⟩
    · have hlt : i < as.length := by
        have h1 := (List.getElem?_eq_some_iff.mp e1).1
        rw [List.length_append] at h1
        have h1 : i < as.length + 1 := h1
        omega
      rw [List.getElem?_append_left hlt] at e1
      rw [List.getElem?_append_left (by rw [← h.len]; exact hlt)] at e2
      obtain ⟨ys, h1, h2⟩ := h.at_ i a g e1 e2
      have ne : a ≠ G := fun z => h.out (by rw [← z]; exact List.mem_of_getElem? e1)
      exact ⟨ys, by rw [upd_ne ne]; exact s1 _ _ h1, (h2.same s1).set hG1⟩
theorem addG_new {gs : List (List Stp)} {fl : Bool} {x : Stp} (h : gs = [] ∨ keptB x ≠ fl) : (addG (gs, fl) x).1 = gs ++ [[] ++ [x]] := by
  unfold addG
  rw [if_pos h]
  rfl
theorem addG_old {gs : List (List Stp)} {g : List Stp} {fl : Bool} {x : Stp} (h : ¬ (gs ++ [g] = [] ∨ keptB x ≠ fl)) : (addG (gs ++ [g], fl) x).1 = gs ++ [g ++ [x]] := by
  unfold addG
  rw [if_neg h, List.dropLast_concat, List.getLast?_concat]
  rfl
section
variable {P : Program} {w : World} {K : PySem.W.Frag} {mg : Str → Option Value} {base : Heap}
theorem scStretches : FnScope ["steps", "stretches", "last_kept", "kind", "word", "kept"] ["steps"] (defScope sStretchesOf) := ⟨rfl, rfl, rfl, by decide +kernel, rfl, by decide +kernel, by decide +kernel⟩
theorem scTold : FnScope ["old", "new", "rows", "stretch", "row_kind", "words", "kind", "word"] ["old", "new"] (defScope sTold) := ⟨rfl, rfl, rfl, by decide +kernel, rfl, by decide +kernel, by decide +kernel⟩
def StrM (S G : Addr) (fl : Bool) (x : Stp) (gs : List (List Stp)) (H : Hp) (σ3 : L2.St) (H3 : Hp) : Prop := ∃ (as : List Addr) (A : Addr) (gs' : List (List Stp)) (g : List Stp) (ys : List V), σ3 = [some (.ref S), some (.ref G), some (.bl fl), some (.str x.1), some (.str x.2), some (.bl (keptB x))] ∧ Same H H3 ∧ (∀ a ∈ as ++ [A], H a = none) ∧ GrpW H3 G (as ++ [A]) (gs' ++ [g]) ∧ H3 A = some (.lst ys) ∧ StpsAt H3 ys g ∧ ys.length ≤ 240 ∧ (addG (gs, fl) x).1 = gs' ++ [g ++ [x]]
def spStretches (K : PySem.W.Frag) : Sp := fun vs H Q _ => ∃ (S : Addr) (xs : List V) (ss : List Stp), vs = [.ref S] ∧ H S = some (.lst xs) ∧ StpsAt H xs ss ∧ ss.length ≤ 240 ∧ ∀ (H' : Hp) (G : Addr) (as : List Addr), Same H H' → H G = none → (∀ a ∈ as, H a = none) → GrpW H' G as (grpL ss).1 → Q (.ref G) H'
theorem ok_stretches {f : Addr} {fd : FuncData} (F : FnP K "stretches_of" sStretchesOf f fd) (mL : mg "len" = none) : FnOk P w K mg base (L2.CX P w) 1 f fd ["steps"] (spStretches K) := by
  refine F.ok scStretches (fun vs H Q E h => ?_) (fun cdv A outer s H vs Q E hr h => ?_)
  · obtain ⟨S, xs, ss, rfl, _⟩ := h
    rfl
  · obtain ⟨S, xs, ss, rfl, hS, hX, hl, q⟩ := h
    refine ⟨_, pss_cons (ps_set (i := 1) scStretches.nd rfl (.inl rfl) (pe_lst pa_nil))
      (pss_cons (ps_set (i := 2) scStretches.nd rfl (.inl rfl) pe_bl)
      (pss_cons (ps_for (passes_of rfl) rfl (pi_list (pv 0)) (pg_tup rfl (pgs_cons (pg_name (i := 3) scStretches.nd rfl (.inl rfl)) (pgs_cons (pg_name (i := 4) scStretches.nd rfl (.inl rfl)) pgs_nil)))
        (pss_cons (ps_set (i := 5) scStretches.nd rfl (.inl rfl) (pe_cmpR op_eq (pv 3) pe_str (nomark _)))
        (pss_cut (ps_if (PW.pt (pw_or (pt_cmpR op_eq (pe_callB call_len_seq (by rfl) mL PySem.boot_len (pa_cons (pv 1) pa_nil)) pe_int (nomark _)) (pw_or1 (pt_cmpR op_ne (pv 5) (pv 2) (nomark _)))))
          (pss_one (ps_expr (pe_bm PySem.F.plainAttrs_list PySem.F.slot_list_append PySem.F.type_list_append mt_append (pv 1) (pa_cons (pe_lst pa_nil) pa_nil)))) pss_nil)
        (pss_cons (ps_expr (pe_bm PySem.F.plainAttrs_list PySem.F.slot_list_append PySem.F.type_list_append mt_append (pe_ix ix_list (pv 1) (pe_un un_neg pe_int) (fun _ _ => rfl)) (pa_cons (pe_tup (pa_cons (pv 3) (pa_cons (pv 4) pa_nil))) pa_nil)))
        (pss_one (ps_set (i := 2) scStretches.nd rfl (.inl rfl) (pv 5)))))))
      (pss_one (ps_ret (pv 1))))), ?_⟩
    refine ⟨by show 0 ≤ sizeLine; decide, fun G nG => ?_⟩
    refine ⟨_, rfl, S, rfl, ⟨_, (same_upd nG).seq (.inl (.inl hS))⟩, for_list (xs := xs) (fun i σ' H' => ∃ (as : List Addr) (y3 y4 y5 : Option V), σ' = [some (.ref S), some (.ref G), some (.bl (grpL (ss.take i)).2), y3, y4, y5] ∧ Same H H' ∧ (∀ a ∈ as, H a = none) ∧ GrpW H' G as (grpL (ss.take i)).1)
      ⟨[], none, none, none, rfl, same_upd nG, (fun a h => by cases h), upd_same, List.nodup_nil, List.not_mem_nil, rfl, fun i a g e => by cases e⟩ (fun i σ' H' _ hp => ?_) (fun i v σ' H' hx hp => ?_) (fun σ' H' hp => ?_)⟩
    · obtain ⟨as, y3, y4, y5, _, sm, _⟩ := hp
      exact sm.seq (.inl (.inl hS))
    · obtain ⟨as, y3, y4, y5, rfl, sm, fr, hG⟩ := hp
      obtain ⟨x, hx2, T0, rfl, hT0⟩ := prd_at (hX.same sm) hx
      have hi : i < ss.length := (List.getElem?_eq_some_iff.mp hx2).1
      have eg : grpL (ss.take (i + 1)) = addG (grpL (ss.take i)) x := by rw [take_snoc hx2, grpL_snoc]
      have hgl : (grpL (ss.take i)).1.length ≤ 240 := by
        have h1 := (grp_len (ss.take i)).1
        rw [List.length_take] at h1
        omega
      have hgl2 : ∀ st ∈ (grpL (ss.take i)).1, st.length ≤ 240 := fun st h => by
        have h1 := (grp_len (ss.take i)).2 st h
        rw [List.length_take] at h1
        omega
      have efl : (addG (grpL (ss.take i)) x).2 = keptB x := rfl
      rw [eg, efl]
      generalize grpL (ss.take i) = gf at hG hgl hgl2 ⊢
      obtain ⟨gs, fl⟩ := gf
      refine ⟨T0, _, rfl, .inl (.inl hT0), rfl, _, _, rfl, _, _, rfl, rfl, ?_⟩
      refine ⟨_, rfl, rfl, ?_⟩
      have ek : decide (V.str x.1 = V.str ("keep" : Str)) = keptB x := by
        unfold keptB
        by_cases h : x.1 = ("keep" : Str)
        · rw [decide_eq_true h, decide_eq_true (congrArg V.str h)]
        · rw [decide_eq_false h, decide_eq_false (fun z => h (V.str.inj z))]
      rw [ek]
      refine ⟨StrM S G fl x gs H, ?_, fun σ3 H3 hM => ?_⟩
      · have new : (gs = [] ∨ keptB x ≠ fl) → ∀ A : Addr, H' A = none → StrM S G fl x gs H [some (.ref S), some (.ref G), some (.bl fl), some (.str x.1), some (.str x.2), some (.bl (keptB x))] (upd (upd H' A (.lst [])) G (.lst (as.map V.ref ++ [.ref A]))) := fun hc A nA => by
          have hm := hG.more nA
          have e2 : (as ++ [A]).map V.ref = as.map V.ref ++ [.ref A] := by rw [List.map_append]; rfl
          rw [e2] at hm
          have nAH : H A = none := sm.free nA
          have hAG : A ≠ G := fun z => by
            subst z
            have := hG.top
            rw [nA] at this
            cases this
          refine ⟨as, A, gs, [], [], rfl, fun b o e => ?_, fun a ha => ?_, hm, by rw [upd_ne hAG]; exact upd_same, .nil, Nat.zero_le _, addG_new hc⟩
          · rw [upd_ne (ne_of_none e nG)]
            exact same_upd nA _ _ (sm b o e)
          · rcases List.mem_append.mp ha with ha | ha
            · exact fr a ha
            · rw [List.mem_singleton.mp ha]
              exact nAH
        have hal : (as.map V.ref).length < sizeLine := by
          rw [List.length_map, hG.len]
          exact Nat.lt_of_le_of_lt hgl (by decide)
        refine (fun (body : (gs = [] ∨ keptB x ≠ fl) → _) => ⟨_, rfl, G, _, rfl, .inl (.inl (.inl hG.top)), rfl, _, rfl, ite2 (fun e => body (.inl ?b1)) (fun e => ⟨_, rfl, _, rfl, rfl, _, rfl, ite2 (fun e2 => body (.inr ?b2)) (fun e2 => ?b3)⟩)⟩) ?b4
        case b1 =>
          have h1 : ((as.map V.ref).length : Int) = 0 := V.int.inj (of_decide_eq_true e)
          have h2 : as.length = gs.length := hG.len
          rw [List.length_map] at h1
          exact List.length_eq_zero_iff.mp (by omega)
        case b2 =>
          intro z
          rw [z] at e2
          have e2 : (!decide (V.bl fl = V.bl fl)) = true := e2
          rw [decide_eq_true rfl] at e2
          cases e2
        case b3 =>
          have hk : keptB x = fl := Classical.byContradiction fun z => e2 (by
            show (!decide (V.bl (keptB x) = V.bl fl)) = true
            rw [decide_eq_false (fun y => z (V.bl.inj y))]
            rfl)
          have hne : gs ≠ [] := fun z => e (decide_eq_true (by rw [List.length_map, hG.len, z]; rfl))
          obtain ⟨gs', g, rfl⟩ : ∃ gs' g, gs = gs' ++ [g] := ⟨_, _, (List.dropLast_concat_getLast hne).symm⟩
          have hane : as ≠ [] := fun z => by
            have := hG.len
            rw [z, List.length_append] at this
            cases this
          obtain ⟨as', A, rfl⟩ : ∃ as' A, as = as' ++ [A] := ⟨_, _, (List.dropLast_concat_getLast hane).symm⟩
          have hll : as'.length = gs'.length := by
            have := hG.len
            rw [List.length_append, List.length_append] at this
            exact Nat.succ.inj this
          obtain ⟨ys, h1, h2⟩ := hG.at_ as'.length A g (get_last _ _) (by rw [hll]; exact get_last _ _)
          refine ⟨as', A, gs', g, ys, rfl, sm, fr, hG, h1, h2, ?_, addG_old fun z => ?_⟩
          · rw [prd_len h2]
            exact hgl2 g (List.mem_append_right _ (List.mem_singleton.mpr rfl))
          · rcases z with z | z
            · exact hne z
            · exact z hk
        case b4 =>
          intro hc
          exact ⟨_, rfl, .inl ⟨rfl, _, .inl (.inl hG.top)⟩, by show 0 ≤ sizeLine; decide, fun A nA => ⟨G, _, _, rfl, rfl, same_upd nA _ _ hG.top, hal, new hc A nA⟩⟩
      · obtain ⟨as, A, gs', g, ys, rfl, s3, fr3, hG3, hA, hY, hyl, eA⟩ := hM
        have eL : (as ++ [A]).map V.ref = as.map V.ref ++ [.ref A] := by rw [List.map_append]; rfl
        refine ⟨_, rfl, _, rfl, G, _, _, .ref A, rfl, rfl, .inl (.inl hG3.top), by rw [eL]; exact atI_last _ _, .inl ⟨rfl, _, .inl (.inl hA)⟩, _, rfl, _, rfl, by show 2 ≤ sizeLine; decide, fun T nT => ?_⟩
        have s4 := same_upd nT (o := .tup [.str x.1, .str x.2])
        refine ⟨A, _, _, rfl, rfl, s4 _ _ hA, Nat.lt_of_le_of_lt hyl (by decide), ?_⟩
        refine ⟨_, rfl, as ++ [A], _, _, _, rfl, fun b o e => ?_, fr3, ?_⟩
        · rw [upd_ne (ne_of_none e (fr3 A (List.mem_append_right _ (List.mem_singleton.mpr rfl))))]
          exact s4 _ _ (s3 b o e)
        · rw [eA]
          exact (hG3.same s4).last (s4 _ _ hA) (hY.same s4) upd_same
    · obtain ⟨as, y3, y4, y5, rfl, sm, fr, hG⟩ := hp
      rw [List.take_of_length_le (by rw [prd_len hX]; exact Nat.le_refl _)] at hG
      exact ⟨_, rfl, q H' G as sm nG fr hG⟩
def spTold (K : PySem.W.Frag) (Ps : List Addr) : Sp := fun vs H Q _ => ∃ (p q : Addr) (old new : List Str), vs = [.ref p, .ref q] ∧ SqL K H p (old.map V.str) ∧ SqL K H q (new.map V.str) ∧ (∀ a ∈ old, wordB a = true) ∧ (∀ a ∈ new, wordB a = true) ∧ old.length ≤ 120 ∧ new.length ≤ 120 ∧ Tb Ps H ∧
  ∀ (H' : Hp) (R : Addr) (xs : List V), Kp Ps H H' → H R = none → H' R = some (.lst xs) → RowsAt K H' xs (toldRows old new) → Q (.ref R) H'
/-- the rows of the first stretches, and of the first kinds of the next -/
def rowsUp (gs : List (List Stp)) (i j : Nat) : List RowD := (gs.take i).flatMap rowsG ++ (match gs[i]? with | some g => (plainK.take j).flatMap (rowsK g) | none => [])
theorem rowsUp_zero (gs : List (List Stp)) (i : Nat) : rowsUp gs i 0 = (gs.take i).flatMap rowsG := by
  unfold rowsUp
  cases gs[i]? with
  | none => exact List.append_nil _
  | some g => exact List.append_nil _
theorem rowsUp_three {gs : List (List Stp)} {i : Nat} {g : List Stp} (h : gs[i]? = some g) : rowsUp gs i 3 = (gs.take (i + 1)).flatMap rowsG := by
  unfold rowsUp
  rw [h, take_snoc h, List.flatMap_append]
  show _ ++ plainK.flatMap (rowsK g) = _ ++ (rowsG g ++ [])
  rw [List.append_nil]
  rfl
theorem rowsUp_succ {gs : List (List Stp)} {i j : Nat} {g : List Stp} {k : Str} (h : gs[i]? = some g) (hk : plainK[j]? = some k) : rowsUp gs i (j + 1) = rowsUp gs i j ++ rowsK g k := by
  unfold rowsUp
  rw [h]
  show _ ++ (plainK.take (j + 1)).flatMap (rowsK g) = _ ++ (plainK.take j).flatMap (rowsK g) ++ rowsK g k
  rw [take_snoc hk, List.flatMap_append, List.append_assoc]
  show _ ++ (_ ++ (rowsK g k ++ [])) = _
  rw [List.append_nil]
theorem rowsK_len (g : List Stp) (k : Str) : (rowsK g k).length ≤ 1 := by
  unfold rowsK
  split
  · exact Nat.zero_le _
  · exact Nat.le_refl _
theorem rowsG_len (g : List Stp) : (rowsG g).length ≤ 3 := by
  have h1 := rowsK_len g "keep"
  have h2 := rowsK_len g "cut"
  have h3 := rowsK_len g "put"
  show (rowsK g "keep" ++ (rowsK g "cut" ++ (rowsK g "put" ++ []))).length ≤ 3
  rw [List.length_append, List.length_append, List.length_append, List.length_nil]
  omega
theorem rowsUp_len (gs : List (List Stp)) (i j : Nat) : (rowsUp gs i j).length ≤ 3 * gs.length + j := by
  have key : ∀ l : List (List Stp), (l.flatMap rowsG).length ≤ 3 * l.length := fun l => by
    induction l with
    | nil => exact Nat.le_refl _
    | cons a r ih =>
      rw [List.flatMap_cons, List.length_append, List.length_cons]
      have := rowsG_len a
      omega
  have key2 : ∀ (g : List Stp) (l : List Str), (l.flatMap (rowsK g)).length ≤ l.length := fun g l => by
    induction l with
    | nil => exact Nat.le_refl _
    | cons a r ih =>
      rw [List.flatMap_cons, List.length_append, List.length_cons]
      have := rowsK_len g a
      omega
  have h1 := key (gs.take i)
  rw [List.length_take] at h1
  unfold rowsUp
  rw [List.length_append]
  split
  · next g _ =>
    have h2 := key2 g (plainK.take j)
    rw [List.length_take] at h2
    omega
  · rw [List.length_nil]
    omega
theorem ok_told {Ps : List Addr} {f fS fG : Addr} {fd fdS fdG : FuncData} (F : FnP K "told" sTold f fd)
    (GS : FnOk P w K mg base (L2.CX P w) 7 fS fdS ["old", "new"] (spSteps K Ps)) (kS : PySem.W.keepIn K (.ref fS) = true) (bS : Binds K fdS ["old", "new"] []) (gS : mg "steps_between" = some (.ref fS))
    (GG : FnOk P w K mg base (L2.CX P w) 1 fG fdG ["steps"] (spStretches K)) (kG : PySem.W.keepIn K (.ref fG) = true) (bG : Binds K fdG ["steps"] []) (gG : mg "stretches_of" = some (.ref fG))
    (mL : mg "len" = none) (mT : mg "tuple" = none) : FnOk P w K mg base (L2.CX P w) 8 f fd ["old", "new"] (spTold K Ps) := by
  refine F.ok scTold (fun vs H Q E h => ?_) (fun cdv A outer s H vs Q E hr h => ?_)
  · obtain ⟨p, q, old, new, rfl, _⟩ := h
    rfl
  · obtain ⟨p, r, old, new, rfl, hp, hq, wO, wN, lO, lN, ht, q⟩ := h
    have r1 : Room 1 (A.deeper (envOfC "told" (defScope sTold) s.heap.objs.size f cdv)) := hr.mono (by decide)
    refine ⟨_, pss_cons (ps_set (i := 2) scTold.nd rfl (.inl rfl) (pe_lst pa_nil))
      (pss_cons (ps_for (passes_of rfl) rfl (pi_list (pe_call GG r1 (by rfl) gG kG bG .nil passL (pa_cons (pe_call GS hr (by rfl) gS kS bS .nil passL (pa_cons (pv 0) (pa_cons (pv 1) pa_nil))) pa_nil))) (pg_name (i := 3) scTold.nd rfl (.inl rfl))
        (pss_one (ps_for (passes_of rfl) rfl (pi_tup (pe_tup (pa_cons pe_str (pa_cons pe_str (pa_cons pe_str pa_nil))))) (pg_name (i := 4) scTold.nd rfl (.inr rfl))
          (pss_cons (ps_setLc (i := 5) (own := [("kind", 6), ("word", 7)]) (g := gTup K 2 (gCons (gName 6) (gCons (gName 7) gNil))) rfl scTold.nd rfl rfl (sw_true rfl rfl rfl (by decide +kernel)) (pi_list (pv 3)) (blkOk_by (N := ["old", "new", "rows", "stretch", "row_kind", "words", "kind", "word"]) (sc := defScope sTold) (by decide +kernel))
              (fun _ _ _ _ _ => pg_tup rfl (pgs_cons (pg_name (i := 6) scTold.nd rfl (Or.inl rfl)) (pgs_cons (pg_name (i := 7) scTold.nd rfl (Or.inl rfl)) pgs_nil))) (fun _ _ _ _ _ => pts_one (pt_cmpR op_eq (pv 6) (pv 4) (nomark _))) (fun _ _ _ _ _ => pv 7))
          (pss_one (ps_if (pt_cmpR op_gt (pe_callB call_len_seq (by rfl) mL PySem.boot_len (pa_cons (pv 5) pa_nil)) pe_int (nomark _))
            (pss_one (ps_expr (pe_bm PySem.F.plainAttrs_list PySem.F.slot_list_append PySem.F.type_list_append mt_append (pv 2) (pa_cons (pe_tup (pa_cons (pv 4) (pa_cons pe_int (pa_cons (pe_callTy call_tuple_of (by rfl) mT (by decide +kernel) (pa_cons (pv 5) pa_nil)) pa_nil)))) pa_nil)))) pss_nil))))))
      (pss_one (ps_ret (pv 2)))), ?_⟩
    refine ⟨by show 0 ≤ sizeLine; decide, fun R nR => ?_⟩
    have u0 := same_upd nR (o := .lst [])
    have t0 := ht.same u0
    refine ⟨_, rfl, _, rfl, p, r, old, new, rfl, u0.seq hp, u0.seq hq, wO, wN, lO, lN, t0, fun H1 S xs0 k1 nS hS hX => ?_⟩
    have hgl := goS_len old new
    have hR1 : SqL K H1 R [] := k1.seq t0 (.inl (.inl upd_same))
    have kR : Kp Ps H H1 := (Kp.same ht u0).trans k1
    have hR1' : H1 R = some (.lst []) := k1.2 R _ (t0.notin upd_same fun ps z => by cases z) upd_same
    refine ⟨S, xs0, _, rfl, hS, hX, by omega, fun H2 G as s2 nG fr hG => ?_⟩
    have hR2 := s2 _ _ hR1'
    have hGR : G ≠ R := fun z => by
      subst z
      rw [hR1'] at nG
      cases nG
    have haR : ∀ a ∈ as, a ≠ R := fun a ha z => by
      have := fr a ha
      rw [z, hR1'] at this
      cases this
    have kp2 := kR.trans (Kp.same kR.1 s2)
    have gok := told_ok wO wN
    have gflat := grp_flat (goS old new)
    have glen := grp_len (goS old new)
    have gstp : ∀ st ∈ (grpL (goS old new)).1, ∀ x ∈ st, StpOk x := fun st hst x hx => goS_ok old new wO wN x (by
      rw [← gflat.1]
      exact List.mem_flatten.mpr ⟨st, hst, hx⟩)
    have hq2 : ∀ H' xs, Kp Ps H H' → H' R = some (.lst xs) → RowsAt K H' xs ((grpL (goS old new)).1.flatMap rowsG) → Q (.ref R) H' := fun H' xs k h1 h2 => q H' R xs k nR h1 h2
    generalize (grpL (goS old new)).1 = gs at hG gflat glen gstp hq2
    have gsl : gs.length ≤ 240 := by omega
    refine ⟨G, rfl, ⟨_, .inl (.inl hG.top)⟩, for_list (xs := as.map V.ref) (fun i σ' H' => ∃ (xs : List V) (y3 y4 y5 : Option V), σ' = [some (.ref p), some (.ref r), some (.ref R), y3, y4, y5, none, none] ∧ Kp Ps H H' ∧ (∀ b o, b ≠ R → H2 b = some o → H' b = some o) ∧ H' R = some (.lst xs) ∧ RowsAt K H' xs (rowsUp gs i 0)) ⟨[], none, none, none, rfl, kp2, fun b o _ e => e, hR2, ?_⟩ (fun i σ' H' _ hp => ?_) (fun i v σ' H' hx hp => ?_) (fun σ' H' hp => ?_)⟩
    · rw [rowsUp_zero]
      exact ⟨rfl, fun i v e => by cases e⟩
    · obtain ⟨xs, y3, y4, y5, _, _, sb, _⟩ := hp
      exact .inl (.inl (sb _ _ hGR hG.top))
    · obtain ⟨xs, y3, y4, y5, rfl, kp3, sb3, hR3, hX3⟩ := hp
      rw [List.getElem?_map] at hx
      obtain ⟨a, ha, rfl⟩ := Option.map_eq_some_iff.mp hx
      have hal := (List.getElem?_eq_some_iff.mp ha).1
      have hgi : i < gs.length := by
        rw [← hG.len]
        exact hal
      obtain ⟨g, hg⟩ : ∃ g, gs[i]? = some g := ⟨_, List.getElem?_eq_getElem hgi⟩
      obtain ⟨ys, hA, hY⟩ := hG.at_ i a g ha hg
      have hgm := List.mem_of_getElem? hg
      have gl : g.length ≤ 240 := by
        have := glen.2 g hgm
        omega
      have haR' := haR a (List.mem_of_getElem? ha)
      refine ⟨by show 3 ≤ sizeLine; decide, fun T3 n3 => ?_⟩
      have u3 := same_upd n3 (o := .tup [.str "keep", .str "cut", .str "put"])
      refine ⟨T3, rfl, ⟨_, .inl (.inl upd_same)⟩, for_tup (xs := plainK.map V.str) (fun j σ' H' => ∃ (xs : List V) (y4 y5 : Option V), σ' = [some (.ref p), some (.ref r), some (.ref R), some (.ref a), y4, y5, none, none] ∧ Kp Ps H H' ∧ (∀ b o, b ≠ R → H2 b = some o → H' b = some o) ∧ H' T3 = some (.tup (plainK.map V.str)) ∧ H' R = some (.lst xs) ∧ RowsAt K H' xs (rowsUp gs i j)) ⟨xs, y4, y5, rfl, kp3.trans (Kp.same kp3.1 u3), fun b o n e => u3 _ _ (sb3 b o n e), upd_same, u3 _ _ hR3, hX3.same u3⟩ (fun j σ' H' _ hp => ?_) (fun j x σ' H' hx hp => ?_) (fun σ' H' hp => ?_)⟩
      · obtain ⟨xs, y4, y5, _, _, _, h, _⟩ := hp
        exact .inl (.inl h)
      · obtain ⟨xs, y4, y5, rfl, kp4, sb4, h34, hR4, hX4⟩ := hp
        rw [List.getElem?_map] at hx
        obtain ⟨k, hk, rfl⟩ := Option.map_eq_some_iff.mp hx
        have hA4 := sb4 _ _ haR' hA
        have hY4 : StpsAt H' ys g := by
          have : ∀ {xs : List V} {ss : List Stp}, StpsAt H2 xs ss → StpsAt H' xs ss := fun {xs ss} h => by
            unfold StpsAt at h ⊢
            induction h with
            | nil => exact .nil
            | cons h t ih =>
              obtain ⟨T, e, h1⟩ := h
              exact .cons ⟨T, e, sb4 _ _ (fun z => by subst z; rw [hR2] at h1; cases h1) h1⟩ ih
          exact this hY
        refine ⟨_, rfl, a, rfl, ⟨_, .inl (.inl hA4)⟩, fun D nD => ?_⟩
        refine lc_list (K := K) (a := a) (xs := ys) (fun m H3 => Same H' H3 ∧ H3 D = some (.lst ((wordsK k (g.take m)).map V.str))) ⟨same_upd nD, upd_same⟩ (fun m H3 _ hP => hP.1.seq (.inl (.inl hA4))) (fun m v H3 hv hP => ?_) (fun H3 hP => ?_)
        · obtain ⟨sm, hD⟩ := hP
          obtain ⟨x, hx2, T, rfl, hT⟩ := prd_at (hY4.same sm) hv
          have ek : wordsK k (g.take (m + 1)) = if x.1 = k then wordsK k (g.take m) ++ [x.2] else wordsK k (g.take m) := by rw [take_snoc hx2, wordsK_snoc]
          refine ⟨T, _, rfl, .inl (.inl hT), rfl, _, _, rfl, _, _, rfl, rfl, rfl, _, rfl, _, rfl, rfl, _, rfl, ite2 (fun e => ?_) (fun e => ?_)⟩
          · have e1 : x.1 = k := V.str.inj (of_decide_eq_true e)
            rw [if_pos e1] at ek
            refine ⟨_, rfl, _, hD, ?_, fun b o h => ?_, ?_⟩
            · rw [List.length_map]
              have h1 := wordsK_len k (g.take m)
              rw [List.length_take] at h1
              exact Nat.lt_of_le_of_lt (show _ ≤ 240 by omega) (by decide)
            · rw [upd_ne (ne_of_none h nD)]
              exact sm b o h
            · rw [upd_same, ek, List.map_append]
              rfl
          · have e1 : x.1 ≠ k := fun z => e (decide_eq_true (congrArg V.str z))
            rw [if_neg e1] at ek
            exact ⟨sm, by rw [ek]; exact hD⟩
        · obtain ⟨sm, hD⟩ := hP
          rw [List.take_of_length_le (by rw [prd_len hY4]; exact Nat.le_refl _)] at hD
          have kp5 := kp4.trans (Kp.same kp4.1 sm)
          have sb5 : ∀ b o, b ≠ R → H2 b = some o → H3 b = some o := fun b o n e => sm _ _ (sb4 b o n e)
          have hR5 := sm _ _ hR4
          have hX5 := hX4.same sm
          have h35 := sm _ _ h34
          have eU := rowsUp_succ (j := j) hg hk
          refine ⟨_, rfl, D, _, rfl, .inl (.inl (.inl hD)), _, _, rfl, rfl, _, rfl, ite2 (fun e => ?_) (fun e => ?_)⟩
          · have hne : wordsK k g ≠ [] := fun z => by
              have h1 := of_decide_eq_true e
              rw [z] at h1
              exact absurd h1 (by decide)
            have eK : rowsK g k = [⟨k, 0, wordsK k g⟩] := by
              unfold rowsK
              rw [if_neg hne]
            have xl : xs.length < sizeLine := by
              have h1 := rowsUp_len gs i j
              rw [hX5.1]
              have hj : j < 3 := (List.getElem?_eq_some_iff.mp hk).1
              exact Nat.lt_of_le_of_lt (show _ ≤ 1000 by omega) (by decide)
            refine ⟨_, rfl, .inl ⟨rfl, _, .inl (.inl hR5)⟩, _, rfl, _, rfl, D, _, rfl, .inl ⟨.inl (.inl hD), fun W nW => ?_⟩⟩
            have u1 := same_upd nW (o := .tup ((wordsK k g).map V.str))
            refine ⟨by show 3 ≤ sizeLine; decide, fun T nT => ?_⟩
            have u2 := same_upd nT (o := .tup [.str k, .int 0, .ref W])
            have u12 := u1.trans u2
            have hR6 := u12 _ _ hR5
            refine ⟨R, _, _, rfl, rfl, hR6, xl, ?_⟩
            have hT : H3 T = none := u1.free nT
            have row : RowAt K (upd (upd H3 W (.tup ((wordsK k g).map V.str))) T (.tup [.str k, .int 0, .ref W])) (.ref T) ⟨k, 0, wordsK k g⟩ := ⟨T, W, rfl, .inl (.inl upd_same), sameT u2 (.inl (.inl upd_same))⟩
            refine ⟨_, _, _, rfl, Kp.set ht (kp5.trans (Kp.same kp5.1 u12)) nR, fun b o n e => ?_, ?_, upd_same, ?_⟩
            · rw [upd_ne n]
              exact u12 _ _ (sb5 b o n e)
            · rw [upd_ne fun z => by subst z; rw [hR5] at h35; cases h35]
              exact u12 _ _ h35
            · rw [eU, eK]
              exact RowsAt.set (noTup hR6) ((hX5.same u12).snoc row)
          · have hnil : wordsK k g = [] := by
              have h1 : ¬ (((wordsK k g).map V.str).length : Int) > 0 := fun z => e (decide_eq_true z)
              rw [List.length_map] at h1
              exact List.length_eq_zero_iff.mp (by omega)
            have eK : rowsK g k = [] := by
              unfold rowsK
              rw [if_pos hnil]
            refine ⟨xs, _, _, rfl, kp5, sb5, h35, hR5, ?_⟩
            rw [eU, eK, List.append_nil]
            exact hX5
      · obtain ⟨xs, y4, y5, rfl, kp4, sb4, h34, hR4, hX4⟩ := hp
        refine ⟨xs, _, _, _, rfl, kp4, sb4, hR4, ?_⟩
        rw [rowsUp_zero]
        have hX4 : RowsAt K H' xs (rowsUp gs i 3) := hX4
        rw [rowsUp_three hg] at hX4
        exact hX4
    · obtain ⟨xs, y3, y4, y5, rfl, kp3, sb3, hR3, hX3⟩ := hp
      refine ⟨_, rfl, hq2 H' xs kp3 hR3 ?_⟩
      rw [rowsUp_zero, List.take_of_length_le (by rw [List.length_map, hG.len]; exact Nat.le_refl _)] at hX3
      exact hX3
end
/-! ### the told one: its words, its rows side by side -/
def sideS (ks : List Str) (ss : List Stp) : List Str := (ss.filter fun x : Stp => decide (x.1 ∈ ks)).map (·.2)
theorem sideS_cons (ks : List Str) (x : Stp) (ss : List Stp) : sideS ks (x :: ss) = if x.1 ∈ ks then x.2 :: sideS ks ss else sideS ks ss := by
  unfold sideS
  by_cases h : x.1 ∈ ks
  · rw [if_pos h, List.filter_cons_of_pos (p := fun x : Stp => decide (x.1 ∈ ks)) (decide_eq_true h)]
    rfl
  · rw [if_neg h, List.filter_cons_of_neg (by simpa using h)]
theorem sideS_append (ks : List Str) (a b : List Stp) : sideS ks (a ++ b) = sideS ks a ++ sideS ks b := by
  unfold sideS
  rw [List.filter_append, List.map_append]
theorem sideS_flat (ks : List Str) (G : List (List Stp)) : sideS ks G.flatten = G.flatMap (sideS ks) := by
  induction G with
  | nil => rfl
  | cons a r ih => rw [List.flatten_cons, sideS_append, ih, List.flatMap_cons]
theorem in_old : (("keep" : Str) ∈ oldK) ∧ (("cut" : Str) ∈ oldK) ∧ ¬ (("put" : Str) ∈ oldK) := ⟨by decide +kernel, by decide +kernel, by decide +kernel⟩
theorem in_new : (("keep" : Str) ∈ newK) ∧ ¬ (("cut" : Str) ∈ newK) ∧ (("put" : Str) ∈ newK) := ⟨by decide +kernel, by decide +kernel, by decide +kernel⟩
theorem goS_sides : ∀ (l m : List Str), sideS oldK (goS l m) = l ∧ sideS newK (goS l m) = m
  | [], [] => by
    rw [goS]
    exact ⟨rfl, rfl⟩
  | [], b :: m => by
    rw [goS_put, sideS_cons, sideS_cons, if_neg in_old.2.2, if_pos in_new.2.2, (goS_sides [] m).1, (goS_sides [] m).2]
    exact ⟨rfl, rfl⟩
  | a :: l, [] => by
    rw [goS_cut, sideS_cons, sideS_cons, if_pos in_old.2.1, if_neg in_new.2.1, (goS_sides l []).1, (goS_sides l []).2]
    exact ⟨rfl, rfl⟩
  | a :: l, b :: m => by
    rw [goS_cons]
    split
    · next h =>
      subst h
      rw [sideS_cons, sideS_cons, if_pos in_old.1, if_pos in_new.1, (goS_sides l m).1, (goS_sides l m).2]
      exact ⟨rfl, rfl⟩
    · split
      · rw [sideS_cons, sideS_cons, if_pos in_old.2.1, if_neg in_new.2.1, (goS_sides l (b :: m)).1, (goS_sides l (b :: m)).2]
        exact ⟨rfl, rfl⟩
      · rw [sideS_cons, sideS_cons, if_neg in_old.2.2, if_pos in_new.2.2, (goS_sides (a :: l) m).1, (goS_sides (a :: l) m).2]
        exact ⟨rfl, rfl⟩
termination_by l m => l.length + m.length
theorem prd_len_snoc {α β : Type} {a : List α} {x : α} {b : List β} {y : β} (h : (a ++ [x]).length = (b ++ [y]).length) : a.length = b.length := by
  rw [List.length_append, List.length_append] at h
  exact Nat.succ.inj h
theorem prd_split {α β : Type} {F : α → β → Prop} : ∀ {a : List α} {b : List β} {x : α} {y : β}, a.length = b.length → Paired F (a ++ [x]) (b ++ [y]) → Paired F a b ∧ F x y
  | [], [], _, _, _, .cons h _ => ⟨.nil, h⟩
  | _ :: _, _ :: _, _, _, e, .cons h t => let ⟨p, q⟩ := prd_split (Nat.succ.inj e) t; ⟨.cons h p, q⟩
/-- groups: of one sort each, by turns -/
def Unif (st : List Stp) (b : Bool) : Prop := st ≠ [] ∧ ∀ x ∈ st, keptB x = b
def AltL : List Bool → Prop
  | [] => True
  | [_] => True
  | b :: c :: l => b ≠ c ∧ AltL (c :: l)
theorem altL_snoc : ∀ (bs : List Bool) (c : Bool), AltL bs → (bs.getLast? = some (!c) ∨ bs = []) → AltL (bs ++ [c])
  | [], _, _, _ => trivial
  | [b], c, _, h => by
    rcases h with h | h
    · cases h
      exact ⟨by cases c <;> decide, trivial⟩
    · cases h
  | b :: d :: l, c, ⟨h1, h2⟩, h => by
    refine ⟨h1, altL_snoc (d :: l) c h2 (.inl ?_)⟩
    rcases h with h | h
    · rw [List.getLast?_cons_cons] at h
      exact h
    · cases h
theorem grp_unif : ∀ ss : List Stp, ∃ bs : List Bool, Paired Unif (grpL ss).1 bs ∧ AltL bs ∧ (bs = [] ∨ bs.getLast? = some (grpL ss).2) := by
  refine snocInd ⟨[], .nil, trivial, .inl rfl⟩ fun ss x ih => ?_
  obtain ⟨bs, h1, h2, h3⟩ := ih
  rw [grpL_snoc]
  generalize grpL ss = gf at h1 h3
  obtain ⟨gs, fl⟩ := gf
  by_cases hc : gs = [] ∨ keptB x ≠ fl
  · rw [addG_new hc]
    refine ⟨bs ++ [keptB x], prd_app h1 (.cons ⟨List.cons_ne_nil _ _, fun y hy => ?_⟩ .nil), altL_snoc _ _ h2 ?_, .inr ?_⟩
    · rw [List.mem_singleton.mp hy]
    · rcases h3 with h3 | h3
      · exact .inr h3
      · rcases hc with hc | hc
        · right
          have := prd_len h1
          rw [hc] at this
          exact List.length_eq_zero_iff.mp this.symm
        · left
          rw [h3]
          have : ∀ a b : Bool, a ≠ b → b = !a := by decide
          exact congrArg some (this _ _ hc)
    · rw [List.getLast?_concat]
      rfl
  · have hne : gs ≠ [] := fun z => hc (.inl z)
    have hk : keptB x = fl := Classical.byContradiction fun z => hc (.inr z)
    obtain ⟨gs', g, rfl⟩ : ∃ gs' g, gs = gs' ++ [g] := ⟨_, _, (List.dropLast_concat_getLast hne).symm⟩
    rw [addG_old hc]
    have hb : bs ≠ [] := fun z => by
      have := prd_len h1
      rw [z, List.length_append] at this
      cases this
    obtain ⟨bs', b, rfl⟩ : ∃ bs' b, bs = bs' ++ [b] := ⟨_, _, (List.dropLast_concat_getLast hb).symm⟩
    have h3 : b = fl := by
      rcases h3 with h3 | h3
      · exact absurd h3 hb
      · rw [List.getLast?_concat] at h3
        exact Option.some.inj h3
    obtain ⟨p1, p2, p3⟩ := prd_split (prd_len_snoc (prd_len h1)) h1
    refine ⟨bs' ++ [b], prd_app p1 (.cons ⟨by simp, fun y hy => ?_⟩ .nil), h2, .inr ?_⟩
    · rcases List.mem_append.mp hy with hy | hy
      · exact p3 y hy
      · rw [List.mem_singleton.mp hy, h3, hk]
    · rw [List.getLast?_concat, h3, ← hk]
      rfl
theorem wordsOf_rowsK (ks : List Str) (st : List Stp) (k : Str) : wordsOf ks (rowsK st k) = if k ∈ ks then wordsK k st else [] := by
  unfold rowsK
  by_cases h : wordsK k st = []
  · rw [if_pos h, h]
    split <;> rfl
  · rw [if_neg h]
    have e := wordsOf_snoc ks [] ⟨k, 0, wordsK k st⟩
    rw [List.nil_append] at e
    rw [e]
    split
    · rfl
    · rfl
theorem kinds_of {x : Stp} (h : StpOk x) : x.1 = ("keep" : Str) ∨ x.1 = ("cut" : Str) ∨ x.1 = ("put" : Str) := by
  have h1 : x.1 ∈ (["keep", "cut", "put"] : List Str) := h.1
  rcases List.mem_cons.mp h1 with h | h
  · exact .inl h
  · rcases List.mem_cons.mp h with h | h
    · exact .inr (.inl h)
    · exact .inr (.inr (List.mem_singleton.mp h))
theorem keptB_iff {x : Stp} : keptB x = true ↔ x.1 = ("keep" : Str) := by
  unfold keptB
  exact ⟨of_decide_eq_true, decide_eq_true⟩
theorem ne_kinds : (("keep" : Str) ≠ "cut") ∧ (("keep" : Str) ≠ "put") ∧ (("cut" : Str) ≠ "put") := ⟨by decide +kernel, by decide +kernel, by decide +kernel⟩
theorem wordsK_none {k : Str} {st : List Stp} (h : ∀ x ∈ st, x.1 ≠ k) : wordsK k st = [] := by
  unfold wordsK
  rw [List.filter_eq_nil_iff.mpr fun x hx => by simpa using h x hx]
  rfl
theorem wordsK_all {k : Str} {st : List Stp} (h : ∀ x ∈ st, x.1 = k) : wordsK k st = st.map (·.2) := by
  unfold wordsK
  rw [List.filter_eq_self.mpr fun x hx => by simpa using h x hx]
theorem rowsG_true {st : List Stp} (h : Unif st true) : rowsG st = [⟨"keep", 0, st.map (·.2)⟩] ∧ st.map (·.2) ≠ [] := by
  have hk : ∀ x ∈ st, x.1 = ("keep" : Str) := fun x hx => keptB_iff.mp (h.2 x hx)
  have hne : st.map (·.2) ≠ [] := fun z => h.1 (List.map_eq_nil_iff.mp z)
  have e1 : rowsK st "keep" = [⟨"keep", 0, st.map (·.2)⟩] := by
    unfold rowsK
    rw [wordsK_all hk, if_neg hne]
  have e2 : rowsK st "cut" = [] := by
    unfold rowsK
    rw [wordsK_none (fun x hx z => ne_kinds.1 ((hk x hx).symm.trans z)), if_pos rfl]
  have e3 : rowsK st "put" = [] := by
    unfold rowsK
    rw [wordsK_none (fun x hx z => ne_kinds.2.1 ((hk x hx).symm.trans z)), if_pos rfl]
  refine ⟨?_, hne⟩
  show rowsK st "keep" ++ (rowsK st "cut" ++ (rowsK st "put" ++ [])) = _
  rw [e1, e2, e3]
  rfl
theorem rowsG_false {st : List Stp} (h : Unif st false) (ok : ∀ x ∈ st, StpOk x) : rowsG st = rowsK st "cut" ++ rowsK st "put" ∧ (wordsK "cut" st ≠ [] ∨ wordsK "put" st ≠ []) := by
  have hk : ∀ x ∈ st, x.1 ≠ ("keep" : Str) := fun x hx z => by
    have := h.2 x hx
    rw [keptB_iff.mpr z] at this
    cases this
  have e1 : rowsK st "keep" = [] := by
    unfold rowsK
    rw [wordsK_none hk, if_pos rfl]
  refine ⟨?_, ?_⟩
  · show rowsK st "keep" ++ (rowsK st "cut" ++ (rowsK st "put" ++ [])) = _
    rw [e1, List.append_nil]
    rfl
  · cases st with
    | nil => exact absurd rfl h.1
    | cons x r =>
      rcases kinds_of (ok x List.mem_cons_self) with e | e | e
      · exact absurd e (hk x List.mem_cons_self)
      · left
        unfold wordsK
        rw [List.filter_cons_of_pos (p := fun x : Stp => decide (x.1 = ("cut" : Str))) (decide_eq_true e)]
        exact List.cons_ne_nil _ _
      · right
        unfold wordsK
        rw [List.filter_cons_of_pos (p := fun x : Stp => decide (x.1 = ("put" : Str))) (decide_eq_true e)]
        exact List.cons_ne_nil _ _
theorem side_wordsK {ks : List Str} {k : Str} {st : List Stp} (h : ∀ x ∈ st, decide (x.1 ∈ ks) = decide (x.1 = k)) : sideS ks st = wordsK k st := by
  unfold sideS wordsK
  rw [List.filter_congr h]
theorem rowsG_side {st : List Stp} {b : Bool} (h : Unif st b) (ok : ∀ x ∈ st, StpOk x) : wordsOf oldK (rowsG st) = sideS oldK st ∧ wordsOf newK (rowsG st) = sideS newK st := by
  cases b with
  | true =>
    have hk : ∀ x ∈ st, x.1 = ("keep" : Str) := fun x hx => keptB_iff.mp (h.2 x hx)
    have key : ∀ ks : List Str, ("keep" : Str) ∈ ks → wordsOf ks (rowsG st) = sideS ks st := fun ks hks => by
      have e := wordsOf_snoc ks [] ⟨"keep", 0, st.map (·.2)⟩
      rw [List.nil_append] at e
      rw [(rowsG_true h).1, e, if_pos hks, side_wordsK (k := "keep") (fun x hx => by rw [hk x hx, decide_eq_true hks, decide_eq_true rfl]), wordsK_all hk]
      rfl
    exact ⟨key _ in_old.1, key _ in_new.1⟩
  | false =>
    have hk : ∀ x ∈ st, x.1 ≠ ("keep" : Str) := fun x hx z => by
      have := h.2 x hx
      rw [keptB_iff.mpr z] at this
      cases this
    rw [(rowsG_false h ok).1]
    constructor
    · rw [wordsOf_append, wordsOf_rowsK, wordsOf_rowsK, if_pos in_old.2.1, if_neg in_old.2.2, List.append_nil]
      refine (side_wordsK fun x hx => ?_).symm
      rcases kinds_of (ok x hx) with e | e | e
      · exact absurd e (hk x hx)
      · rw [e, decide_eq_true in_old.2.1, decide_eq_true rfl]
      · rw [e, decide_eq_false in_old.2.2, decide_eq_false ne_kinds.2.2.symm]
    · rw [wordsOf_append, wordsOf_rowsK, wordsOf_rowsK, if_neg in_new.2.1, if_pos in_new.2.2, List.nil_append]
      refine (side_wordsK fun x hx => ?_).symm
      rcases kinds_of (ok x hx) with e | e | e
      · exact absurd e (hk x hx)
      · rw [e, decide_eq_false in_new.2.1, decide_eq_false ne_kinds.2.2]
      · rw [e, decide_eq_true in_new.2.2, decide_eq_true rfl]
theorem grp_stp {l m : List Str} (h1 : ∀ a ∈ l, wordB a = true) (h2 : ∀ a ∈ m, wordB a = true) : ∀ st ∈ (grpL (goS l m)).1, ∀ x ∈ st, StpOk x := fun st hst x hx => goS_ok l m h1 h2 x (by
  rw [← (grp_flat (goS l m)).1]
  exact List.mem_flatten.mpr ⟨st, hst, hx⟩)
theorem told_sides {old new : List Str} (h1 : ∀ a ∈ old, wordB a = true) (h2 : ∀ a ∈ new, wordB a = true) : wordsOf oldK (toldRows old new) = old ∧ wordsOf newK (toldRows old new) = new := by
  obtain ⟨bs, u, _, _⟩ := grp_unif (goS old new)
  have ok := grp_stp h1 h2
  have fl := (grp_flat (goS old new)).1
  obtain ⟨s1, s2⟩ := goS_sides old new
  unfold toldRows
  rw [← fl, sideS_flat] at s1
  rw [← fl, sideS_flat] at s2
  generalize (grpL (goS old new)).1 = G at u ok s1 s2
  have key : ∀ {G : List (List Stp)} {bs : List Bool}, Paired Unif G bs → (∀ st ∈ G, ∀ x ∈ st, StpOk x) → wordsOf oldK (G.flatMap rowsG) = G.flatMap (sideS oldK) ∧ wordsOf newK (G.flatMap rowsG) = G.flatMap (sideS newK) := fun {G bs} u => by
    induction u with
    | nil => exact fun _ => ⟨rfl, rfl⟩
    | cons h t ih =>
      intro ok
      obtain ⟨i1, i2⟩ := ih fun st hst => ok st (List.mem_cons_of_mem _ hst)
      obtain ⟨j1, j2⟩ := rowsG_side h (ok _ List.mem_cons_self)
      rw [List.flatMap_cons, List.flatMap_cons, List.flatMap_cons, wordsOf_append, wordsOf_append, i1, i2, j1, j2]
      exact ⟨rfl, rfl⟩
  obtain ⟨k1, k2⟩ := key u ok
  exact ⟨k1.trans s1, k2.trans s2⟩
/-- which kinds may stand side by side -/
def nextB (k l : Str) : Bool := if k = ("keep" : Str) then decide (l ≠ ("keep" : Str)) else if k = ("cut" : Str) then decide (l ≠ ("cut" : Str)) else decide (l = ("keep" : Str))
def Chn : List RowD → Prop
  | [] => True
  | [_] => True
  | r :: s :: l => nextB r.kind s.kind = true ∧ Chn (s :: l)
theorem Chn.at_ : ∀ {l : List RowD}, Chn l → ∀ {i : Nat} {r s : RowD}, l[i]? = some r → l[i + 1]? = some s → nextB r.kind s.kind = true
  | [], _, _, _, _, h, _ => by cases h
  | [_], _, i, _, _, _, h => by cases i <;> cases h
  | a :: b :: l, ⟨h1, h2⟩, 0, r, s, e1, e2 => by
    cases e1
    cases e2
    exact h1
  | a :: b :: l, ⟨h1, h2⟩, i + 1, r, s, e1, e2 => Chn.at_ (l := b :: l) h2 (i := i) e1 e2
theorem told_next {old new : List Str} (h1 : ∀ a ∈ old, wordB a = true) (h2 : ∀ a ∈ new, wordB a = true) : Chn (toldRows old new) := by
  obtain ⟨bs, u, al, _⟩ := grp_unif (goS old new)
  have ok := grp_stp h1 h2
  unfold toldRows
  generalize (grpL (goS old new)).1 = G at u ok
  have key : ∀ {G : List (List Stp)} {bs : List Bool}, Paired Unif G bs → (∀ st ∈ G, ∀ x ∈ st, StpOk x) → AltL bs → Chn (G.flatMap rowsG) ∧ ∀ b bs', bs = b :: bs' → ∃ r l, G.flatMap rowsG = r :: l ∧ decide (r.kind = ("keep" : Str)) = b := fun {G bs} u => by
    induction u with
    | nil => exact fun _ _ => ⟨trivial, fun _ _ e => by cases e⟩
    | @cons st b G' bs' h t ih =>
      intro ok al
      have al' : AltL bs' := by
        cases bs' with
        | nil => trivial
        | cons c l => exact al.2
      obtain ⟨i1, i2⟩ := ih (fun s hs => ok s (List.mem_cons_of_mem _ hs)) al'
      -- the rest begins with the other sort
      have rest : G'.flatMap rowsG = [] ∨ ∃ r l, G'.flatMap rowsG = r :: l ∧ decide (r.kind = ("keep" : Str)) = !b := by
        cases bs' with
        | nil =>
          cases t
          exact .inl rfl
        | cons c l =>
          obtain ⟨r, l', e1, e2⟩ := i2 c l rfl
          refine .inr ⟨r, l', e1, ?_⟩
          have : ∀ a b : Bool, a ≠ b → b = !a := by decide
          rw [e2]
          exact this _ _ al.1
      rw [List.flatMap_cons]
      have one : ∀ (a : RowD), (∀ r : RowD, decide (r.kind = ("keep" : Str)) = (!b) → nextB a.kind r.kind = true) → Chn (a :: G'.flatMap rowsG) := fun a ha => by
        rcases rest with e | ⟨r, l, e, e2⟩
        · rw [e]
          trivial
        · rw [e] at i1 ⊢
          exact ⟨ha r e2, i1⟩
      cases b with
      | true =>
        rw [(rowsG_true h).1, List.singleton_append]
        refine ⟨one ⟨"keep", 0, st.map (·.2)⟩ fun r hr => ?_, fun b' bs'' e => ?_⟩
        · have hr := of_decide_eq_false hr
          unfold nextB
          rw [if_pos rfl]
          exact decide_eq_true hr
        · cases e
          exact ⟨_, _, rfl, decide_eq_true rfl⟩
      | false =>
        obtain ⟨e1, e2⟩ := rowsG_false h (ok _ List.mem_cons_self)
        have oneC : Chn (⟨"cut", 0, wordsK "cut" st⟩ :: G'.flatMap rowsG) := one _ fun r hr => by
          have hr := of_decide_eq_true hr
          unfold nextB
          rw [if_neg ne_kinds.1.symm, if_pos rfl, hr]
          exact decide_eq_true ne_kinds.1
        have oneP : Chn (⟨"put", 0, wordsK "put" st⟩ :: G'.flatMap rowsG) := one _ fun r hr => by
          have hr := of_decide_eq_true hr
          unfold nextB
          rw [if_neg ne_kinds.2.1.symm, if_neg ne_kinds.2.2.symm, hr]
          exact decide_eq_true rfl
        rw [e1]
        unfold rowsK
        by_cases hc : wordsK "cut" st = []
        · rw [if_pos hc]
          rcases e2 with e2 | e2
          · exact absurd hc e2
          · rw [if_neg e2]
            refine ⟨oneP, fun b' bs'' e => ?_⟩
            cases e
            exact ⟨_, _, rfl, decide_eq_false ne_kinds.2.1.symm⟩
        · rw [if_neg hc]
          by_cases hp : wordsK "put" st = []
          · rw [if_pos hp]
            refine ⟨oneC, fun b' bs'' e => ?_⟩
            cases e
            exact ⟨_, _, rfl, decide_eq_false ne_kinds.1.symm⟩
          · rw [if_neg hp]
            refine ⟨⟨?_, oneP⟩, fun b' bs'' e => ?_⟩
            · show nextB "cut" "put" = true
              decide +kernel
            · cases e
              exact ⟨_, _, rfl, decide_eq_false ne_kinds.1.symm⟩
  exact (key u ok al).1
theorem told_len (old new : List Str) : (toldRows old new).length ≤ 3 * (old.length + new.length) := by
  have h1 := rowsUp_len (grpL (goS old new)).1 (grpL (goS old new)).1.length 0
  rw [rowsUp_zero, List.take_of_length_le (Nat.le_refl _)] at h1
  have h2 := (grp_len (goS old new)).1
  have h3 := goS_len old new
  unfold toldRows
  omega
/-! ### how far apart: what holds of it -/
theorem dist_comm : ∀ (l m : List Str), dist l m = dist m l
  | [], m => by rw [dist_nil, dist_nil2]
  | a :: l, [] => by rw [dist_nil, dist_nil2]
  | a :: l, b :: m => by
    rw [dist_cons, dist_cons, dist_comm l m, dist_comm l (b :: m), dist_comm (a :: l) m]
    by_cases h : a = b
    · rw [if_pos h, if_pos h.symm]
    · rw [if_neg h, if_neg (Ne.symm h), Nat.min_comm]
termination_by l m => l.length + m.length
theorem dist_step : ∀ (l m : List Str), (∀ a, dist (a :: l) m ≤ dist l m + 1 ∧ dist l m ≤ dist (a :: l) m + 1) ∧ (∀ b, dist l (b :: m) ≤ dist l m + 1 ∧ dist l m ≤ dist l (b :: m) + 1)
  | l, m => by
    have left : ∀ (l m : List Str), (∀ (l' m' : List Str), l'.length + m'.length < l.length + m.length → (∀ a, dist (a :: l') m' ≤ dist l' m' + 1 ∧ dist l' m' ≤ dist (a :: l') m' + 1) ∧ (∀ b, dist l' (b :: m') ≤ dist l' m' + 1 ∧ dist l' m' ≤ dist l' (b :: m') + 1)) → ∀ a, dist (a :: l) m ≤ dist l m + 1 ∧ dist l m ≤ dist (a :: l) m + 1 := fun l m ih a => by
      cases m with
      | nil =>
        rw [dist_nil2, dist_nil2, List.length_cons]
        omega
      | cons b m =>
        have i1 := ih l m (by simp only [List.length_cons]; omega)
        rw [dist_cons]
        by_cases h : a = b
        · rw [if_pos h]
          have := i1.2 b
          omega
        · rw [if_neg h]
          have h1 := i1.1 a
          have h2 := i1.2 b
          omega
    have ih : ∀ (l' m' : List Str), l'.length + m'.length < l.length + m.length → (∀ a, dist (a :: l') m' ≤ dist l' m' + 1 ∧ dist l' m' ≤ dist (a :: l') m' + 1) ∧ (∀ b, dist l' (b :: m') ≤ dist l' m' + 1 ∧ dist l' m' ≤ dist l' (b :: m') + 1) := fun l' m' _ => dist_step l' m'
    refine ⟨left l m ih, fun b => ?_⟩
    have := left m l (fun l' m' h => by
      obtain ⟨h1, h2⟩ := ih m' l' (by omega)
      refine ⟨fun a => ?_, fun b => ?_⟩
      · rw [dist_comm (a :: l') m', dist_comm l' m']
        exact h2 a
      · rw [dist_comm l' (b :: m'), dist_comm l' m']
        exact h1 b) b
    rw [dist_comm (b :: m) l, dist_comm m l] at this
    exact this
termination_by l m => l.length + m.length
/-- a way from one text to another, by its cost -/
inductive Way : List Str → List Str → Nat → Prop where
  | nil : Way [] [] 0
  | keep {l m : List Str} {n : Nat} (a : Str) (h : Way l m n) : Way (a :: l) (a :: m) n
  | cut {l m : List Str} {n : Nat} (a : Str) (h : Way l m n) : Way (a :: l) m (n + 1)
  | put {l m : List Str} {n : Nat} (b : Str) (h : Way l m n) : Way l (b :: m) (n + 1)
theorem way_dist : ∀ (l m : List Str), Way l m (dist l m)
  | [], [] => by
    rw [dist_nil]
    exact .nil
  | [], b :: m => by
    have h := way_dist [] m
    rw [dist_nil] at h ⊢
    exact .put b h
  | a :: l, [] => by
    have h := way_dist l []
    rw [dist_nil2] at h ⊢
    exact .cut a h
  | a :: l, b :: m => by
    rw [dist_cons]
    by_cases h : a = b
    · subst h
      rw [if_pos rfl]
      exact .keep a (way_dist l m)
    · rw [if_neg h]
      by_cases h2 : dist l (b :: m) ≤ dist (a :: l) m
      · rw [Nat.min_eq_left h2, Nat.add_comm]
        exact .cut a (way_dist l (b :: m))
      · rw [Nat.min_eq_right (by omega), Nat.add_comm]
        exact .put b (way_dist (a :: l) m)
termination_by l m => l.length + m.length
theorem dist_same (a : Str) (l m : List Str) : dist (a :: l) (a :: m) = dist l m := by rw [dist_cons, if_pos rfl]
theorem dist_least {l m : List Str} {n : Nat} (h : Way l m n) : dist l m ≤ n := by
  induction h with
  | nil => rw [dist_nil]; exact Nat.le_refl _
  | keep a h ih => rw [dist_same]; exact ih
  | @cut l m n a h ih => have := ((dist_step l m).1 a).1; omega
  | @put l m n b h ih => have := ((dist_step l m).2 b).1; omega
theorem way_comp : ∀ (l m k : List Str) {n p : Nat}, Way l m n → Way m k p → ∃ q, q ≤ n + p ∧ Way l k q
  | l, m, k, n, p, h, g => by
    cases h with
    | nil => exact ⟨p, by omega, g⟩
    | @cut l m n a h =>
      obtain ⟨q, h1, h2⟩ := way_comp l m k h g
      exact ⟨q + 1, by omega, .cut a h2⟩
    | @put l m n b h =>
      cases g with
      | @keep m k p a g =>
        obtain ⟨q, h1, h2⟩ := way_comp l m k h g
        exact ⟨q + 1, by omega, .put b h2⟩
      | @cut m k p a g =>
        obtain ⟨q, h1, h2⟩ := way_comp l m k h g
        exact ⟨q, by omega, h2⟩
      | @put _ k p c g =>
        obtain ⟨q, h1, h2⟩ := way_comp l (b :: m) k (.put b h) g
        exact ⟨q + 1, by omega, .put c h2⟩
    | @keep l m n a h =>
      cases g with
      | @keep m k p a g =>
        obtain ⟨q, h1, h2⟩ := way_comp l m k h g
        exact ⟨q, by omega, .keep a h2⟩
      | @cut m k p a g =>
        obtain ⟨q, h1, h2⟩ := way_comp l m k h g
        exact ⟨q + 1, by omega, .cut a h2⟩
      | @put _ k p c g =>
        obtain ⟨q, h1, h2⟩ := way_comp (a :: l) (a :: m) k (.keep a h) g
        exact ⟨q + 1, by omega, .put c h2⟩
termination_by l m k => l.length + m.length + k.length
theorem dist_tri (l m k : List Str) : dist l k ≤ dist l m + dist m k := by
  obtain ⟨q, h1, h2⟩ := way_comp l m k (way_dist l m) (way_dist m k)
  exact Nat.le_trans (dist_least h2) h1
theorem dist_zero : ∀ (l m : List Str), dist l m = 0 ↔ l = m
  | [], [] => by
    rw [dist_nil]
    exact ⟨fun _ => rfl, fun _ => rfl⟩
  | [], b :: m => by
    rw [dist_nil]
    exact ⟨(fun h => by cases h), (fun h => by cases h)⟩
  | a :: l, [] => by
    rw [dist_nil2]
    exact ⟨(fun h => by cases h), (fun h => by cases h)⟩
  | a :: l, b :: m => by
    rw [dist_cons]
    by_cases h : a = b
    · subst h
      rw [if_pos rfl, dist_zero l m]
      exact ⟨fun h => by rw [h], fun h => (List.cons.inj h).2⟩
    · rw [if_neg h]
      exact ⟨fun z => by omega, fun z => absurd (List.cons.inj z).1 h⟩
termination_by l m => l.length + m.length
theorem dist_even : ∀ (l m : List Str), dist l m % 2 = (l.length + m.length) % 2
  | [], m => by rw [dist_nil, List.length_nil, Nat.zero_add]
  | a :: l, [] => by rw [dist_nil2, List.length_nil, Nat.add_zero]
  | a :: l, b :: m => by
    have h1 := dist_even l m
    have h2 := dist_even l (b :: m)
    have h3 := dist_even (a :: l) m
    rw [dist_cons]
    simp only [List.length_cons] at h2 h3 ⊢
    by_cases h : a = b
    · rw [if_pos h]
      omega
    · rw [if_neg h]
      omega
termination_by l m => l.length + m.length
theorem dist_ge : ∀ (l m : List Str), l.length ≤ m.length + dist l m ∧ m.length ≤ l.length + dist l m
  | [], m => by
    rw [dist_nil, List.length_nil]
    omega
  | a :: l, [] => by
    rw [dist_nil2, List.length_nil]
    omega
  | a :: l, b :: m => by
    have h1 := dist_ge l m
    have h2 := dist_ge l (b :: m)
    have h3 := dist_ge (a :: l) m
    rw [dist_cons]
    simp only [List.length_cons] at h2 h3 ⊢
    by_cases h : a = b
    · rw [if_pos h]
      omega
    · rw [if_neg h]
      omega
termination_by l m => l.length + m.length
/-- what the told one costs -/
def costK (ss : List Stp) : Nat := (ss.filter fun x : Stp => decide (x.1 ≠ ("keep" : Str))).length
theorem costK_cons (x : Stp) (ss : List Stp) : costK (x :: ss) = if x.1 = ("keep" : Str) then costK ss else costK ss + 1 := by
  unfold costK
  by_cases h : x.1 = ("keep" : Str)
  · rw [if_pos h, List.filter_cons_of_neg (by simpa using h)]
  · rw [if_neg h, List.filter_cons_of_pos (p := fun x : Stp => decide (x.1 ≠ ("keep" : Str))) (decide_eq_true h)]
    rfl
theorem costK_goS : ∀ (l m : List Str), costK (goS l m) = dist l m
  | [], [] => by
    rw [goS, dist_nil]
    rfl
  | [], b :: m => by
    rw [goS_put, costK_cons, if_neg ne_kinds.2.1.symm, costK_goS [] m, dist_nil, dist_nil]
    rfl
  | a :: l, [] => by
    rw [goS_cut, costK_cons, if_neg ne_kinds.1.symm, costK_goS l [], dist_nil2, dist_nil2]
    rfl
  | a :: l, b :: m => by
    rw [goS_cons, dist_cons]
    by_cases h : a = b
    · rw [if_pos h, if_pos h, costK_cons, if_pos rfl, costK_goS l m]
    · rw [if_neg h, if_neg h]
      by_cases h2 : dist l (b :: m) ≤ dist (a :: l) m
      · rw [if_pos h2, costK_cons, if_neg ne_kinds.1.symm, costK_goS l (b :: m), Nat.min_eq_left h2, Nat.add_comm]
      · rw [if_neg h2, costK_cons, if_neg ne_kinds.2.1.symm, costK_goS (a :: l) m, Nat.min_eq_right (by omega), Nat.add_comm]
termination_by l m => l.length + m.length
theorem costOf_append (a b : List RowD) : costOf (a ++ b) = costOf a + costOf b := by
  unfold costOf
  rw [List.map_append, List.sum_append]
theorem cost_keep (ws : List Str) : rowCost ⟨"keep", 0, ws⟩ = 0 := by
  unfold rowCost
  rw [inV_strs, decide_eq_false (by decide +kernel : ¬ (("keep" : Str) ∈ cutPut)), if_neg Bool.false_ne_true, if_neg (show ¬ (("keep" : Str) = "take") by decide +kernel)]
theorem cost_cut (ws : List Str) : rowCost ⟨"cut", 0, ws⟩ = (ws.length : Int) := by
  unfold rowCost
  rw [inV_strs, decide_eq_true (by decide +kernel : (("cut" : Str) ∈ cutPut)), if_pos rfl]
theorem cost_put (ws : List Str) : rowCost ⟨"put", 0, ws⟩ = (ws.length : Int) := by
  unfold rowCost
  rw [inV_strs, decide_eq_true (by decide +kernel : (("put" : Str) ∈ cutPut)), if_pos rfl]
theorem costOf_one (r : RowD) : costOf [r] = rowCost r := by
  unfold costOf
  show rowCost r + 0 = _
  omega
theorem cost_rowsK (st : List Stp) : costOf (rowsK st "keep") = 0 ∧ costOf (rowsK st "cut") = ((wordsK "cut" st).length : Int) ∧ costOf (rowsK st "put") = ((wordsK "put" st).length : Int) := by
  refine ⟨?_, ?_, ?_⟩
  · unfold rowsK
    split
    · rfl
    · rw [costOf_one, cost_keep]
  · unfold rowsK
    split
    · next h => rw [h]; rfl
    · rw [costOf_one, cost_cut]
  · unfold rowsK
    split
    · next h => rw [h]; rfl
    · rw [costOf_one, cost_put]
theorem costK_append (a b : List Stp) : costK (a ++ b) = costK a + costK b := by
  unfold costK
  rw [List.filter_append, List.length_append]
theorem costK_words {st : List Stp} (ok : ∀ x ∈ st, StpOk x) : costK st = (wordsK "cut" st).length + (wordsK "put" st).length := by
  induction st with
  | nil => rfl
  | cons x r ih =>
    have ih := ih fun y hy => ok y (List.mem_cons_of_mem _ hy)
    have ec : ∀ k, wordsK k (x :: r) = if x.1 = k then x.2 :: wordsK k r else wordsK k r := fun k => by
      unfold wordsK
      by_cases h : x.1 = k
      · rw [if_pos h, List.filter_cons_of_pos (p := fun x : Stp => decide (x.1 = k)) (decide_eq_true h)]
        rfl
      · rw [if_neg h, List.filter_cons_of_neg (by simpa using h)]
    rw [costK_cons, ec, ec, ih]
    rcases kinds_of (ok x List.mem_cons_self) with e | e | e
    · rw [e, if_pos rfl, if_neg ne_kinds.1, if_neg ne_kinds.2.1]
    · rw [e, if_neg ne_kinds.1.symm, if_pos rfl, if_neg ne_kinds.2.2, List.length_cons]
      omega
    · rw [e, if_neg ne_kinds.2.1.symm, if_neg ne_kinds.2.2.symm, if_pos rfl, List.length_cons]
      omega
theorem cost_rowsG {st : List Stp} (ok : ∀ x ∈ st, StpOk x) : costOf (rowsG st) = (costK st : Int) := by
  show costOf (rowsK st "keep" ++ (rowsK st "cut" ++ (rowsK st "put" ++ []))) = _
  obtain ⟨h1, h2, h3⟩ := cost_rowsK st
  rw [List.append_nil, costOf_append, costOf_append, h1, h2, h3, costK_words ok]
  omega
theorem told_cost {old new : List Str} (h1 : ∀ a ∈ old, wordB a = true) (h2 : ∀ a ∈ new, wordB a = true) : costOf (toldRows old new) = (dist old new : Nat) := by
  have ok := grp_stp h1 h2
  have fl := (grp_flat (goS old new)).1
  rw [← costK_goS old new]
  unfold toldRows
  rw [← fl]
  rw [fl]
  generalize (grpL (goS old new)).1 = G at ok fl
  rw [← fl]
  clear fl
  induction G with
  | nil => rfl
  | cons a r ih =>
    rw [List.flatMap_cons, List.flatten_cons, costOf_append, costK_append, cost_rowsG (ok a List.mem_cons_self), ih fun st hst => ok st (List.mem_cons_of_mem _ hst)]
    omega
/-! ### the law: far and near -/
theorem cut14 (xs : List V) : (cutV xs (some 4) (some 14)).length ≤ 10 := by
  unfold cutV
  have h1 : HT.sIx xs.length 0 (some 4) = min 4 xs.length := HT.sIx_nat _ _ 4
  have h2 : HT.sIx xs.length xs.length (some 14) = min 14 xs.length := HT.sIx_nat _ _ 14
  rw [h1, h2, List.length_take, List.length_drop]
  omega
def sizes4 : List Int := [1, 1, 2, 3]
theorem sizes4_at : ∀ i : Nat, i < 4 → ∃ k : Int, sizes4[i]? = some k ∧ 1 ≤ k ∧ k ≤ 3 := by
  have key : ∀ i : Nat, i < 4 → (match (sizes4[i]? : Option Int) with | some g => decide (1 ≤ g) && decide (g ≤ 3) | none => false) = true := by decide +kernel
  intro i hi
  have h := key i hi
  cases e : sizes4[i]? with
  | none =>
    rw [e] at h
    cases h
  | some g =>
    rw [e] at h
    have h : (decide (1 ≤ g) && decide (g ≤ 3)) = true := h
    rw [Bool.and_eq_true] at h
    exact ⟨g, rfl, of_decide_eq_true h.1, of_decide_eq_true h.2⟩
/-- three texts in a list -/
def Txts (H : Hp) (D : Addr) (m : Nat) : Prop := ∃ as : List Addr, H D = some (.lst (as.map V.ref)) ∧ as.length = 3 ∧ ∀ (j : Nat) (a : Addr), as[j]? = some a → ∃ ws : List Str, H a = some (.lst (ws.map V.str)) ∧ (∀ x ∈ ws, wordB x = true) ∧ ws.length ≤ m
section
variable {P : Program} {w : World} {K : PySem.W.Frag} {mg : Str → Option Value} {base : Heap}
theorem scTexts : FnScope ["_law_script", "_law_menu_here", "_law_texts_here", "_law_cell", "_law_k", "_law_words"] ["_law_script"] (defScope sTexts) := ⟨rfl, rfl, rfl, by decide +kernel, rfl, by decide +kernel, by decide +kernel⟩
theorem scBounds : FnScope ["_law_one", "_law_other", "_law_far"] ["_law_one", "_law_other", "_law_far"] (defScope sBounds) := ⟨rfl, rfl, rfl, by decide +kernel, rfl, by decide +kernel, by decide +kernel⟩
theorem scLaw : FnScope ["_law_script", "_law_texts_here", "_law_far", "_law_k", "_law_one", "_law_other", "_law_found"] ["_law_script"] (defScope sLaw) := ⟨rfl, rfl, rfl, by decide +kernel, rfl, by decide +kernel, by decide +kernel⟩
def spTexts (K : PySem.W.Frag) : Sp := fun vs H Q _ => ∃ (a : Addr) (ns : List Int), vs = [.ref a] ∧ SqL K H a (ns.map V.int) ∧ ∀ (H' : Hp) (D : Addr), Same H H' → Txts H' D 30 → Q (.ref D) H'
theorem ok_texts {f fM : Addr} {fd fdM : FuncData} (F : FnP K "_law_texts" sTexts f fd)
    (GM : FnOk P w K mg base (L2.CX P w) 3 fM fdM ["_law_script"] (spMenu K)) (kM : PySem.W.keepIn K (.ref fM) = true) (bM : Binds K fdM ["_law_script"] []) (gM : mg "_law_menu" = some (.ref fM)) (mR : mg "range" = none) :
    FnOk P w K mg base (L2.CX P w) 4 f fd ["_law_script"] (spTexts K) := by
  refine F.ok scTexts (fun vs H Q E h => ?_) (fun cdv A outer s H vs Q E hr h => ?_)
  · obtain ⟨a, ns, rfl, _⟩ := h
    rfl
  · obtain ⟨a, ns, rfl, hS, q⟩ := h
    refine ⟨_, pss_cons (ps_set (i := 1) scTexts.nd rfl (.inr rfl) (pe_call GM hr (by rfl) gM kM bM .nil passL (pa_cons (pv 0) pa_nil)))
      (pss_cons (ps_set (i := 2) scTexts.nd rfl (.inl rfl) (pe_lst (pa_cons (pe_lst pa_nil) (pa_cons (pe_lst pa_nil) (pa_cons (pe_lst pa_nil) pa_nil)))))
      (pss_cons (ps_for (passes_of rfl) rfl (pi_list (pe_slice sl_list (pv 0) (po_some pe_int) (po_some pe_int))) (pg_name (i := 3) scTexts.nd rfl (.inr rfl))
        (pss_cons (ps_setLc (i := 5) (own := [("_law_k", 4)]) (g := gName 4) (tt := tYes) rfl scTexts.nd rfl rfl (sw_true rfl rfl rfl (by decide +kernel)) (pi_range1 (by rfl) mR (pa_cons (pe_ix ix_list (pe_lst (pa_cons pe_int (pa_cons pe_int (pa_cons pe_int (pa_cons pe_int pa_nil))))) (pe_op op_mod (pe_op op_mod (pe_op op_mul (pv 3) pe_int) pe_int) pe_int) (fun _ _ => rfl)) pa_nil)) (blkOk_by (N := ["_law_script", "_law_menu_here", "_law_texts_here", "_law_cell", "_law_k", "_law_words"]) (sc := defScope sTexts) (by decide +kernel))
          (fun _ _ _ _ _ => pg_name (i := 4) scTexts.nd rfl (Or.inl rfl)) (fun _ _ _ _ _ => pts_nil) (fun _ _ _ _ _ => pe_ix (r := rIxL K) ix_list (pv 1) (pe_op op_mod (pe_op op_add (pe_op op_fdiv (pv 3) pe_int) (pv 4)) pe_int) (fun _ _ => rfl)))
        (pss_one (ps_for (passes_of rfl) rfl (pi_range1 (by rfl) mR (pa_cons pe_int pa_nil)) (pg_name (i := 4) scTexts.nd rfl (.inl rfl))
          (pss_one (ps_if (pt_cmpR op_eq (pe_op op_mod (pe_op op_fdivN (pe_op op_add pe_int (pe_op op_mod (pv 3) pe_int)) (pe_ix ix_list (pe_lst (pa_cons pe_int (pa_cons pe_int (pa_cons pe_int pa_nil)))) (pv 4) (fun _ _ => rfl))) pe_int) pe_int (nomark _))
            (pss_one (ps_asg (pe_op op_cat (pe_ix ix_list (pv 2) (pv 4) (fun _ _ => rfl)) (pv 5)) (pg_sub (pv 2) (pv 4) set_list))) pss_nil))))))
      (pss_one (ps_ret (pv 2))))), ?_⟩
    refine ⟨_, rfl, a, ns, rfl, hS, fun H1 M ms s1 nM hM hml hmw => ?_⟩
    refine ⟨by show 0 ≤ sizeLine; decide, fun A0 n0 => ⟨by show 0 ≤ sizeLine; decide, fun A1 n1 => ⟨by show 0 ≤ sizeLine; decide, fun A2 n2 => ⟨by show 3 ≤ sizeLine; decide, fun D nD => ?_⟩⟩⟩⟩
    have u0 := same_upd n0 (o := .lst [])
    have u1 := same_upd n1 (o := .lst [])
    have u2 := same_upd n2 (o := .lst [])
    have u3 := same_upd nD (o := .lst [.ref A0, .ref A1, .ref A2])
    have m3 := u0.trans (u1.trans (u2.trans u3))
    have h0 : (upd (upd (upd (upd H1 A0 (.lst [])) A1 (.lst [])) A2 (.lst [])) D (.lst [.ref A0, .ref A1, .ref A2])) A0 = some (.lst []) := u3 _ _ (u2 _ _ (u1 _ _ upd_same))
    have h1 : (upd (upd (upd (upd H1 A0 (.lst [])) A1 (.lst [])) A2 (.lst [])) D (.lst [.ref A0, .ref A1, .ref A2])) A1 = some (.lst []) := u3 _ _ (u2 _ _ upd_same)
    have h2 : (upd (upd (upd (upd H1 A0 (.lst [])) A1 (.lst [])) A2 (.lst [])) D (.lst [.ref A0, .ref A1, .ref A2])) A2 = some (.lst []) := u3 _ _ upd_same
    have hD : (upd (upd (upd (upd H1 A0 (.lst [])) A1 (.lst [])) A2 (.lst [])) D (.lst [.ref A0, .ref A1, .ref A2])) D = some (.lst [.ref A0, .ref A1, .ref A2]) := upd_same
    have nD1 : H1 D = none := (u0.trans (u1.trans u2)).free nD
    generalize upd (upd (upd (upd H1 A0 (.lst [])) A1 (.lst [])) A2 (.lst [])) D (.lst [.ref A0, .ref A1, .ref A2]) = H5 at m3 h0 h1 h2 hD ⊢
    have X5 : Txts H5 D (3 * 0) := ⟨[A0, A1, A2], hD, rfl, fun j a e => by
      have nil : ∀ b, H5 b = some (.lst []) → ∃ ws : List Str, H5 b = some (.lst (ws.map V.str)) ∧ (∀ x ∈ ws, wordB x = true) ∧ ws.length ≤ 0 := fun b h => ⟨[], h, (fun x hx => by cases hx), Nat.le_refl _⟩
      rcases j with _ | _ | _ | j
      · cases e; exact nil _ h0
      · cases e; exact nil _ h1
      · cases e; exact nil _ h2
      · cases e⟩
    refine ⟨_, rfl, _, rfl, _, rfl, a, _, rfl, m3.seq (s1.seq hS), fun p np => ?_⟩
    have u5 := same_upd np (o := .lst (cutV (ns.map V.int) (some 4) (some 14)))
    refine ⟨p, rfl, ⟨_, .inl (.inl upd_same)⟩, ?_⟩
    have hp5 : (upd H5 p (.lst (cutV (ns.map V.int) (some 4) (some 14)))) p = some (.lst (cutV (ns.map V.int) (some 4) (some 14))) := upd_same
    have X6 : Txts (upd H5 p (.lst (cutV (ns.map V.int) (some 4) (some 14)))) D (3 * 0) := by
      obtain ⟨as, x1, x2, x3⟩ := X5
      exact ⟨as, u5 _ _ x1, x2, fun j a e => let ⟨ws, y1, y2⟩ := x3 j a e; ⟨ws, u5 _ _ y1, y2⟩⟩
    have m6 := m3.trans u5
    generalize upd H5 p (.lst (cutV (ns.map V.int) (some 4) (some 14))) = H6 at hp5 X6 m6 ⊢
    have npD : p ≠ D := (ne_of_none hD np).symm
    refine for_list (xs := cutV (ns.map V.int) (some 4) (some 14)) (fun i σ' H' => ∃ y3 y4 y5, σ' = [some (.ref a), some (.ref M), some (.ref D), y3, y4, y5] ∧ Same H1 H' ∧ H' p = some (.lst (cutV (ns.map V.int) (some 4) (some 14))) ∧ Txts H' D (3 * i)) ⟨none, none, none, rfl, m6, hp5, X6⟩ (fun i σ' H' _ hp => ?_) (fun i x σ' H' hx hp => ?_) (fun σ' H' hp => ?_)
    · obtain ⟨_, _, _, _, _, h, _⟩ := hp
      exact .inl (.inl h)
    · obtain ⟨y3, y4, y5, rfl, sm, hp, X⟩ := hp
      have hi : i < 10 := Nat.lt_of_lt_of_le (List.getElem?_eq_some_iff.mp hx).1 (cut14 _)
      obtain ⟨c, _, rfl⟩ := List.mem_map.mp (cut_mem (List.mem_of_getElem? hx))
      obtain ⟨sz, hsz, sz1, sz3⟩ := sizes4_at _ (ltM (c := c * 48271 % 1009) (n := 4) (by decide))
      refine ⟨by show 4 ≤ sizeLine; decide, fun L nL => ⟨_, rfl, _, _, rfl, rfl, .inr (by decide), _, _, rfl, rfl, (by show (0 : Int) < 1009; decide), _, _, rfl, rfl, (by show (0 : Int) < 4; decide), L, sizes4.map V.int, _, .int sz, rfl, rfl, .inl (.inl upd_same), atM (n := 4) (by decide) (by rw [List.getElem?_map, hsz]; rfl), sz, rfl, by omega, by omega, fun W nW => ?_⟩⟩
      have v1 := same_upd nL (o := .lst (sizes4.map V.int))
      refine lc_range (lo := 0) (n := sz.toNat) (fun j H2 => Same (upd H' L (.lst (sizes4.map V.int))) H2 ∧ ∃ ws, H2 W = some (.lst ((ws : List Str).map V.str)) ∧ ws.length = j ∧ ∀ x ∈ ws, wordB x = true) ⟨same_upd nW, [], upd_same, rfl, fun x hx => by cases hx⟩ (fun j H2 hj hp2 => ?_) (fun H2 hp2 => ?_)
      · obtain ⟨sm2, ws, hW, hl, hw⟩ := hp2
        refine ⟨rfl, yesT ?_⟩
        have hx : ∃ x, ms[((c / 7 + (0 + (j : Int))) % (12 : Nat)).toNat]? = some x ∧ wordB x = true := by
          have h1 := ltM (c := c / 7 + (0 + (j : Int))) (n := 12) (by decide)
          have h2 : ((c / 7 + (0 + (j : Int))) % (12 : Nat)).toNat < ms.length := by omega
          exact ⟨ms[_]'h2, List.getElem?_eq_getElem h2, hmw _ (List.getElem_mem h2)⟩
        obtain ⟨x, hx, hxw⟩ := hx
        refine ⟨_, rfl, _, rfl, _, _, rfl, rfl, ⟨by decide, by decide⟩, _, rfl, _, _, rfl, rfl, _, _, rfl, rfl, (by show (0 : Int) < 12; decide), M, _, _, .str x, rfl, rfl, sm2.seq (v1.seq (sm.seq (.inl (.inl hM)))), atM (n := 12) (by decide) (by rw [List.getElem?_map, hx]; rfl), ?_⟩
        refine ⟨_, hW, ?_, fun b o e => ?_, ws ++ [x], ?_, ?_, ?_⟩
        · rw [List.length_map, hl]
          exact Nat.lt_of_lt_of_le (show j < 1000 by omega) (by decide)
        · rw [upd_ne (ne_of_none e nW)]
          exact sm2 b o e
        · rw [upd_same, List.map_append]
          rfl
        · rw [List.length_append, hl]
          rfl
        · intro y hy
          rcases List.mem_append.mp hy with hy | hy
          · exact hw y hy
          · rw [List.mem_singleton.mp hy]
            exact hxw
      · obtain ⟨sm2, ws, hW, hl, hw⟩ := hp2
        have s2 := v1.trans sm2
        obtain ⟨as, x1, x2, x3⟩ := X
        have WD : W ≠ D := (ne_of_none (v1 _ _ x1) nW).symm
        have nDH : H1 D = none := nD1
        refine ⟨3, rfl, by decide, by decide, ?_⟩
        refine for_range (lo := 0) (n := 3) (fun j σ' H3 => ∃ y4 as, σ' = [some (.ref a), some (.ref M), some (.ref D), some (.int c), y4, some (.ref W)] ∧ Same H1 H3 ∧ H3 p = some (.lst (cutV (ns.map V.int) (some 4) (some 14))) ∧ H3 W = some (.lst (ws.map V.str)) ∧ H3 D = some (.lst ((as : List Addr).map V.ref)) ∧ as.length = 3 ∧ (∀ (i2 : Nat) (a2 : Addr), as[i2]? = some a2 → ∃ vs : List Str, H3 a2 = some (.lst (vs.map V.str)) ∧ (∀ x ∈ vs, wordB x = true) ∧ vs.length ≤ (if i2 < j then 3 * (i + 1) else 3 * i)))
          ⟨_, as, rfl, sm.trans s2, s2 _ _ hp, hW, s2 _ _ x1, x2, fun i2 a2 e => ?_⟩ (fun j σ' H3 hj hp3 => ?_) (fun σ' H3 hp3 => ?_)
        · obtain ⟨vs, z1, z2, z3⟩ := x3 i2 a2 e
          exact ⟨vs, s2 _ _ z1, z2, by rw [if_neg (Nat.not_lt_zero _)]; exact z3⟩
        · obtain ⟨y4, as, rfl, sm3, hp3, hW3, hD3, hal, hrow⟩ := hp3
          have zj : (0 + (j : Int)) = ((j : Nat) : Int) := by omega
          obtain ⟨d, hd, hd0, hd4⟩ : ∃ d : Int, ([V.int 1, .int 2, .int 4] : List V)[j]? = some (.int d) ∧ d ≠ 0 ∧ d.natAbs < 1073741824 := by
            rcases j with _ | _ | _ | j
            · exact ⟨1, rfl, by decide, by decide⟩
            · exact ⟨2, rfl, by decide, by decide⟩
            · exact ⟨4, rfl, by decide, by decide⟩
            · omega
          refine ⟨_, rfl, _, _, rfl, rfl, (by show (0 : Int) < 7; decide), _, _, rfl, rfl, by show 3 ≤ sizeLine; decide, fun L2 nL2 => ⟨_, rfl, L2, _, _, .int d, rfl, rfl, .inl (.inl upd_same), by rw [zj]; exact atI_nat hd, _, _, rfl, rfl, ⟨hd0, hd4⟩, _, _, rfl, rfl, (by show (0 : Int) < 2; decide), rfl, _, rfl, ite2 (fun e => ?_) (fun e => ?_)⟩⟩
          · have v2 := same_upd nL2 (o := .lst [.int 1, .int 2, .int 4])
            have hja : j < as.length := by omega
            have haj := List.getElem?_eq_getElem hja
            obtain ⟨vs, z1, z2, z3⟩ := hrow j _ haj
            rw [if_neg (Nat.lt_irrefl _)] at z3
            refine ⟨_, rfl, _, rfl, D, _, _, .ref as[j], rfl, rfl, .inl (.inl (v2 _ _ hD3)), by rw [zj]; exact atI_nat (by rw [List.getElem?_map, haj]; rfl), _, rfl, as[j], W, _, _, rfl, rfl, v2 _ _ z1, v2 _ _ hW3, ?_, fun N nN => ?_⟩
            · rw [List.length_map, List.length_map, hl]
              exact Nat.le_trans (show vs.length + sz.toNat ≤ 1000 by omega) (by decide)
            have v3 := v2.trans (same_upd nN (o := .lst (vs.map V.str ++ ws.map V.str)))
            have hN : (upd (upd H3 L2 (.lst [.int 1, .int 2, .int 4])) N (.lst (vs.map V.str ++ ws.map V.str))) N = some (.lst (vs.map V.str ++ ws.map V.str)) := upd_same
            have ND : N ≠ D := (ne_of_none (v2 _ _ hD3) nN).symm
            refine ⟨_, rfl, _, rfl, D, _, _, j, rfl, rfl, v3 _ _ hD3, by rw [zj]; exact ixN_nat (by rw [List.length_map]; exact hja), ?_⟩
            have keepL : ∀ b (l : List Str), (upd (upd H3 L2 (.lst [.int 1, .int 2, .int 4])) N (.lst (vs.map V.str ++ ws.map V.str))) b = some (.lst (l.map V.str)) → b ≠ D := fun b l h z => by
              subst z
              rw [v3 _ _ hD3] at h
              have h := HO.lst.inj (Option.some.inj h)
              cases as with
              | nil => cases hal
              | cons a0 ar =>
                cases l with
                | nil => cases h
                | cons l0 lr =>
                  have := (List.cons.inj h).1
                  cases this
            refine ⟨_, as.set j N, rfl, same_set (sm3.trans v3) nDH, ?_, ?_, ?_, by rw [List.length_set]; exact hal, fun i2 a2 e2 => ?_⟩
            · rw [upd_ne npD]
              exact v3 _ _ hp3
            · rw [upd_ne WD]
              exact v3 _ _ hW3
            · rw [upd_same, List.map_set]
            · rw [List.getElem?_set] at e2
              by_cases h : j = i2
              · rw [if_pos h, if_pos hja] at e2
                cases e2
                refine ⟨vs ++ ws, ?_, fun x hx => ?_, ?_⟩
                · rw [upd_ne ND, List.map_append]
                  exact hN
                · rcases List.mem_append.mp hx with hx | hx
                  · exact z2 x hx
                  · exact hw x hx
                · rw [if_pos (by omega), List.length_append, hl]
                  omega
              · rw [if_neg h] at e2
                obtain ⟨us, y1, y2, y3⟩ := hrow i2 a2 e2
                refine ⟨us, ?_, y2, ?_⟩
                · rw [upd_ne (keepL a2 us (v3 _ _ y1))]
                  exact v3 _ _ y1
                · by_cases h2 : i2 < j
                  · rw [if_pos h2] at y3
                    rw [if_pos (by omega)]
                    exact y3
                  · rw [if_neg h2] at y3
                    rw [if_neg (by omega)]
                    exact y3
          · have v2 := same_upd nL2 (o := .lst [.int 1, .int 2, .int 4])
            refine ⟨_, as, rfl, sm3.trans v2, v2 _ _ hp3, v2 _ _ hW3, v2 _ _ hD3, hal, fun i2 a2 e2 => ?_⟩
            obtain ⟨us, y1, y2, y3⟩ := hrow i2 a2 e2
            refine ⟨us, v2 _ _ y1, y2, ?_⟩
            by_cases h2 : i2 < j
            · rw [if_pos h2] at y3
              rw [if_pos (by omega)]
              exact y3
            · rw [if_neg h2] at y3
              by_cases h3 : i2 < j + 1
              · rw [if_pos h3]
                omega
              · rw [if_neg h3]
                exact y3
        · obtain ⟨y4, as, rfl, sm3, hp3, hW3, hD3, hal, hrow⟩ := hp3
          refine ⟨_, _, _, rfl, sm3, hp3, as, hD3, hal, fun i2 a2 e2 => ?_⟩
          obtain ⟨us, y1, y2, y3⟩ := hrow i2 a2 e2
          have h3 : i2 < 3 := by
            rw [← hal]
            exact (List.getElem?_eq_some_iff.mp e2).1
          rw [if_pos h3] at y3
          exact ⟨us, y1, y2, y3⟩
    · obtain ⟨y3, y4, y5, rfl, sm, hp, as, x1, x2, x3⟩ := hp
      refine ⟨_, rfl, q H' D (s1.trans sm) ⟨as, x1, x2, fun j a e => ?_⟩⟩
      obtain ⟨ws, z1, z2, z3⟩ := x3 j a e
      have := cut14 (ns.map V.int)
      exact ⟨ws, z1, z2, by omega⟩
def spBounds (K : PySem.W.Frag) : Sp := fun vs H Q _ => ∃ (p r : Addr) (l m : List Str), vs = [.ref p, .ref r, .int (dist l m : Nat)] ∧ SqL K H p (l.map V.str) ∧ SqL K H r (m.map V.str) ∧ (∀ x ∈ l, wordB x = true) ∧ (∀ x ∈ m, wordB x = true) ∧ Q (.bl true) H
theorem eqv_strs : ∀ l m : List Str, PyData.eqv (.list (l.map PyData.str)) (.list (m.map PyData.str)) = decide (l = m) := by
  have key : ∀ l m : List Str, PyData.eqvAll (l.map PyData.str) (m.map PyData.str) = decide (l = m) := fun l => by
    induction l with
    | nil =>
      intro m
      cases m with
      | nil => rfl
      | cons b m => rfl
    | cons a l ih =>
      intro m
      cases m with
      | nil => rfl
      | cons b m =>
        show (decide (a = b) && PyData.eqvAll (l.map PyData.str) (m.map PyData.str)) = _
        rw [ih]
        by_cases h : a = b
        · subst h
          rw [decide_eq_true rfl, Bool.true_and]
          by_cases h2 : l = m
          · rw [decide_eq_true h2, h2, decide_eq_true rfl]
          · rw [decide_eq_false h2, decide_eq_false fun z => h2 (List.cons.inj z).2]
        · rw [decide_eq_false h, decide_eq_false fun z => h (List.cons.inj z).1]
          rfl
  exact key
theorem ok_bounds {f : Addr} {fd : FuncData} (F : FnP K "_law_bounds" sBounds f fd) (mL : mg "len" = none) (mM : mg "max" = none) : FnOk P w K mg base (L2.CX P w) 1 f fd ["_law_one", "_law_other", "_law_far"] (spBounds K) := by
  refine F.ok scBounds (fun vs H Q E h => ?_) (fun cdv A outer s H vs Q E hr h => ?_)
  · obtain ⟨p, r, l, m, rfl, _⟩ := h
    rfl
  · obtain ⟨p, r, l, m, rfl, hp, hq, wl, wm, q⟩ := h
    refine ⟨_, pss_cons (ps_if (PW.pt (pw_or (pt_cmpR op_ne (pe_op op_mod (pv 2) pe_int) (pe_op op_mod (pe_op op_add (pe_callB call_len_seq (by rfl) mL PySem.boot_len (pa_cons (pv 0) pa_nil)) (pe_callB call_len_seq (by rfl) mL PySem.boot_len (pa_cons (pv 1) pa_nil))) pe_int) (by rfl))
        (pw_or1 (pt_cmpR op_gt (pv 2) (pe_op op_add (pe_callB call_len_seq (by rfl) mL PySem.boot_len (pa_cons (pv 0) pa_nil)) (pe_callB call_len_seq (by rfl) mL PySem.boot_len (pa_cons (pv 1) pa_nil))) (by rfl))))) pss_never pss_nil)
      (pss_one (ps_ret (pe_and (pe_cmpR op_ge (pv 2) (pe_callB (call_max2 rfl) (by rfl) mM (by decide +kernel) (pa_cons (pe_op op_sub (pe_callB call_len_seq (by rfl) mL PySem.boot_len (pa_cons (pv 0) pa_nil)) (pe_callB call_len_seq (by rfl) mL PySem.boot_len (pa_cons (pv 1) pa_nil))) (pa_cons (pe_op op_sub (pe_callB call_len_seq (by rfl) mL PySem.boot_len (pa_cons (pv 1) pa_nil)) (pe_callB call_len_seq (by rfl) mL PySem.boot_len (pa_cons (pv 0) pa_nil))) pa_nil))) (by rfl))
        (pe_one (pe_cmpR op_eq (pe_cmpR op_eq (pv 2) pe_int (nomark _)) (pe_cmpR (op_eqD hr.units) (pv 0) (pv 1) (nomark _)) (by rfl)))))), ?_⟩
    have ll : ((l.map V.str).length : Int) = (l.length : Int) := by rw [List.length_map]
    have lm : ((m.map V.str).length : Int) = (m.length : Int) := by rw [List.length_map]
    have he := dist_even l m
    have hle := dist_le l m
    have hge := dist_ge l m
    have hz := dist_zero l m
    generalize dist l m = d at q he hle hge hz ⊢
    refine ⟨_, rfl, _, _, rfl, rfl, (by show (0 : Int) < 2; decide), _, rfl, p, _, rfl, .inl hp, _, rfl, r, _, rfl, .inl hq, _, _, rfl, rfl, _, _, rfl, rfl, (by show (0 : Int) < 2; decide), rfl, _, rfl, ?_⟩
    have e1 : (d : Int) % 2 = (((l.map V.str).length : Int) + ((m.map V.str).length : Int)) % 2 := by
      rw [ll, lm]
      omega
    show if (!decide (V.int ((d : Int) % 2) = V.int ((((l.map V.str).length : Int) + ((m.map V.str).length : Int)) % 2))) = true then _ else _
    rw [← e1, decide_eq_true rfl]
    refine iteF ⟨_, rfl, _, rfl, p, _, rfl, .inl hp, _, rfl, r, _, rfl, .inl hq, _, _, rfl, rfl, _, _, rfl, rfl, _, rfl, ?_⟩
    rw [decide_eq_false (show ¬ (d : Int) > ((l.map V.str).length : Int) + ((m.map V.str).length : Int) by rw [ll, lm]; omega)]
    refine iteF ⟨_, rfl, _, rfl, p, _, rfl, .inl hp, _, rfl, r, _, rfl, .inl hq, _, _, rfl, rfl, _, rfl, r, _, rfl, .inl hq, _, rfl, p, _, rfl, .inl hp, _, _, rfl, rfl, _, _, rfl, _, _, rfl, rfl, ?_⟩
    have sl := shaped_words (ws := l) fun a ha => strOk_word (wl a ha)
    have sm := shaped_words (ws := m) fun a ha => strOk_word (wm a ha)
    refine ⟨_, rfl, ?_⟩
    rw [decide_eq_true (show (d : Int) ≥ (if ((m.map V.str).length : Int) - ((l.map V.str).length : Int) > ((l.map V.str).length : Int) - ((m.map V.str).length : Int) then ((m.map V.str).length : Int) - ((l.map V.str).length : Int) else ((l.map V.str).length : Int) - ((m.map V.str).length : Int)) by
      rw [ll, lm]
      split <;> omega)]
    refine iteT ⟨_, rfl, rfl, _, rfl, _, rfl, _, _, .lst hp (dpStrs H K _), .lst hq (dpStrs H K _), sl, sm, rfl, ?_⟩
    rw [eqv_strs]
    have e2 : decide (V.bl (decide (V.int (d : Int) = V.int 0)) = V.bl (decide (l = m))) = true := decide_eq_true (congrArg V.bl (by
      by_cases h : l = m
      · rw [decide_eq_true h, decide_eq_true (by rw [hz.mpr h]; rfl)]
      · rw [decide_eq_false h, decide_eq_false fun z => h (hz.mp (by have := V.int.inj z; omega))]))
    rw [e2]
    exact q
def spLaw (K : PySem.W.Frag) (Ps : List Addr) : Sp := fun vs H Q _ => ∃ (a : Addr) (ns : List Int), vs = [.ref a] ∧ SqL K H a (ns.map V.int) ∧ Tb Ps H ∧ ∀ H', Q (.bl true) H'
theorem ok_law {Ps : List Addr} {f fX fA fW fB fT fC : Addr} {fd fdX fdA fdW fdB fdT fdC : FuncData} (F : FnP K "law" sLaw f fd)
    (GX : FnOk P w K mg base (L2.CX P w) 4 fX fdX ["_law_script"] (spTexts K)) (kX : PySem.W.keepIn K (.ref fX) = true) (bX : Binds K fdX ["_law_script"] []) (gX : mg "_law_texts" = some (.ref fX))
    (GA : FnOk P w K mg base (L2.CX P w) 7 fA fdA ["old", "new"] (spApart K Ps)) (kA : PySem.W.keepIn K (.ref fA) = true) (bA : Binds K fdA ["old", "new"] []) (gA : mg "apart" = some (.ref fA))
    (GW : FnOk P w K mg base (L2.CX P w) 1 fW fdW ["_law_found"] spWhole) (kW : PySem.W.keepIn K (.ref fW) = true) (bW : Binds K fdW ["_law_found"] []) (gW : mg "_law_whole" = some (.ref fW))
    (GB : FnOk P w K mg base (L2.CX P w) 1 fB fdB ["_law_one", "_law_other", "_law_far"] (spBounds K)) (kB : PySem.W.keepIn K (.ref fB) = true) (bB : Binds K fdB ["_law_one", "_law_other", "_law_far"] []) (gB : mg "_law_bounds" = some (.ref fB))
    (GT : FnOk P w K mg base (L2.CX P w) 8 fT fdT ["old", "new"] (spTold K Ps)) (kT : PySem.W.keepIn K (.ref fT) = true) (bT : Binds K fdT ["old", "new"] []) (gT : mg "told" = some (.ref fT))
    (GC : FnOk P w K mg base (L2.CX P w) 8 fC fdC ["rows"] (spCost K Ps)) (kC : PySem.W.keepIn K (.ref fC) = true) (bC : Binds K fdC ["rows"] []) (gC : mg "cost" = some (.ref fC))
    (mT : mg "list" = none) (mR : mg "range" = none) : FnOk P w K mg base (L2.CX P w) 9 f fd ["_law_script"] (spLaw K Ps) := by
  refine F.ok scLaw (fun vs H Q E h => ?_) (fun cdv A outer s H vs Q E hr h => ?_)
  · obtain ⟨a, ns, rfl, _⟩ := h
    rfl
  · obtain ⟨a, ns, rfl, hS, ht, q⟩ := h
    have r4 : Room 4 (A.deeper (envOfC "law" (defScope sLaw) s.heap.objs.size f cdv)) := hr.mono (by decide)
    have r7 : Room 7 (A.deeper (envOfC "law" (defScope sLaw) s.heap.objs.size f cdv)) := hr.mono (by decide)
    have r1 : Room 1 (A.deeper (envOfC "law" (defScope sLaw) s.heap.objs.size f cdv)) := hr.mono (by decide)
    refine ⟨_, pss_cons (ps_set (i := 1) scLaw.nd rfl (.inl rfl) (pe_call GX r4 (by rfl) gX kX bX .nil passL (pa_cons (pv 0) pa_nil)))
      (pss_cons (ps_set (i := 2) scLaw.nd rfl (.inl rfl) (pe_lst pa_nil))
      (pss_cons (ps_for (passes_of rfl) rfl (pi_range1 (by rfl) mR (pa_cons pe_int pa_nil)) (pg_name (i := 3) scLaw.nd rfl (.inl rfl))
        (pss_cons (ps_set (i := 4) scLaw.nd rfl (.inl rfl) (pe_ix ix_list (pv 1) (pv 3) (fun _ _ => rfl)))
        (pss_cons (ps_set (i := 5) scLaw.nd rfl (.inl rfl) (pe_ix ix_list (pv 1) (pe_op op_mod (pe_op op_add (pv 3) pe_int) pe_int) (fun _ _ => rfl)))
        (pss_cons (ps_set (i := 6) scLaw.nd rfl (.inl rfl) (pe_call GA r7 (by rfl) gA kA bA .nil passL (pa_cons (pe_callTy call_list_of (by rfl) mT (by decide +kernel) (pa_cons (pv 4) pa_nil)) (pa_cons (pe_callTy call_list_of (by rfl) mT (by decide +kernel) (pa_cons (pv 5) pa_nil)) pa_nil))))
        (pss_cons (ps_if (PW.pt (pw_or (pt_not (pt_val (pe_call GW r1 (by rfl) gW kW bW .nil passL (pa_cons (pv 6) pa_nil)))) (pw_or (pt_cmpR op_ne (pv 6) (pe_call GA r7 (by rfl) gA kA bA .nil passL (pa_cons (pe_callTy call_list_of (by rfl) mT (by decide +kernel) (pa_cons (pv 5) pa_nil)) (pa_cons (pe_callTy call_list_of (by rfl) mT (by decide +kernel) (pa_cons (pv 4) pa_nil)) pa_nil))) (by rfl))
            (pw_or1 (pt_not (pt_val (pe_call GB r1 (by rfl) gB kB bB .nil passL (pa_cons (pv 4) (pa_cons (pv 5) (pa_cons (pv 6) pa_nil)))))))))) pss_never pss_nil)
        (pss_cons (ps_if (pt_cmpR op_ne (pe_call GC hr (by rfl) gC kC bC .nil passL (pa_cons (pe_call GT hr (by rfl) gT kT bT .nil passL (pa_cons (pe_callTy call_list_of (by rfl) mT (by decide +kernel) (pa_cons (pv 4) pa_nil)) (pa_cons (pe_callTy call_list_of (by rfl) mT (by decide +kernel) (pa_cons (pv 5) pa_nil)) pa_nil))) pa_nil)) (pv 6) (by rfl)) pss_never pss_nil)
        (pss_one (ps_expr (pe_bm PySem.F.plainAttrs_list PySem.F.slot_list_append PySem.F.type_list_append mt_append (pv 2) (pa_cons (pv 6) pa_nil))))))))))
      (pss_one (ps_ret (pe_and (pe_cmpR op_le (pe_ix ix_list (pv 2) pe_int (fun _ _ => rfl)) (pe_op op_add (pe_ix ix_list (pv 2) pe_int (fun _ _ => rfl)) (pe_ix ix_list (pv 2) pe_int (fun _ _ => rfl))) (by rfl))
        (pe_and (pe_cmpR op_le (pe_ix ix_list (pv 2) pe_int (fun _ _ => rfl)) (pe_op op_add (pe_ix ix_list (pv 2) pe_int (fun _ _ => rfl)) (pe_ix ix_list (pv 2) pe_int (fun _ _ => rfl))) (by rfl))
        (pe_one (pe_cmpR op_le (pe_ix ix_list (pv 2) pe_int (fun _ _ => rfl)) (pe_op op_add (pe_ix ix_list (pv 2) pe_int (fun _ _ => rfl)) (pe_ix ix_list (pv 2) pe_int (fun _ _ => rfl))) (by rfl))))))))), ?_⟩
    refine ⟨_, rfl, a, ns, rfl, hS, fun H1 D s1 X => ?_⟩
    have t1 := ht.same s1
    obtain ⟨as, x1, x2, x3⟩ := X
    obtain ⟨tx, htx⟩ : ∃ tx : Nat → List Str, ∀ (j : Nat) (a : Addr), as[j]? = some a → H1 a = some (.lst ((tx j).map V.str)) ∧ (∀ x ∈ tx j, wordB x = true) ∧ (tx j).length ≤ 30 := by
      have each : ∀ j : Nat, ∃ ws : List Str, ∀ a : Addr, as[j]? = some a → H1 a = some (.lst (ws.map V.str)) ∧ (∀ x ∈ ws, wordB x = true) ∧ ws.length ≤ 30 := fun j => by
        cases e : as[j]? with
        | none => exact ⟨[], fun a ha => by cases ha⟩
        | some a =>
          obtain ⟨ws, h⟩ := x3 j a e
          exact ⟨ws, fun b hb => by
            rw [← Option.some.inj hb]
            exact h⟩
      obtain ⟨tx, htx⟩ := Classical.axiomOfChoice each
      exact ⟨tx, htx⟩
    refine ⟨by show 0 ≤ sizeLine; decide, fun F0 nF => ?_⟩
    have kF : Kp Ps H1 (upd H1 F0 (.lst [])) := Kp.same t1 (same_upd nF)
    refine ⟨3, rfl, by decide, by decide, ?_⟩
    refine for_range (lo := 0) (n := 3) (fun j σ' H' => ∃ y3 y4 y5 y6, σ' = [some (.ref a), some (.ref D), some (.ref F0), y3, y4, y5, y6] ∧ Kp Ps H1 H' ∧ H' F0 = some (.lst ((List.range j).map fun i => V.int (dist (tx i) (tx ((i + 1) % 3)) : Nat)))) ⟨none, none, none, none, rfl, kF, upd_same⟩ (fun j σ' H' hj hp => ?_) (fun σ' H' hp => ?_)
    · obtain ⟨y3, y4, y5, y6, rfl, kp, hF⟩ := hp
      have zj : (0 + (j : Int)) = ((j : Nat) : Int) := by omega
      have zj1 : ((0 + (j : Int)) + 1) % 3 = (((j + 1) % 3 : Nat) : Int) := by omega
      have hja : j < as.length := by omega
      have hjb : (j + 1) % 3 < as.length := by omega
      have ha := List.getElem?_eq_getElem hja
      have hb := List.getElem?_eq_getElem hjb
      obtain ⟨a1, a2, a3⟩ := htx j _ ha
      obtain ⟨b1, b2, b3⟩ := htx _ _ hb
      have D' : SqL K H' D (as.map V.ref) := kp.seq t1 (.inl (.inl x1))
      refine ⟨_, rfl, _, rfl, D, _, _, .ref as[j], rfl, rfl, D', by rw [zj]; exact atI_nat (by rw [List.getElem?_map, ha]; rfl), ?_⟩
      refine ⟨_, rfl, _, rfl, _, _, rfl, rfl, _, _, rfl, rfl, (by show (0 : Int) < 3; decide), D, _, _, .ref as[(j + 1) % 3], rfl, rfl, D', by rw [zj1]; exact atI_nat (by rw [List.getElem?_map, hb]; rfl), ?_⟩
      generalize as[j] = aj at a1 ha ⊢
      generalize as[(j + 1) % 3] = bj at b1 hb ⊢
      have A' := fun (H2 : Hp) (k : Kp Ps H1 H2) => (k.seq t1 (.inl (.inl a1)) : SqL K H2 aj ((tx j).map V.str))
      have B' := fun (H2 : Hp) (k : Kp Ps H1 H2) => (k.seq t1 (.inl (.inl b1)) : SqL K H2 bj ((tx ((j + 1) % 3)).map V.str))
      -- found
      refine ⟨_, rfl, aj, _, rfl, .inl (A' _ kp), fun p1 n1 => ?_⟩
      have k2 := kp.trans (Kp.same kp.1 (same_upd n1 (o := .lst ((tx j).map V.str))))
      refine ⟨_, rfl, bj, _, rfl, .inl (B' _ k2), fun p2 n2 => ?_⟩
      have u2 := same_upd n2 (o := .lst ((tx ((j + 1) % 3)).map V.str))
      have k3 := k2.trans (Kp.same k2.1 u2)
      refine ⟨p1, p2, tx j, tx ((j + 1) % 3), rfl, .inl (.inl (u2 _ _ upd_same)), .inl (.inl upd_same), a2, b2, by omega, by omega, k3.1, fun H4 kk4 => ?_⟩
      have k4 := k3.trans kk4
      have hF4 := kk4.2 F0 _ (k3.1.notin (u2 _ _ (same_upd n1 _ _ hF)) fun ps z => by cases z) (u2 _ _ (same_upd n1 _ _ hF))
      refine ⟨_, rfl, _, rfl, true, rfl, iteF ?_⟩
      refine ⟨_, rfl, _, rfl, bj, _, rfl, .inl (B' _ k4), fun p3 n3 => ?_⟩
      have u3 := same_upd n3 (o := .lst ((tx ((j + 1) % 3)).map V.str))
      have k5 := k4.trans (Kp.same k4.1 u3)
      refine ⟨_, rfl, aj, _, rfl, .inl (A' _ k5), fun p4 n4 => ?_⟩
      have u4 := same_upd n4 (o := .lst ((tx j).map V.str))
      have k6 := k5.trans (Kp.same k5.1 u4)
      refine ⟨p3, p4, tx ((j + 1) % 3), tx j, rfl, .inl (.inl (u4 _ _ upd_same)), .inl (.inl upd_same), b2, a2, by omega, by omega, k6.1, fun H7 kk7 => ?_⟩
      have k7 := k6.trans kk7
      have hF7 := kk7.2 F0 _ (k6.1.notin (u4 _ _ (u3 _ _ hF4)) fun ps z => by cases z) (u4 _ _ (u3 _ _ hF4))
      refine ⟨rfl, _, rfl, ?_⟩
      rw [dist_comm (tx ((j + 1) % 3)) (tx j)]
      show if (!decide (V.int (dist (tx j) (tx ((j + 1) % 3)) : Nat) = V.int (dist (tx j) (tx ((j + 1) % 3)) : Nat))) = true then _ else _
      rw [decide_eq_true rfl]
      refine iteF ⟨_, rfl, _, rfl, _, rfl, aj, bj, tx j, tx ((j + 1) % 3), rfl, A' _ k7, B' _ k7, a2, b2, true, rfl, iteF ?_⟩
      -- the cost of the told one
      refine ⟨_, rfl, aj, _, rfl, .inl (A' _ k7), fun p5 n5 => ?_⟩
      have u5 := same_upd n5 (o := .lst ((tx j).map V.str))
      have k8 := k7.trans (Kp.same k7.1 u5)
      refine ⟨_, rfl, bj, _, rfl, .inl (B' _ k8), fun p6 n6 => ?_⟩
      have u6 := same_upd n6 (o := .lst ((tx ((j + 1) % 3)).map V.str))
      have k9 := k8.trans (Kp.same k8.1 u6)
      refine ⟨p5, p6, tx j, tx ((j + 1) % 3), rfl, .inl (.inl (u6 _ _ upd_same)), .inl (.inl upd_same), a2, b2, by omega, by omega, k9.1, fun H10 R ys kk10 nR hR hX => ?_⟩
      have k10 := k9.trans kk10
      have hF10 := kk10.2 F0 _ (k9.1.notin (u6 _ _ (u5 _ _ hF7)) fun ps z => by cases z) (u6 _ _ (u5 _ _ hF7))
      refine ⟨R, ys, _, rfl, .inl (.inl hR), hX, fun r hr => (told_ok a2 b2 r hr).1, k10.1, fun H11 kk11 => ?_⟩
      have k11 := k10.trans kk11
      have hF11 := kk11.2 F0 _ (k10.1.notin hF10 fun ps z => by cases z) hF10
      refine ⟨_, rfl, rfl, _, rfl, ?_⟩
      rw [told_cost a2 b2]
      show if (!decide (V.int (dist (tx j) (tx ((j + 1) % 3)) : Nat) = V.int (dist (tx j) (tx ((j + 1) % 3)) : Nat))) = true then _ else _
      rw [decide_eq_true rfl]
      refine iteF ⟨_, rfl, .inl ⟨rfl, _, .inl (.inl hF11)⟩, _, rfl, F0, _, _, rfl, rfl, hF11, ?_, ?_⟩
      · rw [List.length_map, List.length_range]
        exact Nat.lt_of_lt_of_le (show j < 1000 by omega) (by decide)
      · refine ⟨_, _, _, _, rfl, Kp.set t1 k11 nF, ?_⟩
        rw [upd_same, List.range_succ, List.map_append]
        rfl
    · obtain ⟨y3, y4, y5, y6, rfl, kp, hF⟩ := hp
      have i0 : ((List.range 3).map fun i => V.int (dist (tx i) (tx ((i + 1) % 3)) : Nat))[0]? = some (.int (dist (tx 0) (tx 1) : Nat)) := rfl
      have i1 : ((List.range 3).map fun i => V.int (dist (tx i) (tx ((i + 1) % 3)) : Nat))[1]? = some (.int (dist (tx 1) (tx 2) : Nat)) := rfl
      have i2 : ((List.range 3).map fun i => V.int (dist (tx i) (tx ((i + 1) % 3)) : Nat))[2]? = some (.int (dist (tx 2) (tx 0) : Nat)) := rfl
      have t01 := dist_tri (tx 0) (tx 2) (tx 1)
      have t12 := dist_tri (tx 1) (tx 0) (tx 2)
      have t20 := dist_tri (tx 2) (tx 1) (tx 0)
      have c01 := dist_comm (tx 0) (tx 1)
      have c12 := dist_comm (tx 1) (tx 2)
      have c20 := dist_comm (tx 2) (tx 0)
      have F' : SqL K H' F0 ((List.range 3).map fun i => V.int (dist (tx i) (tx ((i + 1) % 3)) : Nat)) := .inl (.inl hF)
      refine ⟨_, rfl, F0, _, _, _, rfl, rfl, F', at_of (j := 0) rfl i0, _, rfl, F0, _, _, _, rfl, rfl, F', at_of (j := 1) rfl i1, _, rfl, F0, _, _, _, rfl, rfl, F', at_of (j := 2) rfl i2, _, _, rfl, rfl, _, _, rfl, rfl, _, rfl, ?_⟩
      rw [decide_eq_true (show ((dist (tx 0) (tx 1) : Nat) : Int) ≤ ((dist (tx 1) (tx 2) : Nat) : Int) + ((dist (tx 2) (tx 0) : Nat) : Int) by omega)]
      refine iteT ⟨_, rfl, F0, _, _, _, rfl, rfl, F', at_of (j := 1) rfl i1, _, rfl, F0, _, _, _, rfl, rfl, F', at_of (j := 0) rfl i0, _, rfl, F0, _, _, _, rfl, rfl, F', at_of (j := 2) rfl i2, _, _, rfl, rfl, _, _, rfl, rfl, _, rfl, ?_⟩
      rw [decide_eq_true (show ((dist (tx 1) (tx 2) : Nat) : Int) ≤ ((dist (tx 0) (tx 1) : Nat) : Int) + ((dist (tx 2) (tx 0) : Nat) : Int) by omega)]
      refine iteT ⟨_, rfl, F0, _, _, _, rfl, rfl, F', at_of (j := 2) rfl i2, _, rfl, F0, _, _, _, rfl, rfl, F', at_of (j := 0) rfl i0, _, rfl, F0, _, _, _, rfl, rfl, F', at_of (j := 1) rfl i1, _, _, rfl, rfl, _, _, rfl, rfl, ?_⟩
      show Q (.bl (decide (((dist (tx 2) (tx 0) : Nat) : Int) ≤ ((dist (tx 0) (tx 1) : Nat) : Int) + ((dist (tx 1) (tx 2) : Nat) : Int)))) H'
      rw [decide_eq_true (show ((dist (tx 2) (tx 0) : Nat) : Int) ≤ ((dist (tx 0) (tx 1) : Nat) : Int) + ((dist (tx 1) (tx 2) : Nat) : Int) by omega)]
      exact q H'
end
/-! ### the head: facts by names, the run -/
def dd (x : Str) (i : Nat) : He.DefD := ⟨(x, none), x, x, defArgs (top i), defBody (top i), defScope (top i), [], []⟩
def fn : List He.DefD := [dd "is_sign" 8, dd "is_word" 9, dd "check_words" 10, dd "check_length" 11, dd "check_text" 12, dd "is_number" 20, dd "is_row_of_words" 21, dd "is_row" 22, dd "check_rows" 23, dd "cost" 24, dd "table" 26, dd "least_cost" 27, dd "apart" 28, dd "next_kind" 29, dd "steps_between" 30, dd "stretches_of" 31, dd "told" 32, dd "_law_cell_at" 34, dd "_law_sign_by" 35, dd "_law_word_by" 36, dd "_law_near" 37, dd "_law_menu" 38, dd "_law_whole" 39, dd "_law_texts" 40, dd "_law_bounds" 41, dd "law" 42]
def fa : List He.Fa := [.glo "is_sign",
  .glo "is_word",
  .glo "check_words",
  .glo "check_length",
  .glo "check_text",
  .glo "is_number",
  .glo "is_row_of_words",
  .glo "is_row",
  .glo "check_rows",
  .glo "cost",
  .glo "table",
  .glo "least_cost",
  .glo "apart",
  .glo "next_kind",
  .glo "steps_between",
  .glo "stretches_of",
  .glo "told",
  .glo "_law_cell_at",
  .glo "_law_sign_by",
  .glo "_law_word_by",
  .glo "_law_near",
  .glo "_law_menu",
  .glo "_law_whole",
  .glo "_law_texts",
  .glo "_law_bounds",
  .glo "law",
  .int "LONGEST" 40,
  .int "MOST" 120,
  .int "PRICE" 3,
  .int "LAST_BLOCK" 999999999,
  .free "isinstance",
  .free "str",
  .free "all",
  .free "len",
  .free "enumerate",
  .free "list",
  .free "bool",
  .free "int",
  .free "tuple",
  .free "range",
  .free "min",
  .free "reversed",
  .free "max",
  .glo "PLAIN_KINDS",
  .glo "BLOCK_KINDS",
  .glo "OLD_KINDS",
  .glo "NEW_KINDS"]
def tf : List He.Defn := [("is_word", none), ("is_row_of_words", none)]
def ts : List He.Tab := []
def ex (K : PySem.W.Frag) : Bool := tupB K (He.ga K "PLAIN_KINDS") plainK && tupB K (He.ga K "BLOCK_KINDS") blockK && tupB K (He.ga K "OLD_KINDS") oldK && tupB K (He.ga K "NEW_KINDS") newK
abbrev R : PySem.W.OpenRow := PySem.W.OpenLaw.row PySem.Challenge.rw_redraft_k14_whole_far_and_near
abbrev hk : PySem.W.Hook := He.hookX 4 fa fn ts tf ex
def ob (s : PySem.W.SharedT) : He.AlX := He.obsX 4 fa fn ts tf ex (HandSHeadRun.getT s)
theorem ob_eq (s : PySem.W.SharedT) : ob s = hk.obs s.abs := He.obsX_eq (HandSHeadRun.getT_eq s)
abbrev loose0 : List Str := ["RedraftError", "NoWord", "TooLong", "NoRow", "is_sign", "is_word", "check_words", "check_length", "check_text", "is_number", "is_row_of_words", "is_row", "check_rows", "cost", "table", "least_cost", "apart", "next_kind", "steps_between", "stretches_of", "told", "_law_cell_at", "_law_sign_by", "_law_word_by", "_law_near", "_law_menu", "_law_whole", "_law_texts", "_law_bounds", "LONGEST"]
abbrev loose1 : List Str := ["MOST", "PRICE", "LAST_BLOCK", "PLAIN_KINDS", "BLOCK_KINDS", "OLD_KINDS", "NEW_KINDS"]
abbrev loose : List Str := loose0 ++ loose1
theorem run (w : World) : HandSHeadRun.RunEq R (PySem.W.view R.prog [42]) hk ob 4000 loose w := by
  intro os
  kernel_rfl
theorem facts {w : World} {h : Heap} {K : PySem.W.Frag} {mg : Str → Option Value} {f : Addr} (X : K.In h) (G : h.Ns mainGlobals mg) (hfa : mg ("law" : Str) = some (.ref f)) (c : He.SaysX fa fn ts tf ex w h K) :
    LamX.LawAtS PySem.Challenge.rw_redraft_k14_whole_far_and_near w K (L2.CX PySem.Challenge.rw_redraft_k14_whole_far_and_near.prog w) 9 63 "_law_script" mg f h := by
  have d := c.t.d
  obtain ⟨d_is_sign, F_is_sign⟩ := d.def_ 0 (d := dd "is_sign" 8) rfl
  obtain ⟨d_is_word, F_is_word⟩ := d.def_ 1 (d := dd "is_word" 9) rfl
  obtain ⟨d_check_words, F_check_words⟩ := d.def_ 2 (d := dd "check_words" 10) rfl
  obtain ⟨d_check_length, F_check_length⟩ := d.def_ 3 (d := dd "check_length" 11) rfl
  obtain ⟨d_check_text, F_check_text⟩ := d.def_ 4 (d := dd "check_text" 12) rfl
  obtain ⟨d_is_number, F_is_number⟩ := d.def_ 5 (d := dd "is_number" 20) rfl
  obtain ⟨d_is_row_of_words, F_is_row_of_words⟩ := d.def_ 6 (d := dd "is_row_of_words" 21) rfl
  obtain ⟨d_is_row, F_is_row⟩ := d.def_ 7 (d := dd "is_row" 22) rfl
  obtain ⟨d_check_rows, F_check_rows⟩ := d.def_ 8 (d := dd "check_rows" 23) rfl
  obtain ⟨d_cost, F_cost⟩ := d.def_ 9 (d := dd "cost" 24) rfl
  obtain ⟨d_table, F_table⟩ := d.def_ 10 (d := dd "table" 26) rfl
  obtain ⟨d_least_cost, F_least_cost⟩ := d.def_ 11 (d := dd "least_cost" 27) rfl
  obtain ⟨d_apart, F_apart⟩ := d.def_ 12 (d := dd "apart" 28) rfl
  obtain ⟨d_next_kind, F_next_kind⟩ := d.def_ 13 (d := dd "next_kind" 29) rfl
  obtain ⟨d_steps_between, F_steps_between⟩ := d.def_ 14 (d := dd "steps_between" 30) rfl
  obtain ⟨d_stretches_of, F_stretches_of⟩ := d.def_ 15 (d := dd "stretches_of" 31) rfl
  obtain ⟨d_told, F_told⟩ := d.def_ 16 (d := dd "told" 32) rfl
  obtain ⟨d__law_cell_at, F__law_cell_at⟩ := d.def_ 17 (d := dd "_law_cell_at" 34) rfl
  obtain ⟨d__law_sign_by, F__law_sign_by⟩ := d.def_ 18 (d := dd "_law_sign_by" 35) rfl
  obtain ⟨d__law_word_by, F__law_word_by⟩ := d.def_ 19 (d := dd "_law_word_by" 36) rfl
  obtain ⟨d__law_near, F__law_near⟩ := d.def_ 20 (d := dd "_law_near" 37) rfl
  obtain ⟨d__law_menu, F__law_menu⟩ := d.def_ 21 (d := dd "_law_menu" 38) rfl
  obtain ⟨d__law_whole, F__law_whole⟩ := d.def_ 22 (d := dd "_law_whole" 39) rfl
  obtain ⟨d__law_texts, F__law_texts⟩ := d.def_ 23 (d := dd "_law_texts" 40) rfl
  obtain ⟨d__law_bounds, F__law_bounds⟩ := d.def_ 24 (d := dd "_law_bounds" 41) rfl
  obtain ⟨d_law, F_law⟩ := d.def_ 25 (d := dd "law" 42) rfl
  have e := hfa.symm.trans (He.glo_ok X G (d.fact 25 (f := .glo "law") rfl))
  cases e
  have g_is_sign := He.glo_ok X G (d.fact 0 (f := .glo "is_sign") rfl)
  have g_is_word := He.glo_ok X G (d.fact 1 (f := .glo "is_word") rfl)
  have g_check_words := He.glo_ok X G (d.fact 2 (f := .glo "check_words") rfl)
  have g_check_length := He.glo_ok X G (d.fact 3 (f := .glo "check_length") rfl)
  have g_check_text := He.glo_ok X G (d.fact 4 (f := .glo "check_text") rfl)
  have g_is_number := He.glo_ok X G (d.fact 5 (f := .glo "is_number") rfl)
  have g_is_row_of_words := He.glo_ok X G (d.fact 6 (f := .glo "is_row_of_words") rfl)
  have g_is_row := He.glo_ok X G (d.fact 7 (f := .glo "is_row") rfl)
  have g_check_rows := He.glo_ok X G (d.fact 8 (f := .glo "check_rows") rfl)
  have g_cost := He.glo_ok X G (d.fact 9 (f := .glo "cost") rfl)
  have g_table := He.glo_ok X G (d.fact 10 (f := .glo "table") rfl)
  have g_least_cost := He.glo_ok X G (d.fact 11 (f := .glo "least_cost") rfl)
  have g_apart := He.glo_ok X G (d.fact 12 (f := .glo "apart") rfl)
  have g_next_kind := He.glo_ok X G (d.fact 13 (f := .glo "next_kind") rfl)
  have g_steps_between := He.glo_ok X G (d.fact 14 (f := .glo "steps_between") rfl)
  have g_stretches_of := He.glo_ok X G (d.fact 15 (f := .glo "stretches_of") rfl)
  have g_told := He.glo_ok X G (d.fact 16 (f := .glo "told") rfl)
  have g__law_cell_at := He.glo_ok X G (d.fact 17 (f := .glo "_law_cell_at") rfl)
  have g__law_sign_by := He.glo_ok X G (d.fact 18 (f := .glo "_law_sign_by") rfl)
  have g__law_word_by := He.glo_ok X G (d.fact 19 (f := .glo "_law_word_by") rfl)
  have g__law_near := He.glo_ok X G (d.fact 20 (f := .glo "_law_near") rfl)
  have g__law_menu := He.glo_ok X G (d.fact 21 (f := .glo "_law_menu") rfl)
  have g__law_whole := He.glo_ok X G (d.fact 22 (f := .glo "_law_whole") rfl)
  have g__law_texts := He.glo_ok X G (d.fact 23 (f := .glo "_law_texts") rfl)
  have g__law_bounds := He.glo_ok X G (d.fact 24 (f := .glo "_law_bounds") rfl)
  obtain ⟨t_LONGEST, m_LONGEST⟩ := He.int_ok X G (d.fact 26 (f := .int "LONGEST" 40) rfl)
  obtain ⟨t_MOST, m_MOST⟩ := He.int_ok X G (d.fact 27 (f := .int "MOST" 120) rfl)
  obtain ⟨t_PRICE, m_PRICE⟩ := He.int_ok X G (d.fact 28 (f := .int "PRICE" 3) rfl)
  obtain ⟨t_LAST_BLOCK, m_LAST_BLOCK⟩ := He.int_ok X G (d.fact 29 (f := .int "LAST_BLOCK" 999999999) rfl)
  have m_isinstance := He.free_ok X G (d.fact 30 (f := .free "isinstance") rfl)
  have m_str := He.free_ok X G (d.fact 31 (f := .free "str") rfl)
  have m_all := He.free_ok X G (d.fact 32 (f := .free "all") rfl)
  have m_len := He.free_ok X G (d.fact 33 (f := .free "len") rfl)
  have m_enumerate := He.free_ok X G (d.fact 34 (f := .free "enumerate") rfl)
  have m_list := He.free_ok X G (d.fact 35 (f := .free "list") rfl)
  have m_bool := He.free_ok X G (d.fact 36 (f := .free "bool") rfl)
  have m_int := He.free_ok X G (d.fact 37 (f := .free "int") rfl)
  have m_tuple := He.free_ok X G (d.fact 38 (f := .free "tuple") rfl)
  have m_range := He.free_ok X G (d.fact 39 (f := .free "range") rfl)
  have m_min := He.free_ok X G (d.fact 40 (f := .free "min") rfl)
  have m_reversed := He.free_ok X G (d.fact 41 (f := .free "reversed") rfl)
  have m_max := He.free_ok X G (d.fact 42 (f := .free "max") rfl)
  have m_PLAIN_KINDS := He.glo_ok X G (d.fact 43 (f := .glo "PLAIN_KINDS") rfl)
  have m_BLOCK_KINDS := He.glo_ok X G (d.fact 44 (f := .glo "BLOCK_KINDS") rfl)
  have m_OLD_KINDS := He.glo_ok X G (d.fact 45 (f := .glo "OLD_KINDS") rfl)
  have m_NEW_KINDS := He.glo_ok X G (d.fact 46 (f := .glo "NEW_KINDS") rfl)
  have more := c.more
  unfold ex at more
  simp only [Bool.and_eq_true] at more
  obtain ⟨⟨⟨x_PLAIN_KINDS, x_BLOCK_KINDS⟩, x_OLD_KINDS⟩, x_NEW_KINDS⟩ := more
  have k_PLAIN_KINDS := tupB_ok x_PLAIN_KINDS
  have k_BLOCK_KINDS := tupB_ok x_BLOCK_KINDS
  have k_OLD_KINDS := tupB_ok x_OLD_KINDS
  have k_NEW_KINDS := tupB_ok x_NEW_KINDS
  have b_is_sign : Binds K d_is_sign ["sign"] [] := F_is_sign.bindsN fun _ _ _ _ _ _ us hl => match us, hl with | [_], _ => rfl
  have b_is_word : Binds K d_is_word ["word"] [] := F_is_word.bindsN fun _ _ _ _ _ _ us hl => match us, hl with | [_], _ => rfl
  have b_check_words : Binds K d_check_words ["words"] [] := F_check_words.bindsN fun _ _ _ _ _ _ us hl => match us, hl with | [_], _ => rfl
  have b_check_length : Binds K d_check_length ["words"] [] := F_check_length.bindsN fun _ _ _ _ _ _ us hl => match us, hl with | [_], _ => rfl
  have b_check_text : Binds K d_check_text ["words"] [] := F_check_text.bindsN fun _ _ _ _ _ _ us hl => match us, hl with | [_], _ => rfl
  have b_is_number : Binds K d_is_number ["kind", "number"] [] := F_is_number.bindsN fun _ _ _ _ _ _ us hl => match us, hl with | [_, _], _ => rfl
  have b_is_row_of_words : Binds K d_is_row_of_words ["words"] [] := F_is_row_of_words.bindsN fun _ _ _ _ _ _ us hl => match us, hl with | [_], _ => rfl
  have b_is_row : Binds K d_is_row ["row"] [] := F_is_row.bindsN fun _ _ _ _ _ _ us hl => match us, hl with | [_], _ => rfl
  have b_check_rows : Binds K d_check_rows ["rows"] [] := F_check_rows.bindsN fun _ _ _ _ _ _ us hl => match us, hl with | [_], _ => rfl
  have b_cost : Binds K d_cost ["rows"] [] := F_cost.bindsN fun _ _ _ _ _ _ us hl => match us, hl with | [_], _ => rfl
  have b_table : Binds K d_table ["old", "new"] [] := F_table.bindsN fun _ _ _ _ _ _ us hl => match us, hl with | [_, _], _ => rfl
  have b_least_cost : Binds K d_least_cost ["costs", "old", "new", "i", "k"] [] := F_least_cost.bindsN fun _ _ _ _ _ _ us hl => match us, hl with | [_, _, _, _, _], _ => rfl
  have b_apart : Binds K d_apart ["old", "new"] [] := F_apart.bindsN fun _ _ _ _ _ _ us hl => match us, hl with | [_, _], _ => rfl
  have b_next_kind : Binds K d_next_kind ["costs", "old", "new", "i", "k"] [] := F_next_kind.bindsN fun _ _ _ _ _ _ us hl => match us, hl with | [_, _, _, _, _], _ => rfl
  have b_steps_between : Binds K d_steps_between ["old", "new"] [] := F_steps_between.bindsN fun _ _ _ _ _ _ us hl => match us, hl with | [_, _], _ => rfl
  have b_stretches_of : Binds K d_stretches_of ["steps"] [] := F_stretches_of.bindsN fun _ _ _ _ _ _ us hl => match us, hl with | [_], _ => rfl
  have b_told : Binds K d_told ["old", "new"] [] := F_told.bindsN fun _ _ _ _ _ _ us hl => match us, hl with | [_, _], _ => rfl
  have b__law_cell_at : Binds K d__law_cell_at ["_law_script", "_law_k"] [] := F__law_cell_at.bindsN fun _ _ _ _ _ _ us hl => match us, hl with | [_, _], _ => rfl
  have b__law_sign_by : Binds K d__law_sign_by ["_law_cell"] [] := F__law_sign_by.bindsN fun _ _ _ _ _ _ us hl => match us, hl with | [_], _ => rfl
  have b__law_word_by : Binds K d__law_word_by ["_law_cell"] [] := F__law_word_by.bindsN fun _ _ _ _ _ _ us hl => match us, hl with | [_], _ => rfl
  have b__law_near : Binds K d__law_near ["_law_word", "_law_cell"] [] := F__law_near.bindsN fun _ _ _ _ _ _ us hl => match us, hl with | [_, _], _ => rfl
  have b__law_menu : Binds K d__law_menu ["_law_script"] [] := F__law_menu.bindsN fun _ _ _ _ _ _ us hl => match us, hl with | [_], _ => rfl
  have b__law_whole : Binds K d__law_whole ["_law_found"] [] := F__law_whole.bindsN fun _ _ _ _ _ _ us hl => match us, hl with | [_], _ => rfl
  have b__law_texts : Binds K d__law_texts ["_law_script"] [] := F__law_texts.bindsN fun _ _ _ _ _ _ us hl => match us, hl with | [_], _ => rfl
  have b__law_bounds : Binds K d__law_bounds ["_law_one", "_law_other", "_law_far"] [] := F__law_bounds.bindsN fun _ _ _ _ _ _ us hl => match us, hl with | [_, _, _], _ => rfl
  have bL := FunD.bindsA (ps := ["_law_script"]) F_law fun _ _ _ _ _ _ us hl => match us, hl with | [_], _ => rfl
  have TT : ∀ q ∈ tf, (He.cT K q).2 ∈ tf.map fun q => (He.cT K q).2 := fun q hq => List.mem_map_of_mem (f := fun q => (He.cT K q).2) hq
  refine ⟨d_law, tf.map (He.cT K), spLaw K (tf.map fun q => (He.cT K q).2), fun p hp => ?_, fun p hp => ?_, fun p hp => ?_, fun s u => bL s [u] rfl, fun H a ns hl _ hT hS => ⟨a, ns, rfl, hS, fun P hP => ?_, fun _ => rfl⟩, fun base KB GB TBs => ?_⟩
  · obtain ⟨q, hq, rfl⟩ := List.mem_map.mp hp
    exact c.empty q hq
  · obtain ⟨q, hq, rfl⟩ := List.mem_map.mp hp
    exact c.out q hq
  · obtain ⟨q, hq, rfl⟩ := List.mem_map.mp hp
    exact PySem.W.codeHd_of_K X (c.hd q hq)
  · obtain ⟨q, hq, rfl⟩ := List.mem_map.mp hP
    exact ⟨#[], hT _ (List.mem_map_of_mem hq), trivial⟩
  · have TB : ∀ q ∈ tf, GxR.TabB base mg (He.codeOf K q) (He.cT K q).2 := fun q hq => by
      have tb := TBs _ (List.mem_map_of_mem (f := He.cT K) hq)
      exact ⟨tb.code, tb.bm, tb.gP⟩
    have q_is_word : (("is_word", none) : He.Defn) ∈ tf := by unfold tf; simp
    have q_is_row_of_words : (("is_row_of_words", none) : He.Defn) ∈ tf := by unfold tf; simp
    have GW := ok_is_word (P := PySem.Challenge.rw_redraft_k14_whole_far_and_near.prog) (w := w) (mg := mg) (base := base) F_is_word rfl (TT _ q_is_word) (TB _ q_is_word) F_is_sign b_is_sign g_is_sign m_isinstance m_str m_len m_all m_LONGEST
    have GCW := ok_check_words F_check_words GW F_is_word.kp b_is_word g_is_word m_isinstance m_list m_enumerate
    have GCL := ok_check_length (P := PySem.Challenge.rw_redraft_k14_whole_far_and_near.prog) (w := w) (mg := mg) (base := base) F_check_length m_len m_MOST
    have GCT := ok_check_text F_check_text GCW F_check_words.kp b_check_words g_check_words GCL F_check_length.kp b_check_length g_check_length
    have GN := ok_is_number (P := PySem.Challenge.rw_redraft_k14_whole_far_and_near.prog) (w := w) (mg := mg) (base := base) F_is_number m_isinstance m_int m_bool m_BLOCK_KINDS k_BLOCK_KINDS m_LAST_BLOCK
    have GRW := ok_row_words F_is_row_of_words rfl (TT _ q_is_row_of_words) (TB _ q_is_row_of_words) GW F_is_word.kp b_is_word g_is_word m_isinstance m_tuple m_len m_all
    have GR := ok_is_row F_is_row GN F_is_number.kp b_is_number g_is_number GRW F_is_row_of_words.kp b_is_row_of_words g_is_row_of_words m_isinstance m_tuple m_len m_PLAIN_KINDS k_PLAIN_KINDS m_BLOCK_KINDS k_BLOCK_KINDS
    have GC := ok_check_rows F_check_rows GR F_is_row.kp b_is_row g_is_row m_isinstance m_list m_enumerate
    have GP := ok_cost F_cost GC F_check_rows.kp b_check_rows g_check_rows m_len m_PRICE
    have GLC := ok_least (P := PySem.Challenge.rw_redraft_k14_whole_far_and_near.prog) (w := w) (mg := mg) (base := base) F_least_cost m_len m_min
    have GTa := ok_table F_table GCT F_check_text.kp b_check_text g_check_text GLC F_least_cost.kp b_least_cost g_least_cost m_len m_range
    have GAp := ok_apart F_apart GTa F_table.kp b_table g_table
    have GNK := ok_next_kind (P := PySem.Challenge.rw_redraft_k14_whole_far_and_near.prog) (w := w) (mg := mg) (base := base) F_next_kind m_len
    have GSB := ok_steps_between F_steps_between GTa F_table.kp b_table g_table GNK F_next_kind.kp b_next_kind g_next_kind m_len m_OLD_KINDS k_OLD_KINDS m_NEW_KINDS k_NEW_KINDS
    have GSO := ok_stretches (P := PySem.Challenge.rw_redraft_k14_whole_far_and_near.prog) (w := w) (mg := mg) (base := base) F_stretches_of m_len
    have GTo := ok_told F_told GSB F_steps_between.kp b_steps_between g_steps_between GSO F_stretches_of.kp b_stretches_of g_stretches_of m_len m_tuple
    have GCe := ok_cell_at (P := PySem.Challenge.rw_redraft_k14_whole_far_and_near.prog) (w := w) (mg := mg) (base := base) F__law_cell_at m_len
    have GS := ok_sign_by (P := PySem.Challenge.rw_redraft_k14_whole_far_and_near.prog) (w := w) (mg := mg) (base := base) F__law_sign_by
    have GWB := ok_word_by (P := PySem.Challenge.rw_redraft_k14_whole_far_and_near.prog) (w := w) (mg := mg) (base := base) F__law_word_by F__law_sign_by b__law_sign_by g__law_sign_by m_range
    have GNe := ok_near F__law_near GS F__law_sign_by.kp b__law_sign_by g__law_sign_by m_len m_list m_reversed
    have GM := ok_menu F__law_menu GCe F__law_cell_at.kp b__law_cell_at g__law_cell_at GWB F__law_word_by.kp b__law_word_by g__law_word_by GNe F__law_near.kp b__law_near g__law_near m_range
    have GWh := ok_whole (P := PySem.Challenge.rw_redraft_k14_whole_far_and_near.prog) (w := w) (mg := mg) (base := base) F__law_whole m_isinstance m_int m_bool
    
    have GTx := ok_texts F__law_texts GM F__law_menu.kp b__law_menu g__law_menu m_range
    have GBd := ok_bounds (P := PySem.Challenge.rw_redraft_k14_whole_far_and_near.prog) (w := w) (mg := mg) (base := base) F__law_bounds m_len m_max
    exact ok_law F_law GTx F__law_texts.kp b__law_texts g__law_texts GAp F_apart.kp b_apart g_apart GWh F__law_whole.kp b__law_whole g__law_whole GBd F__law_bounds.kp b__law_bounds g__law_bounds GTo F_told.kp b_told g_told GP F_cost.kp b_cost g_cost m_list m_range
end Rd
open PySem PySem.W PySem.Calls PyProof.Rows
set_option maxHeartbeats 0 in
theorem PySem.Challenge.cw_redraft_k14_whole_far_and_near_holds : PySem.Challenge.rw_redraft_k14_whole_far_and_near.Holds := by
  w_on; o_law
  refine HandSHeadRun.head_any (r := OpenLaw.row PySem.Challenge.rw_redraft_k14_whole_far_and_near) (q := view (OpenLaw.row PySem.Challenge.rw_redraft_k14_whole_far_and_near).prog [42]) (H := Rd.hk) (ob := Rd.ob) (M := 4000) (loose := Rd.loose) (d := HandSHeadRun.topDef (OpenLaw.row PySem.Challenge.rw_redraft_k14_whole_far_and_near).prog 42) (kwd := []) Rd.ob_eq
    (by kernel_rfl) (fun s => by kernel_rfl) Rd.run (by kernel_rfl) (by kernel_rfl) (by kernel_rfl) (by rfl) (by first | assumption | decide +kernel) (by decide +kernel) ⟨rfl, rfl, rfl, rfl, rfl, by decide +kernel⟩ ?hw ?hc
  case hw => w_witness2
  case hc =>
    refine LamX.walk_ofTsE (l := PySem.Challenge.rw_redraft_k14_whole_far_and_near) (n := 63) (k := 9) (x := "_law_script") (CX := fun w => L2.CX PySem.Challenge.rw_redraft_k14_whole_far_and_near.prog w) rfl (by decide) (by kernel_rfl) ⟨rfl, by decide, by decide⟩ ?F fun w H s e s' z => ?z
    case z =>
      obtain ⟨_, _, _, _, _, _, _, _, _, _, _, _, z⟩ := z
      exact z
    case F =>
      intro w mg fa h Y G hmg0
      obtain ⟨K, KX, c⟩ := Y
      have hmg : mg ("law" : PySem.Str) = some (.ref fa) := by
        have e : (HandSHeadRun.topDef (OpenLaw.row PySem.Challenge.rw_redraft_k14_whole_far_and_near).prog 42).name = ("law" : PySem.Str) := by kernel_rfl
        rw [← e]
        exact hmg0
      exact ⟨K, KX, Rd.facts KX G hmg c⟩

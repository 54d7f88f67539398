import PyProof.Rows.All
import Wide.All
import OpenK.AllK
import Wide.FinOn
import HandS.ForMost
import HandS.ForExc
import HandS.AnyAll
import HandS.GenOver
import HandS.GenList
import HandS.More
import HandS.Defaults
import HandS.HeadHook4
import HandS.IsInst
import HandS.Iter
import HandS.Text
import HandS.Rev
import HandS.RevTup
import HandS.DictComp
import HandS.Deep
import HandS.Head0
import HandS.Head1
import HandS.Head2
import HandS.HeadEnd
import HandS.HeadHook1
import HandS.HeadHook2
import HandS.HeadHook3
import HandS.HeadWalk
import HandS.LawCells
import HandS.Codes
import HandS.TupMul
import PySem.Challenge.RW_redraft_k04_a_telling_done
set_option Elab.async false
set_option linter.all false
set_option maxRecDepth 100000
set_option maxHeartbeats 4000000
/-! all(elt for x in iter if ..), any(..): the element any expression that the layer reads (calls of defs, too), the walked thing any that the layer walks -/
namespace Rd
open PySem PySem.Spec PyProof.Rows L2 GxR

/-- the frame of a generator expression of X, made at s -/
abbrev gcx (X : Cx) (s : Shared) (H : Hp) (sc : Scope) (ce : Env) (fp : List Addr) (a : Addr) (o : Obj) (B : Around) : Cx :=
  { X with A := B, s_0 := s, H_0 := H, env := ce, outer := X.stack, stack := ce :: X.stack, ex := fp, fn := fun x => sc.names.lookup x == some .cell, calm := true, pn := [(a, o)], xe := fun _ _ => False }

theorem not_in_frs {X : Cx} {pins : List (Addr × Obj)} {σ : L2.St} {H : Hp} {s : Shared} (I : Inv X pins σ H s) {b : Addr} (hb : s.heap.objs.size ≤ b) : b ∉ frs X.stack := fun hm => by
  obtain ⟨_, o, ho, _⟩ := I.stack.mem hm
  exact Nat.lt_irrefl _ (Nat.lt_of_lt_of_le (Heap.lt_size ho) hb)

theorem gen_start {X : Cx} {pins : List (Addr × Obj)} {σ : L2.St} {H : Hp} {s s' : Shared} {sc : Scope} {own : List (Str × Nat)} {fp : List Addr} {ce : Env} {a : Addr} {o : Obj} {B : Around}
    (I : Inv X pins σ H s) (ok : BlkOk X.N X.env.scope sc own) (nc : ∀ y ∈ sc.names, y.2 ≠ .cell) (hN : X.N.Nodup) (hfp : ∀ b ∈ fp, FpOk X pins H b ∧ b < s.heap.objs.size)
    (e1 : ce.scope = sc) (e2 : ce.locals = s.heap.objs.size) (e3 : ce.globals = X.env.globals) (e4 : ce.builtins = builtinsNs) (e5 : ce.cells = cloFrom X.env.cells sc.names []) (e6 : ce.frame = some s.heap.objs.size)
    (hB : B.frames = some (ce :: X.stack)) (hh : B.handled = none)
    (os : s'.os = s.os) (gb : AllBare s'.gens) (kp : ∀ b u, s.heap.get? b = some u → s'.heap.get? b = some u) (ns : ∃ m, s'.heap.Ns s.heap.objs.size m) (ha : s'.heap.get? a = some o) (hlt : s.heap.objs.size < a) (hod : ∀ v, o.data ≠ .cell v) :
    Inv (gcx X s H sc ce fp a o B) [] (wipe σ (own.map (·.2))) H s' := by
  have nocell : ∀ y, sc.names.lookup y ≠ some .cell := fun y z => nc _ (PySem.mem_of_lookup z) rfl
  have clo : ∀ {y c}, ce.cells.lookup y = some c → X.env.cells.lookup y = some c ∧ c < s.heap.objs.size := fun {y c} e => by
    rw [e5] at e
    rcases cloFrom_mem (PySem.mem_of_lookup e) with hm | ⟨hy, rfl⟩
    · cases hm
    · have h1 : ∃ c, X.env.cells.lookup y = some c := by
        rcases ok.free _ hy rfl with k | k
        · exact I.ok.has _ (.inl k)
        · exact I.ok.has _ (.inr k)
      obtain ⟨c1, h2⟩ := h1
      rw [h2]
      obtain ⟨v, z⟩ := I.cell _ _ h2
      exact ⟨rfl, z.lt⟩
  have has : ∀ {y}, sc.names.lookup y = some .free → ∃ c, ce.cells.lookup y = some c := fun {y} hy => by
    obtain ⟨c, hc⟩ := mem_lookup (cloFrom_has (cells := X.env.cells) (acc := []) (PySem.mem_of_lookup hy))
    exact ⟨c, by rw [e5]; exact hc⟩
  have okB : (gcx X s H sc ce fp a o B).Ok := by
    refine ⟨I.ok.mod, ?_, ?_, e4, ?_, fun y z c h1 h2 => I.ok.inj y z c (clo h1).1 (clo h2).1, fun y hy => ?_, fun y c z _ => ?_, fun _ => hh, hB, .inr ⟨rfl, ?_⟩, fun b hb => ⟨?_, fun y c e z => ?_⟩, I.bs, Nat.le_trans I.ok.bsz I.sz, fun b u e hb => ?_, fun b hb z => ?_, I.stack, I.stkFree⟩
    · show ce.scope.kind = _
      rw [e1]
      exact ok.kind
    · show ce.globals = _
      rw [e3]
      exact I.ok.glob
    · show s.heap.objs.size ≤ ce.locals
      rw [e2]
      exact Nat.le_refl _
    · show ∃ c, ce.cells.lookup y = some c
      rcases hy with hy | hy
      · have hy : ce.scope.names.lookup y = some .cell := hy
        rw [e1] at hy
        exact absurd hy (nocell y)
      · have hy : ce.scope.names.lookup y = some .free := hy
        rw [e1] at hy
        exact has hy
    · have z : (sc.names.lookup y == some NameKind.cell) = true := z
      exact absurd (by simpa using z) (nocell y)
    · show ce.frame = some ce.locals
      rw [e6, e2]
    · show b ≠ ce.locals
      rw [e2]
      exact Nat.ne_of_lt (hfp b hb).2
    · exact (hfp b hb).1.2.2.2.2.1 y c (clo e).1 z
    · rcases (hfp b hb).1.2.2.2.1 with z | z
      · exact I.ok.noex b u e z
      · exact absurd (Nat.lt_of_lt_of_le (Heap.lt_size e) (Nat.le_trans I.ok.bsz z)) (Nat.lt_irrefl _)
    · rcases List.mem_cons.mp (I.stkSub b z) with z | z
      · exact (hfp b hb).1.2.1 z
      · exact (hfp b hb).1.2.2.1 z
  obtain ⟨m1, hm1⟩ := ns
  refine ⟨okB, os, gb, Un.kept kp, ⟨m1, ?_, fun i y av q1 q2 q3 => ?_⟩, fun y c e => ?_, ?_, fun y c e => I.freeC y c (clo e).1, fun p hp => ?_, I.hok.kept kp, by rw [wipe_length]; exact I.len⟩
  · show Heap.Ns _ ce.locals _
    rw [e2]
    exact hm1
  · obtain ⟨q2, hne⟩ := wipe_some q2
    have q3 : Vis ce.scope y := q3
    rw [e1] at q3
    have q1 : X.N[i]? = some y := q1
    have no : ∀ k, sc.names.lookup y = some k → k = .local ∨ k = .cell → False := fun k e hk => by
      rcases ok.own _ (PySem.mem_of_lookup e) hk with z | z
      · obtain ⟨p, hp, hpy⟩ := List.mem_map.mp z
        have z2 := ok.ix p hp
        have hpy : p.1 = y := hpy
        rw [hpy] at z2
        exact hne (List.mem_map.mpr ⟨p, hp, nodup_ix hN z2 q1⟩)
      · exact z (List.mem_of_getElem? q1)
    have hf : sc.names.lookup y = some .free := by
      rcases q3 with z | z | z
      · exact (no _ z (.inl rfl)).elim
      · exact (no _ z (.inr rfl)).elim
      · exact z
    obtain ⟨m, hn, hl⟩ := I.loc
    have hk := ok.free _ (PySem.mem_of_lookup hf) rfl
    obtain ⟨u, r, q⟩ := hl i y av q1 q2 (hk.elim (fun k => .inr (.inl k)) fun k => .inr (.inr k))
    refine ⟨u, r, .inr ⟨.inr ?_, ?_⟩⟩
    · show ce.scope.names.lookup y = some .free
      rw [e1]
      exact hf
    · obtain ⟨c, hc⟩ := has hf
      rcases q with ⟨k, _⟩ | ⟨_, c', e', z⟩
      · have k : X.env.scope.names.lookup y = some .local := k
        rcases hk with hk | hk <;> rw [show X.env.scope.names.lookup y = _ from hk] at k <;> cases k
      · have hc' := (clo hc).1
        rw [hc'] at e'
        cases e'
        exact ⟨c, hc, z.keeps kp⟩
  · obtain ⟨v, z⟩ := I.cell y c (clo e).1
    exact ⟨v, z.keeps kp⟩
  · show H ce.locals = none
    rw [e2]
    exact I.hok.fresh (Nat.le_refl _)
  · have hp : p = (a, o) := by simpa using hp
    subst hp
    refine ⟨ha, I.hok.fresh (Nat.le_of_lt hlt), ?_, not_in_frs I (Nat.le_of_lt hlt), hod⟩
    show a ≠ ce.locals
    rw [e2]
    exact Nat.ne_of_gt hlt

theorem inv_gens {X : Cx} {pins : List (Addr × Obj)} {σ : L2.St} {H : Hp} {s : Shared} {G : Array GenState} (I : Inv X pins σ H s) (hG : AllBare G) : Inv X pins σ H { s with gens := G } :=
  ⟨I.ok, I.os, hG, I.base, I.loc, I.cell, I.free, I.freeC, I.pin, I.hok, I.len⟩

/-- the reading: J what is walked, k the answer that goes on (True for all, False for any) -/
def tGen (k : Bool) (P : Addr) (wi : TI) (g : TG) (tt : TT) (te : TE) (vs : List Nat) : TE := fun σ H Q => wi σ H fun J H1 => TabG H1 P ∧ ∀ H2, Tabbed P H1 H2 →
  ∃ W : Nat → Nat → Hp → Prop, (∃ m, W 0 m H2) ∧ ∀ i m H, W i m H →
    (J.stop i H ∧ Q (.bl k) H) ∨ (J.go i H ∧ ∃ Nx : Hp → Prop, (∀ H', Nx H' → ∃ m', m' < m ∧ W (i + 1) m' H') ∧ ∀ x H', J.yld i H x H' → g x (wipe σ vs) H' fun σ2 H2 => wipe σ2 vs = wipe σ vs ∧ tt σ2 H2 fun b H3 =>
      if b = true then te σ2 H3 fun y H4 => ∃ c, y = .bl c ∧ (c = k → Nx H4) ∧ (c = (!k) → Q (.bl (!k)) H4) else Nx H3)

/-- the answer is known -/
def Fin (X : Cx) (pins : List (Addr × Obj)) (σ : L2.St) (Q : VK) (b : Bool) (s : Shared) : Prop := ∃ H, Inv X pins σ H s ∧ Q (.bl b) H
theorem Fin.gens {X : Cx} {pins : List (Addr × Obj)} {σ : L2.St} {Q : VK} {b : Bool} {s : Shared} {G : Array GenState} (h : Fin X pins σ Q b s) (hG : AllBare G) : Fin X pins σ Q b { s with gens := G } :=
  let ⟨H, I, q⟩ := h; ⟨H, inv_gens I hG, q⟩
theorem Fin.kept {X : Cx} {pins : List (Addr × Obj)} {σ : L2.St} {Q : VK} {b : Bool} {s : Shared} {h' : Heap} (h : Fin X pins σ Q b s) (k : ∀ c u, s.heap.get? c = some u → h'.get? c = some u) : Fin X pins σ Q b { s with heap := h' } :=
  let ⟨H, I, q⟩ := h; ⟨H, I.kept (t' := s.toks) k, q⟩
/-- the generator's end -/
abbrev GR1 (X : Cx) (pins : List (Addr × Obj)) (σ : L2.St) (Q : VK) (k : Bool) : GenEnd := fun _ _ r s => r = .ok .next ∧ (AllBare s.gens ∧ Fin X pins σ Q k s)
/-- an item comes out -/
abbrev GY1 (X : Cx) (pins : List (Addr × Obj)) (σ : L2.St) (Q : VK) (k : Bool) (a : Addr) (g : Nat) : Protocol := fun _ _ v s kap =>
  ∃ b, v = .bool b ∧ s.heap.IsGen a g ∧ s.heap.NoLimit ∧ AllBare s.gens ∧ (b = (!k) → Fin X pins σ Q (!k) s) ∧ (b = k → ∀ G, AllBare G → kap (.send .none) { s with gens := G })
/-- a generator that is to be asked -/
def Live (X : Cx) (pins : List (Addr × Obj)) (σ : L2.St) (Q : VK) (k : Bool) (a : Addr) (g n : Nat) (s : Shared) : Prop :=
  s.heap.IsGen a g ∧ s.heap.NoLimit ∧ AllBare s.gens ∧ ∃ gs, s.gens[g]? = some gs ∧ gs.Goes (model X.prog X.w) X.A.in1.in1 (GR1 X pins σ Q k) (GY1 X pins σ Q k a g) n (.send .none) (s.setGen g .running)

section
variable {X : Cx} {pins : List (Addr × Obj)} {σ : L2.St} {Q : VK} {a : Addr} {g : Nat}
/-- what a step of the consumer finds -/
theorem next_live {k : Bool} {n : Nat} {s : Shared} {Q' : Option Value → Shared → Prop} {E : Value → Shared → Prop} (hh : X.A.handled = none) (hd : X.A.depth < recursionLimit) (h : Live X pins σ Q k a g n s)
    (hy : ∀ (b : Bool) (s' : Shared), (b = (!k) → Fin X pins σ Q (!k) s') → (b = k → ∃ m, m < n ∧ Live X pins σ Q k a g m s') → Q' (some (.bool b)) s') (he : ∀ s', Fin X pins σ Q k s' → Q' none s') :
    wpAny (model X.prog X.w) X.A.in1 (pyNext (.ref a)) Q' E s := by
  obtain ⟨hg, hl, hb0, gs, hgs, hgo⟩ := h
  have hgl : g < s.gens.size := (Array.getElem?_eq_some_iff.mp hgs).1
  refine GenW.wpAny_gsz (n := g + 1) hgl (wpAny_pyNext_genexpQ (A := X.A.in1) (P := fun _ _ s => AllBare s.gens ∧ Fin X pins σ Q k s) hh hl hd hg hgs hgo (fun v s1 gs1 hbare hv => ?_) fun s1 hp h1 hk => ?_)
  · intro hsz
    obtain ⟨b, rfl, hg1, hl1, hb1, q1, q2⟩ := hv
    have hG : AllBare (s1.setGen g gs1).gens := allBare_setGen hb1 hbare
    have es : s1.setGen g gs1 = { s1 with gens := (s1.setGen g gs1).gens } := rfl
    refine hy b _ (fun e => by rw [es]; exact (q1 e).gens hG) fun e => ?_
    have hsz1 : g < s1.gens.size := by
      have z : (s1.setGen g gs1).gens.size = s1.gens.size := GenW.setGen_size _ _ _
      have z2 : g + 1 ≤ (s1.setGen g gs1).gens.size := hsz
      omega
    cases n with
    | zero => exact False.elim (q2 e s1.gens hb1)
    | succ m =>
      refine ⟨m, Nat.lt_succ_self m, hg1, hl1, hG, gs1, setGen_at hsz1, ?_⟩
      exact q2 e ((s1.setGen g gs1).setGen g .running).gens (allBare_setGen hG rfl)
  · intro _
    have z := (Fin.gens (G := (s1.setGen g .finished).gens) hp.2 (allBare_setGen hp.1 rfl)).kept hk
    exact he _ z

theorem all_loop {R : Result → Shared → Prop} (hh : X.A.handled = none) (hd : X.A.depth < recursionLimit) (hR : ∀ b s, Fin X pins σ Q b s → R (.ok (.ret (.bool b))) s) :
    ∀ (n : Nat) (s : Shared), Live X pins σ Q true a g n s → codeAny (model X.prog X.w) X.A (.builtin "all.loop" ⟨[.ref a], []⟩) R s := by
  intro n
  induction n using Nat.strongRecOn with
  | ind n ih =>
    intro s h
    refine codeAny_builtin F.entry_all_loop ?_
    rw [Around.under_plainId F.plain_all_loop _]
    show wpAny _ X.A.in1 (pyNext (.ref a) >>= _) _ _ s
    refine wpAny_bind (next_live hh hd h (fun b s1 q1 q2 => ?_) fun s1 q => ?_)
    · refine wpAny_bind (wpAny_holding (wpAny_truthy_bool ?_))
      refine wpAny_bind (wpAny_letGo ?_)
      cases b with
      | true =>
        simp only [if_true]
        obtain ⟨m, hm, hL⟩ := q2 rfl
        exact wpAny_pure ⟨plainId_quiet F.plain_all_loop _, ih m hm _ hL⟩
      | false =>
        simp only [Bool.false_eq_true, if_false]
        exact wpAny_bind (wpAny_rule (wpAny_pure (hR _ _ (q1 rfl))))
    · exact wpAny_bind (wpAny_rule (wpAny_pure (hR _ _ q)))
theorem any_loop {R : Result → Shared → Prop} (hh : X.A.handled = none) (hd : X.A.depth < recursionLimit) (hR : ∀ b s, Fin X pins σ Q b s → R (.ok (.ret (.bool b))) s) :
    ∀ (n : Nat) (s : Shared), Live X pins σ Q false a g n s → codeAny (model X.prog X.w) X.A (.builtin "any.loop" ⟨[.ref a], []⟩) R s := by
  intro n
  induction n using Nat.strongRecOn with
  | ind n ih =>
    intro s h
    refine codeAny_builtin F.entry_any_loop ?_
    rw [Around.under_plainId F.plain_any_loop _]
    show wpAny _ X.A.in1 (pyNext (.ref a) >>= _) _ _ s
    refine wpAny_bind (next_live hh hd h (fun b s1 q1 q2 => ?_) fun s1 q => ?_)
    · refine wpAny_bind (wpAny_holding (wpAny_truthy_bool ?_))
      refine wpAny_bind (wpAny_letGo ?_)
      cases b with
      | false =>
        simp only [Bool.false_eq_true, if_false]
        obtain ⟨m, hm, hL⟩ := q2 rfl
        exact wpAny_pure ⟨plainId_quiet F.plain_any_loop _, ih m hm _ hL⟩
      | true =>
        simp only [if_true]
        exact wpAny_bind (wpAny_rule (wpAny_pure (hR _ _ (q1 rfl))))
    · exact wpAny_bind (wpAny_rule (wpAny_pure (hR _ _ q)))
theorem call_all_live {n : Nat} {s : Shared} {Q' : Value → Shared → Prop} {E : Value → Shared → Prop} (hh : X.A.handled = none) (hd : X.A.depth < recursionLimit) (h : Live X pins σ Q true a g n s) (hQ : ∀ b s', Fin X pins σ Q b s' → Q' (.bool b) s') :
    wpAny (model X.prog X.w) X.A (call (.builtin "all") [.ref a]) Q' E s := by
  refine call_function_tree F.kind_all F.plain_all F.entry_all (F.args_all1 _) ?_
  unfold Builtin.«all»
  refine wpAny_bind (m := oneArg "all" _) (wpAny_pure ?_)
  refine wpAny_bind (wpAny_pyIter_gen h.1 ?_)
  exact wpAny_pure ⟨plainId_quiet F.plain_all_loop _, all_loop hh hd (fun b s' q => hQ b s' q) n s h⟩
theorem call_any_live {n : Nat} {s : Shared} {Q' : Value → Shared → Prop} {E : Value → Shared → Prop} (hh : X.A.handled = none) (hd : X.A.depth < recursionLimit) (h : Live X pins σ Q false a g n s) (hQ : ∀ b s', Fin X pins σ Q b s' → Q' (.bool b) s') :
    wpAny (model X.prog X.w) X.A (call (.builtin "any") [.ref a]) Q' E s := by
  refine call_function_tree F.kind_any F.plain_any F.entry_any (F.args_any1 _) ?_
  unfold Builtin.«any»
  refine wpAny_bind (m := oneArg "any" _) (wpAny_pure ?_)
  refine wpAny_bind (wpAny_pyIter_gen h.1 ?_)
  exact wpAny_pure ⟨plainId_quiet F.plain_any_loop _, any_loop hh hd (fun b s' q => hQ b s' q) n s h⟩
end

/-! ### the generator's own turns -/
theorem mono_no {α : Type} {t : Sem α} {Q Q' : α → Shared → Prop} {M : Model} {A : Around} {E : Value → Shared → Prop} {s : Shared} (h : wpAny M A t Q (fun _ _ => False) s) (hQ : ∀ a s, Q a s → Q' a s) : wpAny M A t Q' E s :=
  wpAny_mono h hQ fun _ _ z => False.elim z

section
variable {X : Cx} {pins : List (Addr × Obj)} {σ : L2.St} {Q : VK} {k : Bool} {a : Addr} {g : Nat} {o : Obj} {s4 : Shared} {H3 : Hp} {sc : Scope} {own : List (Str × Nat)} {ce : Env} {fp : List Addr} {it : Addr} {tn : Nat → Heap → Prop} {J : It} {B : Around}
  {elt tg iter : Expr} {ifs : List Expr} {pos : Pos} {gt : TG} {tt : TT} {te : TE} {W : Nat → Nat → Hp → Prop}
theorem gen_turns (hB : B = X.A.in1.in1.over (.compLoop (.GeneratorExp elt [⟨tg, iter, ifs, 0⟩] sc pos) 0 (.ref it) .none ce) []) (hco : ce.scope.isCoroutine = false)
    (I4 : Inv X pins σ H3 s4) (T : Turn X.prog X.w X.K tg J fp it tn) (ffp : ∀ b ∈ fp, FpOk X pins H3 b) (hafp : ∀ b ∈ fp, b ≠ a) (hgo : ∃ nm qn, o.cls = .type "generator" ∧ o.data = .fields #[.int g 0, nm, qn] ∧ o.slots = #[])
    (pg : PG (gcx X s4 H3 sc ce fp a o B) tg gt) (pt : PTs (gcx X s4 H3 sc ce fp a o B) ifs tt) (pe : PE (gcx X s4 H3 sc ce fp a o B) elt te)
    (turn : ∀ i m H, W i m H → (J.stop i H ∧ Q (.bl k) H) ∨ (J.go i H ∧ ∃ Nx : Hp → Prop, (∀ H', Nx H' → ∃ m', m' < m ∧ W (i + 1) m' H') ∧ ∀ x H', J.yld i H x H' → gt x (wipe σ (own.map (·.2))) H' fun σ2 H2 => wipe σ2 (own.map (·.2)) = wipe σ (own.map (·.2)) ∧ tt σ2 H2 fun b H3 =>
      if b = true then te σ2 H3 fun y H4 => ∃ c, y = .bl c ∧ (c = k → Nx H4) ∧ (c = (!k) → Q (.bl (!k)) H4) else Nx H3)) :
    ∀ (m n i : Nat) (s0 s : Shared) (H : Hp), m < n → Inv (gcx X s4 H3 sc ce fp a o B) [] (wipe σ (own.map (·.2))) H s → tn i s.heap → (∀ b ∈ fp, H b = none) → W i m H →
      Seg (model X.prog X.w) X.A.in1.in1 (GR1 X pins σ Q k) (GY1 X pins σ Q k a g) n s0 (.compLoop (.GeneratorExp elt [⟨tg, iter, ifs, 0⟩] sc pos) 0 (.ref it) .none ce)
        ((model X.prog X.w).den (.compLoop (.GeneratorExp elt [⟨tg, iter, ifs, 0⟩] sc pos) 0 (.ref it) .none ce)) [] s := by
  have stat : ∀ {σ' : L2.St} {H' : Hp} {s' : Shared}, Inv (gcx X s4 H3 sc ce fp a o B) [] σ' H' s' → (∀ b ∈ fp, H' b = none) → ∀ b ∈ fp, FpOk (gcx X s4 H3 sc ce fp a o B) [] H' b := fun {σ' H' s'} I' hn b hb =>
    ⟨hn b hb, (I'.ok.exf b hb).1, I'.ok.exfs b hb, .inl hb, fun x c e => (I'.ok.exf b hb).2 x c e, fun p hp z => by
      have hp : p = (a, o) := by simpa using hp
      subst hp
      exact hafp b hb z.symm⟩
  -- back in the def's context
  have back : ∀ {σ' : L2.St} {H' : Hp} {s' : Shared} {ps : List (Addr × Obj)}, Inv (gcx X s4 H3 sc ce fp a o B) ps σ' H' s' → Inv X pins σ H' s' := fun {σ' H' s' ps} I6 =>
    I4.call' (ch := fp) I6.os I6.base I6.hok I6.bare fun b hb => ⟨(ffp b hb).2.2.2.1, (ffp b hb).2.1, (ffp b hb).2.2.2.2.1, (ffp b hb).2.2.2.2.2⟩
  have isg : ∀ {σ' : L2.St} {H' : Hp} {s' : Shared} {ps : List (Addr × Obj)}, Inv (gcx X s4 H3 sc ce fp a o B) ps σ' H' s' → s'.heap.IsGen a g := fun {σ' H' s' ps} I6 => by
    obtain ⟨nm, qn, h1, h2, h3⟩ := hgo
    exact ⟨o, nm, qn, (I6.pin (a, o) (by simp)).1, h1, h2, h3⟩
  have hy : ∀ v, yieldOut ce v = yieldValue v := fun v => by simp only [yieldOut, hco, Bool.false_eq_true, if_false]
  intro m
  induction m using Nat.strongRecOn with
  | ind m ih =>
    intro n i s0 s H hmn I st nf w
    show Seg _ X.A.in1.in1 _ _ _ s0 _ ((compTurn (.GeneratorExp elt [⟨tg, iter, ifs, 0⟩] sc pos) 0 (.ref it) .none ce).onRaise (leaving ce)) [] s
    rw [compTurn_gen, Sem.onRaise_eq_wrap]
    refine seg_bind_wrap (wpAny_standAt ?_)
    rcases turn i m H w with ⟨stop, q⟩ | ⟨go, Nx, hNx, step⟩
    · refine seg_bind_wrap ?_
      rw [← hB]
      refine mono_no (T.done (gcx X s4 H3 sc ce fp a o B) rfl rfl rfl rfl i [] s _ H (fun _ _ => False) I (stat I nf) st stop) fun r s6 hr => ?_
      obtain ⟨hr, I6⟩ := hr
      subst hr
      exact seg_end (.ok .next) ⟨rfl, I6.bare, H, back I6, q⟩
    · refine seg_bind_wrap ?_
      rw [← hB]
      refine mono_no (T.item (gcx X s4 H3 sc ce fp a o B) rfl rfl rfl rfl i [] s _ H (fun _ _ => False) I (stat I nf) st go) fun r s6 hr => ?_
      obtain ⟨u, hr, h6⟩ := hr
      subst hr
      refine seg_bind_wrap ?_
      rw [← hB]
      refine mono_no h6 fun _ s7 h7 => ?_
      obtain ⟨x, H7, I7, r7, y7, st7, n7⟩ := h7
      have I7' := I7.pinned (stat I7 n7) (T.obj _ _ st7)
      refine seg_bind_wrap ?_
      rw [← hB]
      refine mono_no (pg.run _ s7 _ H7 x u _ I7' r7 (step x H7 y7)) fun _ s8 h8 => ?_
      obtain ⟨σ8, H8, I8, hw8, q8⟩ := h8
      refine seg_bind_wrap ?_
      rw [← hB]
      refine mono_no (pt.run _ s8 σ8 H8 _ I8 q8) fun b s9 h9 => ?_
      obtain ⟨H9, I9, q9⟩ := h9
      -- the turn's end
      have fin : ∀ {s' : Shared} {H' : Hp}, Inv (gcx X s4 H3 sc ce fp a o B) ([] ++ pinsAt fp s7.heap) σ8 H' s' → Nx H' → ∃ m', m' < m ∧ Inv (gcx X s4 H3 sc ce fp a o B) [] (wipe σ (own.map (·.2))) H' s' ∧ tn (i + 1) s'.heap ∧ (∀ b ∈ fp, H' b = none) ∧ W (i + 1) m' H' := fun {s' H'} I' nx => by
        obtain ⟨m', hm, w'⟩ := hNx H' nx
        have pin' : ∀ b ∈ fp, ∀ ob, s7.heap.get? b = some ob → s'.heap.get? b = some ob ∧ H' b = none := fun b hb ob e => by
          have z := I'.pin (b, ob) (List.mem_append_right _ (List.mem_append_right _ (mem_pinsAt hb e)))
          exact ⟨z.1, z.2.1⟩
        have hl : (wipe σ (own.map (·.2))).length = σ8.length := by rw [← hw8, wipe_length]
        refine ⟨m', hm, (I'.unpinned (pins := [])).weak hl (fun j v e => ?_), T.keep _ _ _ st7 fun b hb ob e => (pin' b hb ob e).1, fun b hb => ?_, w'⟩
        · rw [← hw8] at e
          exact (wipe_some e).1
        · obtain ⟨ob, e, _⟩ := T.obj _ _ st7 b hb
          exact (pin' b hb ob e).2
      cases b with
      | false =>
        simp only [Bool.false_eq_true, if_false] at q9 ⊢
        obtain ⟨m', hm, J1, J2, J3, J4⟩ := fin I9 q9
        exact seg_again rfl (ih m' hm n (i + 1) s0 s9 H9 (Nat.lt_trans hm hmn) J1 J2 J3 J4)
      | true =>
        simp only [if_true] at q9 ⊢
        simp only [hy]
        rw [Sem.bind_eq_wrap', Sem.bind_eq_wrap', Sem.wrap_wrap, Sem.wrap_wrap]
        refine seg_wrap ?_
        rw [← hB]
        refine mono_no (pe.run _ s9 σ8 H9 _ I9 q9) fun z s10 h10 => ?_
        obtain ⟨y, H10, I10, r10, c, rfl, c1, c2⟩ := h10
        obtain rfl : z = Value.bool c := r10
        obtain ⟨n', rfl⟩ : ∃ n', n = n' + 1 := ⟨n - 1, by omega⟩
        refine seg_at (seg_yield rfl rfl rfl ⟨c, rfl, isg I10, I10.nolimit, I10.bare, fun e => ⟨H10, back I10, c2 e⟩, fun e G hG => ?_⟩)
        obtain ⟨m', hm, J1, J2, J3, J4⟩ := fin I10 (c1 e)
        exact seg_again rfl (ih m' hm n' (i + 1) _ _ H10 (by omega) (inv_gens J1 hG) J2 J3 J4)

/-- .. from its start -/
theorem gen_begins (hB : B = X.A.in1.in1.over (.compLoop (.GeneratorExp elt [⟨tg, iter, ifs, 0⟩] sc pos) 0 (.ref it) .none ce) []) (hco : ce.scope.isCoroutine = false)
    (I4 : Inv X pins σ H3 s4) (T : Turn X.prog X.w X.K tg J fp it tn) (ffp : ∀ b ∈ fp, FpOk X pins H3 b) (hafp : ∀ b ∈ fp, b ≠ a) (hgo : ∃ nm qn, o.cls = .type "generator" ∧ o.data = .fields #[.int g 0, nm, qn] ∧ o.slots = #[])
    (pg : PG (gcx X s4 H3 sc ce fp a o B) tg gt) (pt : PTs (gcx X s4 H3 sc ce fp a o B) ifs tt) (pe : PE (gcx X s4 H3 sc ce fp a o B) elt te)
    (turn : ∀ i m H, W i m H → (J.stop i H ∧ Q (.bl k) H) ∨ (J.go i H ∧ ∃ Nx : Hp → Prop, (∀ H', Nx H' → ∃ m', m' < m ∧ W (i + 1) m' H') ∧ ∀ x H', J.yld i H x H' → gt x (wipe σ (own.map (·.2))) H' fun σ2 H2 => wipe σ2 (own.map (·.2)) = wipe σ (own.map (·.2)) ∧ tt σ2 H2 fun b H3 =>
      if b = true then te σ2 H3 fun y H4 => ∃ c, y = .bl c ∧ (c = k → Nx H4) ∧ (c = (!k) → Q (.bl (!k)) H4) else Nx H3))
    {m : Nat} {s0 s : Shared} {H : Hp} (I : Inv (gcx X s4 H3 sc ce fp a o B) [] (wipe σ (own.map (·.2))) H s) (st : tn 0 s.heap) (nf : ∀ b ∈ fp, H b = none) (w : W 0 m H) :
      Seg (model X.prog X.w) X.A.in1.in1 (GR1 X pins σ Q k) (GY1 X pins σ Q k a g) (m + 1) s0 (.compStart (.GeneratorExp elt [⟨tg, iter, ifs, 0⟩] sc pos) 0 (.ref it) .none ce)
        ((model X.prog X.w).den (.compStart (.GeneratorExp elt [⟨tg, iter, ifs, 0⟩] sc pos) 0 (.ref it) .none ce)) [] s := by
  have loop := gen_turns (W := W) hB hco I4 T ffp hafp hgo pg pt pe turn m (m + 1) 0 s0 s H (Nat.lt_succ_self m) I st nf w
  show Seg _ X.A.in1.in1 _ _ _ s0 _ ((compStart (.GeneratorExp elt [⟨tg, iter, ifs, 0⟩] sc pos) 0 (.ref it) .none ce).onRaise (leaving ce)) [] s
  unfold compStart
  rw [Sem.onRaise_eq_wrap]
  show Seg _ X.A.in1.in1 _ _ _ s0 _ ((ask >>= _).wrap _ _ _ _) [] s
  refine seg_bind_wrap (wpAny_askSetting ?_)
  split
  · exact seg_again rfl loop
  · first
      | exact seg_bind_wrap (wpAny_rule (seg_bind_wrap (wpAny_standAt (seg_bind_wrap (T.self _ 0 s _ _ st (seg_again rfl loop))))))
      | (refine seg_bind_wrap (wpAny_rule ?_); show Seg _ X.A.in1.in1 _ _ _ s0 _ ((standAt iter.pos >>= _).wrap _ _ _ _) [] s; exact seg_bind_wrap (wpAny_standAt (seg_bind_wrap (T.self _ 0 s _ _ st (seg_again rfl loop)))))
end

/-- the generator expression's own scope -/
structure GScp (X : Cx) (sc : Scope) (own : List (Str × Nat)) : Prop where
  co : sc.isCoroutine = false
  cell : ∀ y ∈ sc.names, y.2 ≠ .cell
  dot : sc.names.lookup (".0" : Str) = some NameKind.local
  blk : BlkOk X.N X.env.scope sc own

section
variable {X : Cx} {pins : List (Addr × Obj)} {σ : L2.St} {H : Hp} {s : Shared} {Q : VK} {k : Bool} {j : Nat} {c P : Addr} {sc : Scope} {own : List (Str × Nat)} {elt tg iter : Expr} {ifs : List Expr} {gpos p pos : Pos} {wi : TI} {gt : TG} {tt : TT} {te : TE}
theorem gen_room {X : Cx} {j : Nat} {code : Code} (hr : Room (j + 1) X.A) (h1 : code.weight = 1) (h2 : code.cUnits ≤ 3) : Room j (X.A.in1.in1.over code []) := by
  refine ⟨hr.hd, ?_, ?_⟩
  · have e : (X.A.in1.in1.over code []).depth = X.A.depth + 0 + code.weight := rfl
    have := hr.dp
    rw [e, h1]
    omega
  · have e : (X.A.in1.in1.over code []).units = X.A.units + 1 + 1 + 0 + code.cUnits := rfl
    have := hr.un
    rw [e]
    omega
theorem gen_frames {A : Around} {l : List Env} {ce : Env} {iv acc : Value} (h : A.frames = some l) : (A.in1.in1.over (.compLoop (.GeneratorExp elt [⟨tg, iter, ifs, 0⟩] sc gpos) 0 iv acc ce) []).frames = some (ce :: l) := by
  have e : A.in1.in1.frames = some l := h
  have e2 : (A.in1.in1.over (.compLoop (.GeneratorExp elt [⟨tg, iter, ifs, 0⟩] sc gpos) 0 iv acc ce) []).frames = pushEnvs (Code.envs (.compLoop (.GeneratorExp elt [⟨tg, iter, ifs, 0⟩] sc gpos) 0 iv acc ce)) (pushEnvs (envsOf []) A.in1.in1.frames) := rfl
  rw [e2, e]
  rfl
theorem gen_made {Q' : Value → Shared → Prop} (hr : Room (j + 1) X.A) (hN : X.N.Nodup) (TB : TabB X.base X.mg c P) (hcode : X.env.code = .ref c) (S : GScp X sc own) (hi : PI X tg iter wi)
    (hg : ∀ (s : Shared) (H : Hp) (cl : List (Str × Addr)) (C : Addr) (code : Value) (fp : List Addr) (a : Addr) (o : Obj) (B : Around), PG (gcx X s H sc (genEnv sc cl C code builtinsNs X.env) fp a o B) tg gt)
    (ht : ∀ (s : Shared) (H : Hp) (cl : List (Str × Addr)) (C : Addr) (code : Value) (fp : List Addr) (a : Addr) (o : Obj) (B : Around), Room j B → PTs (gcx X s H sc (genEnv sc cl C code builtinsNs X.env) fp a o B) ifs tt)
    (he : ∀ (s : Shared) (H : Hp) (cl : List (Str × Addr)) (C : Addr) (code : Value) (fp : List Addr) (a : Addr) (o : Obj) (B : Around), Room j B → PE (gcx X s H sc (genEnv sc cl C code builtinsNs X.env) fp a o B) elt te)
    (hs : ∀ v, genFold iter X.env v = pure v) (I : Inv X pins σ H s) (h : tGen k P wi gt tt te (own.map (·.2)) σ H Q) (hQ : ∀ a g n s5, Live X pins σ Q k a g n s5 → Q' (.ref a) s5) :
    wpAny (model X.prog X.w) X.A (eval (.GeneratorExp elt [⟨tg, iter, ifs, 0⟩] sc gpos) X.env) Q' X.xe s := by
  have hfree : ∀ y ∈ sc.names, y.2 = .free → ∃ c, X.env.cells.lookup y.1 = some c := fun y hy e => by
    rcases S.blk.free y hy e with k | k
    · exact I.ok.has _ (.inl k)
    · exact I.ok.has _ (.inr k)
  refine wpAny_GeneratorExp_make S.co (closure_ok hfree) S.cell S.dot S.blk.kind (by have := hr.dp; omega) ?_ hs
  refine thn (hi.run pins s σ H _ I h) fun xv s1 hx => thn hx fun itv s2 h2 => ?_
  obtain ⟨it, fp, tn, J, H2, rfl, I2, T, st2, f2, ⟨ps, hP, hTr⟩, q⟩ := h2
  have hPs : s2.heap.get? P = some { cls := .none, data := .fields ps } := I2.hok P _ hP
  have cd : PySem.W.CodeHd s2.heap c P := TB.code.keeps fun b u e => I2.bk b u e
  refine ⟨I2.nolimit, ?_⟩
  have nP : ∀ b, H2 b = none → b ≠ P := fun b e z => by
    rw [z, hP] at e
    cases e
  have szf : ∀ b ∈ fp, b < s2.heap.objs.size := fun b hb => by
    obtain ⟨u, e, _⟩ := T.obj _ _ st2 b hb
    exact Heap.lt_size e
  have cont : ∀ (code : Value) (h3 : Heap) (tk : Nat) (ps' : Array Value), Heap.ExtBut P s2.heap h3 → s2.heap.objs.size ≤ h3.objs.size → h3.get? P = some { cls := .none, data := .fields ps' } → (∃ more, ps' = ps ++ more) → TriplesOk ps'.toList →
      wpAny (model X.prog X.w) X.A (builtinsFor X.env.globals X.env.builtins) (fun bi s₄ =>
        ∀ h', h'.Ns s₄.heap.objs.size (fun y => if y = ".0" then some (.ref it) else none) → Heap.SameBut s₄.heap.objs.size (s₄.heap.push { cls := .type "frame", data := .dict #[] }) h' →
          Q' (.ref h'.objs.size) { s₄ with
            gens := s₄.gens.push (.fresh (.compStart (.GeneratorExp elt [⟨tg, iter, ifs, 0⟩] sc gpos) 0 (.ref it) .none (genEnv sc (cloFrom X.env.cells sc.names []) s₄.heap.objs.size code bi X.env))),
            toks := s₄.toks + 1 + 1 + 1,
            heap := h'.push { cls := .type "generator", data := .fields #[.int s₄.gens.size 0, .str "<genexpr>" (s₄.toks + 1), .str (X.env.qual ++ "<genexpr>") (s₄.toks + 1 + 1)] } }) X.xe { s2 with heap := h3, toks := tk } := by
    intro code h3 tk ps' hx3 hsz3 hP3 hmore ht3
    have I3 : Inv X pins σ (upd H2 P (.tbl ps')) { s2 with heap := h3, toks := tk } := by
      obtain ⟨more, rfl⟩ := hmore
      exact inv_tab (more := more) (h' := h3) (g' := s2.gens) (d' := s2.drawn) (t' := tk) I2 hP (fun b u hb e => hx3 b u hb e) hP3 I2.bare
    generalize hH3 : upd H2 P (.tbl ps') = H3 at I3
    have hT3 : Tabbed P H2 H3 := by
      rw [← hH3]
      exact ⟨⟨ps', upd_same, ht3⟩, fun b hb => upd_ne hb⟩
    obtain ⟨W, ⟨m0, w0⟩, turn⟩ := q H3 hT3
    obtain ⟨bm, ob, e1, e2, e3, e4, e5, e6, e7, e8⟩ := TB.bm
    refine wpAny_builtinsFor (m := X.mg) (by rw [I3.ok.glob]; exact I3.mod.glob.keeps I3.bk) e1 e2 (I3.bk _ _ e5) e6 e7 e8 ?_
    intro h' hn' hs'
    have hsz : h'.objs.size = h3.objs.size + 1 := by
      rw [hs'.1, Heap.size_push]
    have keep' : ∀ b u, h3.get? b = some u → h'.get? b = some u := fun b u e => hs'.extBut b u (Nat.ne_of_lt (Heap.lt_size e)) (Heap.get?_push_of_some _ e)
    have hlt : h3.objs.size < h'.objs.size := by
      have hsz' : h'.objs.size = h3.objs.size + 1 := hsz
      omega
    have f3 : ∀ b ∈ fp, FpOk X pins H3 b := fun b hb => by
      have z := f2 b hb
      exact ⟨(hT3.2 b (nP b z.1)).trans z.1, z.2⟩
    have st3 : tn 0 h3 := T.keep _ _ _ st2 fun b hb u e => hx3 b u (nP b (f2 b hb).1) e
    have gb : AllBare (s2.gens.push (.fresh (.compStart (.GeneratorExp elt [⟨tg, iter, ifs, 0⟩] sc gpos) 0 (.ref it) .none (genEnv sc (cloFrom X.env.cells sc.names []) h3.objs.size code builtinsNs X.env)))) := I2.bare.push rfl
    have hsz2 : ∀ b ∈ fp, b < h3.objs.size := fun b hb => Nat.lt_of_lt_of_le (szf b hb) hsz3
    have keep5 : ∀ (u : Obj) b v, h3.get? b = some v → (h'.push u).get? b = some v := fun u b v e => Heap.get?_push_of_some _ (keep' b v e)
    refine hQ _ s2.gens.size (m0 + 1) _ ⟨⟨_, _, _, Heap.get?_push_size _ rfl, rfl, rfl, rfl⟩, I3.nolimit.keeps (keep5 _), gb, _, Array.getElem?_push_size .., rfl, ?_⟩
    refine gen_begins (own := own) (fp := fp) (tn := tn) (J := J) (W := W) (H3 := H3) (s4 := { s2 with heap := h3, toks := tk }) rfl S.co I3 T f3 (fun b hb z => ?_) ⟨_, _, rfl, rfl, rfl⟩ (hg _ _ _ _ _ _ _ _ _) (ht _ _ _ _ _ _ _ _ _ (gen_room hr rfl (by show (3 : Nat) ≤ 3; decide))) (he _ _ _ _ _ _ _ _ _ (gen_room hr rfl (by show (3 : Nat) ≤ 3; decide))) turn
      (inv_gens (gen_start (s' := { s2 with heap := h'.push _, toks := tk + 1 + 1 + 1, gens := s2.gens.push _ }) (a := h'.objs.size) I3 S.blk S.cell hN (fun b hb => ⟨f3 b hb, hsz2 b hb⟩) rfl rfl rfl rfl rfl rfl ?_ hr.hd rfl gb (keep5 _) ⟨_, Heap.Ns.push hn' _⟩ (Heap.get?_push_size _ rfl) hlt (fun v z => by cases z)) (allBare_setGen (s := { s2 with heap := h'.push _, toks := tk + 1 + 1 + 1, gens := s2.gens.push _ }) gb rfl))
      (T.keep _ _ _ st3 fun b hb u e => keep5 _ b u e) (fun b hb => (f3 b hb).1) w0
    · have h1 := hsz2 b hb
      rw [z] at h1
      exact absurd (Nat.lt_trans h1 hlt) (Nat.lt_irrefl _)
    · exact gen_frames I3.ok.frames
  cases hf : codeAmong gpos ps.toList with
  | none =>
    refine wpAny_genexprCodeX hcode (cd.code hPs hTr) (cd.tab hPs) hf fun c' h' tk hx hge hlt hco' _ htab' _ => ?_
    obtain ⟨o1, vs, f1, tf, fl, tg1, inF, tx, tt1, op, _, _, _, _, _, _, _, _, _, htr, _⟩ := hco'
    exact cont _ h' tk _ hx (Nat.le_trans hge (Nat.le_of_lt hlt)) htab'.2 ⟨_, rfl⟩ htr
  | some cv =>
    refine wpAny_genexprCode_hit hcode (cd.code hPs hTr) hf ?_
    exact cont cv s2.heap s2.toks ps (Heap.ExtBut.refl _ _) (Nat.le_refl _) hPs ⟨#[], by simp⟩ hTr

/-- all(elt for tg in iter if ..) -/
theorem pe_allG (hr : Room (j + 1) X.A) (hN : X.N.Nodup) (hgl : Gl X "all") (hm : X.mg "all" = none) (hb : bootBuiltins "all" = some (.builtin "all")) (TB : TabB X.base X.mg c P) (hcode : X.env.code = .ref c) (S : GScp X sc own) (hi : PI X tg iter wi)
    (hg : ∀ (s : Shared) (H : Hp) (cl : List (Str × Addr)) (C : Addr) (code : Value) (fp : List Addr) (a : Addr) (o : Obj) (B : Around), PG (gcx X s H sc (genEnv sc cl C code builtinsNs X.env) fp a o B) tg gt)
    (ht : ∀ (s : Shared) (H : Hp) (cl : List (Str × Addr)) (C : Addr) (code : Value) (fp : List Addr) (a : Addr) (o : Obj) (B : Around), Room j B → PTs (gcx X s H sc (genEnv sc cl C code builtinsNs X.env) fp a o B) ifs tt)
    (he : ∀ (s : Shared) (H : Hp) (cl : List (Str × Addr)) (C : Addr) (code : Value) (fp : List Addr) (a : Addr) (o : Obj) (B : Around), Room j B → PE (gcx X s H sc (genEnv sc cl C code builtinsNs X.env) fp a o B) elt te)
    (hs : ∀ v, genFold iter X.env v = pure v := by intro _; rfl)
    (hst : starEach [.GeneratorExp elt [⟨tg, iter, ifs, 0⟩] sc gpos] X.env = (false, eval (.GeneratorExp elt [⟨tg, iter, ifs, 0⟩] sc gpos) X.env) :: starEach [] X.env := by rfl) :
    PE X (.Call (.Name "all" p) [.GeneratorExp elt [⟨tg, iter, ifs, 0⟩] sc gpos] [] pos) (tGen true P wi gt tt te (own.map (·.2))) := by
  refine ⟨fun pins s σ H Q I h => ?_⟩
  refine wpAny_Call_Name_kw (ld_blt I hgl hm hb ?_)
  refine PyProof.Rows.callWith_builtin1 ?_ hst (by rfl)
  rw [hst]
  show wpAny _ _ (spliced ((false, eval (.GeneratorExp elt [⟨tg, iter, ifs, 0⟩] sc gpos) X.env) :: backTo pos (starEach [] X.env))) _ _ s
  refine Calls.spliced_cons (gen_made hr hN TB hcode S hi hg ht he hs I h fun a g n s5 hL => ?_)
  refine Calls.spliced_nil ?_
  refine call_all_live hr.hd (by have := hr.dp; omega) hL fun b s' hf => ?_
  obtain ⟨H', I', q⟩ := hf
  exact ⟨.bl b, H', I', rfl, q⟩
/-- any(elt for tg in iter if ..) -/
theorem pe_anyG (hr : Room (j + 1) X.A) (hN : X.N.Nodup) (hgl : Gl X "any") (hm : X.mg "any" = none) (hb : bootBuiltins "any" = some (.builtin "any")) (TB : TabB X.base X.mg c P) (hcode : X.env.code = .ref c) (S : GScp X sc own) (hi : PI X tg iter wi)
    (hg : ∀ (s : Shared) (H : Hp) (cl : List (Str × Addr)) (C : Addr) (code : Value) (fp : List Addr) (a : Addr) (o : Obj) (B : Around), PG (gcx X s H sc (genEnv sc cl C code builtinsNs X.env) fp a o B) tg gt)
    (ht : ∀ (s : Shared) (H : Hp) (cl : List (Str × Addr)) (C : Addr) (code : Value) (fp : List Addr) (a : Addr) (o : Obj) (B : Around), Room j B → PTs (gcx X s H sc (genEnv sc cl C code builtinsNs X.env) fp a o B) ifs tt)
    (he : ∀ (s : Shared) (H : Hp) (cl : List (Str × Addr)) (C : Addr) (code : Value) (fp : List Addr) (a : Addr) (o : Obj) (B : Around), Room j B → PE (gcx X s H sc (genEnv sc cl C code builtinsNs X.env) fp a o B) elt te)
    (hs : ∀ v, genFold iter X.env v = pure v := by intro _; rfl)
    (hst : starEach [.GeneratorExp elt [⟨tg, iter, ifs, 0⟩] sc gpos] X.env = (false, eval (.GeneratorExp elt [⟨tg, iter, ifs, 0⟩] sc gpos) X.env) :: starEach [] X.env := by rfl) :
    PE X (.Call (.Name "any" p) [.GeneratorExp elt [⟨tg, iter, ifs, 0⟩] sc gpos] [] pos) (tGen false P wi gt tt te (own.map (·.2))) := by
  refine ⟨fun pins s σ H Q I h => ?_⟩
  refine wpAny_Call_Name_kw (ld_blt I hgl hm hb ?_)
  refine PyProof.Rows.callWith_builtin1 ?_ hst (by rfl)
  rw [hst]
  show wpAny _ _ (spliced ((false, eval (.GeneratorExp elt [⟨tg, iter, ifs, 0⟩] sc gpos) X.env) :: backTo pos (starEach [] X.env))) _ _ s
  refine Calls.spliced_cons (gen_made hr hN TB hcode S hi hg ht he hs I h fun a g n s5 hL => ?_)
  refine Calls.spliced_nil ?_
  refine call_any_live hr.hd (by have := hr.dp; omega) hL fun b s' hf => ?_
  obtain ⟨H', I', q⟩ := hf
  exact ⟨.bl b, H', I', rfl, q⟩
end
end Rd

namespace Rd
open PySem PySem.Spec PyProof.Rows L2 GxR

/-! ### heaps: all that was tracked is as it was, but for the tables of the defs that hold a generator expression -/
def Tb (Ps : List Addr) (H : Hp) : Prop := ∀ P ∈ Ps, TabG H P
def Kp (Ps : List Addr) (H H' : Hp) : Prop := Tb Ps H' ∧ ∀ b o, b ∉ Ps → H b = some o → H' b = some o
theorem Kp.refl {Ps : List Addr} {H : Hp} (t : Tb Ps H) : Kp Ps H H := ⟨t, fun _ _ _ e => e⟩
theorem Kp.trans {Ps : List Addr} {H H1 H2 : Hp} (a : Kp Ps H H1) (b : Kp Ps H1 H2) : Kp Ps H H2 := ⟨b.1, fun c o hc e => b.2 c o hc (a.2 c o hc e)⟩
theorem Tb.notin {Ps : List Addr} {H : Hp} (t : Tb Ps H) {b : Addr} {o : HO} (e : H b = some o) (ho : ∀ ps, o ≠ .tbl ps) : b ∉ Ps := fun hb => by
  obtain ⟨ps, h1, _⟩ := t b hb
  rw [e] at h1
  exact ho ps (Option.some.inj h1)
theorem Tb.none {Ps : List Addr} {H : Hp} (t : Tb Ps H) {b : Addr} (e : H b = Option.none) : b ∉ Ps := fun hb => by
  obtain ⟨ps, h1, _⟩ := t b hb
  rw [e] at h1
  cases h1
theorem Tb.same {Ps : List Addr} {H H' : Hp} (t : Tb Ps H) (s : Same H H') : Tb Ps H' := fun P hP => by
  obtain ⟨ps, h1, h2⟩ := t P hP
  exact ⟨ps, s _ _ h1, h2⟩
theorem Kp.same {Ps : List Addr} {H H' : Hp} (t : Tb Ps H) (s : Same H H') : Kp Ps H H' := ⟨t.same s, fun b o _ e => s b o e⟩
theorem Kp.at {Ps : List Addr} {H H' : Hp} (t : Tb Ps H) (k : Kp Ps H H') {b : Addr} {o : HO} (e : H b = some o) (ho : ∀ ps, o ≠ .tbl ps) : H' b = some o := k.2 b o (t.notin e ho) e
theorem Kp.seq {Ps : List Addr} {H H' : Hp} {K : PySem.W.Frag} {a : Addr} {xs : List V} (t : Tb Ps H) (k : Kp Ps H H') (h : SqL K H a xs) : SqL K H' a xs := by
  rcases h with (h | ⟨o, h⟩) | h
  · exact .inl (.inl (k.at t h fun _ z => by cases z))
  · exact .inl (.inr ⟨o, k.at t h fun _ z => by cases z⟩)
  · exact .inr h
theorem Kp.seqT {Ps : List Addr} {H H' : Hp} {K : PySem.W.Frag} {a : Addr} {xs : List V} (t : Tb Ps H) (k : Kp Ps H H') (h : SqT K H a xs) : SqT K H' a xs := by
  rcases h with (h | ⟨o, h⟩) | h
  · exact .inl (.inl (k.at t h fun _ z => by cases z))
  · exact .inl (.inr ⟨o, k.at t h fun _ z => by cases z⟩)
  · exact .inr h
theorem same_upd {H : Hp} {p : Addr} {o : HO} (h : H p = Option.none) : Same H (upd H p o) := fun b x e => by
  rw [upd_ne (ne_of_none e h)]
  exact e
theorem Kp.new {Ps : List Addr} {H : Hp} (t : Tb Ps H) {p : Addr} {o : HO} (h : H p = Option.none) : Kp Ps H (upd H p o) := Kp.same t (same_upd h)
theorem Kp.tab {Ps : List Addr} {P : Addr} {H H' : Hp} (t : Tb Ps H) (hP : P ∈ Ps) (h : Tabbed P H H') : Kp Ps H H' := by
  refine ⟨fun p hp => ?_, fun b o hb e => ?_⟩
  · by_cases z : p = P
    · rw [z]
      exact h.1
    · obtain ⟨ps, h1, h2⟩ := t p hp
      exact ⟨ps, (h.2 p z).trans h1, h2⟩
  · have z : b ≠ P := fun z => hb (by rw [z]; exact hP)
    exact (h.2 b z).trans e
/-- what was free before is free or new -/
theorem Kp.free {Ps : List Addr} {H H' : Hp} (t : Tb Ps H) (k : Kp Ps H H') {l : Addr} (h : H' l = Option.none) : H l = Option.none := by
  cases q : H l with
  | none => rfl
  | some o =>
    by_cases hl : l ∈ Ps
    · obtain ⟨ps, h1, _⟩ := k.1 l hl
      rw [h] at h1
      cases h1
    · rw [k.2 l o hl q] at h
      cases h

/-! ### a def whose code object is known -/
theorem okC {CX : CXT} {P : Program} {w : World} {K : PySem.W.Frag} {mg : Str → Option Value} {base : Heap} {x qual : Str} {params : Arguments} {body : List Stmt} {scope : Scope} {f : Addr} {fd : FuncData} {N ps : List Str} {k : Nat} {sp : Sp} {p : He.Defn}
    (F : FunD K x qual params body scope [] [] f fd) (hf : f = He.fAd K p) (S : FnScope N ps scope) (len : ∀ vs H Q E, sp vs H Q E → vs.length = ps.length)
    (hbody : ∀ (A : Around) (outer : List Env) (s : Shared) (H : Hp) (vs : List V) (Q : VK) (E : XK), Room k (A.deeper (envOfC qual scope s.heap.objs.size f (.ref (He.codeOf K p)))) → sp vs H Q E →
      ∃ t, PSs (cxOf CX P w K mg base N qual scope f (.ref (He.codeOf K p)) A outer s H E) body t ∧ t { nx := fun _ H' => Q .non H', rt := Q } (start N vs) H) : FnOk P w K mg base CX (k + 1) f fd ps sp := by
  obtain ⟨oc, od, dV, kV, doc, pm, an, cdv, ct, osl, rfl, lk, hcd, _, _⟩ := F.ex
  obtain ⟨c, rfl⟩ := He.codeIn_ref hcd
  have e : He.codeOf K p = c := He.codeOf_eq (by rw [← hf]; exact lk) rfl
  rw [e] at hbody
  exact fn_of lk hcd S len fun A outer s H vs Q E hr hsp => hbody A outer s H vs Q E hr hsp

/-! ### readings of generator expressions -/
theorem take_all {α : Type} {l : List α} {pb : α → Bool} {i : Nat} {x : α} (h : l[i]? = some x) (ht : (l.take i).all pb = true) : (l.take (i + 1)).all pb = pb x := by
  rw [List.take_add_one, List.all_append, ht, h]
  simp
theorem all_fail {α : Type} {l : List α} {pb : α → Bool} {i : Nat} {x : α} (h : l[i]? = some x) (hx : pb x = false) : l.all pb = false := by
  cases e : l.all pb with
  | false => rfl
  | true =>
    have := List.all_eq_true.mp e x (List.mem_of_getElem? h)
    rw [hx] at this
    cases this
/-- all(.. for x in text) -/
theorem read_all_str {x : Str} {pb : Nat → Bool} {Pv : Hp → Prop} {g : TG} {te : TE} {vs : List Nat} {σ : L2.St} {H2 : Hp} {Q : VK} (h0 : Pv H2)
    (he : ∀ (i c : Nat) (H : Hp) (R : V → Hp → Prop), x.cps.toList[i]? = some c → Pv H → (∀ H4, Pv H4 → R (.bl (pb c)) H4) → g (.str ⟨#[c]⟩) (wipe σ vs) H fun σ2 H2 => wipe σ2 vs = wipe σ vs ∧ te σ2 H2 R) (hd : ∀ H, Pv H → Q (.bl (x.cps.toList.all pb)) H) :
    ∃ W : Nat → Nat → Hp → Prop, (∃ m, W 0 m H2) ∧ ∀ i m H, W i m H →
      ((Its x).stop i H ∧ Q (.bl true) H) ∨ ((Its x).go i H ∧ ∃ Nx : Hp → Prop, (∀ H', Nx H' → ∃ m', m' < m ∧ W (i + 1) m' H') ∧ ∀ v H', (Its x).yld i H v H' → g v (wipe σ vs) H' fun σ2 H2 => wipe σ2 vs = wipe σ vs ∧ tYes σ2 H2 fun b H3 =>
        if b = true then te σ2 H3 fun y H4 => ∃ c, y = .bl c ∧ (c = true → Nx H4) ∧ (c = (!true) → Q (.bl (!true)) H4) else Nx H3) := by
  have esz : x.cps.size = x.cps.toList.length := by simp
  refine ⟨fun i m H => m = x.cps.size - i ∧ i ≤ x.cps.size ∧ Pv H ∧ (x.cps.toList.take i).all pb = true, ⟨x.cps.size, by simp, Nat.zero_le _, h0, rfl⟩, ?_⟩
  rintro i m H ⟨rfl, hi, hp, ha⟩
  by_cases hlt : i < x.cps.size
  · refine .inr ⟨hlt, fun H' => Pv H' ∧ (x.cps.toList.take (i + 1)).all pb = true, fun H' q => ⟨x.cps.size - (i + 1), by omega, rfl, hlt, q⟩, fun v H' y => ?_⟩
    obtain ⟨rfl, c, hc, rfl⟩ := y
    have hc' : x.cps.toList[i]? = some c := by rw [Array.getElem?_toList]; exact hc
    refine he i c H' _ hc' hp fun H4 p4 => ⟨pb c, rfl, fun z => ⟨p4, ?_⟩, fun z => ?_⟩
    · rw [take_all hc' ha]
      exact z
    · have z : pb c = false := z
      have q5 := hd H4 p4
      rw [all_fail hc' z] at q5
      exact q5
  · have e : i = x.cps.size := by omega
    subst e
    refine .inl ⟨Nat.le_refl _, ?_⟩
    have q := hd H hp
    rw [List.take_of_length_le (by omega)] at ha
    rw [ha] at q
    exact q
/-- all(.. for x in xs), xs a tuple -/
theorem read_all_tup {K : PySem.W.Frag} {a : Addr} {xs : List V} {pb : V → Bool} {Pv : Hp → Prop} {g : TG} {te : TE} {vs : List Nat} {σ : L2.St} {H2 : Hp} {Q : VK} (h0 : Pv H2) (hl : ∀ H, Pv H → SqT K H a xs)
    (he : ∀ (i : Nat) (v : V) (H : Hp) (R : V → Hp → Prop), xs[i]? = some v → Pv H → (∀ H4, Pv H4 → R (.bl (pb v)) H4) → g v (wipe σ vs) H fun σ2 H2 => wipe σ2 vs = wipe σ vs ∧ te σ2 H2 R) (hd : ∀ H, Pv H → Q (.bl (xs.all pb)) H) :
    ∃ W : Nat → Nat → Hp → Prop, (∃ m, W 0 m H2) ∧ ∀ i m H, W i m H →
      ((Itt K a).stop i H ∧ Q (.bl true) H) ∨ ((Itt K a).go i H ∧ ∃ Nx : Hp → Prop, (∀ H', Nx H' → ∃ m', m' < m ∧ W (i + 1) m' H') ∧ ∀ v H', (Itt K a).yld i H v H' → g v (wipe σ vs) H' fun σ2 H2 => wipe σ2 vs = wipe σ vs ∧ tYes σ2 H2 fun b H3 =>
        if b = true then te σ2 H3 fun y H4 => ∃ c, y = .bl c ∧ (c = true → Nx H4) ∧ (c = (!true) → Q (.bl (!true)) H4) else Nx H3) := by
  refine ⟨fun i m H => m = xs.length - i ∧ i ≤ xs.length ∧ Pv H ∧ (xs.take i).all pb = true, ⟨xs.length, by simp, Nat.zero_le _, h0, rfl⟩, ?_⟩
  rintro i m H ⟨rfl, hi, hp, ha⟩
  by_cases hlt : i < xs.length
  · refine .inr ⟨⟨xs, xs[i], hl H hp, List.getElem?_eq_getElem hlt⟩, fun H' => Pv H' ∧ (xs.take (i + 1)).all pb = true, fun H' q => ⟨xs.length - (i + 1), by omega, rfl, hlt, q⟩, fun v H' y => ?_⟩
    obtain ⟨rfl, y⟩ := y
    have hc' : xs[i]? = some v := y xs (hl H' hp)
    refine he i v H' _ hc' hp fun H4 p4 => ⟨pb v, rfl, fun z => ⟨p4, ?_⟩, fun z => ?_⟩
    · rw [take_all hc' ha]
      exact z
    · have z : pb v = false := z
      have q5 := hd H4 p4
      rw [all_fail hc' z] at q5
      exact q5
  · have e : i = xs.length := by omega
    subst e
    refine .inl ⟨⟨xs, hl H hp, Nat.le_refl _⟩, ?_⟩
    have q := hd H hp
    rw [List.take_of_length_le (Nat.le_refl _)] at ha
    rw [ha] at q
    exact q
end Rd

/-! list(reversed(text)) -/
namespace Rs
open PySem PySem.Spec PyProof.Rows RT
theorem norev_str : typeLookup (.type "str") "__reversed__" = pure none := by rw [typeLookup_type, builtinLookup_eq_fast]; kernel_rfl
theorem item_str : typeLookup (.type "str") "__getitem__" = pure (some (.builtin "str.__getitem__")) := by rw [typeLookup_type, builtinLookup_eq_fast]; kernel_rfl
theorem nolen_rev : typeLookup (.type "reversed") "__len__" = pure none := by rw [typeLookup_type, builtinLookup_eq_fast]; kernel_rfl
theorem hint_rev : typeLookup (.type "reversed") "__length_hint__" = pure (some (.builtin "reversed.__length_hint__")) := by rw [typeLookup_type, builtinLookup_eq_fast]; kernel_rfl
theorem slot_hint : Slot "reversed" "__length_hint__" "reversed.__length_hint__" :=
  .of (owner := "reversed") (n := "__length_hint__") hint_rev (by decide +kernel) (by decide +kernel) (by decide +kernel) (by first | exact .inl (by decide +kernel) | exact .inr (by decide +kernel)) (by rw [isSubtype_type]; kernel_rfl)
theorem entry_hint : entryFor table "reversed.__length_hint__" = some Builtin.«reversed.__length_hint__» := entryFor_of_tree (by kernel_rfl)
theorem args_hint (a : Value) : argsOk "reversed.__length_hint__" ⟨[a], []⟩ := by
  unfold argsOk
  rw [signature?_of (id := "reversed.__length_hint__") (n := ['_', '_', 't', 'n', 'i', 'h', '_', 'h', 't', 'g', 'n', 'e', 'l', '_', '_']) (o := ['d', 'e', 's', 'r', 'e', 'v', 'e', 'r']) (by kernel_rfl) owner_rt]
  kernel_rfl
theorem desc_hint : typeOf (.builtin "reversed.__length_hint__") = pure (.type "method_descriptor") := by show builtinType _ = _; rw [builtinType_eq_fast]; kernel_rfl
theorem sub_str_dict : isSubtype (.type "str") (.type "dict") = pure false := by rw [isSubtype_type]; kernel_rfl
def rsObj (x : Str) (t : Tok) (i : Int) : Obj := { cls := .type "reversed", data := .fields #[.str x t, rawInt i] }
def IsRs (h : Heap) (a : Addr) (x : Str) (t : Tok) (i : Int) : Prop := ∃ o, h.get? a = some o ∧ o.cls = .type "reversed" ∧ o.data = .fields #[.str x t, rawInt i]
theorem IsRs.at {h h' : Heap} {a : Addr} {x : Str} {t : Tok} {i : Int} (z : IsRs h a x t i) (e : ∀ o, h.get? a = some o → h'.get? a = some o) : IsRs h' a x t i := let ⟨o, ho, r⟩ := z; ⟨o, e _ ho, r⟩
section
variable {prog : Program} {w : World} {A : Around} {E : Value → Shared → Prop} {s : Shared} {x : Str} {t : Tok}
theorem IsRs.typeIs {a : Addr} {i : Int} (z : IsRs s.heap a x t i) : s.TypeIs (.ref a) "reversed" := let ⟨o, ho, hc, _⟩ := z; ⟨o, ho, hc⟩
theorem line_index {n : Nat} (h : n ≤ sizeLine) : ¬ ((n : Int) ≥ 2 ^ 63) := by
  rw [sizeLine_eq] at h
  omega
theorem code_rs {Q1 : Value → Shared → Prop} (hz : x.length ≤ sizeLine) (h : Q1 (.ref s.heap.objs.size) { s with heap := s.heap.push (rsObj x t ((x.length : Int) - 1)), toks := s.toks + 1 + 1 }) :
    codeAny (model prog w) A (.call (.builtin "reversed.__new__") ⟨[.type "reversed", .str x t], []⟩) (wants Q1 E) s := by
  have hT : s.TypeIs (.str x t) "str" := rfl
  refine codeAny_of_tree ?_
  show wpAny _ A.in1 (do checkBuiltinCall "reversed.__new__" ⟨[.type "reversed", .str x t], []⟩; again (.builtin "reversed.__new__" ⟨[.type "reversed", .str x t], []⟩)) _ _ s
  refine wpAny_bind (wpAny_of_eq (F.newCall_reversed_1 _) (wpAny_pure ⟨plainId_quiet F.plain_reversed_new _, codeAny_builtin F.entry_reversed_new ?_⟩))
  rw [Around.under_plainId F.plain_reversed_new _]
  unfold Builtin.«reversed.__new__»
  refine wpAny_bind (wpAny_of_eq (newClass_reversed _) ?_)
  try dsimp only
  refine wpAny_bind (wpAny_of_eq (a := ()) (by first | rfl | kernel_rfl) ?_)
  try dsimp only
  refine wpAny_bind (wpAny_of_eq (a := ()) (by first | rfl | kernel_rfl) ?_)
  try dsimp only
  refine wpAny_bind (wpAny_specialOf hT norev_str ?_)
  try dsimp only
  refine wpAny_bind ?_
  wp_delta
  refine wpAny_bind (wpAny_isInstance (T := "str") (U := "dict") (b := false) hT sub_str_dict ?_)
  try dsimp only
  try rw [if_neg Bool.false_ne_true]
  try dsimp only
  refine wpAny_bind (wpAny_specialOf hT item_str ?_)
  try dsimp only
  try rw [if_pos (by decide +kernel)]
  refine wpAny_pure ?_
  try dsimp only
  try rw [if_neg (by decide)]
  try dsimp only
  refine wpAny_bind (len_str (line_index hz) ?_)
  refine wpAny_bind (wpAny_of_eq (a := some ((x.length : Nat) : Int)) rfl ?_)
  try dsimp only
  refine wpAny_bind ?_
  show wpAny _ _ (newObj (.type "reversed") (.fields #[.str x t, rawInt ((x.length : Int) - 1)])) _ _ _
  refine wpAny_newObj_type ?_
  exact wpAny_pure h
theorem call_rs {Q : Value → Shared → Prop} (hz : x.length ≤ sizeLine) (h : Q (.ref s.heap.objs.size) { s with heap := s.heap.push (rsObj x t ((x.length : Int) - 1)), toks := s.toks + 1 + 1 }) :
    wpAny (model prog w) A (call (.type "reversed") [.str x t]) Q E s := by
  refine callType_codes (Q₁ := fun obj s₁ => s₁.TypeIs obj "reversed" ∧ Q obj s₁) called_rt (F.typeCall_reversed_1 _) F.entry_object_init (code_rs (A := A.in1) hz ⟨⟨_, Heap.get?_push_size _ rfl, rfl⟩, h⟩) fun obj s1 h1 => ?_
  exact ⟨h1.1, F.args_object_init_2 obj _, object_init_meets called_rt.init.lookup called_rt.made (by decide) prog w A.in1 _ s1 ⟨h1.1, rfl, h1.2⟩⟩
theorem next_rs {it : Addr} {i : Nat} {c : Nat} {Q : Option Value → Shared → Prop} (hit : IsRs s.heap it x t (i : Int)) (hc0 : x.cps[i]? = some c) (hz : x.length ≤ sizeLine)
    (hQ : ∀ h' u k, IsRs h' it x t ((i : Int) - 1) → Heap.SameBut it s.heap h' → Q (some (.str ⟨#[c]⟩ u)) { s with heap := h', toks := k }) : wpAny (model prog w) A (pyNext (.ref it)) Q E s := by
  obtain ⟨o, ho, hc, hd⟩ := id hit
  have hi : i < x.cps.size := (Array.getElem?_eq_some_iff.mp hc0).1
  have hT : s.TypeIs (.str x t) "str" := rfl
  have hz2 := hz
  rw [sizeLine_eq] at hz2
  have hi2 : i < x.length := hi
  unfold pyNext
  refine wpAny_bind (wpAny_attempt (wpAny_callSpecial?_slot (name := Str.ofString "__next__") hit.typeIs slot_rt_next (wpAny_call_entry slot_rt_next hit.typeIs entry_rt_next ?_ (args_rt_next _))))
  unfold Builtin.«reversed.__next__»
  refine wpAny_bind (wpAny_of_eq (a := (Value.ref it, [])) rfl ?_)
  try dsimp only
  refine wpAny_bind (wpAny_field ho hd (x := .str x t) rfl ?_)
  try dsimp only
  refine wpAny_bind (wpAny_field ho hd (x := rawInt (i : Int)) rfl ?_)
  show wpAny _ _ (if (i : Int) < 0 then _ else _) _ _ s
  rw [if_neg (by omega)]
  try dsimp only
  refine wpAny_bind (wpAny_specialOf hT item_str ?_)
  try dsimp only
  try rw [if_neg (by decide)]
  try dsimp only
  refine wpAny_bind (wpAny_mkInt ?_)
  refine wpAny_bind (wpAny_attempt ?_)
  have fin : seqIndex? (i : Int) x.length = some i := seqIndex_of (by omega) (by omega)
  refine getItem_str (s := { s with toks := s.toks + 1 }) (c := c) (by rw [decide_eq_false (by omega), decide_eq_false (by omega)]; rfl) (by rw [fin]; exact hc0) ?_
  try dsimp only
  refine wpAny_bind (wpAny_field (s := { s with toks := s.toks + 1 + 1 }) ho hd (x := rawInt (i : Int)) rfl ?_)
  try dsimp only
  refine wpAny_bind (wpAny_setField (s := { s with toks := s.toks + 1 + 1 }) ho hd (by simp) ?_)
  first
  | refine wpAny_pure ⟨_, rfl, wpAny_pure (hQ _ _ _ ?_ (Heap.SameBut.update ..))⟩
  | refine wpAny_bind (wpAny_pure (wpAny_pure ⟨_, rfl, wpAny_pure (hQ _ _ _ ?_ (Heap.SameBut.update ..))⟩))
  exact ⟨_, Heap.get?_update_self _ ho (Obj.isFreed_of_fields (Obj.data_mapFields hd _)), (Obj.cls_mapFields ..).trans hc, by
    rw [Obj.data_mapFields hd]; simp⟩
theorem end_rs {it : Addr} {Q : Option Value → Shared → Prop} (hh : A.handled = none) (hit : IsRs s.heap it x t (-1)) (hQ : ∀ h', Heap.ExtBut it s.heap h' → Q none { s with heap := h' }) : wpAny (model prog w) A (pyNext (.ref it)) Q E s := by
  obtain ⟨o, ho, hc, hd⟩ := id hit
  unfold pyNext
  refine wpAny_bind (wpAny_attempt (wpAny_callSpecial?_slot (name := Str.ofString "__next__") hit.typeIs slot_rt_next (wpAny_call_entry slot_rt_next hit.typeIs entry_rt_next ?_ (args_rt_next _))))
  unfold Builtin.«reversed.__next__»
  refine wpAny_bind (wpAny_of_eq (a := (Value.ref it, [])) rfl ?_)
  try dsimp only
  refine wpAny_bind (wpAny_field ho hd (x := .str x t) rfl ?_)
  try dsimp only
  refine wpAny_bind (wpAny_field ho hd (x := rawInt (-1)) rfl ?_)
  show wpAny _ _ (if (-1 : Int) < 0 then _ else _) _ _ s
  rw [if_pos (by decide)]
  try dsimp only
  refine wpAny_bind (wpAny_rule ?_)
  refine wpAny_bind ?_
  wp_delta
  refine wpAny_bind (wpAny_setField ho hd (by simp) ?_)
  have ho2 := Heap.get?_update_self (Obj.mapFields (·.setIfInBounds 1 (rawInt (-1)))) ho (Obj.isFreed_of_fields (Obj.data_mapFields hd _))
  refine wpAny_setField (s := { s with heap := s.heap.update it (Obj.mapFields (·.setIfInBounds 1 (rawInt (-1)))) }) ho2 (Obj.data_mapFields hd _) (by simp) ?_
  try dsimp only
  first
  | show wpAny _ _ (newExc (.type "StopIteration") [] >>= _) _ _ _
  | (refine wpAny_bind ?_; show wpAny _ _ (newExc (.type "StopIteration") [] >>= _) _ _ _)
  | (refine wpAny_bind ?_; wp_delta; show wpAny _ _ (newExc (.type "StopIteration") [] >>= _) _ _ _)
  refine wpAny_bind ?_
  simp only [newExc, newTuple]
  refine wpAny_bind (wpAny_newObj_type ?_ (by size_fits))
  refine wpAny_bind (m := firstArgMember _ _) (wpAny_of_eq (a := Value.none) (by first | rfl | (simp only [firstArgMember]; rfl)) ?_)
  refine wpAny_newObj_type ?_ (by size_fits)
  simp only [raiseNew]
  refine wpAny_bind (wpAny_handled ?_)
  first | rw [show A.in1.handled = none from hh] | rw [hh]
  refine wpAny_bind (wpAny_pure (wpAny_throw ?_))
  refine wpAny_bind (wpAny_isInstance (T := "StopIteration") (b := true) ⟨_, Heap.get?_push_size _ rfl, rfl⟩ isSubtype_stop ?_)
  refine wpAny_pure (hQ _ ?_)
  refine ((?_ : Heap.ExtBut it s.heap _).push _).push _
  exact fun b ob hb e => (Heap.get?_update_other _ _ (Ne.symm hb)).trans ((Heap.get?_update_other _ _ (Ne.symm hb)).trans e)
theorem iter_rs {it : Addr} {i : Int} {Q : Value → Shared → Prop} (hit : IsRs s.heap it x t i) (h : Q (.ref it) s) : wpAny (model prog w) A (pyIter (.ref it)) Q E s := by
  refine wpAny_pyIter_slot hit.typeIs slot_rt_iter (wpAny_call_entry slot_rt_iter hit.typeIs entry_rt_iter ?_ (args_rt_iter _))
  show wpAny _ _ (ret (.ref it)) _ _ s
  exact wpAny_pure ⟨_, rfl, "reversed", _, hit.typeIs, slot_rt_next.lookup, h⟩
end
theorem walks_rs {prog : Program} {w : World} {A : Around} (hh : A.handled = none) (it : Addr) (x : Str) (t : Tok) (hz : x.length ≤ sizeLine) :
    Walks prog w A it [it] [it] x.cps.size (fun i v => ∃ c u, x.cps[x.cps.size - 1 - i]? = some c ∧ v = .str ⟨#[c]⟩ u) (fun i h => i ≤ x.cps.size ∧ IsRs h it x t ((x.cps.size : Int) - 1 - (i : Int))) where
  sub := fun b hb => hb
  frame := fun _ _ _ z hk => ⟨z.1, z.2.at fun o e => hk it (by simp) o e⟩
  item := fun i s Q E hi z hQ => by
    have e : (x.cps.size : Int) - 1 - (i : Int) = ((x.cps.size - 1 - i : Nat) : Int) := by omega
    have hit := z.2
    rw [e] at hit
    have hx : x.cps[x.cps.size - 1 - i]? = some (x.cps[x.cps.size - 1 - i]'(by omega)) := Array.getElem?_eq_getElem (by omega)
    refine next_rs hit hx hz fun h' u k hit' hs' => ?_
    have e2 : ((x.cps.size - 1 - i : Nat) : Int) - 1 = (x.cps.size : Int) - 1 - ((i + 1 : Nat) : Int) := by omega
    rw [e2] at hit'
    exact hQ _ h' k ⟨_, _, hx, rfl⟩ ⟨hi, hit'⟩ fun b o hb eo => hs'.extBut b o (fun h => hb (by simp [h])) eo
  done := fun s Q E z hQ => by
    have e : (x.cps.size : Int) - 1 - (x.cps.size : Int) = -1 := by omega
    have hit := z.2
    rw [e] at hit
    exact end_rs hh hit fun h' he' => hQ h' s.toks fun b o hb eo => he' b o (fun h => hb (by simp [h])) eo
  self := fun _ _ _ _ z hQ => iter_rs z.2 hQ

section
variable {prog : Program} {w : World} {A : Around} {E : Value → Shared → Prop} {s : Shared} {x : Str} {t : Tok}
theorem code_hint {it : Addr} {i : Nat} {Q : Value → Shared → Prop} (hit : IsRs s.heap it x t (i : Int)) (hi : i < x.length) (hz : x.length ≤ sizeLine) (hQ : ∀ u k, Q (.int ((i : Int) + 1) u) { s with toks := k }) :
    wpAny (model prog w) A (call (.builtin "reversed.__length_hint__") [.ref it]) Q E s := by
  obtain ⟨o, ho, hc, hd⟩ := id hit
  have hz2 := hz
  rw [sizeLine_eq] at hz2
  refine wpAny_call_entry slot_hint hit.typeIs entry_hint ?_ (args_hint _)
  unfold Builtin.«reversed.__length_hint__»
  refine wpAny_bind (wpAny_of_eq (a := Value.ref it) rfl ?_)
  try dsimp only
  refine wpAny_bind (wpAny_field ho hd (x := .str x t) rfl ?_)
  try dsimp only
  try rw [if_neg (by decide)]
  try dsimp only
  refine wpAny_bind (len_str (line_index hz) ?_)
  refine wpAny_bind (wpAny_of_eq (a := some ((x.length : Nat) : Int)) rfl ?_)
  try dsimp only
  refine wpAny_bind (wpAny_field (s := { s with toks := s.toks + 1 + 1 }) ho hd (x := rawInt (i : Int)) rfl ?_)
  show wpAny _ _ (if ((x.length : Nat) : Int) < (i : Int) + 1 then _ else _) _ _ _
  rw [if_neg (by omega)]
  show wpAny _ _ (retInt ((i : Int) + 1)) _ _ _
  exact wpAny_bind (wpAny_mkInt (wpAny_pure ⟨_, rfl, hQ _ _⟩))
/-- the length hint -/
theorem hint_rs {it : Addr} {i : Nat} {Q : Bool → Shared → Prop} (hit : IsRs s.heap it x t (i : Int)) (hi : i < x.length) (hz : x.length ≤ 1000000) (hQ : ∀ k, Q true { s with toks := k }) : wpAny (model prog w) A (Builtin.List.listLengthHint (.ref it)) Q E s := by
  obtain ⟨o, ho, hc, hd⟩ := id hit
  unfold Builtin.List.listLengthHint
  refine wpAny_bind (wpAny_specialOf hit.typeIs nolen_rev ?_)
  show wpAny _ _ (specialOf (Value.ref it) (Str.ofString "__length_hint__") >>= _) _ _ _
  refine wpAny_bind (wpAny_specialOf hit.typeIs hint_rev ?_)
  generalize hid : ("reversed.__length_hint__" : String) = id0
  wp_delta
  rw [show splitId id0 = some ("reversed", "__length_hint__") from by subst hid; decide +kernel]
  subst hid
  refine wpAny_bind (wpAny_isInstance (b := true) hit.typeIs (by rw [isSubtype_type]; kernel_rfl) ?_)
  try dsimp only
  rw [if_neg (show ¬ (!true) = true by decide)]
  rw [if_neg (by decide +kernel)]
  refine wpAny_bind (wpAny_rule ?_)
  refine wpAny_bind ?_
  unfold bindSpecial
  refine wpAny_bind (wpAny_of_eq desc_hint ?_)
  rw [if_pos (by decide +kernel)]
  refine wpAny_pure ?_
  try dsimp only
  refine wpAny_bind (wpAny_attempt (code_hint hit hi (Nat.le_trans hz (by decide)) fun u k => ?_))
  try dsimp only
  obtain ⟨j, hj⟩ : ∃ j : Int, j = (i : Int) + 1 := ⟨_, rfl⟩
  rw [← hj]
  refine wpAny_bind (wpAny_of_eq (show asInt? (.int j u) = pure (some j) from rfl) ?_)
  try dsimp only
  have h1 : Builtin.List.listFitsIndex j = true := by
    unfold Builtin.List.listFitsIndex
    rw [Bool.and_eq_true]
    exact ⟨decide_eq_true (by omega), decide_eq_true (by omega)⟩
  have h2 : Builtin.List.listTooLong j.toNat = false := by
    unfold Builtin.List.listTooLong
    exact decide_eq_false (by rw [sizeLine_eq]; omega)
  rw [if_neg (by rw [h1]; decide), if_neg (by omega), if_neg (by rw [h2]; decide)]
  have h3 : (j != 0) = true := by
    rw [bne_iff_ne]
    omega
  rw [h3]
  exact wpAny_pure (hQ k)
end

section
variable {prog : Program} {w : World} {A : Around} {E : Value → Shared → Prop} {s : Shared} {x : Str} {t : Tok}
/-- what is collected -/
abbrev RevAt (x : Str) (i : Nat) (v : Value) : Prop := ∃ c u, x.cps[x.cps.size - 1 - i]? = some c ∧ v = .str ⟨#[c]⟩ u
theorem extend_rs {R : Result → Shared → Prop} (hh : A.handled = none) {it S : Addr} {res : Value} {c0 : Nat} (hit : IsRs s.heap it x t ((x.cps.size : Int) - 1)) (h1 : 1 ≤ x.length) (hz : x.length ≤ 1000000) (hSI : S ≠ it) (hS : s.heap.get? S = some { cls := .type "list", data := .seq #[] c0 })
    (hR : ∀ h' tk acc' c', (∀ b o, b ≠ S → b ≠ it → s.heap.get? b = some o → h'.get? b = some o) → h'.get? S = some { cls := .type "list", dict := none, data := .seq acc' c', slots := #[] } → ItemsOf (RevAt x) acc' x.cps.size → R (.ok (.ret res)) { s with heap := h', toks := tk }) :
    wpAny (model prog w) A.in1 (Builtin.List.listExtendWith (.ref S) (.ref it) res)
      (fun fin s' => match fin with | .done f => R (.ok f) s' | .again c' => c'.quiet = true ∧ codeAny (model prog w) A c' R s') (fun e s' => R (.error e) s') s := by
  have hz2 : x.length ≤ sizeLine := Nat.le_trans hz (by decide)
  have W := (walks_rs (prog := prog) (w := w) (A := A.in1) hh it x t hz2).toS
  have hSf : S ∉ [it] := fun hm => hSI (List.mem_singleton.mp hm)
  have hx1 : 1 ≤ x.cps.size := h1
  have e0 : (x.cps.size : Int) - 1 = ((x.cps.size - 1 : Nat) : Int) := by omega
  unfold Builtin.List.listExtendWith
  refine wpAny_bind (wpAny_typeOf hit.typeIs ?_)
  have q1 : Builtin.List.listSameRef (.ref S) (.ref it) = false := by simp [Builtin.List.listSameRef, hSI]
  have q2 : (Value.type "reversed" == Value.type "list") = false := by decide
  have q3 : (Value.type "reversed" == Value.type "tuple") = false := by decide
  simp only [q1, q2, q3, Bool.or_false, Bool.false_eq_true, if_false]
  refine wpAny_bind (iter_rs hit ?_)
  refine wpAny_bind (wpAny_holding ?_)
  refine hint_rs (i := x.cps.size - 1) (by rw [← e0]; exact hit) (by show x.cps.size - 1 < x.cps.size; omega) hz fun k => ?_
  show wpAny _ A.in1 (rule "list.extend.makes-room" >>= fun _ => Builtin.List.listTouch (.ref S) >>= fun _ => again (.builtin "list.extend.loop" ⟨[.ref S, .ref it, res], []⟩)) _ _ _
  refine wpAny_bind (wpAny_rule ?_)
  refine wpAny_bind ?_
  show wpAny _ A.in1 (updateSeq S (·.push .none) >>= fun _ => updateSeq S (·.pop)) _ _ _
  refine wpAny_bind (wpAny_updateSeq (s := { s with toks := k }) hS rfl ?_)
  have hS2 := Heap.get?_update_self (Obj.mapSeq (·.push Value.none)) hS rfl
  refine wpAny_updateSeq (hz := by seq_fits) hS2 rfl ?_
  have hS3 := Heap.get?_update_self (Obj.mapSeq (·.pop)) hS2 rfl
  have oth : ∀ b o, b ≠ S → s.heap.get? b = some o → ((s.heap.update S (Obj.mapSeq (·.push Value.none))).update S (Obj.mapSeq (·.pop))).get? b = some o :=
    fun b o hb e => (Heap.get?_update_other _ _ (Ne.symm hb)).trans ((Heap.get?_update_other _ _ (Ne.symm hb)).trans e)
  have ez : (x.cps.size : Int) - 1 - ((0 : Nat) : Int) = (x.cps.size : Int) - 1 := by omega
  refine wpAny_pure ⟨plainId_quiet F.plain_extend_loop _, codeAny_extend_loopS W hz2 _ hSf _ x.cps.size 0 _ _ _ rfl (Nat.zero_le _) ⟨Nat.zero_le _, by rw [ez]; exact hit.at fun o e => oth it o (Ne.symm hSI) e⟩ hS3 (ItemsOf.nil _) fun s' acc' c' hm hS' hacc => ?_⟩
  rw [Moved.eq_with hm]
  refine hR s'.heap s'.toks acc' c' (fun b ob hb hi e => hm.heap b ob (fun hmem => ?_) (oth b ob hb e)) hS' hacc
  rcases List.mem_cons.mp hmem with e' | hmem
  · exact hb e'
  · exact hi (List.mem_singleton.mp hmem)
theorem call_list_rs {Q : Value → Shared → Prop} (hh : A.handled = none) {it : Addr} (hit : IsRs s.heap it x t ((x.cps.size : Int) - 1)) (h1 : 1 ≤ x.length) (hz : x.length ≤ 1000000)
    (hQ : ∀ h' tk acc' c', (∀ b o, b ≠ it → s.heap.get? b = some o → h'.get? b = some o) → h'.get? s.heap.objs.size = some { cls := .type "list", dict := none, data := .seq acc' c', slots := #[] } → ItemsOf (RevAt x) acc' x.cps.size → Q (.ref s.heap.objs.size) { s with heap := h', toks := tk }) :
    wpAny (model prog w) A (call (.type "list") [.ref it]) Q E s := by
  have hlt : it < s.heap.objs.size := let ⟨_, ho, _⟩ := hit; Heap.lt_size ho
  refine callType_codes (Q₁ := fun obj s₁ => obj = .ref s.heap.objs.size ∧ s₁ = { s with heap := s.heap.push { cls := .type "list", data := .seq #[] } }) F.called_list (F.typeCall_list_1 _) F.entry_list_init
    (code_list_new _ ⟨rfl, rfl⟩) fun obj s1 hs1 => ?_
  obtain ⟨rfl, rfl⟩ := hs1
  have hS : (s.heap.push { cls := .type "list", data := .seq #[] }).get? s.heap.objs.size = some { cls := .type "list", data := .seq #[] } := Heap.get?_push_size _ rfl
  refine ⟨⟨_, hS, rfl⟩, F.args_list_init_2 _ _, ?_⟩
  show wpAny _ A.in1.in1 (do let old ← Builtin.List.listItems (.ref s.heap.objs.size); Builtin.List.listUpdate (.ref s.heap.objs.size) (fun _ => #[]); letGo old.toList.reverse; Builtin.List.listExtendWith (.ref s.heap.objs.size) (.ref it) .none) _ _ _
  refine wpAny_bind ?_
  unfold Builtin.List.listItems
  refine wpAny_bind (wpAny_seqItems hS rfl (wpAny_pure ?_))
  show wpAny _ A.in1.in1 (updateSeq s.heap.objs.size (fun _ => #[]) >>= fun _ => letGo (#[] : Array Value).toList.reverse >>= fun _ => Builtin.List.listExtendWith (.ref s.heap.objs.size) (.ref it) .none) _ _ _
  refine wpAny_bind (wpAny_updateSeq hS rfl ?_)
  have hS2 := Heap.get?_update_self (Obj.mapSeq (fun _ => (#[] : Array Value))) hS rfl
  have oth : ∀ b o, b ≠ s.heap.objs.size → (s.heap.push { cls := .type "list", data := .seq #[] }).get? b = some o → ((s.heap.push { cls := .type "list", data := .seq #[] }).update s.heap.objs.size (Obj.mapSeq (fun _ => (#[] : Array Value)))).get? b = some o :=
    fun b o hb e => (Heap.get?_update_other _ _ (Ne.symm hb)).trans e
  have old : ∀ b o, s.heap.get? b = some o → ((s.heap.push { cls := .type "list", data := .seq #[] }).update s.heap.objs.size (Obj.mapSeq (fun _ => (#[] : Array Value)))).get? b = some o :=
    fun b o e => oth b o (Nat.ne_of_lt (Heap.lt_size e)) (Heap.get?_push_of_some _ e)
  refine wpAny_bind (wpAny_letGo ?_)
  refine extend_rs (A := A.in1) hh (hit.at fun o e => old it o e) h1 hz (Nat.ne_of_gt hlt) hS2 fun h' tk acc' c' hk hS' hacc => ?_
  exact ⟨rfl, hQ h' tk acc' c' (fun b o hb e => hk b o (Nat.ne_of_lt (Heap.lt_size e)) hb (old b o e)) hS' hacc⟩
end
theorem vals_rs {x : Str} {acc : Array Value} (h : ItemsOf (RevAt x) acc x.cps.size) : L2.Vals (x.cps.toList.reverse.map fun c => L2.V.str ⟨#[c]⟩) acc.toList := by
  have key : ∀ (l : List L2.V) (us : List Value), l.length = us.length → (∀ (i : Nat) (v : L2.V) (u : Value), l[i]? = some v → us[i]? = some u → L2.RelV v u) → L2.Vals l us := by
    intro l
    induction l with
    | nil =>
      intro us hl _
      cases us with
      | nil => exact .nil
      | cons _ _ => cases hl
    | cons v r ih =>
      intro us hl hr
      cases us with
      | nil => cases hl
      | cons u us => exact .cons (hr 0 v u rfl rfl) (ih us (Nat.succ.inj hl) fun i a b h1 h2 => hr (i + 1) a b h1 h2)
  have hs : acc.toList.length = x.cps.size := by rw [Array.length_toList]; exact h.1
  refine key _ _ (by rw [List.length_map, List.length_reverse, Array.length_toList, hs]) fun i v u h1 h2 => ?_
  rw [Array.getElem?_toList] at h2
  obtain ⟨c, tk, hc, rfl⟩ := h.2 i u h2
  have hi : i < x.cps.size := by
    have := (Array.getElem?_eq_some_iff.mp h2).1
    rw [h.1] at this
    exact this
  rw [List.getElem?_map, List.getElem?_reverse (by rw [Array.length_toList]; exact hi), Array.length_toList, Array.getElem?_toList, hc] at h1
  cases h1
  exact ⟨tk, rfl⟩
section
open L2
variable {X : Cx}
/-- list(reversed(x)), x a text: a new list of its signs, from behind -/
def tListRs (te : TE) : TE := fun σ H Q => te σ H fun v H1 => ∃ x : Str, v = .str x ∧ 1 ≤ x.length ∧ x.length ≤ 1000000 ∧ ∀ q, H1 q = none → Q (.ref q) (upd H1 q (.lst (x.cps.toList.reverse.map fun c => V.str ⟨#[c]⟩)))
theorem pe_listRs {e : Expr} {te : TE} {p p2 pos pos2 : Pos} (hc : X.calm = true) (hg : Gl X "list") (hm : X.mg "list" = none) (hg2 : Gl X "reversed") (hm2 : X.mg "reversed" = none) (he : PE X e te)
    (hs : starEach [e] X.env = (false, eval e X.env) :: starEach [] X.env := by rfl)
    (hs2 : starEach [.Call (.Name "reversed" p2) [e] [] pos2] X.env = (false, eval (.Call (.Name "reversed" p2) [e] [] pos2) X.env) :: starEach [] X.env := by rfl) :
    PE X (.Call (.Name "list" p) [.Call (.Name "reversed" p2) [e] [] pos2] [] pos) (tListRs te) := by
  refine ⟨fun pins s σ H Q I h => ?_⟩
  refine Call_ (ld_blt (u := .type "list") I hg hm (by decide +kernel) (PyProof.Rows.callWith_type1 (args_cons (Call_ (ld_blt I hg2 hm2 PyProof.Rows.boot_reversed (PyProof.Rows.callWith_type1 (args_cons (thn (he.run pins s σ H _ I h) fun u s1 hq => args_nil ?_) hs) hs rfl))) hs2) hs2 rfl))
  obtain ⟨v, H1, I1, r1, x, ev, h1, hz, q⟩ := hq
  subst ev
  obtain ⟨t, rfl⟩ := r1
  refine call_rs (Nat.le_trans hz (by decide)) (args_nil ?_)
  have k0 : ∀ b o, s1.heap.get? b = some o → (s1.heap.push (rsObj x t ((x.length : Int) - 1))).get? b = some o := fun b o e => Heap.get?_push_of_some _ e
  have I2 : Inv X pins σ H1 { s1 with heap := s1.heap.push (rsObj x t ((x.length : Int) - 1)), toks := s1.toks + 1 + 1 } := I1.kept k0
  obtain ⟨f0, f1, f2, f3, f4, f5⟩ := I1.fpOk (H' := H1) (b := s1.heap.objs.size) (Nat.le_refl _) (I1.hok.fresh (Nat.le_refl _))
  refine call_list_rs (s := { s1 with heap := s1.heap.push (rsObj x t ((x.length : Int) - 1)), toks := s1.toks + 1 + 1 }) (I1.ok.hd hc) ⟨_, Heap.get?_push_size _ rfl, rfl, rfl⟩ h1 hz fun h' tk acc c' hk hS hi => ?_
  have hne : (s1.heap.push (rsObj x t ((x.length : Int) - 1))).objs.size ≠ s1.heap.objs.size := by
    rw [Heap.size_push]
    exact Nat.succ_ne_self _
  have kp : ∀ b u, s1.heap.get? b = some u → h'.get? b = some u := fun b u e => hk b u (Nat.ne_of_lt (Heap.lt_size e)) (Heap.get?_push_of_some _ e)
  have hD : s1.heap.objs.size ≤ (s1.heap.push (rsObj x t ((x.length : Int) - 1))).objs.size := by
    rw [Heap.size_push]
    exact Nat.le_succ _
  refine ⟨.ref (s1.heap.push (rsObj x t ((x.length : Int) - 1))).objs.size, _, I1.laid (t' := tk) kp hD (show ObjOk X.prog X.w _ h' _ (.lst (x.cps.toList.reverse.map fun c => V.str ⟨#[c]⟩)) from ⟨?_, acc.toList, c', vals_rs hi, ?_⟩), rfl, q _ (I1.hok.fresh hD)⟩
  · rw [List.length_map, List.length_reverse, Array.length_toList]
    exact Nat.le_trans hz (by decide)
  · rw [hS, Array.toArray_toList]
end
end Rs

namespace Dm
open PySem PySem.Spec PyProof.Rows L2

/-! ### xs.extend(t), t a tuple -/
theorem extend_tup (l : Addr) (items : Array Value) (n : Nat) (b : Addr) (items2 : Array Value) (n2 : Nat) (dd : Option Addr) (sl : Array (Option Value)) (hs0 : ¬(!items.isEmpty && Builtin.List.listTooLong (items.size + items2.size)) = true)
    (hs1 : items.size ≤ sizeLine) (hs2 : items.size + items2.size ≤ sizeLine + 1) :
    Meets (Builtin.«list.extend» { pos := [Value.ref l, Value.ref b] }) fun x R s =>
      s.heap.get? l = some { cls := Value.type "list", data := Data.seq items n } ∧ s.heap.get? b = some { cls := Value.type "tuple", dict := dd, data := Data.seq items2 n2, slots := sl } ∧
        R (Except.ok (Flow.ret Value.none)) { heap := s.heap.update l (Obj.mapSeq fun x => x ++ items2), gens := s.gens, drawn := s.drawn, toks := s.toks, os := s.os } := by
  refine Meets.of_wp fun prog w A R s h => ?_
  obtain ⟨hp, g, d, tk, os⟩ := s
  obtain ⟨hl, hb, h⟩ := h
  have hz' : (items ++ items2).size ≤ sizeLine + 1 := by rw [Array.size_append]; exact hs2
  have e0 : (!items.isEmpty && Builtin.List.listTooLong (items.size + items2.size)) = false := Bool.of_not_eq_true hs0
  refine wpAny_bind ?_
  refine wpAny_bind ?_
  refine wpAny_ite_true rfl ?_
  refine wpAny_pure (wpAny_pure ?_)
  refine wpAny_bind ?_
  refine wpAny_bind ?_
  refine AutoSeq1.wpAny_loadPart' hb ?_
  refine wpAny_pure ?_
  refine wpAny_ite_true (by simp) ?_
  refine wpAny_bind ?_
  refine wpAny_bind ?_
  refine wpAny_bind ?_
  refine wpAny_load' hb ?_
  refine wpAny_pure (wpAny_pure ?_)
  refine wpAny_bind ?_
  refine wpAny_bind ?_
  refine wpAny_bind ?_
  refine wpAny_load' hl ?_
  refine wpAny_pure (wpAny_pure ?_)
  refine wpAny_ite_false (by simp [e0]) ?_
  refine wpAny_bind ?_
  exact wpAny_updateSeq hl rfl (wpAny_pure ⟨Value.none, rfl, h⟩) hs1 hz'
def rExtendT (K : PySem.W.Frag) (x : V) (vs : List V) (H : Hp) (Q : VK) : Prop :=
  ∃ l b xs zs, x = .ref l ∧ vs = [.ref b] ∧ H l = some (.lst xs) ∧ SqT K H b zs ∧ xs.length + zs.length ≤ sizeLine ∧ Q .non (upd H l (.lst (xs ++ zs)))
theorem mt_extendT {X : Cx} : MtM X "list.extend" (rExtendT X.K) := by
  intro pins s σ H x vs v us Q I rx rv h
  obtain ⟨l, b, xs, zs, rfl, rfl, hH, hB, hz, q⟩ := h
  cases rx
  obtain ⟨u, rfl, ru⟩ := Vals.one rv
  cases ru
  obtain ⟨z, its, n, r, hl, e⟩ := Inv.lstM I hH
  obtain ⟨its2, r2, ⟨o, e2, oc, n2, od⟩, z2⟩ := Inv.tuple I hB
  obtain ⟨c, dd, data, sl⟩ := o
  subst oc
  subst od
  have hl2 : zs.length = its2.length := Vals.length r2
  have hsz : its.toArray.size + its2.toArray.size ≤ sizeLine := by
    rw [List.size_toArray, List.size_toArray]
    omega
  have hlong : ¬(!its.toArray.isEmpty && Builtin.List.listTooLong (its.toArray.size + its2.toArray.size)) = true := by
    rw [notLongL hsz, Bool.and_false]
    exact Bool.false_ne_true
  refine call_meets F.slot_list_extend ⟨_, e, rfl⟩ F.entry_list_extend (F.args_list_extend_2 (.ref l) (.ref b)) (extend_tup l its.toArray n b its2.toArray n2 dd sl hlong (by omega) (by omega)) ⟨e, e2, .non, upd H l (.lst (xs ++ zs)), ?_, rfl, q⟩
  exact Inv.lset I hH e (List.append_toArray its its2) (Vals.append r r2) (by rw [List.length_append]; exact hz)

/-! ### d == e, d != e: dicts with number and text keys, values data -/
def DpK (K : PySem.W.Frag) (H : Hp) (ks : List (Key × V)) (kd : List (Key × PyData)) : Prop := Paired (fun p q => p.1 = q.1 ∧ Dp K H p.2 q.2 ∧ SeqAt.shaped q.2 = true) ks kd
def dataAt (ld : List (Key × PyData)) (k : Key) : Option PyData := (ld.find? fun kv => decide (kv.1 = k)).map (·.2)
def hitB (ld : List (Key × PyData)) : List (Key × PyData) → Bool
  | [] => true
  | p :: r => match dataAt ld p.1 with
    | none => false
    | some e => p.2.eqv e && hitB ld r
def sameB (kd ld : List (Key × PyData)) : Bool := kd.length == ld.length && hitB ld kd
theorem find_kv {K : PySem.W.Frag} {H : Hp} : ∀ {ls : List (Key × V)} {vb : List (Key × Value)} {ld : List (Key × PyData)}, KV ls vb → DpK K H ls ld → ∀ k : Key,
    (dataAt ld k = none ∧ valueAt vb k = none) ∨ ∃ v u d, dataAt ld k = some d ∧ valueAt vb k = some u ∧ RelV v u ∧ Dp K H v d ∧ SeqAt.shaped d = true
  | _, _, _, .nil, .nil, k => .inl ⟨rfl, rfl⟩
  | _, _, _, .cons (a := p) (b := q) h1 t1, .cons (b := d) h2 t2, k => by
    by_cases e : p.1 = k
    · refine .inr ⟨p.2, q.2, d.2, ?_, ?_, h1.2, h2.2.1, h2.2.2⟩
      · unfold dataAt
        rw [List.find?_cons_of_pos (p := fun kv : Key × PyData => decide (kv.1 = k)) (decide_eq_true (h2.1 ▸ e))]
        rfl
      · unfold valueAt
        rw [List.find?_cons_of_pos (p := fun kv : Key × Value => decide (kv.1 = k)) (decide_eq_true (h1.1 ▸ e))]
        rfl
    · have g := find_kv t1 t2 k
      unfold dataAt valueAt at g ⊢
      rw [List.find?_cons_of_neg (by simpa [← h2.1] using e), List.find?_cons_of_neg (by simpa [← h1.1] using e)]
      exact g
theorem hits_of {X : Cx} {pins : List (Addr × Obj)} {σ : L2.St} {H : Hp} {s : Shared} (I : L2.Inv X pins σ H s) (hu : X.A.in1.units + 64 < cLine) {ls : List (Key × V)} {vb : List (Key × Value)} {ld : List (Key × PyData)} (rb : KV ls vb) (db : DpK X.K H ls ld) :
    ∀ {ks : List (Key × V)} {va : List (Key × Value)} {kd : List (Key × PyData)}, KV ks va → DpK X.K H ks kd → PySem.W.KeqHits X.A.in1 s vb va (hitB ld kd)
  | _, _, _, .nil, .nil => .nil
  | _, _, _, .cons (a := p) (b := q) h1 t1, .cons (b := d) h2 t2 => by
    obtain ⟨q1, q2⟩ := q
    obtain ⟨d1, d2⟩ := d
    obtain ⟨e1, r1⟩ := h1
    obtain ⟨e2, r2, r3⟩ := h2
    have e1 : p.1 = q1 := e1
    have e2 : p.1 = d1 := e2
    subst e1
    rcases find_kv rb db p.1 with ⟨h3, h4⟩ | ⟨v, u, d, h3, h4, h5, h6, h7⟩
    · unfold hitB
      rw [show dataAt ld d1 = none from e2 ▸ h3]
      exact .miss h4
    · unfold hitB
      rw [show dataAt ld d1 = some d from e2 ▸ h3]
      obtain ⟨as, ra⟩ := Dp.reads I d2 p.2 q2 r2 r1
      obtain ⟨bs, rb2⟩ := Dp.reads I d v u h6 h5
      exact .hit h4 (PySem.W.keq_at ra rb2 r3 h7 hu) (hits_of I hu rb db t1 t2)
def rNeDK (K : PySem.W.Frag) : R2 := fun x y H Q => ∃ a b ks ls kd ld, x = .ref a ∧ y = .ref b ∧ H a = some (.dK ks) ∧ H b = some (.dK ls) ∧ DpK K H ks kd ∧ DpK K H ls ld ∧ Q (.bl (!sameB kd ld)) H
theorem op_neDK {X : Cx} (hu : X.A.units + 65 < cLine) : OpR X (compareOp .NotEq) (rNeDK X.K) := by
  intro pins s σ H x y v u Q I rx ry h
  obtain ⟨a, b, ks, ls, kd, ld, rfl, rfl, ea, eb, hk, hl, q⟩ := h
  cases rx
  cases ry
  obtain ⟨_, ya, va, ra, da⟩ := dk_of I.hok ea
  obtain ⟨_, yb, vb, rb, db⟩ := dk_of I.hok eb
  have i1 : X.A.in1.units + 64 < cLine := by
    have : X.A.in1.units = X.A.units + 1 := rfl
    omega
  refine PySem.W.keq_ne ya yb da db (by omega) (fun _ => hits_of I i1 rb hl ra hk) (fin_bl I q ?_)
  unfold sameB
  have l1 : va.length = kd.length := (KV.length ra).symm.trans (Paired.length hk)
  have l2 : vb.length = ld.length := (KV.length rb).symm.trans (Paired.length hl)
  rw [l1, l2]
end Dm

namespace Rd
open PySem PySem.Spec PyProof.Rows L2 GxR
open C8 (pss_cut tCut)
/-! ### words, plainly -/
theorem one_lt (a b : Nat) : decide (([a] : List Nat) < [b]) = decide (a < b) := by
  by_cases h : a < b
  · rw [decide_eq_true h]
    exact decide_eq_true (List.cons_lt_cons_iff.mpr (.inl h))
  · rw [decide_eq_false h]
    refine decide_eq_false fun z => ?_
    rcases List.cons_lt_cons_iff.mp z with z | ⟨_, z⟩
    · exact h z
    · exact List.not_lt_nil _ z
def signB (c : Nat) : Bool := (!decide (c < 33) && !decide (36 < c)) || (!decide (c < 38) && !decide (126 < c))
def wordB (a : Str) : Bool := decide ((1 : Int) ≤ (a.length : Int)) && (decide ((a.length : Int) ≤ 40) && a.cps.toList.all signB)
theorem wordB_len {a : Str} (h : wordB a = true) : 1 ≤ a.length ∧ a.length ≤ 40 := by
  unfold wordB at h
  rw [Bool.and_eq_true, Bool.and_eq_true] at h
  obtain ⟨h1, h2, _⟩ := h
  have h1 := of_decide_eq_true h1
  have h2 := of_decide_eq_true h2
  omega
theorem wordB_signs {a : Str} (h : wordB a = true) : ∀ c ∈ a.cps.toList, signB c = true := by
  unfold wordB at h
  rw [Bool.and_eq_true, Bool.and_eq_true] at h
  exact List.all_eq_true.mp h.2.2
theorem small_line {n : Nat} (h : n ≤ 1000000) : n ≤ sizeLine := Nat.le_trans h (by decide)
theorem tyL {K : PySem.W.Frag} {H : Hp} {a : Addr} {xs : List V} (h : SqL K H a xs) : TyX K H (.ref a) (.type "list") := by
  rcases h with (h | ⟨o, h⟩) | ⟨o, its, n, e, c, _⟩
  · exact .base (.lst h)
  · exact .base (.frz h)
  · exact .kList e c
theorem tyT {K : PySem.W.Frag} {H : Hp} {a : Addr} {xs : List V} (h : SqT K H a xs) : TyX K H (.ref a) (.type "tuple") := by
  rcases h with (h | ⟨o, h⟩) | ⟨o, its, n, e, c, _⟩
  · exact .base (.tup h)
  · exact .fTuple h
  · exact .kTuple e c
theorem for_enum {K : PySem.W.Frag} {a : Addr} {xs : List V} {g : TG} {tb : TS} {D : Ends} {σ : L2.St} {H : Hp} (Pv : Nat → L2.St → Hp → Prop) (h0 : Pv 0 σ H) (hl : ∀ i σ H, i ≤ xs.length → Pv i σ H → SqL K H a xs)
    (hs : ∀ (i : Nat) (x : V) (T : Addr) (σ : L2.St) (H : Hp), xs[i]? = some x → H T = none → Pv i σ H → g (.ref T) σ (upd H T (.tup [.int (i : Nat), x])) fun σ2 H2 => tb { D with nx := Pv (i + 1), ct := Pv (i + 1), bk := D.nx } σ2 H2) (hd : ∀ σ H, Pv xs.length σ H → D.nx σ H) :
    ∃ W : Nat → Nat → L2.St → Hp → Prop, (∃ m, W 0 m σ H) ∧ ∀ i m σ H, W i m σ H →
      ((Ite K a).stop i H ∧ D.nx σ H) ∨ ((Ite K a).go i H ∧ ∃ N : L2.St → Hp → Prop, (∀ σ' H', N σ' H' → ∃ m', m' < m ∧ W (i + 1) m' σ' H') ∧ ∀ x H', (Ite K a).yld i H x H' → g x σ H' fun σ2 H2 => tb { D with nx := N, ct := N, bk := D.nx } σ2 H2) := by
  refine ⟨fun i m σ H => m = xs.length - i ∧ i ≤ xs.length ∧ Pv i σ H, ⟨xs.length, by simp, Nat.zero_le _, h0⟩, ?_⟩
  rintro i m σ H ⟨rfl, hi, p⟩
  have q := hl i σ H hi p
  by_cases hlt : i < xs.length
  · refine .inr ⟨⟨xs, xs[i], q, by simp [hlt]⟩, Pv (i + 1), fun σ' H' p' => ⟨xs.length - (i + 1), by omega, rfl, hlt, p'⟩, fun x H' y => ?_⟩
    obtain ⟨T, z, rfl, nT, rfl, hz⟩ := y
    exact hs i z T σ H (hz xs q) nT p
  · have e : i = xs.length := by omega
    subst e
    exact .inl ⟨⟨xs, q, Nat.le_refl _⟩, hd σ H p⟩
theorem yesT {σ : L2.St} {H : Hp} {f g : Hp → Prop} (h : f H) : tYes σ H fun b H3 => if b = true then f H3 else g H3 := by
  show if true = true then f H else g H
  exact iteT h
theorem Kp.set {Ps : List Addr} {H H' : Hp} (t : Tb Ps H) (k : Kp Ps H H') {D : Addr} {o : HO} (h : H D = Option.none) : Kp Ps H (upd H' D o) := by
  have hD := t.none h
  refine ⟨fun P hP => ?_, fun b u hb e => ?_⟩
  · obtain ⟨ps, h1, h2⟩ := k.1 P hP
    exact ⟨ps, by rw [upd_ne (fun z => hD (by rw [← z]; exact hP))]; exact h1, h2⟩
  · rw [upd_ne (ne_of_none e h)]
    exact k.2 b u hb e
def top (i : Nat) : Stmt := PySem.Challenge.pw_redraft_k04_a_telling_done.main.body.getD i (.Pass ⟨0, 0, 0, 0⟩)
abbrev sIsSign : Stmt := top 9
abbrev sIsWord : Stmt := top 10
abbrev sCheckWords : Stmt := top 11
abbrev sCheckLength : Stmt := top 12
abbrev sCheckText : Stmt := top 13
abbrev sIsNumber : Stmt := top 21
abbrev sRowWords : Stmt := top 22
abbrev sIsRow : Stmt := top 23
abbrev sCheckRows : Stmt := top 24
abbrev sWordsOf : Stmt := top 25
abbrev sBlocksOf : Stmt := top 26
abbrev sCheckFit : Stmt := top 27
abbrev sDone : Stmt := top 28
abbrev sTurned : Stmt := top 29
abbrev sCellAt : Stmt := top 31
abbrev sSignBy : Stmt := top 32
abbrev sWordBy : Stmt := top 33
abbrev sNear : Stmt := top 34
abbrev sMenu : Stmt := top 35
abbrev sBuiltRow : Stmt := top 36
abbrev sBuilt : Stmt := top 37
abbrev sLawWordsOf : Stmt := top 38
abbrev sAlike : Stmt := top 39
abbrev sLaw : Stmt := top 40
/-! ### the program's words -/
section
variable {P : Program} {w : World} {K : PySem.W.Frag} {mg : Str → Option Value} {base : Heap}
abbrev FnP (K : PySem.W.Frag) (x : Str) (st : Stmt) (f : Addr) (fd : FuncData) : Prop := FunD K x x (defArgs st) (defBody st) (defScope st) [] [] f fd
theorem scIsSign : FnScope ["sign"] ["sign"] (defScope sIsSign) := ⟨rfl, rfl, rfl, by decide +kernel, rfl, by decide +kernel, by decide +kernel⟩
theorem scIsWord : FnScope ["word", "sign"] ["word"] (defScope sIsWord) := ⟨rfl, rfl, rfl, by decide +kernel, rfl, by decide +kernel, by decide +kernel⟩
def spIsSign : Sp := fun vs H Q _ => ∃ c : Nat, vs = [.str ⟨#[c]⟩] ∧ Q (.bl (signB c)) H
theorem ok_is_sign {f : Addr} {fd : FuncData} (F : FnP K "is_sign" sIsSign f fd) : FnOk P w K mg base (L2.CX P w) 1 f fd ["sign"] spIsSign := by
  refine F.ok scIsSign (fun vs H Q E h => ?_) (fun cdv A outer s H vs Q E hr h => ?_)
  · obtain ⟨c, rfl, _⟩ := h
    rfl
  · obtain ⟨c, rfl, q⟩ := h
    refine ⟨_, pss_one (ps_ret (pe_or (pe_chain op_le_str op_le_str pe_str (pv 0) pe_str) (pe_one (pe_chain op_le_str op_le_str pe_str (pv 0) pe_str)))), ?_⟩
    have k1 : ("!" : Str).cps.toList = [33] := by decide +kernel
    have k2 : ("$" : Str).cps.toList = [36] := by decide +kernel
    have k3 : ("&" : Str).cps.toList = [38] := by decide +kernel
    have k4 : ("~" : Str).cps.toList = [126] := by decide +kernel
    have kc : (⟨#[c]⟩ : Str).cps.toList = [c] := rfl
    refine ⟨_, rfl, _, _, rfl, rfl, _, rfl, ?_⟩
    rw [k1, kc, one_lt]
    unfold signB at q
    by_cases h1 : c < 33
    · rw [decide_eq_true h1] at q ⊢
      refine iteF ⟨_, rfl, iteF ⟨_, rfl, _, _, rfl, rfl, _, rfl, ?_⟩⟩
      rw [k3, kc, one_lt]
      by_cases h3 : c < 38
      · rw [decide_eq_true h3] at q ⊢
        exact iteF q
      · omega
    · rw [decide_eq_false h1] at q ⊢
      refine iteT ⟨_, _, rfl, rfl, ?_⟩
      rw [k2, kc, one_lt]
      by_cases h2 : 36 < c
      · rw [decide_eq_true h2] at q ⊢
        refine ⟨_, rfl, iteF ⟨_, rfl, _, _, rfl, rfl, _, rfl, ?_⟩⟩
        rw [k3, kc, one_lt]
        by_cases h3 : c < 38
        · rw [decide_eq_true h3] at q ⊢
          exact iteF q
        · rw [decide_eq_false h3] at q ⊢
          refine iteT ⟨_, _, rfl, rfl, ?_⟩
          rw [k4, kc, one_lt]
          exact q
      · rw [decide_eq_false h2] at q ⊢
        exact ⟨_, rfl, iteT q⟩

def spIsWord (Ps : List Addr) : Sp := fun vs H Q _ => ∃ a : Str, vs = [.str a] ∧ a.length ≤ sizeLine ∧ Tb Ps H ∧ ∀ H', Kp Ps H H' → Q (.bl (wordB a)) H'
theorem ok_is_word {Ps : List Addr} {f fS Pw : Addr} {fd fdS : FuncData} (F : FnP K "is_word" sIsWord f fd) (hf : f = He.fAd K ("is_word", none)) (hPw : Pw ∈ Ps) (TB : GxR.TabB base mg (He.codeOf K ("is_word", none)) Pw)
    (FS : FnP K "is_sign" sIsSign fS fdS) (bS : Binds K fdS ["sign"] []) (gS : mg "is_sign" = some (.ref fS)) (mI : mg "isinstance" = none) (mS : mg "str" = none) (mL : mg "len" = none) (mA : mg "all" = none) {tL : Tok} (mN : mg "LONGEST" = some (.int 40 tL)) :
    FnOk P w K mg base (L2.CX P w) 3 f fd ["word"] (spIsWord Ps) := by
  have GS : FnOk P w K mg base (L2.CX P w) 1 fS fdS ["sign"] spIsSign := ok_is_sign FS
  refine okC F hf scIsWord (fun vs H Q E h => ?_) (fun A outer s H vs Q E hr h => ?_)
  · obtain ⟨a, rfl, _⟩ := h
    rfl
  · obtain ⟨a, rfl, hz, ht, q⟩ := h
    refine ⟨_, pss_cons (ps_if (pt_not (pt_val (pe_callB call_isi (by rfl) mI (by decide +kernel) (pa_cons (pv 0) (pa_cons (pe_bltn (v := .ty "str") (by rfl) mS (by decide +kernel) rfl) pa_nil))))) (pss_one (ps_ret pe_bl)) pss_nil)
      (pss_one (ps_ret (pe_and (pe_chain op_le op_le pe_int (pe_callB call_len_str (by rfl) mL PySem.boot_len (pa_cons (pv 0) pa_nil)) (pe_glob (v := .int 40) (by rfl) mN ⟨_, rfl⟩))
        (pe_one (pe_allG (own := [("sign", 1)]) (gt := gName 1) (tt := tYes) (P := Pw) hr scIsWord.nd (by rfl) mA (by decide +kernel) TB rfl ⟨rfl, by decide +kernel, rfl, blkOk_by (N := ["word", "sign"]) (sc := defScope sIsWord) (by decide +kernel)⟩ (pi_str (pv 0))
          (fun _ _ _ _ _ _ _ _ _ => pg_name (i := 1) scIsWord.nd rfl (Or.inl rfl)) (fun _ _ _ _ _ _ _ _ _ _ => pts_nil) (fun _ _ _ _ _ _ _ _ _ hb => pe_call GS hb (by rfl) gS FS.kp bS .nil passL (pa_cons (pv 1) pa_nil))))))), ?_⟩
    refine ⟨_, rfl, .str a, .ty "str", _, _, true, rfl, .ty _, .base (.str a), kit_ty (by decide +kernel), true, rfl, iteF ?_⟩
    refine ⟨_, rfl, a, rfl, hz, 1, (a.length : Int), rfl, rfl, _, rfl, ?_⟩
    have eN : wordB a = (decide ((1 : Int) ≤ (a.length : Int)) && (decide ((a.length : Int) ≤ 40) && a.cps.toList.all signB)) := rfl
    rw [eN] at q
    by_cases h1 : (1 : Int) ≤ (a.length : Int)
    · rw [decide_eq_true h1] at q ⊢
      refine iteT ⟨(a.length : Int), 40, rfl, rfl, _, rfl, ?_⟩
      by_cases h2 : (a.length : Int) ≤ 40
      · rw [decide_eq_true h2] at q ⊢
        refine iteT ⟨_, rfl, a, rfl, ht Pw hPw, fun H2 hT => ?_⟩
        have k2 := Kp.tab ht hPw hT
        refine read_all_str (pb := signB) (Pv := fun H3 => H3 = H2) rfl (fun i c H3 R _ p hR => ?_) (fun H3 p => ?_)
        · subst p
          refine ⟨rfl, _, rfl, c, rfl, hR _ rfl⟩
        · subst p
          exact q _ k2
      · rw [decide_eq_false h2] at q ⊢
        exact iteF (q H (Kp.refl ht))
    · rw [decide_eq_false h1] at q ⊢
      exact iteF ⟨_, rfl, iteF (q H (Kp.refl ht))⟩
end
section
variable {P : Program} {w : World} {K : PySem.W.Frag} {mg : Str → Option Value} {base : Heap}
theorem scCheckWords : FnScope ["words", "at", "word"] ["words"] (defScope sCheckWords) := ⟨rfl, rfl, rfl, by decide +kernel, rfl, by decide +kernel, by decide +kernel⟩
theorem scCheckLength : FnScope ["words"] ["words"] (defScope sCheckLength) := ⟨rfl, rfl, rfl, by decide +kernel, rfl, by decide +kernel, by decide +kernel⟩
theorem scCheckText : FnScope ["words"] ["words"] (defScope sCheckText) := ⟨rfl, rfl, rfl, by decide +kernel, rfl, by decide +kernel, by decide +kernel⟩
def spCheckWords (K : PySem.W.Frag) (Ps : List Addr) : Sp := fun vs H Q _ => ∃ (p : Addr) (ws : List Str), vs = [.ref p] ∧ SqL K H p (ws.map V.str) ∧ (∀ a ∈ ws, wordB a = true) ∧ Tb Ps H ∧ ∀ H', Kp Ps H H' → Q .non H'
theorem ok_check_words {Ps : List Addr} {f fW : Addr} {fd fdW : FuncData} (F : FnP K "check_words" sCheckWords f fd) (GW : FnOk P w K mg base (L2.CX P w) 3 fW fdW ["word"] (spIsWord Ps)) (kW : PySem.W.keepIn K (.ref fW) = true) (bW : Binds K fdW ["word"] []) (gW : mg "is_word" = some (.ref fW))
    (mI : mg "isinstance" = none) (mT : mg "list" = none) (mE : mg "enumerate" = none) : FnOk P w K mg base (L2.CX P w) 4 f fd ["words"] (spCheckWords K Ps) := by
  refine F.ok scCheckWords (fun vs H Q E h => ?_) (fun cdv A outer s H vs Q E hr h => ?_)
  · obtain ⟨p, ws, rfl, _⟩ := h
    rfl
  · obtain ⟨p, ws, rfl, hS, hw, ht, q⟩ := h
    refine ⟨_, pss_cons (ps_if (pt_not (pt_val (pe_callB call_isi (by rfl) mI (by decide +kernel) (pa_cons (pv 0) (pa_cons (pe_bltn (v := .ty "list") (by rfl) mT (by decide +kernel) rfl) pa_nil))))) pss_never pss_nil)
      (pss_one (ps_for (passes_of rfl) rfl (pi_enum (by rfl) mE (pa_cons (pv 0) pa_nil)) (pg_tup rfl (pgs_cons (pg_name (i := 1) scCheckWords.nd rfl (.inl rfl)) (pgs_cons (pg_name (i := 2) scCheckWords.nd rfl (.inl rfl)) pgs_nil)))
        (pss_one (ps_if (pt_not (pt_val (pe_call GW hr (by rfl) gW kW bW .nil passL (pa_cons (pv 2) pa_nil)))) pss_never pss_nil)))), ?_⟩
    refine ⟨_, rfl, .ref p, .ty "list", _, _, true, rfl, .ty _, tyL hS, kit_ty (by decide +kernel), true, rfl, iteF ?_⟩
    refine ⟨_, rfl, p, _, rfl, hS, for_enum (xs := ws.map V.str) (fun i σ' H' => Kp Ps H H' ∧ ∃ y1 y2, σ' = [some (.ref p), y1, y2]) ⟨Kp.refl ht, none, none, rfl⟩ (fun i σ' H' _ hp => hp.1.seq ht hS) (fun i x T σ' H' hx nT hp => ?_) (fun σ' H' hp => q H' hp.1)⟩
    obtain ⟨k, y1, y2, rfl⟩ := hp
    rw [List.getElem?_map] at hx
    obtain ⟨a, ha, rfl⟩ := Option.map_eq_some_iff.mp hx
    have hwa := hw a (List.mem_of_getElem? ha)
    have k2 : Kp Ps H (upd H' T (.tup [.int (i : Nat), .str a])) := k.trans (Kp.new k.1 nT)
    refine ⟨T, _, rfl, .inl (.inl upd_same), rfl, _, _, rfl, _, _, rfl, rfl, ?_⟩
    refine ⟨_, rfl, a, rfl, small_line (by have := wordB_len hwa; omega), k2.1, fun H3 k3 => ⟨_, rfl, ?_⟩⟩
    rw [hwa]
    exact iteF ⟨k2.trans k3, _, _, rfl⟩

def spCheckLength (K : PySem.W.Frag) : Sp := fun vs H Q _ => ∃ (p : Addr) (xs : List V), vs = [.ref p] ∧ SqL K H p xs ∧ xs.length ≤ 120 ∧ Q .non H
theorem ok_check_length {f : Addr} {fd : FuncData} (F : FnP K "check_length" sCheckLength f fd) (mL : mg "len" = none) {tM : Tok} (mM : mg "MOST" = some (.int 120 tM)) : FnOk P w K mg base (L2.CX P w) 1 f fd ["words"] (spCheckLength K) := by
  refine F.ok scCheckLength (fun vs H Q E h => ?_) (fun cdv A outer s H vs Q E hr h => ?_)
  · obtain ⟨p, xs, rfl, _⟩ := h
    rfl
  · obtain ⟨p, xs, rfl, hS, hl, q⟩ := h
    refine ⟨_, pss_one (ps_if (pt_cmpR op_gt (pe_callB call_len_seq (by rfl) mL PySem.boot_len (pa_cons (pv 0) pa_nil)) (pe_glob (v := .int 120) (by rfl) mM ⟨_, rfl⟩) (nomark _)) pss_never pss_nil), ?_⟩
    refine ⟨_, rfl, p, _, rfl, .inl hS, _, _, rfl, rfl, _, rfl, ?_⟩
    have e : decide ((xs.length : Int) > 120) = false := decide_eq_false (by omega)
    show if decide ((xs.length : Int) > 120) = true then _ else _
    rw [e]
    exact iteF q
def spCheckText (K : PySem.W.Frag) (Ps : List Addr) : Sp := fun vs H Q _ => ∃ (p : Addr) (ws : List Str), vs = [.ref p] ∧ SqL K H p (ws.map V.str) ∧ (∀ a ∈ ws, wordB a = true) ∧ ws.length ≤ 120 ∧ Tb Ps H ∧ ∀ H', Kp Ps H H' → Q .non H'
theorem ok_check_text {Ps : List Addr} {f fW fL : Addr} {fd fdW fdL : FuncData} (F : FnP K "check_text" sCheckText f fd) (GW : FnOk P w K mg base (L2.CX P w) 4 fW fdW ["words"] (spCheckWords K Ps)) (kW : PySem.W.keepIn K (.ref fW) = true) (bW : Binds K fdW ["words"] []) (gW : mg "check_words" = some (.ref fW))
    (GL : FnOk P w K mg base (L2.CX P w) 1 fL fdL ["words"] (spCheckLength K)) (kL : PySem.W.keepIn K (.ref fL) = true) (bL : Binds K fdL ["words"] []) (gL : mg "check_length" = some (.ref fL)) : FnOk P w K mg base (L2.CX P w) 5 f fd ["words"] (spCheckText K Ps) := by
  refine F.ok scCheckText (fun vs H Q E h => ?_) (fun cdv A outer s H vs Q E hr h => ?_)
  · obtain ⟨p, ws, rfl, _⟩ := h
    rfl
  · obtain ⟨p, ws, rfl, hS, hw, hl, ht, q⟩ := h
    refine ⟨_, pss_cons (ps_expr (pe_call GW hr (by rfl) gW kW bW .nil passL (pa_cons (pv 0) pa_nil))) (pss_one (ps_expr (pe_call GL (hr.mono (by decide)) (by rfl) gL kL bL .nil passL (pa_cons (pv 0) pa_nil)))), ?_⟩
    refine ⟨_, rfl, p, ws, rfl, hS, hw, ht, fun H' k => ?_⟩
    exact ⟨_, rfl, p, _, rfl, k.seq ht hS, by rw [List.length_map]; exact hl, q H' k⟩
end
/-! ### the law's own helpers -/
def sg (i : Nat) : Nat := if i < 4 then 33 + i else 34 + i
def sgnOf (c : Int) : Nat := sg (c % 93).toNat
theorem sg_ok {i : Nat} (h : i < 93) : signB (sg i) = true := by
  unfold signB sg
  by_cases h1 : i < 4
  · rw [if_pos h1, decide_eq_false (show ¬ 33 + i < 33 by omega), decide_eq_false (show ¬ 36 < 33 + i by omega)]
    rfl
  · rw [if_neg h1, decide_eq_false (show ¬ 34 + i < 38 by omega), decide_eq_false (show ¬ 126 < 34 + i by omega)]
    exact Bool.or_true _
theorem sgnOf_ok (c : Int) : signB (sgnOf c) = true := sg_ok (by
  have h1 : 0 ≤ c % 93 := Int.emod_nonneg c (by decide)
  have h2 : c % 93 < 93 := Int.emod_lt_of_pos c (by decide)
  omega)
def wMore (c : Int) : Int := (c + 5) * 48271 % 1000003
def wSize (c : Int) : Int := if wMore c / 3 % 3 = 1 then 1 + wMore c / 9 % 40 else 1 + wMore c % 3
def wSign (c : Int) (k : Nat) : Nat := sgnOf ((wMore c + 11 * (0 + (k : Int)) + 1) * (wMore c + 211 * (0 + (k : Int)) + 3) % 1000033)
def wCodes (c : Int) (n : Nat) : List Nat := (List.range n).map (wSign c)
def wordOf (c : Int) : Str := ⟨(wCodes c (wSize c).toNat).toArray⟩
theorem wMore_b (c : Int) : 0 ≤ wMore c ∧ wMore c < 1000003 := ⟨Int.emod_nonneg _ (by decide), Int.emod_lt_of_pos _ (by decide)⟩
theorem wSize_b (c : Int) : 1 ≤ wSize c ∧ wSize c ≤ 40 := by
  have h := wMore_b c
  unfold wSize
  by_cases h1 : wMore c / 3 % 3 = 1
  · rw [if_pos h1]
    omega
  · rw [if_neg h1]
    omega
theorem wordOf_len (c : Int) : (wordOf c).length = (wSize c).toNat := by
  show (wCodes c (wSize c).toNat).toArray.size = _
  rw [List.size_toArray]
  unfold wCodes
  rw [List.length_map, List.length_range]
theorem wordOf_ok (c : Int) : wordB (wordOf c) = true := by
  have h := wSize_b c
  have hl := wordOf_len c
  unfold wordB
  rw [Bool.and_eq_true, Bool.and_eq_true]
  refine ⟨decide_eq_true (by omega), decide_eq_true (by omega), List.all_eq_true.mpr fun x hx => ?_⟩
  have hx : x ∈ wCodes c (wSize c).toNat := hx
  obtain ⟨k, _, rfl⟩ := List.mem_map.mp hx
  exact sgnOf_ok _
/-- signs put together -/
theorem join_signs : ∀ l : List Nat, Txt.join ("" : Str) (l.map fun c => (⟨#[c]⟩ : Str)) = (⟨l.toArray⟩ : Str) := by
  intro l
  show Builtin.Str.glued ("" : Str) (l.map fun c => (⟨#[c]⟩ : Str)) = _
  rw [StrLaws.glued_eq_join]
  have e0 : ("" : Str) = ⟨#[]⟩ := by decide +kernel
  rw [e0]
  induction l with
  | nil => rfl
  | cons c r ih =>
    cases r with
    | nil => rfl
    | cons d r =>
      show (⟨#[c]⟩ : Str) ++ (⟨#[]⟩ : Str) ++ Str.join ⟨#[]⟩ ((d :: r).map fun c => (⟨#[c]⟩ : Str)) = _
      rw [ih]
      refine Str.ext' (Array.toList_inj.mp ?_)
      rw [Str.cps_append, Str.cps_append, Array.toList_append, Array.toList_append]
      simp
section
variable {P : Program} {w : World} {K : PySem.W.Frag} {mg : Str → Option Value} {base : Heap}
theorem scCellAt : FnScope ["_law_script", "_law_k"] ["_law_script", "_law_k"] (defScope sCellAt) := ⟨rfl, rfl, rfl, by decide +kernel, rfl, by decide +kernel, by decide +kernel⟩
theorem scSignBy : FnScope ["_law_cell", "_law_some"] ["_law_cell"] (defScope sSignBy) := ⟨rfl, rfl, rfl, by decide +kernel, rfl, by decide +kernel, by decide +kernel⟩
theorem scWordBy : FnScope ["_law_cell", "_law_more", "_law_size", "_law_k"] ["_law_cell"] (defScope sWordBy) := ⟨rfl, rfl, rfl, by decide +kernel, rfl, by decide +kernel, by decide +kernel⟩
theorem ok_cell_at {f : Addr} {fd : FuncData} (F : FnP K "_law_cell_at" sCellAt f fd) (mL : mg "len" = none) : FnOk P w K mg base (L2.CX P w) 1 f fd ["_law_script", "_law_k"] (spCell K) := by
  refine F.ok scCellAt (fun vs H Q E h => ?_) (fun cdv A outer s H vs Q E hr h => ?_)
  · obtain ⟨l, ns, j, rfl, _⟩ := h
    rfl
  · obtain ⟨l, ns, j, rfl, hS, q⟩ := h
    refine ⟨_, pss_cons (ps_if (pt_cmpR op_lt (pv 1) (pe_callB call_len_seq (by rfl) mL PySem.boot_len (pa_cons (pv 0) pa_nil)) (nomark _)) (pss_one (ps_ret (pe_ix ix_list (pv 0) (pv 1) (fun _ _ => rfl)))) pss_nil) (pss_one (ps_ret pe_int)), ?_⟩
    refine ⟨_, rfl, _, rfl, l, _, rfl, .inl hS, _, _, rfl, rfl, _, rfl, ite2 (fun e => ?_) (fun e => ?_)⟩
    · have e1 := of_decide_eq_true e
      rw [List.length_map] at e1
      exact ⟨_, rfl, _, rfl, l, _, _, _, rfl, rfl, hS, atI_cell (by omega), q⟩
    · have hj : ¬ j < ns.length := fun z => e (decide_eq_true (by rw [List.length_map]; omega))
      rw [cell_out hj] at q
      exact q
def spSignBy : Sp := fun vs H Q _ => ∃ c : Int, vs = [.int c] ∧ Q (.str ⟨#[sgnOf c]⟩) H
theorem ok_sign_by {f : Addr} {fd : FuncData} (F : FnP K "_law_sign_by" sSignBy f fd) : FnOk P w K mg base (L2.CX P w) 1 f fd ["_law_cell"] spSignBy := by
  refine F.ok scSignBy (fun vs H Q E h => ?_) (fun cdv A outer s H vs Q E hr h => ?_)
  · obtain ⟨c, rfl, _⟩ := h
    rfl
  · obtain ⟨c, rfl, q⟩ := h
    refine ⟨_, pss_cons (ps_set (i := 1) scSignBy.nd rfl (.inl rfl) pe_str) (pss_cons (ps_set (i := 1) scSignBy.nd rfl (.inl rfl) (pe_op op_add_str (pv 1) pe_str)) (pss_one (ps_ret (pe_ix ix_str (pv 1) (pe_op op_mod (pv 0) pe_int) (fun _ _ => rfl))))), ?_⟩
    refine ⟨_, rfl, _, _, rfl, rfl, by decide +kernel, ?_⟩
    refine ⟨_, rfl, _, rfl, _, _, rfl, rfl, (by show (0 : Int) < 93; decide), _, _, sgnOf c, rfl, rfl, by decide +kernel, ?_, q⟩
    have h1 : 0 ≤ c % 93 := Int.emod_nonneg c (by decide)
    have h2 : c % 93 < 93 := Int.emod_lt_of_pos c (by decide)
    have e : c % 93 = (((c % 93).toNat : Nat) : Int) := (Int.toNat_of_nonneg h1).symm
    have hn : (c % 93).toNat < 93 := by omega
    unfold sgnOf
    rw [e, Int.toNat_natCast]
    generalize (c % 93).toNat = i at hn
    refine atI_nat ?_
    have key : ∀ i, i < 93 → (("!\"#$&'()*+,-./0123456789:;<=>?@ABCDEFGHIJKLMNOPQRSTUVWXYZ[\\]^_`" : Str) ++ ("abcdefghijklmnopqrstuvwxyz{|}~" : Str)).cps.toList[i]? = some (sg i) := by decide +kernel
    exact key i hn
def spWordBy : Sp := fun vs H Q _ => ∃ c : Int, vs = [.int c] ∧ ∀ H', Same H H' → Q (.str (wordOf c)) H'
theorem ok_word_by {f fS : Addr} {fd fdS : FuncData} (F : FnP K "_law_word_by" sWordBy f fd) (FS : FnP K "_law_sign_by" sSignBy fS fdS) (bS : Binds K fdS ["_law_cell"] []) (gS : mg "_law_sign_by" = some (.ref fS)) (mR : mg "range" = none) :
    FnOk P w K mg base (L2.CX P w) 2 f fd ["_law_cell"] spWordBy := by
  have GS : FnOk P w K mg base (L2.CX P w) 1 fS fdS ["_law_cell"] spSignBy := ok_sign_by FS
  refine F.ok scWordBy (fun vs H Q E h => ?_) (fun cdv A outer s H vs Q E hr h => ?_)
  · obtain ⟨c, rfl, _⟩ := h
    rfl
  · obtain ⟨c, rfl, q⟩ := h
    refine ⟨_, pss_cons (ps_set (i := 1) scWordBy.nd rfl (.inr rfl) (pe_op op_mod (pe_op op_mul (pe_op op_add (pv 0) pe_int) pe_int) pe_int))
      (pss_cons (ps_set (i := 2) scWordBy.nd rfl (.inl rfl) (pe_op op_add pe_int (pe_op op_mod (pv 1) pe_int)))
      (pss_cons (ps_if (pt_cmpR op_eq (pe_op op_mod (pe_op op_fdiv (pv 1) pe_int) pe_int) pe_int (nomark _)) (pss_one (ps_set (i := 2) scWordBy.nd rfl (.inl rfl) (pe_op op_add pe_int (pe_op op_mod (pe_op op_fdiv (pv 1) pe_int) pe_int)))) pss_nil)
      (pss_one (ps_ret (pe_join pe_str (pe_lc (own := [("_law_k", 3)]) (g := gName 3) (tt := tYes) rfl scWordBy.nd (pi_range1 (by rfl) mR (pa_cons (pv 2) pa_nil)) (blkOk_by (N := ["_law_cell", "_law_more", "_law_size", "_law_k"]) (sc := defScope sWordBy) (by decide +kernel))
        (fun _ _ _ _ _ => pg_name (i := 3) scWordBy.nd rfl (Or.inl rfl)) (fun _ _ _ _ _ => pts_nil)
        (fun _ _ _ _ _ => pe_call GS hr (by rfl) gS FS.kp bS .nil passL (pa_cons (pe_op op_mod (pe_op op_mul (pe_op op_add (pe_op op_add (pv 1) (pe_op op_mul pe_int (pv 3))) pe_int) (pe_op op_add (pe_op op_add (pv 1) (pe_op op_mul pe_int (pv 3))) pe_int)) pe_int) pa_nil)))))))), ?_⟩
    have hm := wMore_b c
    have hsz := wSize_b c
    refine ⟨_, rfl, _, _, rfl, rfl, _, _, rfl, rfl, .inr (by decide), _, _, rfl, rfl, (by show (0 : Int) < 1000003; decide), ?_⟩
    refine ⟨_, rfl, _, _, rfl, rfl, (by show (0 : Int) < 3; decide), _, _, rfl, rfl, ?_⟩
    refine ⟨_, rfl, _, _, rfl, rfl, ⟨by decide, by decide⟩, _, _, rfl, rfl, (by show (0 : Int) < 3; decide), rfl, _, rfl, ?_⟩
    -- both ways lead to the size
    have rest : ∀ σ0, σ0 = [some (V.int c), some (.int (wMore c)), some (.int (wSize c)), none] → tRet (tM1 (fun x xs H Q => ∃ a p, ∃ ys : List Str, x = .str a ∧ xs = [.ref p] ∧ (SqL K H p (ys.map V.str) ∨ SqT K H p (ys.map V.str)) ∧
        (ys.map (·.length)).sum + ys.length * a.length ≤ 16777216 ∧ Q (.str (Txt.join a ys)) H) (tC (.str "")) (tLc (iRng1 (tCons (tVar 2) tNil)) (gName 3) tYes
          (tCall spSignBy [] E0 (tCons (tOp (rI (fun _ j => 0 < j) fun i j => .int (i % j)) (tOp (rI CMul fun i j => .int (i * j)) (tOp (rI0 fun i j => .int (i + j)) (tOp (rI0 fun i j => .int (i + j)) (tVar 1) (tOp (rI CMul fun i j => .int (i * j)) (tC (.int 11)) (tVar 3))) (tC (.int 1)))
            (tOp (rI0 fun i j => .int (i + j)) (tOp (rI0 fun i j => .int (i + j)) (tVar 1) (tOp (rI CMul fun i j => .int (i * j)) (tC (.int 211)) (tVar 3))) (tC (.int 3)))) (tC (.int 1000033))) tNil)) [3])) { nx := fun _ H' => Q .non H', rt := Q } σ0 H := by
      rintro _ rfl
      refine ⟨⟨_, rfl⟩, _, rfl, _, rfl, by omega, by omega, fun D nD => ?_⟩
      refine lc_range (lo := 0) (n := (wSize c).toNat) (fun i H' => Same H H' ∧ H' D = some (.lst ((wCodes c i).map fun z => V.str ⟨#[z]⟩))) ⟨same_upd nD, upd_same⟩ (fun i H' hi hp => ?_) (fun H' hp => ?_)
      · obtain ⟨sm, hD⟩ := hp
        refine ⟨rfl, yesT ?_⟩
        refine ⟨_, rfl, _, rfl, _, _, rfl, rfl, .inl (by decide), _, _, rfl, rfl, _, _, rfl, rfl, _, rfl, _, rfl, _, _, rfl, rfl, .inl (by decide), _, _, rfl, rfl, _, _, rfl, rfl, _, _, rfl, rfl, .inl ⟨by omega, by omega⟩, _, _, rfl, rfl, (by show (0 : Int) < 1000033; decide), _, rfl, ?_⟩
        refine ⟨_, hD, ?_, fun b o e => ?_, ?_⟩
        · rw [List.length_map]
          unfold wCodes
          rw [List.length_map, List.length_range]
          exact Nat.lt_of_lt_of_le (show i < 1000 by omega) (by decide)
        · rw [upd_ne (ne_of_none e nD)]
          exact sm b o e
        · rw [upd_same]
          unfold wCodes
          rw [List.range_succ, List.map_append, List.map_append]
          rfl
      · obtain ⟨sm, hD⟩ := hp
        refine ⟨_, _, (wCodes c (wSize c).toNat).map fun z => (⟨#[z]⟩ : Str), rfl, rfl, .inl (.inl (.inl ?_)), ?_, ?_⟩
        · rw [hD, List.map_map]
          rfl
        · have e0 : ("" : Str).length = 0 := by decide +kernel
          rw [e0, Nat.mul_zero, Nat.add_zero]
          have e1 : ∀ l : List Nat, ((l.map fun z => (⟨#[z]⟩ : Str)).map (·.length)).sum = l.length := fun l => by
            induction l with
            | nil => rfl
            | cons a r ih =>
              rw [List.map_cons, List.map_cons, List.sum_cons, ih, List.length_cons]
              show 1 + r.length = _
              omega
          rw [e1]
          unfold wCodes
          rw [List.length_map, List.length_range]
          omega
        · rw [join_signs]
          exact q H' sm
    refine ite2 (fun e => ?_) (fun e => ?_)
    · have e1 : wMore c / 3 % 3 = 1 := V.int.inj (of_decide_eq_true e)
      refine ⟨_, rfl, _, _, rfl, rfl, ⟨by decide, by decide⟩, _, _, rfl, rfl, (by show (0 : Int) < 40; decide), _, _, rfl, rfl, rest _ ?_⟩
      unfold wSize
      rw [if_pos e1]
      rfl
    · have e1 : ¬ wMore c / 3 % 3 = 1 := fun z => e (decide_eq_true (congrArg V.int z))
      refine rest _ ?_
      unfold wSize
      rw [if_neg e1]
      rfl
end
/-! ### near words, the menu -/
theorem wordB_of {b : Str} (h1 : 1 ≤ b.length) (h2 : b.length ≤ 40) (h : ∀ c ∈ b.cps.toList, signB c = true) : wordB b = true := by
  unfold wordB
  rw [Bool.and_eq_true, Bool.and_eq_true]
  exact ⟨decide_eq_true (by omega), decide_eq_true (by omega), List.all_eq_true.mpr h⟩
theorem str_len (a : Str) : a.length = a.cps.toList.length := by simp [Str.length]
theorem cut_lo (a : Str) (k : Nat) (h : k ≤ a.length) : (cutS a none (some (k : Int))).cps.toList = a.cps.toList.take k := by
  unfold cutS
  rw [HT.sIx_none, HT.sIx_nat, Nat.min_eq_left h, Nat.sub_zero]
  rfl
theorem cut_hi (a : Str) (k : Nat) (h : k ≤ a.length) : (cutS a (some (k : Int)) none).cps.toList = a.cps.toList.drop k := by
  unfold cutS
  rw [HT.sIx_none, HT.sIx_nat, Nat.min_eq_left h]
  show (a.cps.toList.drop k).take (a.length - k) = _
  rw [List.take_of_length_le (by rw [List.length_drop, str_len]; exact Nat.le_refl _)]
section
variable {P : Program} {w : World} {K : PySem.W.Frag} {mg : Str → Option Value} {base : Heap}
theorem scNear : FnScope ["_law_word", "_law_cell", "_law_at"] ["_law_word", "_law_cell"] (defScope sNear) := ⟨rfl, rfl, rfl, by decide +kernel, rfl, by decide +kernel, by decide +kernel⟩
theorem scMenu : FnScope ["_law_script", "_law_base", "_law_k"] ["_law_script"] (defScope sMenu) := ⟨rfl, rfl, rfl, by decide +kernel, rfl, by decide +kernel, by decide +kernel⟩
def spNear : Sp := fun vs H Q _ => ∃ (a : Str) (c : Int), vs = [.str a, .int c] ∧ wordB a = true ∧ ∀ H' b, Same H H' → wordB b = true → Q (.str b) H'
theorem ok_near {f fS : Addr} {fd fdS : FuncData} (F : FnP K "_law_near" sNear f fd) (GS : FnOk P w K mg base (L2.CX P w) 1 fS fdS ["_law_cell"] spSignBy) (kS : PySem.W.keepIn K (.ref fS) = true) (bS : Binds K fdS ["_law_cell"] []) (gS : mg "_law_sign_by" = some (.ref fS))
    (mL : mg "len" = none) (mT : mg "list" = none) (mV : mg "reversed" = none) : FnOk P w K mg base (L2.CX P w) 2 f fd ["_law_word", "_law_cell"] spNear := by
  refine F.ok scNear (fun vs H Q E h => ?_) (fun cdv A outer s H vs Q E hr h => ?_)
  · obtain ⟨a, c, rfl, _⟩ := h
    rfl
  · obtain ⟨a, c, rfl, ha, q⟩ := h
    refine ⟨_, pss_cut (ps_set (i := 2) scNear.nd rfl (.inl rfl) (pe_op op_mod (pv 1) (pe_callB call_len_str (by rfl) mL PySem.boot_len (pa_cons (pv 0) pa_nil))))
      (pss_cons (ps_if (pt_cmpR op_eq (pe_op op_mod (pe_op op_fdiv (pv 1) pe_int) pe_int) pe_int (nomark _)) (pss_one (ps_ret (pe_join pe_str (Rs.pe_listRs rfl (by rfl) mT (by rfl) mV (pv 0))))) pss_nil)
      (pss_cut (ps_if (PW.pt (pw_and (pt_cmpR op_eq (pe_op op_mod (pe_op op_fdiv (pv 1) pe_int) pe_int) pe_int (nomark _)) (pw_and1 (pt_cmpR op_gt (pe_callB call_len_str (by rfl) mL PySem.boot_len (pa_cons (pv 0) pa_nil)) pe_int (nomark _)))))
        (pss_one (ps_ret (pe_op op_add_str (pe_slice sl_str (pv 0) po_none (po_some (pv 2))) (pe_slice sl_str (pv 0) (po_some (pe_op op_add (pv 2) pe_int)) po_none)))) pss_nil)
      (pss_one (ps_ret (pe_op op_add_str (pe_op op_add_str (pe_slice sl_str (pv 0) po_none (po_some (pv 2))) (pe_call GS hr (by rfl) gS kS bS .nil passL (pa_cons (pe_op op_fdiv (pv 1) pe_int) pa_nil))) (pe_slice sl_str (pv 0) (po_some (pe_op op_add (pv 2) pe_int)) po_none)))))), ?_⟩
    have hl := wordB_len ha
    have hz : a.length ≤ sizeLine := small_line (by omega)
    have hsg := wordB_signs ha
    have h1 : 0 ≤ c % (a.length : Int) := Int.emod_nonneg c (by omega)
    have h2 : c % (a.length : Int) < (a.length : Int) := Int.emod_lt_of_pos c (by omega)
    obtain ⟨k, hk⟩ : ∃ k : Nat, c % (a.length : Int) = (k : Int) := ⟨(c % (a.length : Int)).toNat, (Int.toNat_of_nonneg h1).symm⟩
    have hka : k < a.length := by omega
    have el := str_len a
    have lo := cut_lo a k (by omega)
    have hi := cut_hi a (k + 1) (by omega)
    have llo : (cutS a none (some (k : Int))).length = k := by
      rw [str_len, lo, List.length_take]
      omega
    have lhi : (cutS a (some ((k + 1 : Nat) : Int)) none).length = a.length - (k + 1) := by
      rw [str_len, hi, List.length_drop]
      omega
    have slo : ∀ x ∈ (cutS a none (some (k : Int))).cps.toList, signB x = true := fun x hx => hsg x (by rw [lo] at hx; exact List.mem_of_mem_take hx)
    have shi : ∀ x ∈ (cutS a (some ((k + 1 : Nat) : Int)) none).cps.toList, signB x = true := fun x hx => hsg x (by rw [hi] at hx; exact List.mem_of_mem_drop hx)
    have ek : ((k : Int) + 1) = ((k + 1 : Nat) : Int) := by omega
    refine ⟨fun σ' H' => σ' = [some (.str a), some (.int c), some (.int (k : Int))] ∧ H' = H, ⟨_, rfl, _, rfl, a, rfl, hz, _, _, rfl, rfl, by omega, ?_, rfl⟩, fun σ' H' hM => ?_⟩
    · show [some (V.str a), some (V.int c), some (V.int (c % (a.length : Int)))] = _
      rw [hk]
    obtain ⟨rfl, rfl⟩ := hM
    refine ⟨_, rfl, _, _, rfl, rfl, ⟨by decide, by decide⟩, _, _, rfl, rfl, (by show (0 : Int) < 3; decide), rfl, _, rfl, ite2 (fun e => ?_) (fun e => ?_)⟩
    · refine ⟨⟨_, rfl⟩, _, rfl, a, rfl, hl.1, by omega, fun p np => ?_⟩
      refine ⟨_, p, a.cps.toList.reverse.map fun c => (⟨#[c]⟩ : Str), rfl, rfl, .inl (.inl (.inl ?_)), ?_, ?_⟩
      · rw [upd_same, List.map_map]
        rfl
      · have e0 : ("" : Str).length = 0 := by decide +kernel
        rw [e0, Nat.mul_zero, Nat.add_zero]
        have e1 : ∀ l : List Nat, ((l.map fun z => (⟨#[z]⟩ : Str)).map (·.length)).sum = l.length := fun l => by
          induction l with
          | nil => rfl
          | cons a r ih =>
            rw [List.map_cons, List.map_cons, List.sum_cons, ih, List.length_cons]
            show 1 + r.length = _
            omega
        rw [e1, List.length_reverse]
        omega
      · rw [join_signs]
        refine q _ _ (same_upd np) (wordB_of ?_ ?_ fun x hx => hsg x ?_)
        · show 1 ≤ (a.cps.toList.reverse.toArray).size
          rw [List.size_toArray, List.length_reverse]
          omega
        · show (a.cps.toList.reverse.toArray).size ≤ 40
          rw [List.size_toArray, List.length_reverse]
          omega
        · exact List.mem_reverse.mp hx
    · refine ⟨fun σ' H2 => σ' = [some (.str a), some (.int c), some (.int (k : Int))] ∧ H2 = H', ?_, fun σ' H2 hM => ?_⟩
      · refine ⟨_, rfl, _, _, rfl, rfl, ⟨by decide, by decide⟩, _, _, rfl, rfl, (by show (0 : Int) < 3; decide), rfl, _, rfl, ?_⟩
        cases decide (V.int (c / 41 % 3) = V.int 1) with
        | false => exact iteF (iteF ⟨rfl, rfl⟩)
        | true =>
          refine iteT ⟨_, rfl, a, rfl, hz, _, _, rfl, rfl, _, rfl, ite2 (fun e => ?_) (fun e => ⟨rfl, rfl⟩)⟩
          have e1 : (1 : Int) < (a.length : Int) := of_decide_eq_true e
          refine ⟨_, rfl, _, rfl, _, rfl, a, rfl, hz, _, rfl, _, rfl, _, _, rfl, rfl, _, rfl, a, rfl, hz, _, _, rfl, rfl, ?_, ?_⟩
          · rw [ek, llo, lhi]
            exact small_line (by omega)
          · rw [ek]
            refine q _ _ (Same.refl _) (wordB_of ?_ ?_ fun x hx => ?_)
            · rw [Str.length_append, llo, lhi]
              omega
            · rw [Str.length_append, llo, lhi]
              omega
            · rw [Str.cps_append, Array.toList_append] at hx
              rcases List.mem_append.mp hx with hx | hx
              · exact slo x hx
              · exact shi x hx
      · obtain ⟨rfl, rfl⟩ := hM
        refine ⟨_, rfl, _, rfl, _, rfl, a, rfl, hz, _, rfl, _, _, rfl, rfl, ⟨by decide, by decide⟩, _, rfl, _, _, rfl, rfl, ?_, _, rfl, _, rfl, _, _, rfl, rfl, _, rfl, a, rfl, hz, _, _, rfl, rfl, ?_, ?_⟩
        · rw [llo]
          exact small_line (by show k + 1 ≤ 1000000; omega)
        · rw [ek, Str.length_append, llo, lhi]
          exact small_line (by show k + 1 + (a.length - (k + 1)) ≤ 1000000; omega)
        · rw [ek]
          refine q _ _ (Same.refl _) (wordB_of ?_ ?_ fun x hx => ?_)
          · rw [Str.length_append, Str.length_append, llo, lhi]
            show 1 ≤ k + 1 + (a.length - (k + 1))
            omega
          · rw [Str.length_append, Str.length_append, llo, lhi]
            show k + 1 + (a.length - (k + 1)) ≤ 40
            omega
          · rw [Str.cps_append, Array.toList_append, Str.cps_append, Array.toList_append] at hx
            rcases List.mem_append.mp hx with hx | hx
            · rcases List.mem_append.mp hx with hx | hx
              · exact slo x hx
              · have hx : x ∈ [sgnOf (c / 123)] := hx
                rw [List.mem_singleton.mp hx]
                exact sgnOf_ok _
            · exact shi x hx

def spMenu (K : PySem.W.Frag) : Sp := fun vs H Q _ => ∃ (a : Addr) (ns : List Int), vs = [.ref a] ∧ SqL K H a (ns.map V.int) ∧ ∀ (H' : Hp) (p : Addr) (ws : List Str), Same H H' → H p = none → H' p = some (.lst (ws.map V.str)) → ws.length = 12 → (∀ x ∈ ws, wordB x = true) → Q (.ref p) H'
theorem ok_menu {f fC fW fN : Addr} {fd fdC fdW fdN : FuncData} (F : FnP K "_law_menu" sMenu f fd)
    (GC : FnOk P w K mg base (L2.CX P w) 1 fC fdC ["_law_script", "_law_k"] (spCell K)) (kC : PySem.W.keepIn K (.ref fC) = true) (bC : Binds K fdC ["_law_script", "_law_k"] []) (gC : mg "_law_cell_at" = some (.ref fC))
    (GW : FnOk P w K mg base (L2.CX P w) 2 fW fdW ["_law_cell"] spWordBy) (kW : PySem.W.keepIn K (.ref fW) = true) (bW : Binds K fdW ["_law_cell"] []) (gW : mg "_law_word_by" = some (.ref fW))
    (GN : FnOk P w K mg base (L2.CX P w) 2 fN fdN ["_law_word", "_law_cell"] spNear) (kN : PySem.W.keepIn K (.ref fN) = true) (bN : Binds K fdN ["_law_word", "_law_cell"] []) (gN : mg "_law_near" = some (.ref fN)) (mR : mg "range" = none) :
    FnOk P w K mg base (L2.CX P w) 3 f fd ["_law_script"] (spMenu K) := by
  refine F.ok scMenu (fun vs H Q E h => ?_) (fun cdv A outer s H vs Q E hr h => ?_)
  · obtain ⟨a, ns, rfl, _⟩ := h
    rfl
  · obtain ⟨a, ns, rfl, hS, q⟩ := h
    have r1 : Room 1 (A.deeper (envOfC "_law_menu" (defScope sMenu) s.heap.objs.size f cdv)) := hr.mono (by decide)
    refine ⟨_, pss_cut (ps_setLc (i := 1) (own := [("_law_k", 2)]) (g := gName 2) (tt := tYes) rfl scMenu.nd rfl rfl (sw_true rfl rfl rfl (by decide +kernel)) (pi_range1 (by rfl) mR (pa_cons pe_int pa_nil)) (blkOk_by (N := ["_law_script", "_law_base", "_law_k"]) (sc := defScope sMenu) (by decide +kernel))
        (fun _ _ _ _ _ => pg_name (i := 2) scMenu.nd rfl (Or.inl rfl)) (fun _ _ _ _ _ => pts_nil) (fun _ _ _ _ _ => pe_call GW hr (by rfl) gW kW bW .nil passL (pa_cons (pe_op op_add (pe_call GC r1 (by rfl) gC kC bC .nil passL (pa_cons (pv 0) (pa_cons (pv 2) pa_nil))) (pe_op op_mul pe_int (pv 2))) pa_nil)))
      (pss_cut (ps_if (pt_cmpR op_eq (pe_op op_mod (pe_call GC r1 (by rfl) gC kC bC .nil passL (pa_cons (pv 0) (pa_cons pe_int pa_nil))) pe_int) pe_int (nomark _))
        (pss_cons (ps_asg (pe_call GN hr (by rfl) gN kN bN .nil passL (pa_cons (pe_ix ix_list (pv 1) pe_int (fun _ _ => rfl)) (pa_cons (pe_call GC r1 (by rfl) gC kC bC .nil passL (pa_cons (pv 0) (pa_cons pe_int pa_nil))) pa_nil))) (pg_sub (pv 1) pe_int set_list))
          (pss_one (ps_asg (pe_call GN hr (by rfl) gN kN bN .nil passL (pa_cons (pe_ix ix_list (pv 1) pe_int (fun _ _ => rfl)) (pa_cons (pe_call GC r1 (by rfl) gC kC bC .nil passL (pa_cons (pv 0) (pa_cons pe_int pa_nil))) pa_nil))) (pg_sub (pv 1) pe_int set_list)))) pss_nil)
      (pss_cons (ps_if (pt_cmpR op_eq (pe_op op_mod (pe_call GC r1 (by rfl) gC kC bC .nil passL (pa_cons (pv 0) (pa_cons pe_int pa_nil))) pe_int) pe_int (nomark _))
        (pss_one (ps_ret (pe_op op_cat (pv 1) (pe_lc (own := [("_law_k", 2)]) (g := gName 2) (tt := tYes) rfl scMenu.nd (pi_range1 (by rfl) mR (pa_cons pe_int pa_nil)) (blkOk_by (N := ["_law_script", "_law_base", "_law_k"]) (sc := defScope sMenu) (by decide +kernel))
          (fun _ _ _ _ _ => pg_name (i := 2) scMenu.nd rfl (Or.inl rfl)) (fun _ _ _ _ _ => pts_nil)
          (fun _ _ _ _ _ => pe_call GW hr (by rfl) gW kW bW .nil passL (pa_cons (pe_op op_add (pe_op op_add (pe_call GC r1 (by rfl) gC kC bC .nil passL (pa_cons (pv 0) (pa_cons (pe_op op_mod (pv 2) pe_int) pa_nil))) (pe_op op_mul pe_int (pv 2))) pe_int) pa_nil)))))) pss_nil)
      (pss_one (ps_ret (pe_op op_rep (pv 1) pe_int))))), ?_⟩
    -- the base of four
    refine ⟨fun σ' H' => ∃ D ws, σ' = [some (.ref a), some (.ref D), none] ∧ H D = none ∧ Same H H' ∧ H' D = some (.lst ((ws : List Str).map V.str)) ∧ ws.length = 4 ∧ ∀ x ∈ ws, wordB x = true, ?_, fun σ1 H1 hM => ?_⟩
    · refine ⟨_, rfl, by decide, by decide, fun D nD => ?_⟩
      refine lc_range (lo := 0) (n := 4) (fun i H' => Same H H' ∧ H' D = some (.lst (((List.range i).map fun k => wordOf (cellOf ns (0 + k) + 97 * (0 + (k : Int)))).map V.str))) ⟨same_upd nD, upd_same⟩ (fun i H' hi hp => ?_) (fun H1 hp => ?_)
      · obtain ⟨sm, hD⟩ := hp
        refine ⟨rfl, yesT ?_⟩
        refine ⟨_, rfl, _, rfl, a, ns, 0 + i, congrArg (fun t : Int => [V.ref a, V.int t]) (show (0 : Int) + (i : Int) = ((0 + i : Nat) : Int) by omega), sm.seq hS, _, rfl, _, _, rfl, rfl, .inl (by decide), _, _, rfl, rfl, _, rfl, fun H2 sm2 => ?_⟩
        refine ⟨_, sm2 _ _ hD, ?_, fun b o e => ?_, ?_⟩
        · rw [List.length_map, List.length_map, List.length_range]
          exact Nat.lt_of_lt_of_le (show i < 1000 by omega) (by decide)
        · rw [upd_ne (ne_of_none e nD)]
          exact sm2 b o (sm b o e)
        · rw [upd_same, List.range_succ, List.map_append, List.map_append]
          rfl
      · obtain ⟨sm, hD⟩ := hp
        refine ⟨D, _, rfl, nD, sm, hD, by rw [List.length_map, List.length_range], fun x hx => ?_⟩
        obtain ⟨k, _, rfl⟩ := List.mem_map.mp hx
        exact wordOf_ok _
    obtain ⟨D, ws, rfl, nD, sm1, hD1, hl, hw⟩ := hM
    refine ⟨fun σ' H' => ∃ ws, σ' = [some (.ref a), some (.ref D), none] ∧ Same H H' ∧ H' D = some (.lst ((ws : List Str).map V.str)) ∧ ws.length = 4 ∧ ∀ x ∈ ws, wordB x = true, ?_, fun σ2 H2 hM => ?_⟩
    · have hS1 := sm1.seq hS
      refine ⟨_, rfl, a, ns, 0, rfl, hS1, _, _, rfl, rfl, (by show (0 : Int) < 2; decide), rfl, _, rfl, ite2 (fun _ => ?_) (fun _ => ⟨ws, rfl, sm1, hD1, hl, hw⟩)⟩
      have step : ∀ (H1 : Hp) (ws : List Str) (j : Nat), j < 4 → Same H H1 → H1 D = some (.lst (ws.map V.str)) → ws.length = 4 → (∀ x ∈ ws, wordB x = true) → ∃ x, ws[j]? = some x ∧ wordB x = true := fun H1 ws j hj _ _ hl hw => by
        have : j < ws.length := by omega
        exact ⟨ws[j], List.getElem?_eq_getElem this, hw _ (List.getElem_mem this)⟩
      have put : ∀ (ws : List Str) (j : Nat) (b : Str), (ws.map V.str).set j (.str b) = (ws.set j b).map V.str := fun ws j b => by rw [List.map_set]
      have good : ∀ (ws : List Str) (j : Nat) (b : Str), (∀ x ∈ ws, wordB x = true) → wordB b = true → ∀ x ∈ ws.set j b, wordB x = true := fun ws j b h hb x hx => by
        rcases List.mem_or_eq_of_mem_set hx with h1 | h1
        · exact h x h1
        · rw [h1]
          exact hb
      obtain ⟨x0, hx0, hb0⟩ := step H1 ws 0 (by decide) sm1 hD1 hl hw
      refine ⟨_, rfl, D, _, _, _, rfl, rfl, .inl (.inl hD1), at_of (j := 0) rfl (by rw [List.getElem?_map, hx0]; rfl), _, rfl, a, ns, 1, rfl, hS1, x0, _, rfl, hb0, fun H3 b sm3 hb => ?_⟩
      have hD3 := sm3 _ _ hD1
      refine ⟨_, rfl, D, _, _, 1, rfl, rfl, hD3, by rw [List.length_map, hl]; rfl, ?_⟩
      rw [put]
      have s4 : Same H (upd H3 D (.lst ((ws.set 1 b).map V.str))) := fun c o e => by
        rw [upd_ne (ne_of_none e nD)]
        exact sm3 c o (sm1 c o e)
      have hl4 : (ws.set 1 b).length = 4 := by rw [List.length_set]; exact hl
      have hw4 := good ws 1 b hw hb
      have hD4 : (upd H3 D (.lst ((ws.set 1 b).map V.str))) D = some (.lst ((ws.set 1 b).map V.str)) := upd_same
      obtain ⟨x2, hx2, hb2⟩ := step _ _ 2 (by decide) s4 hD4 hl4 hw4
      refine ⟨_, rfl, D, _, _, _, rfl, rfl, .inl (.inl hD4), at_of (j := 2) rfl (by rw [List.getElem?_map, hx2]; rfl), _, rfl, a, ns, 2, rfl, s4.seq hS, x2, _, rfl, hb2, fun H5 b5 sm5 hb5 => ?_⟩
      have hD5 := sm5 _ _ hD4
      refine ⟨_, rfl, D, _, _, 3, rfl, rfl, hD5, by rw [List.length_map, hl4]; rfl, ?_⟩
      rw [put]
      refine ⟨_, rfl, fun c o e => ?_, upd_same, by rw [List.length_set]; exact hl4, good _ 3 b5 hw4 hb5⟩
      rw [upd_ne (ne_of_none e nD)]
      exact sm5 c o (s4 c o e)
    obtain ⟨ws, rfl, sm2, hD2, hl, hw⟩ := hM
    have hS2 := sm2.seq hS
    refine ⟨_, rfl, a, ns, 3, rfl, hS2, _, _, rfl, rfl, (by show (0 : Int) < 4; decide), rfl, _, rfl, ite2 (fun _ => ?_) (fun _ => ?_)⟩
    · refine ⟨_, rfl, _, rfl, by decide, by decide, fun E nE => ?_⟩
      refine lc_range (lo := 0) (n := 8) (fun i H' => Same H2 H' ∧ ∃ vs, H' E = some (.lst ((vs : List Str).map V.str)) ∧ vs.length = i ∧ ∀ x ∈ vs, wordB x = true) ⟨same_upd nE, [], upd_same, rfl, fun x hx => by cases hx⟩ (fun i H' hi hp => ?_) (fun H3 hp => ?_)
      · obtain ⟨sm, vs, hE, hlv, hv⟩ := hp
        refine ⟨rfl, yesT ?_⟩
        have hk : ∃ j : Nat, (0 + (i : Int)) % 3 = (j : Int) := ⟨((0 + (i : Int)) % 3).toNat, (Int.toNat_of_nonneg (Int.emod_nonneg _ (by decide))).symm⟩
        obtain ⟨j, hj⟩ := hk
        refine ⟨_, rfl, _, rfl, _, _, rfl, rfl, (by show (0 : Int) < 3; decide), a, ns, j, congrArg (fun t : Int => [V.ref a, V.int t]) hj, sm.seq hS2, _, rfl, _, _, rfl, rfl, .inl (by decide), _, _, rfl, rfl, _, _, rfl, rfl, _, rfl, fun H4 sm4 => ?_⟩
        refine ⟨_, sm4 _ _ hE, ?_, fun b o e => ?_, vs ++ [wordOf (cellOf ns j + 97 * (0 + (i : Int)) + 13)], ?_, ?_, ?_⟩
        · rw [List.length_map, hlv]
          exact Nat.lt_of_lt_of_le (show i < 1000 by omega) (by decide)
        · rw [upd_ne (ne_of_none e nE)]
          exact sm4 b o (sm b o e)
        · rw [upd_same, List.map_append]
          rfl
        · rw [List.length_append, hlv]
          rfl
        · intro x hx
          rcases List.mem_append.mp hx with hx | hx
          · exact hv x hx
          · rw [List.mem_singleton.mp hx]
            exact wordOf_ok _
      · obtain ⟨sm, vs, hE, hlv, hv⟩ := hp
        have hD3 := sm _ _ hD2
        refine ⟨D, E, _, _, rfl, rfl, hD3, hE, by rw [List.length_map, List.length_map, hl, hlv]; decide, fun p np => ?_⟩
        have s3 : Same H H3 := sm2.trans sm
        refine q _ p (ws ++ vs) (s3.trans (same_upd np)) (s3.free np) ?_ (by rw [List.length_append, hl, hlv]) fun x hx => ?_
        · rw [upd_same, List.map_append]
        · rcases List.mem_append.mp hx with hx | hx
          · exact hw x hx
          · exact hv x hx
    · refine ⟨_, rfl, D, _, _, rfl, rfl, hD2, by decide, by decide, by rw [List.length_map, hl]; decide, fun p np => ?_⟩
      refine q _ p (ws ++ (ws ++ (ws ++ []))) (sm2.trans (same_upd np)) (sm2.free np) ?_ (by simp [hl]) fun x hx => ?_
      · rw [upd_same, List.map_append, List.map_append, List.map_append]
        rfl
      · simp at hx
        exact hw x hx
end
/-! ### rows, plainly -/
structure RowD where
  kind : Str
  num : Int
  ws : List Str
def plainK : List Str := ["keep", "cut", "put"]
def blockK : List Str := ["take", "lay"]
def numB (k : Str) (n : Int) : Bool := if inV (.str k) (blockK.map V.str) = true then decide (1 ≤ n) && decide (n ≤ 999999999) else decide (V.int n = V.int 0)
structure RowOk (r : RowD) : Prop where
  kind : r.kind ∈ plainK ++ blockK
  num : numB r.kind r.num = true
  some : r.ws ≠ []
  words : ∀ a ∈ r.ws, wordB a = true
def RowAt (K : PySem.W.Frag) (H : Hp) (v : V) (r : RowD) : Prop := ∃ T W, v = .ref T ∧ SqT K H T [.str r.kind, .int r.num, .ref W] ∧ SqT K H W (r.ws.map V.str)
def RowsAt (K : PySem.W.Frag) (H : Hp) (xs : List V) (rs : List RowD) : Prop := xs.length = rs.length ∧ ∀ (i : Nat) (v : V), xs[i]? = some v → ∃ r, rs[i]? = some r ∧ RowAt K H v r
theorem RowAt.kp {K : PySem.W.Frag} {Ps : List Addr} {H H' : Hp} {v : V} {r : RowD} (t : Tb Ps H) (k : Kp Ps H H') (h : RowAt K H v r) : RowAt K H' v r :=
  let ⟨T, W, e, h1, h2⟩ := h; ⟨T, W, e, k.seqT t h1, k.seqT t h2⟩
theorem RowsAt.kp {K : PySem.W.Frag} {Ps : List Addr} {H H' : Hp} {xs : List V} {rs : List RowD} (t : Tb Ps H) (k : Kp Ps H H') (h : RowsAt K H xs rs) : RowsAt K H' xs rs :=
  ⟨h.1, fun i v e => let ⟨r, h1, h2⟩ := h.2 i v e; ⟨r, h1, h2.kp t k⟩⟩
theorem inV_strs (k : Str) : ∀ l : List Str, inV (.str k) (l.map V.str) = decide (k ∈ l) := by
  intro l
  unfold inV
  induction l with
  | nil => rfl
  | cons a r ih =>
    rw [List.map_cons, List.any_cons, ih]
    have e : eqV (V.str a) (V.str k) = decide (k = a) := by
      show decide (a = k) = decide (k = a)
      by_cases h : a = k
      · subst h
        rfl
      · rw [decide_eq_false h, decide_eq_false (Ne.symm h)]
    rw [e]
    by_cases h : k = a
    · rw [decide_eq_true h, decide_eq_true (show k ∈ a :: r from h ▸ List.mem_cons_self)]
      rfl
    · by_cases h2 : k ∈ r
      · rw [decide_eq_true h2, decide_eq_true (List.mem_cons_of_mem _ h2), Bool.or_true]
      · rw [decide_eq_false h, decide_eq_false h2, decide_eq_false (fun z => (List.mem_cons.mp z).elim h h2)]
        rfl
theorem flat_strs : ∀ l : List Str, (l.map V.str).all flatV = true := by
  intro l
  induction l with
  | nil => rfl
  | cons a r ih =>
    rw [List.map_cons, List.all_cons, ih]
    rfl
/-- a tuple of texts that stands at the top -/
def KTup (K : PySem.W.Frag) (a : Addr) (l : List Str) : Prop := ∀ H, SqT K H a (l.map V.str)
def tupB (K : PySem.W.Frag) (a : Addr) (l : List Str) : Bool := match K.lookup a with
  | some ⟨.type c, _, .seq its _, _⟩ => decide (c = "tuple") && (decide (its.size ≤ 100) && He.relAll (l.map V.str) its.toList)
  | _ => false
theorem tupB_ok {K : PySem.W.Frag} {a : Addr} {l : List Str} (h : tupB K a l = true) : KTup K a l := by
  intro H
  unfold tupB at h
  cases q : K.lookup a with
  | none =>
    rw [q] at h
    cases h
  | some o =>
    obtain ⟨oc, od, dt, osl⟩ := o
    rw [q] at h
    cases oc with
    | type c =>
      cases dt with
      | seq its n =>
        have h2 : (decide (c = "tuple") && (decide (its.size ≤ 100) && He.relAll (l.map V.str) its.toList)) = true := h
        rw [Bool.and_eq_true, Bool.and_eq_true] at h2
        obtain ⟨h3, h4, h5⟩ := h2
        refine .inr ⟨_, its, n, q, congrArg Value.type (of_decide_eq_true h3), rfl, Nat.le_trans (of_decide_eq_true h4) (by decide), He.relAll_ok h5⟩
      | _ => cases h
    | _ => cases dt <;> cases h
def strV : V → Bool
  | .str a => wordB a
  | _ => false
theorem all_strV : ∀ ws : List Str, (ws.map V.str).all strV = ws.all wordB := by
  intro ws
  induction ws with
  | nil => rfl
  | cons a r ih =>
    rw [List.map_cons, List.all_cons, List.all_cons, ih]
    rfl
section
variable {P : Program} {w : World} {K : PySem.W.Frag} {mg : Str → Option Value} {base : Heap}
theorem scIsNumber : FnScope ["kind", "number"] ["kind", "number"] (defScope sIsNumber) := ⟨rfl, rfl, rfl, by decide +kernel, rfl, by decide +kernel, by decide +kernel⟩
theorem scRowWords : FnScope ["words", "word"] ["words"] (defScope sRowWords) := ⟨rfl, rfl, rfl, by decide +kernel, rfl, by decide +kernel, by decide +kernel⟩
theorem scIsRow : FnScope ["row", "kind", "number", "words"] ["row"] (defScope sIsRow) := ⟨rfl, rfl, rfl, by decide +kernel, rfl, by decide +kernel, by decide +kernel⟩
theorem scCheckRows : FnScope ["rows", "at", "row"] ["rows"] (defScope sCheckRows) := ⟨rfl, rfl, rfl, by decide +kernel, rfl, by decide +kernel, by decide +kernel⟩
theorem scTurned : FnScope ["rows", "kind", "number", "words"] ["rows"] (defScope sTurned) := ⟨rfl, rfl, rfl, by decide +kernel, rfl, by decide +kernel, by decide +kernel⟩
def spIsNumber : Sp := fun vs H Q _ => ∃ (k : Str) (n : Int), vs = [.str k, .int n] ∧ Q (.bl (numB k n)) H
theorem ok_is_number {aB f : Addr} {fd : FuncData} (F : FnP K "is_number" sIsNumber f fd) (mI : mg "isinstance" = none) (mN : mg "int" = none) (mO : mg "bool" = none) (mB : mg "BLOCK_KINDS" = some (.ref aB)) (kB : KTup K aB blockK) {tL : Tok} (mL : mg "LAST_BLOCK" = some (.int 999999999 tL)) :
    FnOk P w K mg base (L2.CX P w) 1 f fd ["kind", "number"] spIsNumber := by
  refine F.ok scIsNumber (fun vs H Q E h => ?_) (fun cdv A outer s H vs Q E hr h => ?_)
  · obtain ⟨k, n, rfl, _⟩ := h
    rfl
  · obtain ⟨k, n, rfl, q⟩ := h
    refine ⟨_, pss_cons (ps_if (PW.pt (pw_or (pt_not (pt_val (pe_callB call_isi (by rfl) mI (by decide +kernel) (pa_cons (pv 1) (pa_cons (pe_bltn (v := .ty "int") (by rfl) mN (by decide +kernel) rfl) pa_nil)))))
        (pw_or1 (pt_val (pe_callB call_isi (by rfl) mI (by decide +kernel) (pa_cons (pv 1) (pa_cons (pe_bltn (v := .ty "bool") (by rfl) mO (by decide +kernel) rfl) pa_nil))))))) (pss_one (ps_ret pe_bl)) pss_nil)
      (pss_cons (ps_if (pt_cmpR op_in_seq (pv 0) (pe_glob (v := .ref aB) (by rfl) mB rfl) (by rfl)) (pss_one (ps_ret (pe_chain op_le op_le pe_int (pv 1) (pe_glob (v := .int 999999999) (by rfl) mL ⟨_, rfl⟩)))) pss_nil)
      (pss_one (ps_ret (pe_cmpR op_eq (pv 1) pe_int (nomark _))))), ?_⟩
    refine ⟨_, rfl, .int n, .ty "int", _, _, true, rfl, .ty _, .base (.int n), kit_ty (by decide +kernel), true, rfl, iteF ?_⟩
    refine ⟨_, rfl, .int n, .ty "bool", _, _, false, rfl, .ty _, .base (.int n), kit_ty (by decide +kernel), false, rfl, iteF ?_⟩
    refine ⟨_, rfl, aB, blockK.map V.str, rfl, .inr (kB H), rfl, flat_strs _, _, rfl, ?_⟩
    unfold numB at q
    show if inV (.str k) (blockK.map V.str) = true then _ else _
    cases e : inV (.str k) (blockK.map V.str) with
    | true =>
      rw [e, if_pos rfl] at q
      refine iteT ⟨_, rfl, _, _, rfl, rfl, _, rfl, ?_⟩
      by_cases h1 : 1 ≤ n
      · rw [decide_eq_true h1] at q ⊢
        exact iteT ⟨_, _, rfl, rfl, q⟩
      · rw [decide_eq_false h1] at q ⊢
        exact iteF q
    | false =>
      rw [e, if_neg Bool.false_ne_true] at q
      exact iteF ⟨_, rfl, rfl, q⟩
def spRowWords (K : PySem.W.Frag) (Ps : List Addr) : Sp := fun vs H Q _ => ∃ (W : Addr) (ws : List Str), vs = [.ref W] ∧ SqT K H W (ws.map V.str) ∧ ws ≠ [] ∧ (∀ a ∈ ws, a.length ≤ sizeLine) ∧ Tb Ps H ∧ ∀ H', Kp Ps H H' → Q (.bl (ws.all wordB)) H'
theorem ok_row_words {Ps : List Addr} {f fW Pr : Addr} {fd fdW : FuncData} (F : FnP K "is_row_of_words" sRowWords f fd) (hf : f = He.fAd K ("is_row_of_words", none)) (hPr : Pr ∈ Ps) (TB : GxR.TabB base mg (He.codeOf K ("is_row_of_words", none)) Pr)
    (GW : FnOk P w K mg base (L2.CX P w) 3 fW fdW ["word"] (spIsWord Ps)) (kW : PySem.W.keepIn K (.ref fW) = true) (bW : Binds K fdW ["word"] []) (gW : mg "is_word" = some (.ref fW))
    (mI : mg "isinstance" = none) (mT : mg "tuple" = none) (mL : mg "len" = none) (mA : mg "all" = none) : FnOk P w K mg base (L2.CX P w) 5 f fd ["words"] (spRowWords K Ps) := by
  refine okC F hf scRowWords (fun vs H Q E h => ?_) (fun A outer s H vs Q E hr h => ?_)
  · obtain ⟨W, ws, rfl, _⟩ := h
    rfl
  · obtain ⟨W, ws, rfl, hS, hne, hz, ht, q⟩ := h
    refine ⟨_, pss_cons (ps_if (PW.pt (pw_or (pt_not (pt_val (pe_callB call_isi (by rfl) mI (by decide +kernel) (pa_cons (pv 0) (pa_cons (pe_bltn (v := .ty "tuple") (by rfl) mT (by decide +kernel) rfl) pa_nil)))))
        (pw_or1 (pt_cmpR op_eq (pe_callB call_len_seq (by rfl) mL PySem.boot_len (pa_cons (pv 0) pa_nil)) pe_int (nomark _))))) (pss_one (ps_ret pe_bl)) pss_nil)
      (pss_one (ps_ret (pe_allG (own := [("word", 1)]) (gt := gName 1) (tt := tYes) (P := Pr) hr scRowWords.nd (by rfl) mA (by decide +kernel) TB rfl ⟨rfl, by decide +kernel, rfl, blkOk_by (N := ["words", "word"]) (sc := defScope sRowWords) (by decide +kernel)⟩ (pi_tup (pv 0))
          (fun _ _ _ _ _ _ _ _ _ => pg_name (i := 1) scRowWords.nd rfl (Or.inl rfl)) (fun _ _ _ _ _ _ _ _ _ _ => pts_nil) (fun _ _ _ _ _ _ _ _ _ hb => pe_call GW hb (by rfl) gW kW bW .nil passL (pa_cons (pv 1) pa_nil))))), ?_⟩
    refine ⟨_, rfl, .ref W, .ty "tuple", _, _, true, rfl, .ty _, tyT hS, kit_ty (by decide +kernel), true, rfl, iteF ?_⟩
    refine ⟨_, rfl, W, _, rfl, .inr hS, rfl, _, rfl, ?_⟩
    have e0 : decide (V.int ((ws.map V.str).length : Int) = V.int 0) = false := decide_eq_false fun z => by
      have z2 := V.int.inj z
      rw [List.length_map] at z2
      exact hne (List.length_eq_zero_iff.mp (by omega))
    rw [e0]
    refine iteF ⟨_, rfl, W, rfl, ⟨_, hS⟩, ht Pr hPr, fun H2 hT => ?_⟩
    have k2 := Kp.tab ht hPr hT
    refine read_all_tup (xs := ws.map V.str) (pb := strV) (Pv := fun H3 => Kp Ps H H3) k2 (fun H3 p => p.seqT ht hS) (fun i v H3 R hx p hR => ?_) (fun H3 p => ?_)
    · rw [List.getElem?_map] at hx
      obtain ⟨a, ha, rfl⟩ := Option.map_eq_some_iff.mp hx
      exact ⟨rfl, _, rfl, a, rfl, hz a (List.mem_of_getElem? ha), p.1, fun H4 k4 => hR H4 (p.trans k4)⟩
    · rw [all_strV]
      exact q H3 p
def spIsRow (K : PySem.W.Frag) (Ps : List Addr) : Sp := fun vs H Q _ => ∃ (v : V) (r : RowD), vs = [v] ∧ RowAt K H v r ∧ RowOk r ∧ Tb Ps H ∧ ∀ H', Kp Ps H H' → Q (.bl true) H'
theorem ok_is_row {Ps : List Addr} {aP aB f fN fW : Addr} {fd fdN fdW : FuncData} (F : FnP K "is_row" sIsRow f fd)
    (GN : FnOk P w K mg base (L2.CX P w) 1 fN fdN ["kind", "number"] spIsNumber) (kN : PySem.W.keepIn K (.ref fN) = true) (bN : Binds K fdN ["kind", "number"] []) (gN : mg "is_number" = some (.ref fN))
    (GW : FnOk P w K mg base (L2.CX P w) 5 fW fdW ["words"] (spRowWords K Ps)) (kW : PySem.W.keepIn K (.ref fW) = true) (bW : Binds K fdW ["words"] []) (gW : mg "is_row_of_words" = some (.ref fW))
    (mI : mg "isinstance" = none) (mT : mg "tuple" = none) (mL : mg "len" = none) (mP : mg "PLAIN_KINDS" = some (.ref aP)) (kP : KTup K aP plainK) (mB : mg "BLOCK_KINDS" = some (.ref aB)) (kB : KTup K aB blockK) : FnOk P w K mg base (L2.CX P w) 6 f fd ["row"] (spIsRow K Ps) := by
  refine F.ok scIsRow (fun vs H Q E h => ?_) (fun cdv A outer s H vs Q E hr h => ?_)
  · obtain ⟨v, r, rfl, _⟩ := h
    rfl
  · obtain ⟨v, r, rfl, ⟨T, W, rfl, hT, hW⟩, ok, ht, q⟩ := h
    refine ⟨_, pss_cons (ps_if (PW.pt (pw_or (pt_not (pt_val (pe_callB call_isi (by rfl) mI (by decide +kernel) (pa_cons (pv 0) (pa_cons (pe_bltn (v := .ty "tuple") (by rfl) mT (by decide +kernel) rfl) pa_nil)))))
        (pw_or1 (pt_cmpR op_ne (pe_callB call_len_seq (by rfl) mL PySem.boot_len (pa_cons (pv 0) pa_nil)) pe_int (nomark _))))) (pss_one (ps_ret pe_bl)) pss_nil)
      (pss_cons (ps_asg (pv 0) (pg_tup (by rfl) (pgs_cons (pg_name (i := 1) scIsRow.nd rfl (.inl rfl)) (pgs_cons (pg_name (i := 2) scIsRow.nd rfl (.inl rfl)) (pgs_cons (pg_name (i := 3) scIsRow.nd rfl (.inl rfl)) pgs_nil)))))
      (pss_cons (ps_if (PW.pt (pw_and (pt_cmpR op_notIn_seq (pv 1) (pe_glob (v := .ref aP) (by rfl) mP rfl) (by rfl)) (pw_and1 (pt_cmpR op_notIn_seq (pv 1) (pe_glob (v := .ref aB) (by rfl) mB rfl) (by rfl))))) (pss_one (ps_ret pe_bl)) pss_nil)
      (pss_one (ps_ret (pe_and (pe_call GN (hr.mono (by decide)) (by rfl) gN kN bN .nil passL (pa_cons (pv 1) (pa_cons (pv 2) pa_nil))) (pe_one (pe_call GW hr (by rfl) gW kW bW .nil passL (pa_cons (pv 3) pa_nil)))))))), ?_⟩
    refine ⟨_, rfl, .ref T, .ty "tuple", _, _, true, rfl, .ty _, tyT hT, kit_ty (by decide +kernel), true, rfl, iteF ?_⟩
    refine ⟨_, rfl, T, _, rfl, .inr hT, rfl, _, rfl, iteF ?_⟩
    refine ⟨_, rfl, T, _, rfl, hT, rfl, _, _, rfl, _, _, rfl, _, _, rfl, rfl, ?_⟩
    refine ⟨_, rfl, aP, plainK.map V.str, rfl, .inr (kP H), rfl, flat_strs _, _, rfl, ?_⟩
    have rest : ∀ b : Bool, b = (!inV (.str r.kind) (blockK.map V.str)) → b = false ∨ (!inV (.str r.kind) (plainK.map V.str)) = false := fun b hb => by
      rw [inV_strs] at hb
      rw [inV_strs]
      rcases List.mem_append.mp ok.kind with h | h
      · exact .inr (by rw [decide_eq_true h]; rfl)
      · exact .inl (by rw [hb, decide_eq_true h]; rfl)
    have fin : ∀ H1, H1 = H → ((FnOk P w K mg base (L2.CX P w) 1 fN fdN ["kind", "number"] spIsNumber) → tAndV (tCall spIsNumber [] E0 (tCons (tVar 1) (tCons (tVar 2) tNil))) (tCall (spRowWords K Ps) [] E0 (tCons (tVar 3) tNil)) [some (.ref T), some (.str r.kind), some (.int r.num), some (.ref W)] H1 Q) := fun H1 e _ => by
      subst e
      refine ⟨_, rfl, _, rfl, r.kind, r.num, rfl, _, rfl, ?_⟩
      rw [ok.num]
      refine iteT ⟨_, rfl, W, r.ws, rfl, hW, ok.some, fun a ha => small_line (by have := wordB_len (ok.words a ha); omega), ht, fun H' k => ?_⟩
      rw [List.all_eq_true.mpr ok.words]
      exact q H' k
    cases e : inV (.str r.kind) (plainK.map V.str) with
    | true => exact iteF (iteF (fin H rfl GN))
    | false =>
      refine iteT ⟨_, rfl, aB, blockK.map V.str, rfl, .inr (kB H), rfl, flat_strs _, _, rfl, ?_⟩
      rcases rest _ rfl with h | h
      · show if (!inV (.str r.kind) (blockK.map V.str)) = true then _ else _
        rw [h]
        exact iteF (fin H rfl GN)
      · rw [e] at h
        cases h
def spCheckRows (K : PySem.W.Frag) (Ps : List Addr) : Sp := fun vs H Q _ => ∃ (p : Addr) (xs : List V) (rs : List RowD), vs = [.ref p] ∧ SqL K H p xs ∧ RowsAt K H xs rs ∧ (∀ r ∈ rs, RowOk r) ∧ Tb Ps H ∧ ∀ H', Kp Ps H H' → Q .non H'
theorem ok_check_rows {Ps : List Addr} {f fR : Addr} {fd fdR : FuncData} (F : FnP K "check_rows" sCheckRows f fd) (GR : FnOk P w K mg base (L2.CX P w) 6 fR fdR ["row"] (spIsRow K Ps)) (kR : PySem.W.keepIn K (.ref fR) = true) (bR : Binds K fdR ["row"] []) (gR : mg "is_row" = some (.ref fR))
    (mI : mg "isinstance" = none) (mT : mg "list" = none) (mE : mg "enumerate" = none) : FnOk P w K mg base (L2.CX P w) 7 f fd ["rows"] (spCheckRows K Ps) := by
  refine F.ok scCheckRows (fun vs H Q E h => ?_) (fun cdv A outer s H vs Q E hr h => ?_)
  · obtain ⟨p, xs, rs, rfl, _⟩ := h
    rfl
  · obtain ⟨p, xs, rs, rfl, hS, hR, hok, ht, q⟩ := h
    refine ⟨_, pss_cons (ps_if (pt_not (pt_val (pe_callB call_isi (by rfl) mI (by decide +kernel) (pa_cons (pv 0) (pa_cons (pe_bltn (v := .ty "list") (by rfl) mT (by decide +kernel) rfl) pa_nil))))) pss_never pss_nil)
      (pss_one (ps_for (passes_of rfl) rfl (pi_enum (by rfl) mE (pa_cons (pv 0) pa_nil)) (pg_tup rfl (pgs_cons (pg_name (i := 1) scCheckRows.nd rfl (.inl rfl)) (pgs_cons (pg_name (i := 2) scCheckRows.nd rfl (.inl rfl)) pgs_nil)))
        (pss_one (ps_if (pt_not (pt_val (pe_call GR hr (by rfl) gR kR bR .nil passL (pa_cons (pv 2) pa_nil)))) pss_never pss_nil)))), ?_⟩
    refine ⟨_, rfl, .ref p, .ty "list", _, _, true, rfl, .ty _, tyL hS, kit_ty (by decide +kernel), true, rfl, iteF ?_⟩
    refine ⟨_, rfl, p, _, rfl, hS, for_enum (xs := xs) (fun i σ' H' => Kp Ps H H' ∧ ∃ y1 y2, σ' = [some (.ref p), y1, y2]) ⟨Kp.refl ht, none, none, rfl⟩ (fun i σ' H' _ hp => hp.1.seq ht hS) (fun i x T σ' H' hx nT hp => ?_) (fun σ' H' hp => q H' hp.1)⟩
    obtain ⟨k, y1, y2, rfl⟩ := hp
    obtain ⟨r, hr1, hr2⟩ := hR.2 i x hx
    have k2 : Kp Ps H (upd H' T (.tup [.int (i : Nat), x])) := k.trans (Kp.new k.1 nT)
    refine ⟨T, _, rfl, .inl (.inl upd_same), rfl, _, _, rfl, _, _, rfl, rfl, ?_⟩
    exact ⟨_, rfl, x, r, rfl, hr2.kp ht k2, hok r (List.mem_of_getElem? hr1), k2.1, fun H3 k3 => ⟨_, rfl, iteF ⟨k2.trans k3, _, _, rfl⟩⟩⟩
end
/-! ### the way back, the cost -/
def wayB (k : Str) : Str := if k = "cut" then "put" else if k = "put" then "cut" else if k = "take" then "lay" else if k = "lay" then "take" else "keep"
def cutPut : List Str := ["cut", "put"]
def turnR (r : RowD) : RowD := { r with kind := wayB r.kind }
def rowCost (r : RowD) : Int := if inV (.str r.kind) (cutPut.map V.str) = true then (r.ws.length : Int) else if r.kind = "take" then 3 else 0
def costOf (rs : List RowD) : Int := (rs.map rowCost).sum
theorem RowAt.set {K : PySem.W.Frag} {H : Hp} {D : Addr} {o : HO} {v : V} {r : RowD} (hD : ∀ xs, ¬ Rd H D (.tup xs)) (h : RowAt K H v r) : RowAt K (upd H D o) v r := by
  obtain ⟨T, W, e, h1, h2⟩ := h
  have key : ∀ {a : Addr} {xs : List V}, SqT K H a xs → SqT K (upd H D o) a xs := fun {a xs} h => by
    rcases h with h | h
    · have ne : a ≠ D := fun z => hD xs (by rw [← z]; exact h)
      rcases h with h | ⟨ob, h⟩
      · exact .inl (.inl (by rw [upd_ne ne]; exact h))
      · exact .inl (.inr ⟨ob, by rw [upd_ne ne]; exact h⟩)
    · exact .inr h
  exact ⟨T, W, e, key h1, key h2⟩
theorem noTup {H : Hp} {D : Addr} {ys : List V} (h : H D = some (.lst ys)) : ∀ xs, ¬ Rd H D (.tup xs) := fun xs z => by
  rcases z with z | ⟨o, z⟩
  · rw [h] at z
    cases z
  · rw [h] at z
    cases z
section
variable {P : Program} {w : World} {K : PySem.W.Frag} {mg : Str → Option Value} {base : Heap}
def spTurned (K : PySem.W.Frag) (Ps : List Addr) : Sp := fun vs H Q _ => ∃ (p : Addr) (xs : List V) (rs : List RowD), vs = [.ref p] ∧ SqL K H p xs ∧ RowsAt K H xs rs ∧ (∀ r ∈ rs, RowOk r) ∧ xs.length ≤ 1000 ∧ Tb Ps H ∧
  ∀ H' q ys, Kp Ps H H' → H q = none → H' q = some (.lst ys) → RowsAt K H' ys (rs.map turnR) → Q (.ref q) H'
theorem ok_turned {Ps : List Addr} {aW f fC : Addr} {fd fdC : FuncData} (F : FnP K "turned" sTurned f fd) (GC : FnOk P w K mg base (L2.CX P w) 7 fC fdC ["rows"] (spCheckRows K Ps)) (kC : PySem.W.keepIn K (.ref fC) = true) (bC : Binds K fdC ["rows"] []) (gC : mg "check_rows" = some (.ref fC))
    (mW : mg "WAY_BACK" = some (.ref aW)) (kW : ∀ k ∈ plainK ++ blockK, KDct K w aW k (.str (wayB k))) : FnOk P w K mg base (L2.CX P w) 8 f fd ["rows"] (spTurned K Ps) := by
  refine F.ok scTurned (fun vs H Q E h => ?_) (fun cdv A outer s H vs Q E hr h => ?_)
  · obtain ⟨p, xs, rs, rfl, _⟩ := h
    rfl
  · obtain ⟨p, xs, rs, rfl, hS, hR, hok, hl, ht, q⟩ := h
    refine ⟨_, pss_cons (ps_expr (pe_call GC hr (by rfl) gC kC bC .nil passL (pa_cons (pv 0) pa_nil)))
      (pss_one (ps_ret (pe_lc (own := [("kind", 1), ("number", 2), ("words", 3)]) (g := gTup K 3 (gCons (gName 1) (gCons (gName 2) (gCons (gName 3) gNil)))) (tt := tYes) rfl scTurned.nd (pi_list (pv 0)) (blkOk_by (N := ["rows", "kind", "number", "words"]) (sc := defScope sTurned) (by decide +kernel))
        (fun _ _ _ _ _ => pg_tup rfl (pgs_cons (pg_name (i := 1) scTurned.nd rfl (Or.inl rfl)) (pgs_cons (pg_name (i := 2) scTurned.nd rfl (Or.inl rfl)) (pgs_cons (pg_name (i := 3) scTurned.nd rfl (Or.inl rfl)) pgs_nil)))) (fun _ _ _ _ _ => pts_nil)
        (fun _ _ _ _ _ => pe_tup (pa_cons (pe_ix (r := rIxD K w) ix_kdict (pe_glob (v := .ref aW) (by rfl) mW rfl) (pv 1) (fun _ _ => rfl)) (pa_cons (pv 2) (pa_cons (pv 3) pa_nil))))))), ?_⟩
    refine ⟨_, rfl, p, xs, rs, rfl, hS, hR, hok, ht, fun H1 k1 => ?_⟩
    have hS1 := k1.seq ht hS
    refine ⟨_, rfl, p, rfl, ⟨_, hS1⟩, fun D nD => ?_⟩
    have nD0 := k1.free ht nD
    refine lc_list (xs := xs) (fun i H' => Kp Ps H H' ∧ ∃ ys, H' D = some (.lst ys) ∧ ys.length = i ∧ ∀ (j : Nat) (v : V), ys[j]? = some v → ∃ r, rs[j]? = some r ∧ RowAt K H' v (turnR r)) ⟨k1.set ht nD0, [], upd_same, rfl, fun j v e => by cases e⟩ (fun i H' _ hp => hp.1.seq ht hS) (fun i x H' hx hp => ?_) (fun H' hp => ?_)
    · obtain ⟨k, ys, hD, hly, hys⟩ := hp
      obtain ⟨r, hr1, hr2⟩ := hR.2 i x hx
      have hi : i < xs.length := (List.getElem?_eq_some_iff.mp hx).1
      have okr := hok r (List.mem_of_getElem? hr1)
      obtain ⟨T, W, rfl, hT, hW⟩ := hr2.kp ht k
      refine ⟨T, _, rfl, hT, rfl, _, _, rfl, _, _, rfl, _, _, rfl, rfl, rfl, yesT ?_⟩
      refine ⟨_, rfl, aW, r.kind, _, rfl, rfl, kW _ okr.kind, _, rfl, _, rfl, by show 3 ≤ sizeLine; decide, fun T2 nT2 => ?_⟩
      have hD2 : (upd H' T2 (.tup [.str (wayB r.kind), .int r.num, .ref W])) D = some (.lst ys) := by
        rw [upd_ne (ne_of_none hD nT2)]
        exact hD
      refine ⟨ys, hD2, ?_, ?_, ys ++ [.ref T2], upd_same, ?_, fun j v e => ?_⟩
      · rw [hly]
        exact Nat.lt_of_lt_of_le (show i < 1001 by omega) (by decide)
      · exact (k.trans (Kp.new k.1 nT2)).set ht nD0
      · rw [List.length_append, hly]
        rfl
      · have st : Kp Ps H' (upd H' T2 (.tup [.str (wayB r.kind), .int r.num, .ref W])) := Kp.new k.1 nT2
        by_cases hj : j < ys.length
        · rw [List.getElem?_append_left hj] at e
          obtain ⟨r', h1, h2⟩ := hys j v e
          exact ⟨r', h1, (h2.kp k.1 st).set (noTup hD2)⟩
        · rw [List.getElem?_append_right (by omega)] at e
          have ej : j - ys.length = 0 := by
            have := (List.getElem?_eq_some_iff.mp e).1
            have : j - ys.length < 1 := this
            omega
          rw [ej] at e
          cases e
          have e2 : j = i := by omega
          subst e2
          exact ⟨r, hr1, RowAt.set (noTup hD2) ⟨T2, W, rfl, .inl (.inl upd_same), st.seqT k.1 hW⟩⟩
    · obtain ⟨k, ys, hD, hly, hys⟩ := hp
      refine q H' D ys k nD0 hD ⟨by rw [List.length_map, hly, hR.1], fun j v e => ?_⟩
      obtain ⟨r, h1, h2⟩ := hys j v e
      exact ⟨turnR r, by rw [List.getElem?_map, h1]; rfl, h2⟩
end
/-! ### rows as data; what the laws say of rows -/
theorem signB_lt' {c : Nat} (h : signB c = true) : c < 127 := by
  unfold signB at h
  rw [Bool.or_eq_true, Bool.and_eq_true, Bool.and_eq_true, Bool.not_eq_true', Bool.not_eq_true', Bool.not_eq_true', Bool.not_eq_true'] at h
  rcases h with ⟨_, h⟩ | ⟨_, h⟩
  · have := of_decide_eq_false h
    omega
  · have := of_decide_eq_false h
    omega
theorem strOk_word {a : Str} (h : wordB a = true) : PyData.strOk a = true := by
  unfold PyData.strOk
  rw [Array.all_eq_true]
  intro i hi
  have h1 : a.cps[i] ∈ a.cps.toList := by simp
  have h2 := signB_lt' (wordB_signs h _ h1)
  exact decide_eq_true (by omega)
theorem dpStrs (H : Hp) (K : PySem.W.Frag) : ∀ ws : List Str, DpAll K H (ws.map V.str) (ws.map PyData.str)
  | [] => .nil
  | x :: r => .cons (.str x) (dpStrs H K r)
theorem lay_strs : ∀ ws : List Str, (∀ a ∈ ws, PyData.strOk a = true) → PyData.canLayAll0 (ws.map PyData.str) = true := fun ws => by
  induction ws with
  | nil => exact fun _ => rfl
  | cons x r ih =>
    intro h
    show (PyData.canLay0 (.str x) && PyData.canLayAll0 (r.map PyData.str)) = true
    rw [ih fun b hb => h b (List.mem_cons_of_mem _ hb), show PyData.canLay0 (.str x) = PyData.strOk x from rfl, h x List.mem_cons_self]
    rfl
theorem depth_strs : ∀ ws : List Str, PyData.depthAll (ws.map PyData.str) = 0 := fun ws => by
  induction ws with
  | nil => rfl
  | cons x r ih =>
    show max (PyData.depth (.str x)) (PyData.depthAll (r.map PyData.str)) = 0
    rw [ih]
    rfl
theorem shaped_words {ws : List Str} (h : ∀ a ∈ ws, PyData.strOk a = true) : SeqAt.shaped (.list (ws.map PyData.str)) = true := by
  show (PyData.canLayAll0 (ws.map PyData.str) && decide (PyData.depthAll (ws.map PyData.str) + 1 ≤ 64)) = true
  rw [lay_strs ws h, depth_strs]
  rfl
def rowData (r : RowD) : PyData := .tuple [.str r.kind, .int r.num, .tuple (r.ws.map PyData.str)]
theorem dpRow {K : PySem.W.Frag} {H : Hp} {v : V} {r : RowD} (h : RowAt K H v r) : Dp K H v (rowData r) := by
  obtain ⟨T, W, rfl, hT, hW⟩ := h
  exact .tup hT (.cons (.str _) (.cons (.int _) (.cons (.tup hW (dpStrs H K r.ws)) .nil)))
theorem dpRows {K : PySem.W.Frag} {H : Hp} : ∀ {xs : List V} {rs : List RowD}, RowsAt K H xs rs → DpAll K H xs (rs.map rowData)
  | [], [], _ => .nil
  | [], _ :: _, h => nomatch h.1
  | _ :: _, [], h => nomatch h.1
  | x :: xs, r :: rs, h => by
    obtain ⟨r', h1, h2⟩ := h.2 0 x rfl
    cases h1
    exact .cons (dpRow h2) (dpRows ⟨Nat.succ.inj h.1, fun i v e => h.2 (i + 1) v e⟩)
theorem kinds_strOk : ∀ k ∈ plainK ++ blockK, PyData.strOk k = true := by decide +kernel
theorem lay_rows : ∀ rs : List RowD, (∀ r ∈ rs, RowOk r) → PyData.canLayAll0 (rs.map rowData) = true := fun rs => by
  induction rs with
  | nil => exact fun _ => rfl
  | cons x r ih =>
    intro h
    have hx := h x List.mem_cons_self
    show (((PyData.strOk x.kind && (true && (PyData.canLayAll0 (x.ws.map PyData.str) && true)))) && PyData.canLayAll0 (r.map rowData)) = true
    rw [ih fun b hb => h b (List.mem_cons_of_mem _ hb), lay_strs x.ws fun a ha => strOk_word (hx.words a ha), kinds_strOk _ hx.kind]
    rfl
theorem depth_rows : ∀ rs : List RowD, PyData.depthAll (rs.map rowData) ≤ 2 := fun rs => by
  induction rs with
  | nil => exact Nat.zero_le _
  | cons x r ih =>
    show max (max (0 : Nat) (max (0 : Nat) (max (PyData.depthAll (x.ws.map PyData.str) + 1) 0)) + 1) (PyData.depthAll (r.map rowData)) ≤ 2
    rw [depth_strs]
    omega
theorem shaped_rows {rs : List RowD} (h : ∀ r ∈ rs, RowOk r) : SeqAt.shaped (.list (rs.map rowData)) = true := by
  show (PyData.canLayAll0 (rs.map rowData) && decide (PyData.depthAll (rs.map rowData) + 1 ≤ 64)) = true
  rw [lay_rows rs h, decide_eq_true (show PyData.depthAll (rs.map rowData) + 1 ≤ 64 by have := depth_rows rs; omega)]
  rfl
theorem noTb {H : Hp} : Tb [] H := fun _ h => by cases h
theorem RowAt.same {K : PySem.W.Frag} {H H' : Hp} {v : V} {r : RowD} (s : Same H H') (h : RowAt K H v r) : RowAt K H' v r := h.kp noTb (Kp.same noTb s)
theorem RowsAt.same {K : PySem.W.Frag} {H H' : Hp} {xs : List V} {rs : List RowD} (s : Same H H') (h : RowsAt K H xs rs) : RowsAt K H' xs rs := h.kp noTb (Kp.same noTb s)
theorem sameT {K : PySem.W.Frag} {H H' : Hp} {a : Addr} {xs : List V} (s : Same H H') (h : SqT K H a xs) : SqT K H' a xs := (Kp.same noTb s).seqT noTb h
theorem atM {α : Type} {l : List α} {c : Int} {n : Nat} {x : α} (hn : 0 < n) (h : l[(c % (n : Int)).toNat]? = some x) : atI l (c % (n : Int)) = some x := by
  have h1 : 0 ≤ c % (n : Int) := Int.emod_nonneg c (by omega)
  have e : c % (n : Int) = (((c % (n : Int)).toNat : Nat) : Int) := (Int.toNat_of_nonneg h1).symm
  rw [e]
  exact atI_nat h
theorem ltM {c : Int} {n : Nat} (hn : 0 < n) : (c % (n : Int)).toNat < n := by
  have h1 : 0 ≤ c % (n : Int) := Int.emod_nonneg c (by omega)
  have h2 : c % (n : Int) < (n : Int) := Int.emod_lt_of_pos c (by omega)
  omega
/-! ### more of rows -/
theorem cut30 (xs : List V) : (cutV xs (some 4) (some 34)).length ≤ 30 := by
  unfold cutV
  have h1 : HT.sIx xs.length 0 (some 4) = min 4 xs.length := HT.sIx_nat _ _ 4
  have h2 : HT.sIx xs.length xs.length (some 34) = min 34 xs.length := HT.sIx_nat _ _ 34
  rw [h1, h2, List.length_take, List.length_drop]
  omega
theorem cut_mem {xs : List V} {lo hi : Option Int} {x : V} (h : x ∈ cutV xs lo hi) : x ∈ xs := List.mem_of_mem_drop (List.mem_of_mem_take h)
theorem RowsAt.snoc {K : PySem.W.Frag} {H : Hp} {xs : List V} {rs : List RowD} {v : V} {r : RowD} (h : RowsAt K H xs rs) (h2 : RowAt K H v r) : RowsAt K H (xs ++ [v]) (rs ++ [r]) := by
  refine ⟨by rw [List.length_append, List.length_append, h.1]; rfl, fun i x e => ?_⟩
  by_cases hi : i < xs.length
  · rw [List.getElem?_append_left hi] at e
    obtain ⟨r', h3, h4⟩ := h.2 i x e
    exact ⟨r', by rw [List.getElem?_append_left (by rw [← h.1]; exact hi)]; exact h3, h4⟩
  · have hl := (List.getElem?_eq_some_iff.mp e).1
    rw [List.length_append] at hl
    have hl : i < xs.length + 1 := hl
    have e2 : i = xs.length := by omega
    subst e2
    rw [List.getElem?_append_right (Nat.le_refl _), Nat.sub_self] at e
    cases e
    exact ⟨r, by rw [List.getElem?_append_right (by rw [← h.1]; exact Nat.le_refl _), h.1, Nat.sub_self]; rfl, h2⟩
theorem RowsAt.set {K : PySem.W.Frag} {H : Hp} {D : Addr} {o : HO} {xs : List V} {rs : List RowD} (hD : ∀ xs, ¬ Rd H D (.tup xs)) (h : RowsAt K H xs rs) : RowsAt K (upd H D o) xs rs :=
  ⟨h.1, fun i v e => let ⟨r, h1, h2⟩ := h.2 i v e; ⟨r, h1, h2.set hD⟩⟩
theorem turnR_ok {r : RowD} (h : RowOk r) : RowOk (turnR r) := by
  have key : ∀ k ∈ plainK ++ blockK, wayB k ∈ plainK ++ blockK ∧ (decide (k ∈ blockK) = decide (wayB k ∈ blockK)) := by decide +kernel
  obtain ⟨h1, h2⟩ := key _ h.kind
  refine ⟨h1, ?_, h.some, h.words⟩
  have h3 := h.num
  unfold numB at h3 ⊢
  rw [inV_strs] at h3 ⊢
  show (if decide (wayB r.kind ∈ blockK) = true then _ else _) = true
  rw [← h2]
  exact h3
theorem numB_block {k : Str} {n : Int} (hk : k = "take" ∨ k = "lay") (h1 : 1 ≤ n) (h2 : n ≤ 999999999) : numB k n = true := by
  unfold numB
  rw [inV_strs, decide_eq_true (show k ∈ blockK by rcases hk with rfl | rfl <;> decide +kernel), if_pos rfl, decide_eq_true h1, decide_eq_true h2]
  rfl
theorem numB_plain {k : Str} (h1 : k ≠ "take") (h2 : k ≠ "lay") : numB k 0 = true := by
  unfold numB
  rw [inV_strs, decide_eq_false (show ¬ k ∈ blockK from fun z => by
    rcases List.mem_cons.mp z with z | z
    · exact h1 z
    · rcases List.mem_cons.mp z with z | z
      · exact h2 z
      · cases z), if_neg Bool.false_ne_true]
  rfl
section
variable {P : Program} {w : World} {K : PySem.W.Frag} {mg : Str → Option Value} {base : Heap}
theorem scAlike : FnScope ["_law_found", "_law_due", "_law_one"] ["_law_found", "_law_due"] (defScope sAlike) := ⟨rfl, rfl, rfl, by decide +kernel, rfl, by decide +kernel, by decide +kernel⟩
def spAlike (K : PySem.W.Frag) : Sp := fun vs H Q _ => ∃ (p q : Addr) (ws : List Str), vs = [.ref p, .ref q] ∧ SqL K H p (ws.map V.str) ∧ SqL K H q (ws.map V.str) ∧ ws.length ≤ 1000 ∧ (∀ a ∈ ws, PyData.strOk a = true) ∧ ∀ H', Same H H' → Q (.bl true) H'
theorem ok_alike {f : Addr} {fd : FuncData} (F : FnP K "_law_alike" sAlike f fd) (mI : mg "isinstance" = none) (mS : mg "str" = none) (mT : mg "list" = none) (mL : mg "len" = none) (mA : mg "all" = none) : FnOk P w K mg base (L2.CX P w) 2 f fd ["_law_found", "_law_due"] (spAlike K) := by
  refine F.ok scAlike (fun vs H Q E h => ?_) (fun cdv A outer s H vs Q E hr h => ?_)
  · obtain ⟨p, q, ws, rfl, _⟩ := h
    rfl
  · obtain ⟨p, q, ws, rfl, hp, hq, hl, hok, k⟩ := h
    refine ⟨_, pss_cons (ps_if (PW.pt (pw_or (pt_not (pt_val (pe_callB call_isi (by rfl) mI (by decide +kernel) (pa_cons (pv 0) (pa_cons (pe_bltn (v := .ty "list") (by rfl) mT (by decide +kernel) rfl) pa_nil)))))
        (pw_or1 (pt_cmpR op_ne (pe_callB call_len_seq (by rfl) mL PySem.boot_len (pa_cons (pv 0) pa_nil)) (pe_callB call_len_seq (by rfl) mL PySem.boot_len (pa_cons (pv 1) pa_nil)) (nomark _))))) (pss_one (ps_ret pe_bl)) pss_nil)
      (pss_one (ps_ret (pe_and (pe_callB (cr_all rfl) (by rfl) mA (by decide +kernel) (pa_cons (pe_lc (own := [("_law_one", 2)]) (g := gName 2) (tt := tYes) rfl scAlike.nd (pi_list (pv 0)) (blkOk_by (N := ["_law_found", "_law_due", "_law_one"]) (sc := defScope sAlike) (by decide +kernel))
          (fun _ _ _ _ _ => pg_name (i := 2) scAlike.nd rfl (Or.inl rfl)) (fun _ _ _ _ _ => pts_nil) (fun _ _ _ _ _ => pe_callB (id := "isinstance") (r := rIsi K) call_isi (by rfl) mI (by decide +kernel) (pa_cons (pv 2) (pa_cons (pe_bltn (v := .ty "str") (by rfl) mS (by decide +kernel) rfl) pa_nil)))) pa_nil))
        (pe_one (pe_cmpR (op_eqD hr.units) (pv 0) (pv 1) (nomark _)))))), ?_⟩
    refine ⟨_, rfl, .ref p, .ty "list", _, _, true, rfl, .ty _, tyL hp, kit_ty (by decide +kernel), true, rfl, iteF ?_⟩
    refine ⟨_, rfl, p, _, rfl, .inl hp, _, rfl, q, _, rfl, .inl hq, rfl, _, rfl, ?_⟩
    rw [decide_eq_true (show V.int ((ws.map V.str).length : Int) = V.int ((ws.map V.str).length : Int) from rfl)]
    refine iteF ?_
    refine ⟨_, rfl, p, rfl, ⟨_, hp⟩, fun D nD => ?_⟩
    refine lc_list (xs := ws.map V.str) (fun i H' => Same H H' ∧ H' D = some (.lst ((List.replicate i true).map V.bl))) ⟨same_upd nD, upd_same⟩ (fun i H' _ hP => hP.1.seq hp) (fun i x H' hx hP => ?_) (fun H' hP => ?_)
    · obtain ⟨sm, hD⟩ := hP
      rw [List.getElem?_map] at hx
      obtain ⟨a, ha, rfl⟩ := Option.map_eq_some_iff.mp hx
      refine ⟨rfl, yesT ?_⟩
      have hi : i < ws.length := (List.getElem?_eq_some_iff.mp ha).1
      refine ⟨_, rfl, .str a, .ty "str", _, _, true, rfl, .ty _, .base (.str a), kit_ty (by decide +kernel), _, hD, ?_, fun b o e => ?_, ?_⟩
      · rw [List.length_map, List.length_replicate]
        exact Nat.lt_of_lt_of_le (show i < 1001 by omega) (by decide)
      · rw [upd_ne (ne_of_none e nD)]
        exact sm b o e
      · rw [upd_same, List.replicate_succ', List.map_append]
        rfl
    · obtain ⟨sm, hD⟩ := hP
      refine ⟨D, _, rfl, .inl (.inl hD), true, ?_, ?_⟩
      · have e : ∀ n, (List.replicate n true).all id = true := fun n => by simp
        rw [e]
      · refine iteT ⟨_, rfl, _, rfl, _, _, .lst (sm.seq hp) (dpStrs H' K ws), .lst (sm.seq hq) (dpStrs H' K ws), shaped_words hok, shaped_words hok, ?_⟩
        rw [SeqAt.eqv_refl _ (SeqAt.canLay_of_shaped (shaped_words hok))]
        exact k H' sm
end
/-! ### the words and the blocks of a telling -/
def oldK : List Str := ["keep", "cut", "take"]
def newK : List Str := ["keep", "put", "lay"]
def wordsOf (ks : List Str) (rs : List RowD) : List Str := (rs.filter fun r => decide (r.kind ∈ ks)).flatMap (·.ws)
def blk (k : Str) (rs : List RowD) : List RowD := rs.filter fun r => decide (r.kind = k)
def prR (r : RowD) : Int × List Str := (r.num, r.ws)
def blkData (k : Str) (rs : List RowD) : List (Key × PyData) := (blk k rs).map fun r => (.inl r.num, .tuple (r.ws.map PyData.str))
theorem wordsOf_snoc (ks : List Str) (rs : List RowD) (r : RowD) : wordsOf ks (rs ++ [r]) = if r.kind ∈ ks then wordsOf ks rs ++ r.ws else wordsOf ks rs := by
  unfold wordsOf
  rw [List.filter_append, List.flatMap_append]
  by_cases h : r.kind ∈ ks
  · rw [if_pos h, List.filter_cons_of_pos (p := fun r : RowD => decide (r.kind ∈ ks)) (decide_eq_true h)]
    simp
  · rw [if_neg h, List.filter_cons_of_neg (by simpa using h)]
    simp
theorem wordsOf_append (ks : List Str) (rs qs : List RowD) : wordsOf ks (rs ++ qs) = wordsOf ks rs ++ wordsOf ks qs := by
  unfold wordsOf
  rw [List.filter_append, List.flatMap_append]
theorem take_snoc {α : Type} {l : List α} {i : Nat} {x : α} (h : l[i]? = some x) : l.take (i + 1) = l.take i ++ [x] := by
  rw [List.take_add_one, h]
  rfl
theorem wordsOf_take_le (ks : List Str) (rs : List RowD) (i : Nat) : (wordsOf ks (rs.take i)).length ≤ (wordsOf ks rs).length := by
  have h := wordsOf_append ks (rs.take i) (rs.drop i)
  rw [List.take_append_drop] at h
  rw [h, List.length_append]
  omega
theorem wordsOf_ok {ks : List Str} {rs : List RowD} (h : ∀ r ∈ rs, RowOk r) : ∀ a ∈ wordsOf ks rs, wordB a = true := fun a ha => by
  unfold wordsOf at ha
  obtain ⟨r, h1, h2⟩ := List.mem_flatMap.mp ha
  exact (h r (List.mem_filter.mp h1).1).words a h2
/-- a telling that fits both its texts -/
structure Fit (rs : List RowD) : Prop where
  ok : ∀ r ∈ rs, RowOk r
  old : (wordsOf oldK rs).length ≤ 120
  new : (wordsOf newK rs).length ≤ 120
  len : rs.length ≤ 500
  nd : ((blk "take" rs).map (·.num)).Nodup
  perm : ((blk "take" rs).map prR).Perm ((blk "lay" rs).map prR)
theorem Fit.nd2 {rs : List RowD} (h : Fit rs) : ((blk "lay" rs).map (·.num)).Nodup := by
  have p := h.perm.map Prod.fst
  rw [List.map_map, List.map_map] at p
  exact p.nodup_iff.mp h.nd
theorem lay_words {ws : List Str} (h : ∀ a ∈ ws, wordB a = true) : (PyData.tuple (ws.map PyData.str)).canLay0 = true := lay_strs ws fun a ha => strOk_word (h a ha)
theorem shaped_tup {ws : List Str} (h : ∀ a ∈ ws, wordB a = true) : SeqAt.shaped (.tuple (ws.map PyData.str)) = true := by
  show (PyData.canLayAll0 (ws.map PyData.str) && decide (PyData.depthAll (ws.map PyData.str) + 1 ≤ 64)) = true
  rw [lay_strs ws fun a ha => strOk_word (h a ha), depth_strs]
  rfl
def toD (p : Int × List Str) : Key × PyData := (.inl p.1, .tuple (p.2.map PyData.str))
theorem blkData_pr (k : Str) (rs : List RowD) : blkData k rs = ((blk k rs).map prR).map toD := by
  unfold blkData
  rw [List.map_map]
  rfl
theorem dataAt_mem {ld : List (Key × PyData)} (nd : (ld.map (·.1)).Nodup) {p : Key × PyData} (h : p ∈ ld) : Dm.dataAt ld p.1 = some p.2 := by
  induction ld with
  | nil => cases h
  | cons a r ih =>
    unfold Dm.dataAt
    rw [List.map_cons, List.nodup_cons] at nd
    by_cases e : a.1 = p.1
    · rcases List.mem_cons.mp h with h | h
      · subst h
        rw [List.find?_cons_of_pos (p := fun kv : Key × PyData => decide (kv.1 = p.1)) (decide_eq_true rfl)]
        rfl
      · exact absurd (List.mem_map.mpr ⟨p, h, e.symm⟩) nd.1
    · rw [List.find?_cons_of_neg (by simpa using e)]
      rcases List.mem_cons.mp h with h | h
      · exact absurd (congrArg Prod.fst h).symm e
      · exact ih nd.2 h
theorem hit_all {ld : List (Key × PyData)} : ∀ {kd : List (Key × PyData)}, (∀ p ∈ kd, Dm.dataAt ld p.1 = some p.2 ∧ p.2.canLay0 = true) → Dm.hitB ld kd = true
  | [], _ => rfl
  | p :: r, h => by
    obtain ⟨h1, h2⟩ := h p List.mem_cons_self
    unfold Dm.hitB
    rw [h1]
    show (p.2.eqv p.2 && Dm.hitB ld r) = true
    rw [SeqAt.eqv_refl _ h2, hit_all fun q hq => h q (List.mem_cons_of_mem _ hq)]
    rfl
theorem same_perm {l m : List (Int × List Str)} (p : l.Perm m) (nd : (m.map (·.1)).Nodup) (hw : ∀ q ∈ l, ∀ a ∈ q.2, wordB a = true) : Dm.sameB (l.map toD) (m.map toD) = true := by
  unfold Dm.sameB
  rw [hit_all fun q hq => ?_, List.length_map, List.length_map, p.length_eq]
  · simp
  · obtain ⟨z, hz, rfl⟩ := List.mem_map.mp hq
    refine ⟨dataAt_mem ?_ (List.mem_map.mpr ⟨z, p.mem_iff.mp hz, rfl⟩), lay_words (hw z hz)⟩
    rw [List.map_map, show ((fun x : Key × PyData => x.1) ∘ toD) = (fun n : Int => (.inl n : Key)) ∘ (fun x : Int × List Str => x.1) from rfl, ← List.map_map]
    exact List.pairwise_map.mpr (List.Pairwise.imp (fun h e => h (Sum.inl.inj e)) nd)
theorem Fit.same {rs : List RowD} (h : Fit rs) : Dm.sameB (blkData "take" rs) (blkData "lay" rs) = true := by
  rw [blkData_pr, blkData_pr]
  refine same_perm h.perm ?_ fun q hq => ?_
  · rw [List.map_map]
    exact h.nd2
  · obtain ⟨r, hr, rfl⟩ := List.mem_map.mp hq
    exact (h.ok r (List.mem_filter.mp hr).1).words
/-! the way back -/
theorem way_kinds : ∀ k ∈ plainK ++ blockK, (decide (wayB k ∈ oldK) = decide (k ∈ newK)) ∧ (decide (wayB k ∈ newK) = decide (k ∈ oldK)) ∧ (decide (wayB k = "take") = decide (k = "lay")) ∧ (decide (wayB k = "lay") = decide (k = "take")) := by decide +kernel
theorem wordsOf_turn {ks ls : List Str} (hk : ∀ k ∈ plainK ++ blockK, decide (wayB k ∈ ks) = decide (k ∈ ls)) : ∀ {rs : List RowD}, (∀ r ∈ rs, RowOk r) → wordsOf ks (rs.map turnR) = wordsOf ls rs
  | [], _ => rfl
  | r :: rs, h => by
    have ih := wordsOf_turn hk fun q hq => h q (List.mem_cons_of_mem _ hq)
    have e := hk _ (h r List.mem_cons_self).kind
    unfold wordsOf at ih ⊢
    rw [List.map_cons, List.filter_cons, List.filter_cons, show decide ((turnR r).kind ∈ ks) = decide (wayB r.kind ∈ ks) from rfl, e]
    cases decide (r.kind ∈ ls) with
    | true => 
      rw [if_pos rfl, if_pos rfl, List.flatMap_cons, List.flatMap_cons, ih]
      rfl
    | false => 
      rw [if_neg Bool.false_ne_true, if_neg Bool.false_ne_true]
      exact ih
theorem blk_turn {k l : Str} (hk : ∀ j ∈ plainK ++ blockK, decide (wayB j = k) = decide (j = l)) {rs : List RowD} (h : ∀ r ∈ rs, RowOk r) : (blk k (rs.map turnR)).map prR = (blk l rs).map prR := by
  induction rs with
  | nil => rfl
  | cons r rs ih =>
    have ih := ih fun q hq => h q (List.mem_cons_of_mem _ hq)
    have e := hk _ (h r List.mem_cons_self).kind
    unfold blk at ih ⊢
    rw [List.map_cons, List.filter_cons, List.filter_cons, show decide ((turnR r).kind = k) = decide (wayB r.kind = k) from rfl, e]
    cases decide (r.kind = l) with
    | true =>
      rw [if_pos rfl, if_pos rfl, List.map_cons, List.map_cons, ih]
      rfl
    | false =>
      rw [if_neg Bool.false_ne_true, if_neg Bool.false_ne_true]
      exact ih
theorem Fit.turn {rs : List RowD} (h : Fit rs) : Fit (rs.map turnR) ∧ wordsOf oldK (rs.map turnR) = wordsOf newK rs ∧ wordsOf newK (rs.map turnR) = wordsOf oldK rs := by
  have e1 := wordsOf_turn (ks := oldK) (ls := newK) (fun k hk => (way_kinds k hk).1) h.ok
  have e2 := wordsOf_turn (ks := newK) (ls := oldK) (fun k hk => (way_kinds k hk).2.1) h.ok
  have e3 := blk_turn (k := "take") (l := "lay") (fun k hk => (way_kinds k hk).2.2.1) h.ok
  have e4 := blk_turn (k := "lay") (l := "take") (fun k hk => (way_kinds k hk).2.2.2) h.ok
  refine ⟨⟨fun r hr => ?_, by rw [e1]; exact h.new, by rw [e2]; exact h.old, by rw [List.length_map]; exact h.len, ?_, by rw [e3, e4]; exact h.perm.symm⟩, e1, e2⟩
  · obtain ⟨r2, h1, rfl⟩ := List.mem_map.mp hr
    exact turnR_ok (h.ok _ h1)
  · have e5 := congrArg (List.map Prod.fst) e3
    rw [List.map_map, List.map_map] at e5
    have e5 : (blk "take" (rs.map turnR)).map (·.num) = (blk "lay" rs).map (·.num) := e5
    rw [e5]
    exact h.nd2
section
variable {P : Program} {w : World} {K : PySem.W.Frag} {mg : Str → Option Value} {base : Heap}
theorem scWordsOf : FnScope ["rows", "kinds", "words", "kind", "_", "row_words"] ["rows", "kinds"] (defScope sWordsOf) := ⟨rfl, rfl, rfl, by decide +kernel, rfl, by decide +kernel, by decide +kernel⟩
theorem scBlocksOf : FnScope ["rows", "block_kind", "blocks", "kind", "number", "words"] ["rows", "block_kind"] (defScope sBlocksOf) := ⟨rfl, rfl, rfl, by decide +kernel, rfl, by decide +kernel, by decide +kernel⟩
theorem scCheckFit : FnScope ["rows", "old"] ["rows", "old"] (defScope sCheckFit) := ⟨rfl, rfl, rfl, by decide +kernel, rfl, by decide +kernel, by decide +kernel⟩
theorem scDone : FnScope ["rows", "old", "new"] ["rows", "old"] (defScope sDone) := ⟨rfl, rfl, rfl, by decide +kernel, rfl, by decide +kernel, by decide +kernel⟩
def spWordsOf (K : PySem.W.Frag) : Sp := fun vs H Q _ => ∃ (p q : Addr) (xs : List V) (rs : List RowD) (ks : List Str), vs = [.ref p, .ref q] ∧ SqL K H p xs ∧ RowsAt K H xs rs ∧ SqT K H q (ks.map V.str) ∧ (wordsOf ks rs).length ≤ 10000 ∧
  ∀ (H' : Hp) (D : Addr), Same H H' → H D = none → H' D = some (.lst ((wordsOf ks rs).map V.str)) → Q (.ref D) H'
theorem ok_words_of {f : Addr} {fd : FuncData} (F : FnP K "words_of" sWordsOf f fd) : FnOk P w K mg base (L2.CX P w) 1 f fd ["rows", "kinds"] (spWordsOf K) := by
  refine F.ok scWordsOf (fun vs H Q E h => ?_) (fun cdv A outer s H vs Q E hr h => ?_)
  · obtain ⟨p, q, xs, rs, ks, rfl, _⟩ := h
    rfl
  · obtain ⟨p, q, xs, rs, ks, rfl, hS, hR, hq, hl, k⟩ := h
    refine ⟨_, pss_cons (ps_set (i := 2) scWordsOf.nd rfl (.inl rfl) (pe_lst pa_nil))
      (pss_cons (ps_for (passes_of rfl) rfl (pi_list (pv 0)) (pg_tup rfl (pgs_cons (pg_name (i := 3) scWordsOf.nd rfl (.inl rfl)) (pgs_cons (pg_name (i := 4) scWordsOf.nd rfl (.inl rfl)) (pgs_cons (pg_name (i := 5) scWordsOf.nd rfl (.inl rfl)) pgs_nil))))
        (pss_one (ps_if (pt_cmpR op_in_seq (pv 3) (pv 1) (by rfl)) (pss_one (ps_expr (pe_bm PySem.F.plainAttrs_list PySem.F.slot_list_extend PySem.F.type_list_extend Dm.mt_extendT (pv 2) (pa_cons (pv 5) pa_nil)))) pss_nil)))
      (pss_one (ps_ret (pv 2)))), ?_⟩
    refine ⟨by show 0 ≤ sizeLine; decide, fun D nD => ?_⟩
    refine ⟨_, rfl, p, rfl, ⟨_, (same_upd nD).seq hS⟩, for_list (xs := xs) (fun i σ' H' => Same H H' ∧ ∃ y3 y4 y5, σ' = [some (.ref p), some (.ref q), some (.ref D), y3, y4, y5] ∧ H' D = some (.lst ((wordsOf ks (rs.take i)).map V.str))) ⟨same_upd nD, none, none, none, rfl, upd_same⟩ (fun i σ' H' _ hp => hp.1.seq hS) (fun i x σ' H' hx hp => ?_) (fun σ' H' hp => ?_)⟩
    · obtain ⟨sm, y3, y4, y5, rfl, hD⟩ := hp
      obtain ⟨r, hr1, hr2⟩ := hR.2 i x hx
      obtain ⟨T, W, rfl, hT, hW⟩ := hr2.same sm
      have e1 := take_snoc hr1
      have hle := wordsOf_take_le ks rs (i + 1)
      rw [e1, wordsOf_snoc] at hle
      refine ⟨T, _, rfl, hT, rfl, _, _, rfl, _, _, rfl, _, _, rfl, rfl, ?_⟩
      refine ⟨_, rfl, _, rfl, q, _, rfl, .inr (sameT sm hq), rfl, flat_strs _, _, rfl, ?_⟩
      show if inV (.str r.kind) (ks.map V.str) = true then _ else _
      rw [inV_strs]
      by_cases h : r.kind ∈ ks
      · rw [if_pos h, List.length_append] at hle
        rw [decide_eq_true h]
        refine iteT ⟨_, rfl, .inl ⟨rfl, _, .inl (.inl hD)⟩, _, rfl, D, W, _, _, rfl, rfl, hD, hW, ?_, fun b o e => ?_, some (.str r.kind), some (.int r.num), some (.ref W), rfl, ?_⟩
        · rw [List.length_map, List.length_map]
          exact Nat.le_trans (show _ ≤ 10000 by omega) (by decide)
        · rw [upd_ne (ne_of_none e nD)]
          exact sm b o e
        · rw [upd_same, e1, wordsOf_snoc, if_pos h, List.map_append]
      · rw [decide_eq_false h]
        refine iteF ⟨sm, some (.str r.kind), some (.int r.num), some (.ref W), rfl, ?_⟩
        rw [e1, wordsOf_snoc, if_neg h]
        exact hD
    · obtain ⟨sm, y3, y4, y5, rfl, hD⟩ := hp
      rw [List.take_of_length_le (by rw [hR.1]; exact Nat.le_refl _)] at hD
      exact ⟨_, rfl, k H' D sm nD hD⟩
end
/-! ### blocks_of, check_fit, done -/
section
variable {P : Program} {w : World} {K : PySem.W.Frag} {mg : Str → Option Value} {base : Heap}
def BlkV (K : PySem.W.Frag) (H : Hp) (kvs : List (Key × V)) (rs : List RowD) : Prop := Paired (fun p r => p.1 = Sum.inl r.num ∧ ∃ W, p.2 = V.ref W ∧ SqT K H W (r.ws.map V.str)) kvs rs
theorem BlkV.snoc {K : PySem.W.Frag} {H : Hp} {kvs : List (Key × V)} {rs : List RowD} (h : BlkV K H kvs rs) {r : RowD} {W : Addr} (hW : SqT K H W (r.ws.map V.str)) : BlkV K H (kvs ++ [(.inl r.num, .ref W)]) (rs ++ [r]) := by
  unfold BlkV at h ⊢
  induction h with
  | nil => exact .cons ⟨rfl, W, rfl, hW⟩ .nil
  | cons h t ih => exact .cons h ih
theorem BlkV.keys {K : PySem.W.Frag} {H : Hp} {kvs : List (Key × V)} {rs : List RowD} (h : BlkV K H kvs rs) {n : Int} (hn : n ∉ rs.map (·.num)) : ∀ p ∈ kvs, p.1 ≠ Sum.inl n := by
  unfold BlkV at h
  induction h with
  | nil => exact fun p hp => by cases hp
  | cons h t ih =>
    intro p hp
    rw [List.map_cons, List.mem_cons, not_or] at hn
    rcases List.mem_cons.mp hp with e | hp
    · subst e
      rw [h.1]
      exact fun z => hn.1 (Sum.inl.inj z).symm
    · exact ih hn.2 p hp
theorem BlkV.dp {K : PySem.W.Frag} {H H' : Hp} (s : Same H H') {kvs : List (Key × V)} {rs : List RowD} (h : BlkV K H kvs rs) (hok : ∀ r ∈ rs, RowOk r) : Dm.DpK K H' kvs (rs.map fun r => (.inl r.num, .tuple (r.ws.map PyData.str))) := by
  unfold BlkV at h
  unfold Dm.DpK
  induction h with
  | nil => exact .nil
  | cons h t ih =>
    obtain ⟨h1, W, h2, h3⟩ := h
    refine .cons ⟨h1, ?_, shaped_tup (hok _ List.mem_cons_self).words⟩ (ih fun r hr => hok r (List.mem_cons_of_mem _ hr))
    rw [h2]
    exact .tup (sameT s h3) (dpStrs H' K _)
theorem val_none {kvs : List (Key × V)} {k : Key} (h : ∀ p ∈ kvs, p.1 ≠ k) : valV kvs k = none := by
  unfold valV
  rw [List.find?_eq_none.mpr fun p hp => by simpa using h p hp]
  rfl
theorem put_new {kvs : List (Key × V)} {k : Key} {v : V} (h : ∀ p ∈ kvs, p.1 ≠ k) : putK kvs k v = kvs ++ [(k, v)] := by
  unfold putK
  rw [if_neg fun z => by
    obtain ⟨p, h1, h2⟩ := List.any_eq_true.mp z
    exact h p h1 (of_decide_eq_true h2)]
theorem blk_snoc (k : Str) (rs : List RowD) (r : RowD) : blk k (rs ++ [r]) = if r.kind = k then blk k rs ++ [r] else blk k rs := by
  unfold blk
  rw [List.filter_append]
  by_cases h : r.kind = k
  · rw [if_pos h, List.filter_cons_of_pos (p := fun r : RowD => decide (r.kind = k)) (decide_eq_true h)]
    rfl
  · rw [if_neg h, List.filter_cons_of_neg (by simpa using h)]
    exact List.append_nil _
theorem blk_fresh {k : Str} {rs : List RowD} {i : Nat} {r : RowD} (h : rs[i]? = some r) (hk : r.kind = k) (nd : ((blk k rs).map (·.num)).Nodup) : r.num ∉ (blk k (rs.take i)).map (·.num) := by
  have e : blk k rs = blk k (rs.take (i + 1)) ++ blk k (rs.drop (i + 1)) := by
    unfold blk
    rw [← List.filter_append, List.take_append_drop]
  rw [take_snoc h, blk_snoc, if_pos hk] at e
  rw [e, List.map_append, List.map_append] at nd
  have nd1 := (List.nodup_append.mp (List.nodup_append.mp nd).1).2.2
  exact fun z => nd1 _ z r.num List.mem_cons_self rfl
def spBlocksOf (K : PySem.W.Frag) : Sp := fun vs H Q _ => ∃ (p : Addr) (k : Str) (xs : List V) (rs : List RowD), vs = [.ref p, .str k] ∧ SqL K H p xs ∧ RowsAt K H xs rs ∧ (∀ r ∈ rs, RowOk r) ∧ rs.length ≤ 1000 ∧ ((blk k rs).map (·.num)).Nodup ∧
  ∀ (H' : Hp) (D : Addr) kvs, Same H H' → H D = none → H' D = some (.dK kvs) → (∀ H'', Same H H'' → Dm.DpK K H'' kvs (blkData k rs)) → Q (.ref D) H'
theorem ok_blocks_of {f : Addr} {fd : FuncData} (F : FnP K "blocks_of" sBlocksOf f fd) : FnOk P w K mg base (L2.CX P w) 1 f fd ["rows", "block_kind"] (spBlocksOf K) := by
  refine F.ok scBlocksOf (fun vs H Q E h => ?_) (fun cdv A outer s H vs Q E hr h => ?_)
  · obtain ⟨p, k, xs, rs, rfl, _⟩ := h
    rfl
  · obtain ⟨p, k, xs, rs, rfl, hS, hR, hok, hl, nd, q⟩ := h
    refine ⟨_, pss_cons (ps_set (i := 2) scBlocksOf.nd rfl (.inl rfl) pe_dnewK)
      (pss_cons (ps_for (passes_of rfl) rfl (pi_list (pv 0)) (pg_tup rfl (pgs_cons (pg_name (i := 3) scBlocksOf.nd rfl (.inl rfl)) (pgs_cons (pg_name (i := 4) scBlocksOf.nd rfl (.inl rfl)) (pgs_cons (pg_name (i := 5) scBlocksOf.nd rfl (.inl rfl)) pgs_nil))))
        (pss_one (ps_if (pt_cmpR op_eq (pv 3) (pv 1) (nomark _))
          (pss_cons (ps_if (pt_cmp (pc_din (hu_of hr) (pv 4) (pv 2))) pss_never pss_nil)
            (pss_one (ps_dput (hu_of hr) (pv 2) (pv 4) (pv 5) rfl))) pss_nil)))
      (pss_one (ps_ret (pv 2)))), ?_⟩
    refine fun D nD => ?_
    refine ⟨_, rfl, p, rfl, ⟨_, (same_upd nD).seq hS⟩, for_list (xs := xs) (fun i σ' H' => Same H H' ∧ ∃ kvs y3 y4 y5, σ' = [some (.ref p), some (.str k), some (.ref D), y3, y4, y5] ∧ H' D = some (.dK kvs) ∧ kvs.length ≤ i ∧ BlkV K H kvs (blk k (rs.take i))) ⟨same_upd nD, [], none, none, none, rfl, upd_same, Nat.le_refl _, .nil⟩ (fun i σ' H' _ hp => hp.1.seq hS) (fun i x σ' H' hx hp => ?_) (fun σ' H' hp => ?_)⟩
    · obtain ⟨sm, kvs, y3, y4, y5, rfl, hD, hkl, hb⟩ := hp
      have hi : i < rs.length := by
        rw [← hR.1]
        exact (List.getElem?_eq_some_iff.mp hx).1
      obtain ⟨r, hr1, hr2⟩ := hR.2 i x hx
      obtain ⟨T, W, rfl, hT, hW⟩ := hr2
      refine ⟨T, _, rfl, sameT sm hT, rfl, _, _, rfl, _, _, rfl, _, _, rfl, rfl, ?_⟩
      refine ⟨_, rfl, _, rfl, rfl, _, rfl, ite2 (fun e => ?_) (fun e => ?_)⟩
      · have hk : r.kind = k := V.str.inj (of_decide_eq_true e)
        have fr := hb.keys (blk_fresh hr1 hk nd)
        refine ⟨_, rfl, _, rfl, D, _, rfl, DGet.k (k := Sum.inl r.num) hD, _, rfl, ?_⟩
        rw [val_none fr]
        refine iteF ⟨_, rfl, _, rfl, _, rfl, D, _, rfl, DPut.k (k := Sum.inl r.num) hD (Nat.lt_of_le_of_lt hkl (Nat.lt_of_lt_of_le (show i < 1001 by omega) (by decide))), fun b o e => ?_, kvs ++ [(.inl r.num, .ref W)], some (.str r.kind), some (.int r.num), some (.ref W), rfl, ?_, ?_, ?_⟩
        · rw [upd_ne (ne_of_none e nD)]
          exact sm b o e
        · rw [upd_same, put_new fr]
        · rw [List.length_append]
          exact Nat.succ_le_succ hkl
        · rw [take_snoc hr1, blk_snoc, if_pos hk]
          exact hb.snoc hW
      · have hk : r.kind ≠ k := fun z => e (decide_eq_true (congrArg V.str z))
        refine ⟨sm, kvs, some (.str r.kind), some (.int r.num), some (.ref W), rfl, hD, by omega, ?_⟩
        rw [take_snoc hr1, blk_snoc, if_neg hk]
        exact hb
    · obtain ⟨sm, kvs, y3, y4, y5, rfl, hD, hkl, hb⟩ := hp
      rw [List.take_of_length_le (by rw [hR.1]; exact Nat.le_refl _)] at hb
      exact ⟨_, rfl, q H' D kvs sm nD hD fun H2 s2 => hb.dp s2 fun r hr => hok r (List.mem_filter.mp hr).1⟩
def spCheckFit (K : PySem.W.Frag) : Sp := fun vs H Q _ => ∃ (p q : Addr) (xs : List V) (rs : List RowD), vs = [.ref p, .ref q] ∧ SqL K H p xs ∧ RowsAt K H xs rs ∧ Fit rs ∧ SqL K H q ((wordsOf oldK rs).map V.str) ∧ ∀ H', Same H H' → Q .non H'
theorem ok_check_fit {aO f fW fB : Addr} {fd fdW fdB : FuncData} (F : FnP K "check_fit" sCheckFit f fd)
    (GW : FnOk P w K mg base (L2.CX P w) 1 fW fdW ["rows", "kinds"] (spWordsOf K)) (kW : PySem.W.keepIn K (.ref fW) = true) (bW : Binds K fdW ["rows", "kinds"] []) (gW : mg "words_of" = some (.ref fW))
    (GB : FnOk P w K mg base (L2.CX P w) 1 fB fdB ["rows", "block_kind"] (spBlocksOf K)) (kB : PySem.W.keepIn K (.ref fB) = true) (bB : Binds K fdB ["rows", "block_kind"] []) (gB : mg "blocks_of" = some (.ref fB))
    (mO : mg "OLD_KINDS" = some (.ref aO)) (kO : KTup K aO oldK) : FnOk P w K mg base (L2.CX P w) 2 f fd ["rows", "old"] (spCheckFit K) := by
  refine F.ok scCheckFit (fun vs H Q E h => ?_) (fun cdv A outer s H vs Q E hr h => ?_)
  · obtain ⟨p, q, xs, rs, rfl, _⟩ := h
    rfl
  · obtain ⟨p, q, xs, rs, rfl, hS, hR, ft, hq, k⟩ := h
    have hu : (A.deeper (envOfC "check_fit" (defScope sCheckFit) s.heap.objs.size f cdv)).units + 65 < cLine := by
      have := hr.un
      omega
    refine ⟨_, pss_cons (ps_if (pt_cmpR (op_neD hr.units) (pe_call GW hr (by rfl) gW kW bW .nil passL (pa_cons (pv 0) (pa_cons (pe_glob (v := .ref aO) (by rfl) mO rfl) pa_nil))) (pv 1) (nomark _)) pss_never pss_nil)
      (pss_one (ps_if (pt_cmpR (Dm.op_neDK hu) (pe_call GB hr (by rfl) gB kB bB .nil passL (pa_cons (pv 0) (pa_cons pe_str pa_nil))) (pe_call GB hr (by rfl) gB kB bB .nil passL (pa_cons (pv 0) (pa_cons pe_str pa_nil))) (by rfl)) pss_never pss_nil)), ?_⟩
    refine ⟨_, rfl, p, aO, xs, rs, oldK, rfl, hS, hR, kO H, Nat.le_trans ft.old (by decide), fun H1 D s1 nD hD => ⟨_, rfl, ?_⟩⟩
    have sh := shaped_words (ws := wordsOf oldK rs) fun a ha => strOk_word (wordsOf_ok ft.ok a ha)
    refine ⟨_, _, .lst (.inl (.inl hD)) (dpStrs H1 K _), .lst (s1.seq hq) (dpStrs H1 K _), sh, sh, _, rfl, ?_⟩
    rw [SeqAt.eqv_refl _ (SeqAt.canLay_of_shaped sh)]
    refine iteF ⟨_, rfl, p, "take", xs, rs, rfl, s1.seq hS, hR.same s1, ft.ok, Nat.le_trans ft.len (by decide), ft.nd, fun H2 D2 k2 s2 nD2 hD2 dp2 => ?_⟩
    refine ⟨_, rfl, p, "lay", xs, rs, rfl, (s1.trans s2).seq hS, hR.same (s1.trans s2), ft.ok, Nat.le_trans ft.len (by decide), ft.nd2, fun H3 D3 k3 s3 nD3 hD3 dp3 => ?_⟩
    refine ⟨D2, D3, k2, k3, _, _, rfl, rfl, s3 _ _ hD2, hD3, dp2 H3 (s2.trans s3), dp3 H3 s3, _, rfl, ?_⟩
    rw [ft.same]
    exact iteF (k H3 ((s1.trans s2).trans s3))
def spDone (K : PySem.W.Frag) (Ps : List Addr) : Sp := fun vs H Q _ => ∃ (p q : Addr) (xs : List V) (rs : List RowD), vs = [.ref p, .ref q] ∧ SqL K H p xs ∧ RowsAt K H xs rs ∧ Fit rs ∧ SqL K H q ((wordsOf oldK rs).map V.str) ∧ Tb Ps H ∧
  ∀ (H' : Hp) (D : Addr), Kp Ps H H' → H D = none → H' D = some (.lst ((wordsOf newK rs).map V.str)) → Q (.ref D) H'
theorem ok_done {Ps : List Addr} {aN f fR fT fF fW fL : Addr} {fd fdR fdT fdF fdW fdL : FuncData} (F : FnP K "done" sDone f fd)
    (GR : FnOk P w K mg base (L2.CX P w) 7 fR fdR ["rows"] (spCheckRows K Ps)) (kR : PySem.W.keepIn K (.ref fR) = true) (bR : Binds K fdR ["rows"] []) (gR : mg "check_rows" = some (.ref fR))
    (GT : FnOk P w K mg base (L2.CX P w) 5 fT fdT ["words"] (spCheckText K Ps)) (kT : PySem.W.keepIn K (.ref fT) = true) (bT : Binds K fdT ["words"] []) (gT : mg "check_text" = some (.ref fT))
    (GF : FnOk P w K mg base (L2.CX P w) 2 fF fdF ["rows", "old"] (spCheckFit K)) (kF : PySem.W.keepIn K (.ref fF) = true) (bF : Binds K fdF ["rows", "old"] []) (gF : mg "check_fit" = some (.ref fF))
    (GW : FnOk P w K mg base (L2.CX P w) 1 fW fdW ["rows", "kinds"] (spWordsOf K)) (kW : PySem.W.keepIn K (.ref fW) = true) (bW : Binds K fdW ["rows", "kinds"] []) (gW : mg "words_of" = some (.ref fW))
    (GL : FnOk P w K mg base (L2.CX P w) 1 fL fdL ["words"] (spCheckLength K)) (kL : PySem.W.keepIn K (.ref fL) = true) (bL : Binds K fdL ["words"] []) (gL : mg "check_length" = some (.ref fL))
    (mN : mg "NEW_KINDS" = some (.ref aN)) (kN : KTup K aN newK) : FnOk P w K mg base (L2.CX P w) 8 f fd ["rows", "old"] (spDone K Ps) := by
  refine F.ok scDone (fun vs H Q E h => ?_) (fun cdv A outer s H vs Q E hr h => ?_)
  · obtain ⟨p, q, xs, rs, rfl, _⟩ := h
    rfl
  · obtain ⟨p, q, xs, rs, rfl, hS, hR, ft, hq, ht, k⟩ := h
    refine ⟨_, pss_cons (ps_expr (pe_call GR hr (by rfl) gR kR bR .nil passL (pa_cons (pv 0) pa_nil)))
      (pss_cons (ps_expr (pe_call GT (hr.mono (by decide)) (by rfl) gT kT bT .nil passL (pa_cons (pv 1) pa_nil)))
      (pss_cons (ps_expr (pe_call GF (hr.mono (by decide)) (by rfl) gF kF bF .nil passL (pa_cons (pv 0) (pa_cons (pv 1) pa_nil))))
      (pss_cons (ps_set (i := 2) scDone.nd rfl (.inl rfl) (pe_call GW (hr.mono (by decide)) (by rfl) gW kW bW .nil passL (pa_cons (pv 0) (pa_cons (pe_glob (v := .ref aN) (by rfl) mN rfl) pa_nil))))
      (pss_cons (ps_expr (pe_call GL (hr.mono (by decide)) (by rfl) gL kL bL .nil passL (pa_cons (pv 2) pa_nil)))
      (pss_one (ps_ret (pv 2))))))), ?_⟩
    refine ⟨_, rfl, p, xs, rs, rfl, hS, hR, ft.ok, ht, fun H1 k1 => ?_⟩
    refine ⟨_, rfl, q, _, rfl, k1.seq ht hq, wordsOf_ok ft.ok, ft.old, k1.1, fun H2 k2 => ?_⟩
    have k12 := k1.trans k2
    refine ⟨_, rfl, _, rfl, p, q, xs, rs, rfl, k12.seq ht hS, hR.kp ht k12, ft, k12.seq ht hq, fun H3 s3 => ?_⟩
    have k3 := k12.trans (Kp.same k12.1 s3)
    refine ⟨_, rfl, p, aN, xs, rs, newK, rfl, k3.seq ht hS, hR.kp ht k3, kN H3, Nat.le_trans ft.new (by decide), fun H4 D s4 nD hD => ?_⟩
    have k4 := k3.trans (Kp.same k3.1 s4)
    exact ⟨_, rfl, D, _, rfl, .inl (.inl hD), by rw [List.length_map]; exact ft.new, _, rfl, k H4 D k4 (k3.free ht nD) hD⟩
end
/-! ### tellings that are built, plainly -/
structure GL (m n : Nat) (l : List RowD) : Prop where
  ok : ∀ r ∈ l, RowOk r
  num : ∀ r ∈ l, r.kind = "take" ∨ r.kind = "lay" → ∃ j : Nat, j < m ∧ (r.num = 1 + 3 * (j : Int) ∨ r.num = 999999999 - (j : Int))
  nd : ((blk "take" l).map (·.num)).Nodup
  perm : ((blk "take" l).map prR).Perm ((blk "lay" l).map prR)
  old : (wordsOf oldK l).length ≤ 3 * n
  new : (wordsOf newK l).length ≤ 3 * n
theorem blk_perm {k : Str} {l l' : List RowD} (p : l.Perm l') : (blk k l).Perm (blk k l') := p.filter _
theorem wordsOf_perm {ks : List Str} {l l' : List RowD} (p : l.Perm l') : (wordsOf ks l).length = (wordsOf ks l').length := by
  have h := (p.filter fun r => decide (r.kind ∈ ks)).flatMap_right (fun r : RowD => r.ws)
  exact h.length_eq
theorem GL.of_perm {m n : Nat} {l l' : List RowD} (h : GL m n l) (p : l.Perm l') : GL m n l' := by
  refine ⟨fun r hr => h.ok r (p.mem_iff.mpr hr), fun r hr => h.num r (p.mem_iff.mpr hr), ?_, ?_, by rw [← wordsOf_perm p]; exact h.old, by rw [← wordsOf_perm p]; exact h.new⟩
  · exact (((blk_perm p).map _).nodup_iff).mp h.nd
  · exact ((blk_perm p).map _).symm.trans (h.perm.trans ((blk_perm p).map _))
theorem GL.mono {m m' n n' : Nat} {l : List RowD} (h : GL m n l) (hm : m ≤ m') (hn : n ≤ n') : GL m' n' l :=
  ⟨h.ok, fun r hr hk => let ⟨j, h1, h2⟩ := h.num r hr hk; ⟨j, by omega, h2⟩, h.nd, h.perm, by have := h.old; omega, by have := h.new; omega⟩
theorem blk_cons (k : Str) (r : RowD) (l : List RowD) : blk k (r :: l) = if r.kind = k then r :: blk k l else blk k l := by
  unfold blk
  by_cases h : r.kind = k
  · rw [if_pos h, List.filter_cons_of_pos (p := fun r : RowD => decide (r.kind = k)) (decide_eq_true h)]
  · rw [if_neg h, List.filter_cons_of_neg (by simpa using h)]
theorem wordsOf_cons (ks : List Str) (r : RowD) (l : List RowD) : wordsOf ks (r :: l) = if r.kind ∈ ks then r.ws ++ wordsOf ks l else wordsOf ks l := by
  unfold wordsOf
  by_cases h : r.kind ∈ ks
  · rw [if_pos h, List.filter_cons_of_pos (p := fun r : RowD => decide (r.kind ∈ ks)) (decide_eq_true h), List.flatMap_cons]
  · rw [if_neg h, List.filter_cons_of_neg (by simpa using h)]
theorem wordsOf_cons_le (ks : List Str) (r : RowD) (l : List RowD) : (wordsOf ks (r :: l)).length ≤ r.ws.length + (wordsOf ks l).length := by
  rw [wordsOf_cons]
  split
  · rw [List.length_append]
    exact Nat.le_refl _
  · omega
theorem GL.plain {m n : Nat} {l : List RowD} (h : GL m n l) {r : RowD} (hk : r.kind ∈ plainK) (ok : RowOk r) (hl : r.ws.length ≤ 3) : GL (m + 1) (n + 1) (r :: l) := by
  have nt : r.kind ≠ "take" ∧ r.kind ≠ "lay" := by
    have key : ∀ k ∈ plainK, k ≠ "take" ∧ k ≠ "lay" := by decide +kernel
    exact key _ hk
  refine ⟨fun q hq => ?_, fun q hq hk => ?_, ?_, ?_, ?_, ?_⟩
  · rcases List.mem_cons.mp hq with e | hq
    · rw [e]
      exact ok
    · exact h.ok q hq
  · rcases List.mem_cons.mp hq with e | hq
    · rw [e] at hk
      exact absurd hk (fun z => z.elim nt.1 nt.2)
    · obtain ⟨j, h1, h2⟩ := h.num q hq hk
      exact ⟨j, by omega, h2⟩
  · rw [blk_cons, if_neg nt.1]
    exact h.nd
  · rw [blk_cons, if_neg nt.1, blk_cons, if_neg nt.2]
    exact h.perm
  · have := wordsOf_cons_le oldK r l
    have := h.old
    omega
  · have := wordsOf_cons_le newK r l
    have := h.new
    omega
theorem GL.block {m n : Nat} {l : List RowD} (h : GL m n l) {num : Int} {ws : List Str} (hm : m ≤ 1000) (hn : num = 1 + 3 * (m : Int) ∨ num = 999999999 - (m : Int)) (ne : ws ≠ []) (hw : ∀ a ∈ ws, wordB a = true) (hl : ws.length ≤ 3) :
    GL (m + 1) (n + 1) (⟨"take", num, ws⟩ :: ⟨"lay", num, ws⟩ :: l) := by
  have b1 : 1 ≤ num ∧ num ≤ 999999999 := by omega
  have o1 : RowOk ⟨"take", num, ws⟩ := ⟨by show ("take" : Str) ∈ plainK ++ blockK; decide +kernel, numB_block (.inl rfl) b1.1 b1.2, ne, hw⟩
  have o2 : RowOk ⟨"lay", num, ws⟩ := ⟨by show ("lay" : Str) ∈ plainK ++ blockK; decide +kernel, numB_block (.inr rfl) b1.1 b1.2, ne, hw⟩
  have tl : ("take" : Str) ≠ "lay" := by decide +kernel
  have i1 : ("take" : Str) ∈ oldK := by decide +kernel
  have i2 : ("lay" : Str) ∉ oldK := by decide +kernel
  have i3 : ("take" : Str) ∉ newK := by decide +kernel
  have i4 : ("lay" : Str) ∈ newK := by decide +kernel
  refine ⟨fun q hq => ?_, fun q hq hk => ?_, ?_, ?_, ?_, ?_⟩
  · rcases List.mem_cons.mp hq with e | hq
    · rw [e]
      exact o1
    · rcases List.mem_cons.mp hq with e | hq
      · rw [e]
        exact o2
      · exact h.ok q hq
  · rcases List.mem_cons.mp hq with e | hq
    · rw [e]
      exact ⟨m, by omega, hn⟩
    · rcases List.mem_cons.mp hq with e | hq
      · rw [e]
        exact ⟨m, by omega, hn⟩
      · obtain ⟨j, h1, h2⟩ := h.num q hq hk
        exact ⟨j, by omega, h2⟩
  · rw [blk_cons, if_pos rfl, blk_cons, if_neg (Ne.symm tl), List.map_cons, List.nodup_cons]
    refine ⟨fun z => ?_, h.nd⟩
    obtain ⟨q, h1, h2⟩ := List.mem_map.mp z
    have h1 := List.mem_filter.mp h1
    obtain ⟨j, h3, h4⟩ := h.num q h1.1 (.inl (of_decide_eq_true h1.2))
    have h2 : q.num = num := h2
    omega
  · rw [blk_cons, if_pos rfl, blk_cons, if_neg (Ne.symm tl), blk_cons, if_neg tl, blk_cons, if_pos rfl, List.map_cons, List.map_cons]
    exact h.perm.cons _
  · rw [wordsOf_cons, if_pos i1, wordsOf_cons, if_neg i2, List.length_append]
    have := h.old
    show ws.length + _ ≤ _
    omega
  · rw [wordsOf_cons, if_neg i3, wordsOf_cons, if_pos i4, List.length_append]
    have := h.new
    show ws.length + _ ≤ _
    omega
structure Good (n : Nat) (rs wt : List RowD) : Prop where
  gl : GL rs.length n (rs ++ wt)
  len : rs.length ≤ n
  len2 : rs.length + wt.length ≤ 2 * n
theorem Good.plain {n : Nat} {rs wt : List RowD} (h : Good n rs wt) {r : RowD} (hk : r.kind ∈ plainK) (ok : RowOk r) (hl : r.ws.length ≤ 3) : Good (n + 1) (rs ++ [r]) wt := by
  refine ⟨?_, by rw [List.length_append]; have := h.len; show rs.length + 1 ≤ n + 1; omega, by rw [List.length_append]; have := h.len2; show rs.length + 1 + _ ≤ _; omega⟩
  rw [List.length_append]
  refine (h.gl.plain hk ok hl).of_perm ?_
  rw [List.append_assoc]
  exact List.perm_middle.symm
theorem erase_perm {r : RowD} : ∀ {wt : List RowD} {i : Nat}, wt[i]? = some r → wt.Perm (r :: wt.eraseIdx i)
  | [], _, h => by cases h
  | x :: xs, 0, h => by
    cases h
    exact List.Perm.refl _
  | x :: xs, i + 1, h => ((erase_perm (wt := xs) (i := i) h).cons x).trans (List.Perm.swap _ _ _)
theorem Good.move {n : Nat} {rs wt : List RowD} (h : Good n rs wt) {i : Nat} {r : RowD} (hi : wt[i]? = some r) : Good (n + 1) (rs ++ [r]) (wt.eraseIdx i) := by
  have hlt := (List.getElem?_eq_some_iff.mp hi).1
  have he : wt[i] = r := (List.getElem?_eq_some_iff.mp hi).2
  have hle : (wt.eraseIdx i).length = wt.length - 1 := List.length_eraseIdx_of_lt hlt
  refine ⟨?_, by rw [List.length_append]; have := h.len; show rs.length + 1 ≤ n + 1; omega, by rw [List.length_append, hle]; have := h.len2; show rs.length + 1 + _ ≤ _; omega⟩
  refine (h.gl.mono (by rw [List.length_append]; omega) (by omega)).of_perm ?_
  rw [List.append_assoc]
  refine List.Perm.append_left rs ?_
  exact erase_perm hi
theorem Good.block {n : Nat} {rs wt : List RowD} (h : Good n rs wt) {num : Int} {ws : List Str} (hm : n ≤ 1000) (hn : num = 1 + 3 * (rs.length : Int) ∨ num = 999999999 - (rs.length : Int)) (ne : ws ≠ []) (hw : ∀ a ∈ ws, wordB a = true) (hl : ws.length ≤ 3)
    {a b : Str} (hab : (a = "take" ∧ b = "lay") ∨ (a = "lay" ∧ b = "take")) : Good (n + 1) (rs ++ [⟨a, num, ws⟩]) (wt ++ [⟨b, num, ws⟩]) := by
  have hlen := h.len
  refine ⟨?_, by rw [List.length_append]; show rs.length + 1 ≤ n + 1; omega, by rw [List.length_append, List.length_append]; have := h.len2; show rs.length + 1 + (wt.length + 1) ≤ _; omega⟩
  rw [List.length_append]
  refine (h.gl.block (by omega) hn ne hw hl).of_perm ?_
  have key : ∀ x y : RowD, (x :: y :: (rs ++ wt)).Perm ((rs ++ [x]) ++ (wt ++ [y])) := fun x y => by
    have p1 : (y :: (rs ++ wt)).Perm (rs ++ (wt ++ [y])) := by
      rw [← List.append_assoc]
      exact List.perm_append_singleton y (rs ++ wt) |>.symm
    refine (p1.cons x).trans ?_
    rw [List.append_assoc]
    exact List.perm_middle.symm
  rcases hab with ⟨rfl, rfl⟩ | ⟨rfl, rfl⟩
  · exact key _ _
  · exact (List.Perm.swap _ _ _).trans (key _ _)
theorem Good.fit {n : Nat} {rs wt : List RowD} (h : Good n rs wt) (hn : n ≤ 40) : Fit (rs ++ wt) :=
  ⟨h.gl.ok, by have := h.gl.old; omega, by have := h.gl.new; omega, by rw [List.length_append]; have := h.len2; omega, h.gl.nd, h.gl.perm⟩
theorem Good.nil : Good 0 [] [] := ⟨⟨(fun r h => by cases h), (fun r h => by cases h), List.nodup_nil, List.Perm.refl _, Nat.le_refl _, Nat.le_refl _⟩, Nat.le_refl _, Nat.le_refl _⟩
/-! ### the law's built tellings -/
def kinds7 : List Str := ["keep", "keep", "cut", "put", "keep", "keep", "keep"]
theorem kinds7_at : ∀ i, i < 7 → ∃ k, kinds7[i]? = some k ∧ k ∈ plainK := by
  have key : ∀ i, i < 7 → (match kinds7[i]? with | some g => decide (g ∈ plainK) | none => false) = true := by decide +kernel
  intro i hi
  have h := key i hi
  cases e : kinds7[i]? with
  | none =>
    rw [e] at h
    cases h
  | some g =>
    rw [e] at h
    exact ⟨g, rfl, of_decide_eq_true h⟩
theorem plain_not {k : Str} (h : k ∈ plainK) : k ≠ "take" ∧ k ≠ "lay" := by
  have key : ∀ k ∈ plainK, k ≠ "take" ∧ k ≠ "lay" := by decide +kernel
  exact key _ h
theorem rowOk_plain {k : Str} {ws : List Str} (h : k ∈ plainK) (ne : ws ≠ []) (hw : ∀ a ∈ ws, wordB a = true) : RowOk ⟨k, 0, ws⟩ :=
  ⟨List.mem_append_left _ h, numB_plain (plain_not h).1 (plain_not h).2, ne, hw⟩
/-- all kept but what stands at two places -/
def Kt (R W : Addr) (H H' : Hp) : Prop := ∀ b o, b ≠ R → b ≠ W → H b = some o → H' b = some o
theorem Kt.same {R W : Addr} {H H' : Hp} (s : Same H H') : Kt R W H H' := fun b o _ _ e => s b o e
theorem Kt.trans {R W : Addr} {H H1 H2 : Hp} (a : Kt R W H H1) (b : Kt R W H1 H2) : Kt R W H H2 := fun c o h1 h2 e => b c o h1 h2 (a c o h1 h2 e)
theorem Kt.setR {R W : Addr} {H : Hp} {o : HO} : Kt R W H (upd H R o) := fun b x h1 _ e => by
  rw [upd_ne h1]
  exact e
theorem Kt.setW {R W : Addr} {H : Hp} {o : HO} : Kt R W H (upd H W o) := fun b x _ h2 e => by
  rw [upd_ne h2]
  exact e
theorem at_erase {xs : List V} {rs : List RowD} {K : PySem.W.Frag} {H : Hp} : RowsAt K H xs rs → ∀ i : Nat, RowsAt K H (xs.eraseIdx i) (rs.eraseIdx i) := by
  intro h i
  refine ⟨?_, fun j v e => ?_⟩
  · rw [List.length_eraseIdx, List.length_eraseIdx, h.1]
  · rw [List.getElem?_eraseIdx] at e ⊢
    split at e
    · rename_i hj
      obtain ⟨r, h1, h2⟩ := h.2 j v e
      exact ⟨r, by rw [if_pos hj]; exact h1, h2⟩
    · rename_i hj
      obtain ⟨r, h1, h2⟩ := h.2 (j + 1) v e
      exact ⟨r, by rw [if_neg hj]; exact h1, h2⟩
theorem seq_ix {i n : Nat} (h : i < n) : seqIndex? (i : Int) n = some i := by
  show (if (decide (0 ≤ (if (i : Int) < 0 then (i : Int) + n else i)) && decide ((if (i : Int) < 0 then (i : Int) + (n : Int) else i) < (n : Int))) = true then some (if (i : Int) < 0 then (i : Int) + n else i).toNat else none) = some i
  rw [if_neg (show ¬ (i : Int) < 0 by omega), decide_eq_true (show (0 : Int) ≤ (i : Int) by omega), decide_eq_true (show (i : Int) < (n : Int) by omega)]
  rfl
section
variable {P : Program} {w : World} {K : PySem.W.Frag} {mg : Str → Option Value} {base : Heap}
theorem scBuiltRow : FnScope ["_law_menu_here", "_law_cell", "_law_rows", "_law_waiting", "_law_kind", "_law_words", "_law_number", "_law_names", "_law_k"] ["_law_menu_here", "_law_cell", "_law_rows", "_law_waiting"] (defScope sBuiltRow) := ⟨rfl, rfl, rfl, by decide +kernel, rfl, by decide +kernel, by decide +kernel⟩
theorem scBuilt : FnScope ["_law_script", "_law_many", "_law_menu_here", "_law_rows", "_law_waiting", "_law_cell"] ["_law_script", "_law_many"] (defScope sBuilt) := ⟨rfl, rfl, rfl, by decide +kernel, rfl, by decide +kernel, by decide +kernel⟩
def spBuiltRow (K : PySem.W.Frag) : Sp := fun vs H Q _ => ∃ (a R Z : Addr) (c : Int) (ms : List Str) (n : Nat) (xs zs : List V) (rs wt : List RowD), vs = [.ref a, .int c, .ref R, .ref Z] ∧ SqL K H a (ms.map V.str) ∧ ms.length = 12 ∧ (∀ x ∈ ms, wordB x = true) ∧
  H R = some (.lst xs) ∧ H Z = some (.lst zs) ∧ R ≠ Z ∧ RowsAt K H xs rs ∧ RowsAt K H zs wt ∧ Good n rs wt ∧ n ≤ 500 ∧
  ∀ (H' : Hp) (xs zs : List V) (rs wt : List RowD), Kt R Z H H' → H' R = some (.lst xs) → H' Z = some (.lst zs) → RowsAt K H' xs rs → RowsAt K H' zs wt → Good (n + 1) rs wt → Q .non H'
theorem ok_built_row {f : Addr} {fd : FuncData} (F : FnP K "_law_built_row" sBuiltRow f fd) (mU : mg "tuple" = none) (mR : mg "range" = none) (mL : mg "len" = none) : FnOk P w K mg base (L2.CX P w) 1 f fd ["_law_menu_here", "_law_cell", "_law_rows", "_law_waiting"] (spBuiltRow K) := by
  refine F.ok scBuiltRow (fun vs H Q E h => ?_) (fun cdv A outer s H vs Q E hr h => ?_)
  · obtain ⟨a, R, Z, c, ms, n, xs, zs, rs, wt, rfl, _⟩ := h
    rfl
  · obtain ⟨a, R, Z, c, ms, n, xs, zs, rs, wt, rfl, hS, hml, hmw, hR, hZ, hne, hX, hY, hg, hn, q⟩ := h
    refine ⟨_, pss_cons (ps_set (i := 4) scBuiltRow.nd rfl (.inl rfl) (pe_op op_mod (pv 1) pe_int))
      (pss_cons (ps_set (i := 5) scBuiltRow.nd rfl (.inl rfl) (pe_callTy call_tuple_of (by rfl) mU (by decide +kernel) (pa_cons (pe_lc (own := [("_law_k", 8)]) (g := gName 8) (tt := tYes) rfl scBuiltRow.nd (pi_range1 (by rfl) mR (pa_cons (pe_op op_add pe_int (pe_op op_mod (pe_op op_mod (pe_op op_mul (pv 1) pe_int) pe_int) pe_int)) pa_nil))
          (blkOk_by (N := ["_law_menu_here", "_law_cell", "_law_rows", "_law_waiting", "_law_kind", "_law_words", "_law_number", "_law_names", "_law_k"]) (sc := defScope sBuiltRow) (by decide +kernel))
          (fun _ _ _ _ _ => pg_name (i := 8) scBuiltRow.nd rfl (Or.inl rfl)) (fun _ _ _ _ _ => pts_nil)
          (fun _ _ _ _ _ => pe_ix (r := rIxL K) ix_list (pv 0) (pe_op op_mod (pe_op op_add (pe_op op_fdiv (pv 1) pe_int) (pv 8)) pe_int) (fun _ _ => rfl))) pa_nil)))
      (pss_one (ps_if (PW.pt (pw_or (pt_cmpR op_lt (pv 4) pe_int (nomark _)) (pw_or1 (PW.pt (pw_and (pt_cmpR op_eq (pv 4) pe_int (nomark _)) (pw_and1 (pt_cmpR (op_eqD hr.units) (pv 3) (pe_lst pa_nil) (nomark _))))))))
        (pss_one (ps_expr (pe_bm PySem.F.plainAttrs_list PySem.F.slot_list_append PySem.F.type_list_append mt_append (pv 2) (pa_cons (pe_tup (pa_cons (pe_ix ix_list (pe_lst (pa_cons pe_str (pa_cons pe_str (pa_cons pe_str (pa_cons pe_str (pa_cons pe_str (pa_cons pe_str (pa_cons pe_str pa_nil)))))))) (pv 4) (fun _ _ => rfl)) (pa_cons pe_int (pa_cons (pv 5) pa_nil)))) pa_nil))))
        (pss_one (ps_if (pt_cmpR op_eq (pv 4) pe_int (nomark _))
          (pss_one (ps_expr (pe_bm PySem.F.plainAttrs_list PySem.F.slot_list_append PySem.F.type_list_append mt_append (pv 2) (pa_cons (pe_bm PySem.F.plainAttrs_list PySem.F.slot_list_pop PySem.F.type_list_pop mt_popAt (pv 3) (pa_cons (pe_op op_mod (pe_op op_fdiv (pv 1) pe_int) (pe_callB call_len_seq (by rfl) mL PySem.boot_len (pa_cons (pv 3) pa_nil))) pa_nil)) pa_nil))))
          (pss_cons (ps_set (i := 6) scBuiltRow.nd rfl (.inl rfl) (pe_op op_add pe_int (pe_op op_mul pe_int (pe_callB call_len_seq (by rfl) mL PySem.boot_len (pa_cons (pv 2) pa_nil)))))
          (pss_cut (ps_if (pt_cmpR op_eq (pe_op op_mod (pe_op op_mod (pe_op op_mul (pv 1) pe_int) pe_int) pe_int) pe_int (nomark _)) (pss_one (ps_set (i := 6) scBuiltRow.nd rfl (.inl rfl) (pe_op op_sub pe_int (pe_callB call_len_seq (by rfl) mL PySem.boot_len (pa_cons (pv 2) pa_nil))))) pss_nil)
          (pss_cut (ps_set (i := 7) scBuiltRow.nd rfl (.inl rfl) (pe_ix ix_list (pe_lst (pa_cons (pe_lst (pa_cons pe_str (pa_cons pe_str pa_nil))) (pa_cons (pe_lst (pa_cons pe_str (pa_cons pe_str pa_nil))) pa_nil))) (pe_op op_sub (pv 4) pe_int) (fun _ _ => rfl)))
          (pss_cons (ps_expr (pe_bm PySem.F.plainAttrs_list PySem.F.slot_list_append PySem.F.type_list_append mt_append (pv 2) (pa_cons (pe_tup (pa_cons (pe_ix ix_list (pv 7) pe_int (fun _ _ => rfl)) (pa_cons (pv 6) (pa_cons (pv 5) pa_nil)))) pa_nil)))
          (pss_one (ps_expr (pe_bm PySem.F.plainAttrs_list PySem.F.slot_list_append PySem.F.type_list_append mt_append (pv 3) (pa_cons (pe_tup (pa_cons (pe_ix ix_list (pv 7) pe_int (fun _ _ => rfl)) (pa_cons (pv 6) (pa_cons (pv 5) pa_nil)))) pa_nil))))))))))))), ?_⟩
    have hc0 : 0 ≤ c % 7 := Int.emod_nonneg _ (by decide)
    have hc1 : c % 7 < 7 := Int.emod_lt_of_pos _ (by decide)
    have hd0 : 0 ≤ c * 48271 % 1009 := Int.emod_nonneg _ (by decide)
    refine ⟨_, rfl, _, _, rfl, rfl, (by show (0 : Int) < 7; decide), ?_⟩
    refine ⟨_, rfl, _, _, rfl, rfl, .inr (by decide), _, _, rfl, rfl, (by show (0 : Int) < 1009; decide), _, _, rfl, rfl, (by show (0 : Int) < 3; decide), _, _, rfl, rfl, _, rfl, by omega, by omega, fun D nD => ?_⟩
    refine lc_range (lo := 0) (n := (1 + c * 48271 % 1009 % 3).toNat) (fun i H' => Same H H' ∧ ∃ ws, H' D = some (.lst ((ws : List Str).map V.str)) ∧ ws.length = i ∧ ∀ x ∈ ws, wordB x = true) ⟨same_upd nD, [], upd_same, rfl, fun x hx => by cases hx⟩ (fun i H' hi hp => ?_) (fun H2 hp => ?_)
    · obtain ⟨sm, ws, hD, hl, hw⟩ := hp
      refine ⟨rfl, yesT ?_⟩
      have hx : ∃ x, ms[((c / 7 + (0 + (i : Int))) % (12 : Nat)).toNat]? = some x ∧ wordB x = true := by
        have h1 := ltM (c := c / 7 + (0 + (i : Int))) (n := 12) (by decide)
        have h2 : ((c / 7 + (0 + (i : Int))) % (12 : Nat)).toNat < ms.length := by omega
        exact ⟨ms[_]'h2, List.getElem?_eq_getElem h2, hmw _ (List.getElem_mem h2)⟩
      obtain ⟨x, hx, hxw⟩ := hx
      refine ⟨_, rfl, _, rfl, _, _, rfl, rfl, ⟨by decide, by decide⟩, _, rfl, _, _, rfl, rfl, _, _, rfl, rfl, (by show (0 : Int) < 12; decide), a, _, _, .str x, rfl, rfl, sm.seq hS, atM (n := 12) (by decide) (by rw [List.getElem?_map, hx]; rfl), ?_⟩
      refine ⟨_, hD, ?_, fun b o e => ?_, ws ++ [x], ?_, ?_, ?_⟩
      · rw [List.length_map, hl]
        exact Nat.lt_of_lt_of_le (show i < 1000 by omega) (by decide)
      · rw [upd_ne (ne_of_none e nD)]
        exact sm b o e
      · rw [upd_same, List.map_append]
        rfl
      · rw [List.length_append, hl]
        rfl
      · intro y hy
        rcases List.mem_append.mp hy with hy | hy
        · exact hw y hy
        · rw [List.mem_singleton.mp hy]
          exact hxw
    obtain ⟨s2, ws, hD, hl, hw⟩ := hp
    refine ⟨D, _, rfl, .inl ⟨.inl (.inl hD), fun W nW => ?_⟩⟩
    have wne : ws ≠ [] := fun z => by
      rw [z] at hl
      have hl : (0 : Nat) = _ := hl
      omega
    have wl : ws.length ≤ 3 := by omega
    have s3 : Same H (upd H2 W (.tup (ws.map V.str))) := s2.trans (same_upd nW)
    have hW : SqT K (upd H2 W (.tup (ws.map V.str))) W (ws.map V.str) := .inl (.inl upd_same)
    have hR3 := s3 _ _ hR
    have hZ3 := s3 _ _ hZ
    have hX3 := hX.same s3
    have hY3 := hY.same s3
    generalize upd H2 W (HO.tup (List.map V.str ws)) = H3 at s3 hW hR3 hZ3 hX3 hY3 ⊢
    have hxl : xs.length = rs.length := hX.1
    have hzl : zs.length = wt.length := hY.1
    have hlen := hg.len
    have hlen2 := hg.len2
    have xlt : xs.length < sizeLine := Nat.lt_of_lt_of_le (show xs.length < 1001 by omega) (by decide)
    have finP : ∀ (H4 : Hp) (T : Addr) (k : Str), Same H3 H4 → H4 T = none → k ∈ plainK → H4 R = some (.lst xs) → Q .non (upd (upd H4 T (.tup [.str k, .int 0, .ref W])) R (.lst (xs ++ [.ref T]))) := fun H4 T k s4 nT hk _ => by
      have s5 := s4.trans (same_upd nT (o := .tup [.str k, .int 0, .ref W]))
      refine q _ (xs ++ [.ref T]) zs (rs ++ [⟨k, 0, ws⟩]) wt ((Kt.same (s3.trans s5)).trans Kt.setR) upd_same ?_ ?_ ?_ (hg.plain hk (rowOk_plain hk wne hw) wl)
      · rw [upd_ne (Ne.symm hne)]
        exact s5 _ _ hZ3
      · exact ((hX3.same s5).snoc (r := ⟨k, 0, ws⟩) ⟨T, W, rfl, .inl (.inl upd_same), sameT s5 hW⟩).set (noTup (s5 _ _ hR3))
      · exact (hY3.same s5).set (noTup (s5 _ _ hR3))
    obtain ⟨k, hk, hkk⟩ := kinds7_at _ (ltM (c := c) (n := 7) (by decide))
    refine ⟨_, rfl, _, _, rfl, rfl, _, rfl, ite2 (fun e => ?_) (fun e => ?_)⟩
    · refine ⟨_, rfl, .inl ⟨rfl, _, .inl (.inl hR3)⟩, by show 7 ≤ sizeLine; decide, fun L nL => ⟨_, rfl, L, kinds7.map V.str, _, .str k, rfl, rfl, .inl (.inl upd_same), atM (n := 7) (by decide) (by rw [List.getElem?_map, hk]; rfl), _, rfl, by show 3 ≤ sizeLine; decide, fun T nT => ?_⟩⟩
      have s4 := same_upd nL (o := .lst (kinds7.map V.str))
      exact ⟨R, xs, _, rfl, rfl, same_upd nT _ _ (s4 _ _ hR3), xlt, finP _ T k s4 nT hkk (s4 _ _ hR3)⟩
    · have e4 : ¬ c % 7 < 4 := fun z => e (decide_eq_true z)
      refine ⟨_, rfl, rfl, _, rfl, ite2 (fun e => ?_) (fun e => ?_)⟩
      · have e6 : c % 7 = 6 := V.int.inj (of_decide_eq_true e)
        refine ⟨_, rfl, by show 0 ≤ sizeLine; decide, fun E nE => ?_⟩
        have s4 := same_upd nE (o := .lst [])
        have shE : SeqAt.shaped (.list []) = true := by decide +kernel
        refine ⟨_, _, .lst (.inl (.inl (s4 _ _ hZ3))) (dpRows (hY3.same s4)), .lst (.inl (.inl upd_same)) .nil, shaped_rows fun r hr => hg.gl.ok r (List.mem_append_right _ hr), shE, _, rfl, ?_⟩
        cases wt with
        | nil =>
          have ev : PyData.eqv (.list (([] : List RowD).map rowData)) (.list []) = true := by decide +kernel
          rw [ev]
          refine iteT ⟨_, rfl, .inl ⟨rfl, _, .inl (.inl (s4 _ _ hR3))⟩, by show 7 ≤ sizeLine; decide, fun L nL => ⟨_, rfl, L, kinds7.map V.str, _, .str k, rfl, rfl, .inl (.inl upd_same), atM (n := 7) (by decide) (by rw [List.getElem?_map, hk]; rfl), _, rfl, by show 3 ≤ sizeLine; decide, fun T nT => ?_⟩⟩
          have s5 := s4.trans (same_upd nL (o := .lst (kinds7.map V.str)))
          exact ⟨R, xs, _, rfl, rfl, same_upd nT _ _ (s5 _ _ hR3), xlt, finP _ T k s5 nT hkk (s5 _ _ hR3)⟩
        | cons r0 wt0 =>
          have ev : PyData.eqv (.list ((r0 :: wt0).map rowData)) (.list []) = false := rfl
          rw [ev]
          refine iteF ⟨_, rfl, rfl, _, rfl, ?_⟩
          rw [decide_eq_true (congrArg V.int e6)]
          have hzp : 0 < zs.length := by
            rw [hzl]
            exact Nat.succ_pos _
          have hi0 : 0 ≤ c / 7 % (zs.length : Int) := Int.emod_nonneg _ (by omega)
          have hi1 : c / 7 % (zs.length : Int) < (zs.length : Int) := Int.emod_lt_of_pos _ (by omega)
          obtain ⟨i, hi⟩ : ∃ i : Nat, c / 7 % (zs.length : Int) = (i : Int) := ⟨_, (Int.toNat_of_nonneg hi0).symm⟩
          have hiz : i < zs.length := by omega
          obtain ⟨y, hy⟩ : ∃ y, zs[i]? = some y := ⟨_, List.getElem?_eq_getElem hiz⟩
          obtain ⟨r, hr1, hr2⟩ := hY3.2 i y hy
          refine iteT ⟨_, rfl, .inl ⟨rfl, _, .inl (.inl (s4 _ _ hR3))⟩, _, rfl, .inl ⟨rfl, _, .inl (.inl (s4 _ _ hZ3))⟩, _, rfl, _, _, rfl, rfl, ⟨by decide, by decide⟩, _, rfl, Z, _, rfl, .inl (.inl (.inl (s4 _ _ hZ3))), _, _, rfl, rfl, by omega, Z, zs, _, i, y, rfl, rfl, s4 _ _ hZ3, by omega, ?_, ?_, hy, R, xs, y, rfl, rfl, ?_, xlt, ?_⟩
          · rw [hi]
            have : i < 1001 := by omega
            omega
          · rw [hi]
            exact seq_ix hiz
          · rw [upd_ne hne]
            exact s4 _ _ hR3
          · refine q _ (xs ++ [y]) (zs.eraseIdx i) (rs ++ [r]) ((r0 :: wt0).eraseIdx i) (((Kt.same (s3.trans s4)).trans Kt.setW).trans Kt.setR) upd_same ?_ ?_ ?_ (hg.move hr1)
            · rw [upd_ne (Ne.symm hne)]
              exact upd_same
            · refine RowsAt.set (noTup (H := upd _ Z _) (ys := xs) ?_) (((hX3.same s4).snoc (hr2.same s4)).set (noTup (s4 _ _ hZ3)))
              rw [upd_ne hne]
              exact s4 _ _ hR3
            · refine RowsAt.set (noTup (H := upd _ Z _) (ys := xs) ?_) ((at_erase (hY3.same s4) i).set (noTup (s4 _ _ hZ3)))
              rw [upd_ne hne]
              exact s4 _ _ hR3
      · have e6 : ¬ c % 7 = 6 := fun z => e (decide_eq_true (congrArg V.int z))
        refine ⟨_, rfl, rfl, _, rfl, ?_⟩
        rw [decide_eq_false (fun z => e6 (V.int.inj z))]
        refine iteF ?_
        refine ⟨_, rfl, R, _, rfl, .inl (.inl (.inl hR3)), _, _, rfl, rfl, .inl ⟨by decide, by omega⟩, _, _, rfl, rfl, ?_⟩
        refine ⟨fun σ' H' => ∃ num : Int, σ' = [some (.ref a), some (.int c), some (.ref R), some (.ref Z), some (.int (c % 7)), some (.ref W), some (.int num), none, none] ∧ H' = H3 ∧ (num = 1 + 3 * (rs.length : Int) ∨ num = 999999999 - (rs.length : Int)), ?_, fun σ1 H4 hM => ?_⟩
        · refine ⟨_, rfl, _, _, rfl, rfl, .inr (by decide), _, _, rfl, rfl, (by show (0 : Int) < 1013; decide), _, _, rfl, rfl, (by show (0 : Int) < 3; decide), rfl, _, rfl, ite2 (fun e => ?_) (fun e => ?_)⟩
          · refine ⟨_, rfl, R, _, rfl, .inl (.inl (.inl hR3)), _, _, rfl, rfl, _, rfl, rfl, .inr ?_⟩
            rw [hxl]
          · refine ⟨_, rfl, rfl, .inl ?_⟩
            rw [hxl]
        obtain ⟨num, rfl, rfl, hnum⟩ := hM
        refine ⟨fun σ' H' => ∃ (p : Addr) (k1 k2 : Str), σ' = [some (.ref a), some (.int c), some (.ref R), some (.ref Z), some (.int (c % 7)), some (.ref W), some (.int num), some (.ref p), none] ∧ Same H4 H' ∧ H' p = some (.lst [.str k1, .str k2]) ∧ ((k1 = "take" ∧ k2 = "lay") ∨ (k1 = "lay" ∧ k2 = "take")), ?_, fun σ1 H5 hM => ?_⟩
        · refine ⟨by show 2 ≤ sizeLine; decide, fun p1 n1 => ⟨by show 2 ≤ sizeLine; decide, fun p2 n2 => ⟨by show 2 ≤ sizeLine; decide, fun p3 n3 => ?_⟩⟩⟩
          have t1 := same_upd n1 (o := .lst [.str "take", .str "lay"])
          have t2 := same_upd n2 (o := .lst [.str "lay", .str "take"])
          have t3 := same_upd n3 (o := .lst [.ref p1, .ref p2])
          by_cases z : c % 7 = 4
          · exact ⟨_, rfl, _, _, rfl, rfl, p3, [.ref p1, .ref p2], _, .ref p1, rfl, rfl, .inl (.inl upd_same), at_of (j := 0) (by omega) rfl, p1, "take", "lay", rfl, t1.trans (t2.trans t3), t3 _ _ (t2 _ _ upd_same), .inl ⟨rfl, rfl⟩⟩
          · exact ⟨_, rfl, _, _, rfl, rfl, p3, [.ref p1, .ref p2], _, .ref p2, rfl, rfl, .inl (.inl upd_same), at_of (j := 1) (by omega) rfl, p2, "lay", "take", rfl, t1.trans (t2.trans t3), t3 _ _ upd_same, .inr ⟨rfl, rfl⟩⟩
        obtain ⟨p, k1, k2, rfl, s5, hp, hkk2⟩ := hM
        have hRp : p ≠ R := fun z => by
          rw [z, s5 _ _ hR3] at hp
          have hp := HO.lst.inj (Option.some.inj hp)
          have hx2 := hX3.1
          rw [hp] at hX3
          obtain ⟨r', _, T, W', e, _⟩ := hX3.2 0 (.str k1) rfl
          cases e
        refine ⟨_, rfl, .inl ⟨rfl, _, .inl (.inl (s5 _ _ hR3))⟩, _, rfl, p, _, _, _, rfl, rfl, .inl (.inl hp), at_of (j := 0) rfl rfl, _, rfl, _, rfl, by show 3 ≤ sizeLine; decide, fun T nT => ?_⟩
        have s6 := s5.trans (same_upd nT (o := .tup [.str k1, .int num, .ref W]))
        have hp6 := same_upd nT (o := .tup [.str k1, .int num, .ref W]) _ _ hp
        refine ⟨R, xs, _, rfl, rfl, s6 _ _ hR3, xlt, ?_⟩
        have hZ7 : (upd (upd H5 T (.tup [.str k1, .int num, .ref W])) R (.lst (xs ++ [.ref T]))) Z = some (.lst zs) := by
          rw [upd_ne (Ne.symm hne)]
          exact s6 _ _ hZ3
        have hp7 : (upd (upd H5 T (.tup [.str k1, .int num, .ref W])) R (.lst (xs ++ [.ref T]))) p = some (.lst [.str k1, .str k2]) := by
          rw [upd_ne hRp]
          exact hp6
        have hX7 : RowsAt K (upd (upd H5 T (.tup [.str k1, .int num, .ref W])) R (.lst (xs ++ [.ref T]))) (xs ++ [.ref T]) (rs ++ [⟨k1, num, ws⟩]) := ((hX3.same s6).snoc (r := ⟨k1, num, ws⟩) ⟨T, W, rfl, .inl (.inl upd_same), sameT s6 hW⟩).set (noTup (s6 _ _ hR3))
        have hY7 : RowsAt K (upd (upd H5 T (.tup [.str k1, .int num, .ref W])) R (.lst (xs ++ [.ref T]))) zs wt := (hY3.same s6).set (noTup (s6 _ _ hR3))
        have hR7 : (upd (upd H5 T (.tup [.str k1, .int num, .ref W])) R (.lst (xs ++ [.ref T]))) R = some (.lst (xs ++ [.ref T])) := upd_same
        have kt7 : Kt R Z H (upd (upd H5 T (.tup [.str k1, .int num, .ref W])) R (.lst (xs ++ [.ref T]))) := (Kt.same (s3.trans s6)).trans Kt.setR
        have hW7 : SqT K (upd (upd H5 T (.tup [.str k1, .int num, .ref W])) R (.lst (xs ++ [.ref T]))) W (ws.map V.str) := by
          have h1 : RowAt K (upd H5 T (.tup [.str k1, .int num, .ref W])) (.ref T) ⟨k1, num, ws⟩ := ⟨T, W, rfl, .inl (.inl upd_same), sameT s6 hW⟩
          have key : ∀ {H' : Hp} {a' : Addr} {ys : List V} {o : HO}, SqT K H' a' ys → (∀ zs, ¬ Rd H' R (.tup zs)) → SqT K (upd H' R o) a' ys := fun {H' a' ys o} h hn => by
            rcases h with h | h
            · have ne : a' ≠ R := fun z => hn ys (by rw [← z]; exact h)
              rcases h with h | ⟨ob, h⟩
              · exact .inl (.inl (by rw [upd_ne ne]; exact h))
              · exact .inl (.inr ⟨ob, by rw [upd_ne ne]; exact h⟩)
            · exact .inr h
          exact key (sameT s6 hW) (noTup (s6 _ _ hR3))
        generalize upd (upd H5 T (.tup [.str k1, .int num, .ref W])) R (.lst (xs ++ [.ref T])) = H7 at hZ7 hp7 hX7 hY7 hR7 kt7 hW7 ⊢
        refine ⟨_, rfl, .inl ⟨rfl, _, .inl (.inl hZ7)⟩, _, rfl, p, _, _, _, rfl, rfl, .inl (.inl hp7), at_of (j := 1) rfl rfl, _, rfl, _, rfl, by show 3 ≤ sizeLine; decide, fun T2 nT2 => ?_⟩
        have s8 := same_upd nT2 (o := .tup [.str k2, .int num, .ref W])
        refine ⟨Z, zs, _, rfl, rfl, s8 _ _ hZ7, Nat.lt_of_lt_of_le (show zs.length < 1001 by omega) (by decide), ?_⟩
        refine q _ (xs ++ [.ref T]) (zs ++ [.ref T2]) (rs ++ [⟨k1, num, ws⟩]) (wt ++ [⟨k2, num, ws⟩]) ((kt7.trans (Kt.same s8)).trans Kt.setW) ?_ upd_same ((hX7.same s8).set (noTup (s8 _ _ hZ7))) (((hY7.same s8).snoc (r := ⟨k2, num, ws⟩) ⟨T2, W, rfl, .inl (.inl upd_same), sameT s8 hW7⟩).set (noTup (s8 _ _ hZ7))) (hg.block (by omega) hnum wne hw wl hkk2)
        rw [upd_ne hne]
        exact s8 _ _ hR7
end
/-! ### built, the law's words_of -/
theorem RowAt.kt {K : PySem.W.Frag} {R Z : Addr} {H H' : Hp} {v : V} {r : RowD} (k : Kt R Z H H') (hR : ∀ xs, ¬ Rd H R (.tup xs)) (hZ : ∀ xs, ¬ Rd H Z (.tup xs)) (h : RowAt K H v r) : RowAt K H' v r := by
  obtain ⟨T, W, e, h1, h2⟩ := h
  have key : ∀ {a : Addr} {xs : List V}, SqT K H a xs → SqT K H' a xs := fun {a xs} h => by
    rcases h with h | h
    · have n1 : a ≠ R := fun z => hR xs (by rw [← z]; exact h)
      have n2 : a ≠ Z := fun z => hZ xs (by rw [← z]; exact h)
      rcases h with h | ⟨ob, h⟩
      · exact .inl (.inl (k _ _ n1 n2 h))
      · exact .inl (.inr ⟨ob, k _ _ n1 n2 h⟩)
    · exact .inr h
  exact ⟨T, W, e, key h1, key h2⟩
theorem cutM (xs : List V) (m : Nat) : (cutV xs (some 4) (some (4 + (m : Int)))).length ≤ m := by
  unfold cutV
  have h1 : HT.sIx xs.length 0 (some 4) = min 4 xs.length := HT.sIx_nat _ _ 4
  have e : (4 : Int) + (m : Int) = ((4 + m : Nat) : Int) := by omega
  have h2 : HT.sIx xs.length xs.length (some (4 + (m : Int))) = min (4 + m) xs.length := by
    rw [e]
    exact HT.sIx_nat _ _ _
  rw [h1, h2, List.length_take, List.length_drop]
  omega
theorem RowsAt.append {K : PySem.W.Frag} {H : Hp} {xs ys : List V} {rs qs : List RowD} (h : RowsAt K H xs rs) (g : RowsAt K H ys qs) : RowsAt K H (xs ++ ys) (rs ++ qs) := by
  refine ⟨by rw [List.length_append, List.length_append, h.1, g.1], fun i v e => ?_⟩
  by_cases hi : i < xs.length
  · rw [List.getElem?_append_left hi] at e
    obtain ⟨r, h1, h2⟩ := h.2 i v e
    exact ⟨r, by rw [List.getElem?_append_left (by rw [← h.1]; exact hi)]; exact h1, h2⟩
  · rw [List.getElem?_append_right (by omega)] at e
    obtain ⟨r, h1, h2⟩ := g.2 _ v e
    exact ⟨r, by rw [List.getElem?_append_right (by rw [← h.1]; omega), ← h.1]; exact h1, h2⟩
section
variable {P : Program} {w : World} {K : PySem.W.Frag} {mg : Str → Option Value} {base : Heap}
def spBuilt (K : PySem.W.Frag) : Sp := fun vs H Q _ => ∃ (a : Addr) (ns : List Int) (m : Nat), vs = [.ref a, .int (m : Int)] ∧ SqL K H a (ns.map V.int) ∧ m ≤ 100 ∧
  ∀ (H' : Hp) (D : Addr) (xs : List V) (rs wt : List RowD) (n : Nat), Same H H' → H D = none → H' D = some (.lst xs) → RowsAt K H' xs (rs ++ wt) → n ≤ m → Good n rs wt → Q (.ref D) H'
theorem ok_built {f fM fB : Addr} {fd fdM fdB : FuncData} (F : FnP K "_law_built" sBuilt f fd)
    (GM : FnOk P w K mg base (L2.CX P w) 3 fM fdM ["_law_script"] (spMenu K)) (kM : PySem.W.keepIn K (.ref fM) = true) (bM : Binds K fdM ["_law_script"] []) (gM : mg "_law_menu" = some (.ref fM))
    (GB : FnOk P w K mg base (L2.CX P w) 1 fB fdB ["_law_menu_here", "_law_cell", "_law_rows", "_law_waiting"] (spBuiltRow K)) (kB : PySem.W.keepIn K (.ref fB) = true) (bB : Binds K fdB ["_law_menu_here", "_law_cell", "_law_rows", "_law_waiting"] []) (gB : mg "_law_built_row" = some (.ref fB)) :
    FnOk P w K mg base (L2.CX P w) 4 f fd ["_law_script", "_law_many"] (spBuilt K) := by
  refine F.ok scBuilt (fun vs H Q E h => ?_) (fun cdv A outer s H vs Q E hr h => ?_)
  · obtain ⟨a, ns, m, rfl, _⟩ := h
    rfl
  · obtain ⟨a, ns, m, rfl, hS, hm, q⟩ := h
    refine ⟨_, pss_cons (ps_set (i := 2) scBuilt.nd rfl (.inl rfl) (pe_call GM hr (by rfl) gM kM bM .nil passL (pa_cons (pv 0) pa_nil)))
      (pss_cons (ps_set (i := 3) scBuilt.nd rfl (.inl rfl) (pe_lst pa_nil))
      (pss_cons (ps_set (i := 4) scBuilt.nd rfl (.inl rfl) (pe_lst pa_nil))
      (pss_cons (ps_for (passes_of rfl) rfl (pi_list (pe_slice sl_list (pv 0) (po_some pe_int) (po_some (pe_op op_add pe_int (pv 1))))) (pg_name (i := 5) scBuilt.nd rfl (.inl rfl))
        (pss_one (ps_expr (pe_call GB (hr.mono (by decide)) (by rfl) gB kB bB .nil passL (pa_cons (pv 2) (pa_cons (pv 5) (pa_cons (pv 3) (pa_cons (pv 4) pa_nil))))))))
      (pss_one (ps_ret (pe_op op_cat (pv 3) (pv 4))))))), ?_⟩
    refine ⟨_, rfl, a, ns, rfl, hS, fun H1 M ms s1 nM hM hml hmw => ?_⟩
    refine ⟨by show 0 ≤ sizeLine; decide, fun R nR => ⟨by show 0 ≤ sizeLine; decide, fun Z nZ => ?_⟩⟩
    have t1 := same_upd nR (o := .lst [])
    have t2 := same_upd nZ (o := .lst [])
    have s3 : Same H (upd (upd H1 R (.lst [])) Z (.lst [])) := s1.trans (t1.trans t2)
    have hR3 : (upd (upd H1 R (.lst [])) Z (.lst [])) R = some (.lst []) := t2 _ _ upd_same
    have hne : R ≠ Z := fun z => by
      rw [← z, upd_same] at nZ
      cases nZ
    refine ⟨_, rfl, _, rfl, _, rfl, _, _, rfl, rfl, _, rfl, a, _, rfl, s3.seq hS, fun p np => ?_⟩
    have s4 := same_upd np (o := .lst (cutV (ns.map V.int) (some 4) (some (4 + (m : Int)))))
    have hpR : p ≠ R := fun z => by
      rw [z, hR3] at np
      cases np
    have hpZ : p ≠ Z := fun z => by
      rw [z, upd_same] at np
      cases np
    have hM4 := s4 _ _ (t2 _ _ (t1 _ _ hM))
    have hMR : M ≠ R := fun z => by
      rw [z, nR] at hM
      cases hM
    have hMZ : M ≠ Z := fun z => by
      rw [z] at hM
      have := t1 _ _ hM
      rw [nZ] at this
      cases this
    refine ⟨p, rfl, ⟨_, .inl (.inl upd_same)⟩, for_list (xs := cutV (ns.map V.int) (some 4) (some (4 + (m : Int)))) (fun i σ' H' => ∃ xs zs rs wt y5, σ' = [some (.ref a), some (.int (m : Int)), some (.ref M), some (.ref R), some (.ref Z), y5] ∧
        Kt R Z (upd (upd (upd H1 R (.lst [])) Z (.lst [])) p (.lst (cutV (ns.map V.int) (some 4) (some (4 + (m : Int)))))) H' ∧ H' R = some (.lst xs) ∧ H' Z = some (.lst zs) ∧ RowsAt K H' xs rs ∧ RowsAt K H' zs wt ∧ Good i rs wt)
      ⟨[], [], [], [], none, rfl, fun _ _ _ _ e => e, s4 _ _ hR3, s4 _ _ upd_same, ⟨rfl, fun i v e => by cases e⟩, ⟨rfl, fun i v e => by cases e⟩, Good.nil⟩ (fun i σ' H' _ hp => ?_) (fun i x σ' H' hx hp => ?_) (fun σ' H' hp => ?_)⟩
    · obtain ⟨xs, zs, rs, wt, y5, rfl, kt, _⟩ := hp
      exact .inl (.inl (kt _ _ hpR hpZ upd_same))
    · obtain ⟨xs, zs, rs, wt, y5, rfl, kt, hR, hZ, hX, hY, hg⟩ := hp
      obtain ⟨c, _, rfl⟩ := List.mem_map.mp (cut_mem (List.mem_of_getElem? hx))
      have hi : i < m := Nat.lt_of_lt_of_le (List.getElem?_eq_some_iff.mp hx).1 (cutM _ m)
      exact ⟨_, rfl, _, rfl, _, rfl, _, rfl, M, R, Z, c, ms, i, xs, zs, rs, wt, rfl, .inl (.inl (kt _ _ hMR hMZ hM4)), hml, hmw, hR, hZ, hne, hX, hY, hg, by omega, fun H2 xs2 zs2 rs2 wt2 k2 hR2 hZ2 hX2 hY2 hg2 => ⟨xs2, zs2, rs2, wt2, _, rfl, kt.trans k2, hR2, hZ2, hX2, hY2, hg2⟩⟩
    · obtain ⟨xs, zs, rs, wt, y5, rfl, kt, hR, hZ, hX, hY, hg⟩ := hp
      have hn := cutM (ns.map V.int) m
      have h1 := hg.len2
      refine ⟨_, rfl, _, rfl, R, Z, xs, zs, rfl, rfl, hR, hZ, Nat.le_trans (by rw [hX.1, hY.1]; omega : xs.length + zs.length ≤ 1000) (by decide), fun D nD => ?_⟩
      have hsame : Same H H' := fun b o e => by
        have nbR : b ≠ R := fun z => by
          have := s1 b o e
          rw [z, nR] at this
          cases this
        have nbZ : b ≠ Z := fun z => by
          have := t1 b o (s1 b o e)
          rw [z, nZ] at this
          cases this
        exact kt _ _ nbR nbZ (s4 _ _ (s3 _ _ e))
      exact q _ D (xs ++ zs) rs wt _ (hsame.trans (same_upd nD)) (hsame.free nD) upd_same ((hX.append hY).same (same_upd nD)) hn hg
theorem scLawWordsOf : FnScope ["_law_rows", "_law_kinds", "_law_found", "_law_row"] ["_law_rows", "_law_kinds"] (defScope sLawWordsOf) := ⟨rfl, rfl, rfl, by decide +kernel, rfl, by decide +kernel, by decide +kernel⟩
theorem ok_law_words_of {f : Addr} {fd : FuncData} (F : FnP K "_law_words_of" sLawWordsOf f fd) (mT : mg "list" = none) : FnOk P w K mg base (L2.CX P w) 1 f fd ["_law_rows", "_law_kinds"] (spWordsOf K) := by
  refine F.ok scLawWordsOf (fun vs H Q E h => ?_) (fun cdv A outer s H vs Q E hr h => ?_)
  · obtain ⟨p, q, xs, rs, ks, rfl, _⟩ := h
    rfl
  · obtain ⟨p, q, xs, rs, ks, rfl, hS, hR, hq, hl, k⟩ := h
    refine ⟨_, pss_cons (ps_set (i := 2) scLawWordsOf.nd rfl (.inl rfl) (pe_lst pa_nil))
      (pss_cons (ps_for (passes_of rfl) rfl (pi_list (pv 0)) (pg_name (i := 3) scLawWordsOf.nd rfl (.inl rfl))
        (pss_one (ps_if (pt_cmpR op_in_seq (pe_ix ix_tup (pv 3) pe_int (fun _ _ => rfl)) (pv 1) (by rfl)) (pss_one (ps_set (i := 2) scLawWordsOf.nd rfl (.inl rfl) (pe_op op_cat (pv 2) (pe_callTy call_list_of (by rfl) mT (by decide +kernel) (pa_cons (pe_ix ix_tup (pv 3) pe_int (fun _ _ => rfl)) pa_nil))))) pss_nil)))
      (pss_one (ps_ret (pv 2)))), ?_⟩
    refine ⟨by show 0 ≤ sizeLine; decide, fun D nD => ?_⟩
    refine ⟨_, rfl, p, rfl, ⟨_, (same_upd nD).seq hS⟩, for_list (xs := xs) (fun i σ' H' => Same H H' ∧ ∃ y3 D, σ' = [some (.ref p), some (.ref q), some (.ref D), y3] ∧ H D = none ∧ H' D = some (.lst ((wordsOf ks (rs.take i)).map V.str))) ⟨same_upd nD, none, D, rfl, nD, upd_same⟩ (fun i σ' H' _ hp => hp.1.seq hS) (fun i x σ' H' hx hp => ?_) (fun σ' H' hp => ?_)⟩
    · obtain ⟨sm, y3, D, rfl, nD, hD⟩ := hp
      obtain ⟨r, hr1, hr2⟩ := hR.2 i x hx
      obtain ⟨T, W, rfl, hT, hW⟩ := hr2.same sm
      have e1 := take_snoc hr1
      have hle := wordsOf_take_le ks rs (i + 1)
      rw [e1, wordsOf_snoc] at hle
      refine ⟨_, rfl, T, _, _, _, rfl, rfl, hT, at_of (j := 0) rfl rfl, _, rfl, q, _, rfl, .inr (sameT sm hq), rfl, flat_strs _, _, rfl, ?_⟩
      show if inV (.str r.kind) (ks.map V.str) = true then _ else _
      rw [inV_strs]
      by_cases h : r.kind ∈ ks
      · rw [if_pos h, List.length_append] at hle
        rw [decide_eq_true h]
        refine iteT ⟨_, rfl, _, rfl, T, _, _, _, rfl, rfl, hT, at_of (j := 2) rfl rfl, W, _, rfl, .inr hW, fun L nL => ⟨D, L, _, _, rfl, rfl, same_upd nL _ _ hD, upd_same, ?_, fun D2 nD2 => ⟨sm.trans ((same_upd nL).trans (same_upd nD2)), _, D2, rfl, ?_, ?_⟩⟩⟩
        · rw [List.length_map, List.length_map]
          exact Nat.le_trans (show _ ≤ 10000 by omega) (by decide)
        · exact sm.free ((same_upd nL).free nD2)
        · rw [upd_same, e1, wordsOf_snoc, if_pos h, List.map_append]
      · rw [decide_eq_false h]
        refine iteF ⟨sm, _, D, rfl, nD, ?_⟩
        rw [e1, wordsOf_snoc, if_neg h]
        exact hD
    · obtain ⟨sm, y3, D, rfl, nD, hD⟩ := hp
      rw [List.take_of_length_le (by rw [hR.1]; exact Nat.le_refl _)] at hD
      exact ⟨_, rfl, k H' D sm nD hD⟩
end
/-! ### the law of a telling done -/
theorem flat_rep (k : Nat) (a : Str) : (List.replicate k [V.str a]).flatten = (List.replicate k a).map V.str := by
  induction k with
  | zero => rfl
  | succ k ih =>
    rw [List.replicate_succ, List.replicate_succ, List.flatten_cons, List.map_cons, ih]
    rfl
def fillR (k l : Nat) (rs : List RowD) : List RowD := ([⟨"put", 0, List.replicate k "w"⟩] ++ rs) ++ [⟨"cut", 0, List.replicate l "v"⟩]
theorem rep_ne {k : Nat} (h : 0 < k) (a : Str) : List.replicate k a ≠ [] := fun z => by
  have := congrArg List.length z
  rw [List.length_replicate, List.length_nil] at this
  omega
theorem rep_w {k : Nat} {b : Str} (hb : wordB b = true) : ∀ a ∈ List.replicate k b, wordB a = true := fun a ha => by
  rw [(List.mem_replicate.mp ha).2]
  exact hb
theorem w_ok : wordB "w" = true := by decide +kernel
theorem v_ok : wordB "v" = true := by decide +kernel
theorem fill_new (k l : Nat) (rs : List RowD) : wordsOf newK (fillR k l rs) = List.replicate k ("w" : Str) ++ wordsOf newK rs := by
  unfold fillR
  rw [wordsOf_append, wordsOf_append, wordsOf_cons, if_pos (show ("put" : Str) ∈ newK by decide +kernel), wordsOf_cons, if_neg (show ("cut" : Str) ∉ newK by decide +kernel)]
  show (List.replicate k ("w" : Str) ++ []) ++ wordsOf newK rs ++ [] = _
  rw [List.append_nil, List.append_nil]
theorem fill_old (k l : Nat) (rs : List RowD) : wordsOf oldK (fillR k l rs) = wordsOf oldK rs ++ List.replicate l ("v" : Str) := by
  unfold fillR
  rw [wordsOf_append, wordsOf_append, wordsOf_cons, if_neg (show ("put" : Str) ∉ oldK by decide +kernel), wordsOf_cons, if_pos (show ("cut" : Str) ∈ oldK by decide +kernel)]
  show [] ++ wordsOf oldK rs ++ (List.replicate l ("v" : Str) ++ []) = _
  rw [List.append_nil, List.nil_append]
theorem blk_fill {b : Str} (h1 : b ≠ "put") (h2 : b ≠ "cut") (k l : Nat) (rs : List RowD) : blk b (fillR k l rs) = blk b rs := by
  unfold fillR blk
  rw [List.filter_append, List.filter_append, List.filter_cons_of_neg (by simpa using Ne.symm h1), List.filter_cons_of_neg (by simpa using Ne.symm h2)]
  simp
theorem Fit.fill {rs : List RowD} (h : Fit rs) {k l : Nat} (hk : 0 < k) (hl : 0 < l) (hn : k + (wordsOf newK rs).length ≤ 120) (ho : (wordsOf oldK rs).length + l ≤ 120) (hlen : rs.length ≤ 400) : Fit (fillR k l rs) := by
  have t1 : ("take" : Str) ≠ "put" := by decide +kernel
  have t2 : ("take" : Str) ≠ "cut" := by decide +kernel
  have l1 : ("lay" : Str) ≠ "put" := by decide +kernel
  have l2 : ("lay" : Str) ≠ "cut" := by decide +kernel
  refine ⟨fun r hr => ?_, ?_, ?_, ?_, ?_, ?_⟩
  · unfold fillR at hr
    rcases List.mem_append.mp hr with hr | hr
    · rcases List.mem_append.mp hr with hr | hr
      · rw [List.mem_singleton.mp hr]
        exact rowOk_plain (by decide +kernel) (rep_ne hk _) (rep_w w_ok)
      · exact h.ok r hr
    · rw [List.mem_singleton.mp hr]
      exact rowOk_plain (by decide +kernel) (rep_ne hl _) (rep_w v_ok)
  · rw [fill_old, List.length_append, List.length_replicate]
    exact ho
  · rw [fill_new, List.length_append, List.length_replicate]
    exact hn
  · unfold fillR
    rw [List.length_append, List.length_append]
    show 1 + rs.length + 1 ≤ 500
    omega
  · rw [blk_fill t1 t2]
    exact h.nd
  · rw [blk_fill t1 t2, blk_fill l1 l2]
    exact h.perm
theorem rowsAt_one {K : PySem.W.Frag} {H : Hp} {v : V} {r : RowD} (h : RowAt K H v r) : RowsAt K H [v] [r] :=
  ⟨rfl, fun i x e => by
    match i, e with
    | 0, e =>
      cases e
      exact ⟨r, rfl, h⟩⟩
section
variable {P : Program} {w : World} {K : PySem.W.Frag} {mg : Str → Option Value} {base : Heap}
theorem scLaw : FnScope ["_law_script", "_law_rows", "_law_old", "_law_new", "_law_handed", "_law_found", "_law_back"] ["_law_script"] (defScope sLaw) := ⟨rfl, rfl, rfl, by decide +kernel, rfl, by decide +kernel, by decide +kernel⟩
def spLaw (K : PySem.W.Frag) (Ps : List Addr) : Sp := fun vs H Q _ => ∃ (a : Addr) (ns : List Int), vs = [.ref a] ∧ SqL K H a (ns.map V.int) ∧ Tb Ps H ∧ ∀ H', Q (.bl true) H'
theorem ok_law {Ps : List Addr} {f fC fB fW fA fD fU : Addr} {fd fdC fdB fdW fdA fdD fdU : FuncData} (F : FnP K "law" sLaw f fd)
    (GC : FnOk P w K mg base (L2.CX P w) 1 fC fdC ["_law_script", "_law_k"] (spCell K)) (kC : PySem.W.keepIn K (.ref fC) = true) (bC : Binds K fdC ["_law_script", "_law_k"] []) (gC : mg "_law_cell_at" = some (.ref fC))
    (GB : FnOk P w K mg base (L2.CX P w) 4 fB fdB ["_law_script", "_law_many"] (spBuilt K)) (kB : PySem.W.keepIn K (.ref fB) = true) (bB : Binds K fdB ["_law_script", "_law_many"] []) (gB : mg "_law_built" = some (.ref fB))
    (GW : FnOk P w K mg base (L2.CX P w) 1 fW fdW ["_law_rows", "_law_kinds"] (spWordsOf K)) (kW : PySem.W.keepIn K (.ref fW) = true) (bW : Binds K fdW ["_law_rows", "_law_kinds"] []) (gW : mg "_law_words_of" = some (.ref fW))
    (GA : FnOk P w K mg base (L2.CX P w) 2 fA fdA ["_law_found", "_law_due"] (spAlike K)) (kA : PySem.W.keepIn K (.ref fA) = true) (bA : Binds K fdA ["_law_found", "_law_due"] []) (gA : mg "_law_alike" = some (.ref fA))
    (GD : FnOk P w K mg base (L2.CX P w) 8 fD fdD ["rows", "old"] (spDone K Ps)) (kD : PySem.W.keepIn K (.ref fD) = true) (bD : Binds K fdD ["rows", "old"] []) (gD : mg "done" = some (.ref fD))
    (GU : FnOk P w K mg base (L2.CX P w) 8 fU fdU ["rows"] (spTurned K Ps)) (kU : PySem.W.keepIn K (.ref fU) = true) (bU : Binds K fdU ["rows"] []) (gU : mg "turned" = some (.ref fU))
    (mT : mg "list" = none) (mL : mg "len" = none) : FnOk P w K mg base (L2.CX P w) 9 f fd ["_law_script"] (spLaw K Ps) := by
  refine F.ok scLaw (fun vs H Q E h => ?_) (fun cdv A outer s H vs Q E hr h => ?_)
  · obtain ⟨a, ns, rfl, _⟩ := h
    rfl
  · obtain ⟨a, ns, rfl, hS, ht, q⟩ := h
    have r4 : Room 4 (A.deeper (envOfC "law" (defScope sLaw) s.heap.objs.size f cdv)) := hr.mono (by decide)
    have r2 : Room 2 (A.deeper (envOfC "law" (defScope sLaw) s.heap.objs.size f cdv)) := hr.mono (by decide)
    have r1 : Room 1 (A.deeper (envOfC "law" (defScope sLaw) s.heap.objs.size f cdv)) := hr.mono (by decide)
    refine ⟨_, pss_cons (ps_set (i := 1) scLaw.nd rfl (.inl rfl) (pe_call GB r4 (by rfl) gB kB bB .nil passL (pa_cons (pv 0) (pa_cons pe_int pa_nil))))
      (pss_cons (ps_set (i := 2) scLaw.nd rfl (.inl rfl) (pe_call GW r1 (by rfl) gW kW bW .nil passL (pa_cons (pv 1) (pa_cons (pe_tup (pa_cons pe_str (pa_cons pe_str (pa_cons pe_str pa_nil)))) pa_nil))))
      (pss_cons (ps_set (i := 3) scLaw.nd rfl (.inl rfl) (pe_call GW r1 (by rfl) gW kW bW .nil passL (pa_cons (pv 1) (pa_cons (pe_tup (pa_cons pe_str (pa_cons pe_str (pa_cons pe_str pa_nil)))) pa_nil))))
      (pss_cut (ps_if (pt_cmpR op_eq (pe_op op_mod (pe_op op_fdiv (pe_call GC r1 (by rfl) gC kC bC .nil passL (pa_cons (pv 0) (pa_cons pe_int pa_nil))) pe_int) pe_int) pe_int (nomark _))
        (pss_cons (ps_set (i := 1) scLaw.nd rfl (.inl rfl) (pe_op op_cat (pe_op op_cat (pe_lst (pa_cons (pe_tup (pa_cons pe_str (pa_cons pe_int (pa_cons (pe_op op_repT (pe_tup (pa_cons pe_str pa_nil)) (pe_op op_sub pe_int (pe_callB call_len_seq (by rfl) mL PySem.boot_len (pa_cons (pv 3) pa_nil)))) pa_nil)))) pa_nil)) (pv 1))
            (pe_lst (pa_cons (pe_tup (pa_cons pe_str (pa_cons pe_int (pa_cons (pe_op op_repT (pe_tup (pa_cons pe_str pa_nil)) (pe_op op_sub pe_int (pe_callB call_len_seq (by rfl) mL PySem.boot_len (pa_cons (pv 2) pa_nil)))) pa_nil)))) pa_nil))))
        (pss_cons (ps_set (i := 3) scLaw.nd rfl (.inl rfl) (pe_op op_cat (pe_op op_rep (pe_lst (pa_cons pe_str pa_nil)) (pe_op op_sub pe_int (pe_callB call_len_seq (by rfl) mL PySem.boot_len (pa_cons (pv 3) pa_nil)))) (pv 3)))
        (pss_one (ps_set (i := 2) scLaw.nd rfl (.inl rfl) (pe_op op_cat (pv 2) (pe_op op_rep (pe_lst (pa_cons pe_str pa_nil)) (pe_op op_sub pe_int (pe_callB call_len_seq (by rfl) mL PySem.boot_len (pa_cons (pv 2) pa_nil)))))))))
        pss_nil)
      (pss_cons (ps_set (i := 4) scLaw.nd rfl (.inl rfl) (pe_lst (pa_cons (pe_callTy call_list_of (by rfl) mT (by decide +kernel) (pa_cons (pv 1) pa_nil)) (pa_cons (pe_callTy call_list_of (by rfl) mT (by decide +kernel) (pa_cons (pv 2) pa_nil)) pa_nil))))
      (pss_cons (ps_set (i := 5) scLaw.nd rfl (.inl rfl) (pe_call GD hr (by rfl) gD kD bD .nil passL (pa_cons (pe_ix ix_list (pv 4) pe_int (fun _ _ => rfl)) (pa_cons (pe_ix ix_list (pv 4) pe_int (fun _ _ => rfl)) pa_nil))))
      (pss_cons (ps_if (PW.pt (pw_or (pt_not (pt_val (pe_call GA r2 (by rfl) gA kA bA .nil passL (pa_cons (pv 5) (pa_cons (pv 3) pa_nil))))) (pw_or (pt_cmpR (op_neD hr.units) (pe_ix ix_list (pv 4) pe_int (fun _ _ => rfl)) (pv 1) (nomark _)) (pw_or1 (pt_cmpR (op_neD hr.units) (pe_ix ix_list (pv 4) pe_int (fun _ _ => rfl)) (pv 2) (nomark _)))))) pss_never pss_nil)
      (pss_cons (ps_set (i := 6) scLaw.nd rfl (.inl rfl) (pe_call GU hr (by rfl) gU kU bU .nil passL (pa_cons (pe_callTy call_list_of (by rfl) mT (by decide +kernel) (pa_cons (pv 1) pa_nil)) pa_nil)))
      (pss_one (ps_ret (pe_call GA r2 (by rfl) gA kA bA .nil passL (pa_cons (pe_call GD hr (by rfl) gD kD bD .nil passL (pa_cons (pv 6) (pa_cons (pe_callTy call_list_of (by rfl) mT (by decide +kernel) (pa_cons (pv 3) pa_nil)) pa_nil))) (pa_cons (pv 2) pa_nil)))))))))))), ?_⟩
    refine ⟨_, rfl, a, ns, 30, rfl, hS, by decide, fun H1 R xs rs0 wt n s1 nR hR hX hn hg => ?_⟩
    have ft := hg.fit (by omega)
    have ho := hg.gl.old
    have hw := hg.gl.new
    have hl2 := hg.len2
    have hln : (rs0 ++ wt).length ≤ 60 := by
      rw [List.length_append]
      omega
    generalize rs0 ++ wt = rs at hX ft ho hw hln
    refine ⟨_, rfl, by show 3 ≤ sizeLine; decide, fun T1 n1 => ?_⟩
    have t1 := same_upd n1 (o := .tup [.str "keep", .str "cut", .str "take"])
    refine ⟨R, T1, xs, rs, oldK, rfl, .inl (.inl (t1 _ _ hR)), hX.same t1, .inl (.inl upd_same), by omega, fun H2 O s2 nO hO => ?_⟩
    refine ⟨_, rfl, by show 3 ≤ sizeLine; decide, fun T2 n2 => ?_⟩
    have t2 := same_upd n2 (o := .tup [.str "keep", .str "put", .str "lay"])
    have u2 := t1.trans (s2.trans t2)
    refine ⟨R, T2, xs, rs, newK, rfl, .inl (.inl (u2 _ _ hR)), hX.same u2, .inl (.inl upd_same), by omega, fun H3 N s3 nN hN => ?_⟩
    have u3 := u2.trans s3
    have hO3 := s3 _ _ (t2 _ _ hO)
    have hR3 := u3 _ _ hR
    have hX3 := hX.same u3
    have s03 := s1.trans u3
    refine ⟨fun σ' H' => ∃ R O N xs rs, σ' = [some (.ref a), some (.ref R), some (.ref O), some (.ref N), none, none, none] ∧ Same H H' ∧ H' R = some (.lst xs) ∧ RowsAt K H' xs rs ∧ Fit rs ∧ H' O = some (.lst ((wordsOf oldK rs).map V.str)) ∧ H' N = some (.lst ((wordsOf newK rs).map V.str)), ?_, fun σ1 H5 hM => ?_⟩
    · refine ⟨_, rfl, a, ns, 3, rfl, s03.seq hS, _, _, rfl, rfl, ⟨by decide, by decide⟩, _, _, rfl, rfl, (by show (0 : Int) < 5; decide), rfl, _, rfl, ite2 (fun _ => ?_) (fun _ => ⟨R, O, N, xs, rs, rfl, s03, hR3, hX3, ft, hO3, hN⟩)⟩
      -- filled up
      obtain ⟨k, hk⟩ : ∃ k : Nat, k = 120 - (wordsOf newK rs).length := ⟨_, rfl⟩
      obtain ⟨l, hl⟩ : ∃ l : Nat, l = 120 - (wordsOf oldK rs).length := ⟨_, rfl⟩
      have ek : (120 : Int) - (((wordsOf newK rs).map V.str).length : Int) = (k : Int) := by
        rw [List.length_map]
        omega
      have el : (120 : Int) - (((wordsOf oldK rs).map V.str).length : Int) = (l : Int) := by
        rw [List.length_map]
        omega
      have hk30 : 30 ≤ k := by omega
      have hl30 : 30 ≤ l := by omega
      have hk120 : k ≤ 120 := by omega
      have hl120 : l ≤ 120 := by omega
      have dec : ∀ {n : Nat}, n ≤ 1000 → n ≤ sizeLine := fun h => Nat.le_trans h (by decide)
      -- the row ahead
      refine ⟨by show 1 ≤ sizeLine; decide, fun A nA => ?_⟩
      have a1 := same_upd nA (o := .tup [.str "w"])
      refine ⟨_, rfl, N, _, rfl, .inl (.inl (.inl (a1 _ _ hN))), _, _, rfl, rfl, A, (k : Int), [.str "w"], rfl, congrArg V.int ek, .inl (.inl upd_same), (fun z => by cases z), by omega, by omega, by decide, fun W nW => ?_⟩
      have a2 := a1.trans (same_upd nW (o := .tup (List.replicate (k : Int).toNat [V.str "w"]).flatten))
      refine ⟨by show 3 ≤ sizeLine; decide, fun T nT => ⟨by show 1 ≤ sizeLine; decide, fun L nL => ?_⟩⟩
      have tT := same_upd nT (o := .tup [.str "put", .int 0, .ref W])
      have tL := same_upd nL (o := .lst [.ref T])
      have a3 := a2.trans (tT.trans tL)
      have hrow1 : RowAt K (upd (upd (upd (upd H3 A (.tup [.str "w"])) W (.tup (List.replicate (k : Int).toNat [V.str "w"]).flatten)) T (.tup [.str "put", .int 0, .ref W])) L (.lst [.ref T])) (.ref T) ⟨"put", 0, List.replicate k "w"⟩ := by
        refine RowAt.same tL ⟨T, W, rfl, .inl (.inl upd_same), sameT tT (.inl (.inl ?_))⟩
        rw [upd_same, Int.toNat_natCast, flat_rep]
      have hL : (upd (upd (upd (upd H3 A (.tup [.str "w"])) W (.tup (List.replicate (k : Int).toNat [V.str "w"]).flatten)) T (.tup [.str "put", .int 0, .ref W])) L (.lst [.ref T])) L = some (.lst [.ref T]) := upd_same
      generalize upd (upd (upd (upd H3 A (.tup [.str "w"])) W (.tup (List.replicate (k : Int).toNat [V.str "w"]).flatten)) T (.tup [.str "put", .int 0, .ref W])) L (.lst [.ref T]) = H4 at a3 hrow1 hL ⊢
      refine ⟨_, rfl, L, R, _, xs, rfl, rfl, hL, a3 _ _ hR3, dec (by rw [hX3.1]; show 1 + rs.length ≤ 1000; omega), fun C nC => ?_⟩
      have tC := same_upd nC (o := .lst ([.ref T] ++ xs))
      have a4 := a3.trans tC
      have hrow1 := hrow1.same tC
      have hC : (upd H4 C (.lst ([.ref T] ++ xs))) C = some (.lst ([.ref T] ++ xs)) := upd_same
      generalize upd H4 C (.lst ([.ref T] ++ xs)) = H5 at a4 hrow1 hC ⊢
      -- the row behind
      refine ⟨by show 1 ≤ sizeLine; decide, fun B nB => ?_⟩
      have b1 := same_upd nB (o := .tup [.str "v"])
      refine ⟨_, rfl, O, _, rfl, .inl (.inl (.inl (b1 _ _ (a4 _ _ hO3)))), _, _, rfl, rfl, B, (l : Int), [.str "v"], rfl, congrArg V.int el, .inl (.inl upd_same), (fun z => by cases z), by omega, by omega, by decide, fun W2 nW2 => ?_⟩
      have b2 := b1.trans (same_upd nW2 (o := .tup (List.replicate (l : Int).toNat [V.str "v"]).flatten))
      refine ⟨by show 3 ≤ sizeLine; decide, fun T2 nT2 => ⟨by show 1 ≤ sizeLine; decide, fun L2 nL2 => ?_⟩⟩
      have tT2 := same_upd nT2 (o := .tup [.str "cut", .int 0, .ref W2])
      have tL2 := same_upd nL2 (o := .lst [.ref T2])
      have b3 := b2.trans (tT2.trans tL2)
      have hrow2 : RowAt K (upd (upd (upd (upd H5 B (.tup [.str "v"])) W2 (.tup (List.replicate (l : Int).toNat [V.str "v"]).flatten)) T2 (.tup [.str "cut", .int 0, .ref W2])) L2 (.lst [.ref T2])) (.ref T2) ⟨"cut", 0, List.replicate l "v"⟩ := by
        refine RowAt.same tL2 ⟨T2, W2, rfl, .inl (.inl upd_same), sameT tT2 (.inl (.inl ?_))⟩
        rw [upd_same, Int.toNat_natCast, flat_rep]
      have hL2 : (upd (upd (upd (upd H5 B (.tup [.str "v"])) W2 (.tup (List.replicate (l : Int).toNat [V.str "v"]).flatten)) T2 (.tup [.str "cut", .int 0, .ref W2])) L2 (.lst [.ref T2])) L2 = some (.lst [.ref T2]) := upd_same
      generalize upd (upd (upd (upd H5 B (.tup [.str "v"])) W2 (.tup (List.replicate (l : Int).toNat [V.str "v"]).flatten)) T2 (.tup [.str "cut", .int 0, .ref W2])) L2 (.lst [.ref T2]) = H6 at b3 hrow2 hL2 ⊢
      have a6 := a4.trans b3
      refine ⟨C, L2, _, _, rfl, rfl, b3 _ _ hC, hL2, dec (by rw [List.length_append, hX3.1]; show 1 + rs.length + 1 ≤ 1000; omega), fun R2 nR2 => ?_⟩
      have tR2 := same_upd nR2 (o := .lst (([.ref T] ++ xs) ++ [.ref T2]))
      have a7 := a6.trans tR2
      have hXf : RowsAt K (upd H6 R2 (.lst (([.ref T] ++ xs) ++ [.ref T2]))) (([.ref T] ++ xs) ++ [.ref T2]) (fillR k l rs) := ((((rowsAt_one (hrow1.same b3)).append (hX3.same a6)).append (rowsAt_one hrow2)).same tR2)
      have hR7 : (upd H6 R2 (.lst (([.ref T] ++ xs) ++ [.ref T2]))) R2 = some (.lst (([.ref T] ++ xs) ++ [.ref T2])) := upd_same
      generalize upd H6 R2 (.lst (([.ref T] ++ xs) ++ [.ref T2])) = H7 at a7 hXf hR7 ⊢
      -- the new text
      refine ⟨by show 1 ≤ sizeLine; decide, fun A3 nA3 => ?_⟩
      have c1 := same_upd nA3 (o := .lst [.str "w"])
      refine ⟨_, rfl, N, _, rfl, .inl (.inl (.inl (c1 _ _ (a7 _ _ hN)))), _, _, rfl, rfl, A3, (k : Int), [.str "w"], rfl, congrArg V.int ek, upd_same, by omega, by omega, dec (by rw [Int.toNat_natCast]; show 1 * k ≤ 1000; omega), fun P3 nP3 => ?_⟩
      have c2 := c1.trans (same_upd nP3 (o := .lst (List.replicate (k : Int).toNat [V.str "w"]).flatten))
      refine ⟨_, rfl, P3, N, _, _, rfl, rfl, upd_same, c2 _ _ (a7 _ _ hN), dec (by rw [Int.toNat_natCast, flat_rep, List.length_map, List.length_map, List.length_replicate]; omega), fun N2 nN2 => ?_⟩
      have c3 := c2.trans (same_upd nN2 (o := .lst ((List.replicate (k : Int).toNat [V.str "w"]).flatten ++ (wordsOf newK rs).map V.str)))
      have hN8 : (upd (upd (upd H7 A3 (.lst [.str "w"])) P3 (.lst (List.replicate (k : Int).toNat [V.str "w"]).flatten)) N2 (.lst ((List.replicate (k : Int).toNat [V.str "w"]).flatten ++ (wordsOf newK rs).map V.str))) N2 = some (.lst ((wordsOf newK (fillR k l rs)).map V.str)) := by
        rw [upd_same, Int.toNat_natCast, flat_rep, fill_new, List.map_append]
      generalize upd (upd (upd H7 A3 (.lst [.str "w"])) P3 (.lst (List.replicate (k : Int).toNat [V.str "w"]).flatten)) N2 (.lst ((List.replicate (k : Int).toNat [V.str "w"]).flatten ++ (wordsOf newK rs).map V.str)) = H8 at c3 hN8 ⊢
      -- the old text
      refine ⟨_, rfl, by show 1 ≤ sizeLine; decide, fun A4 nA4 => ?_⟩
      have d1 := same_upd nA4 (o := .lst [.str "v"])
      have hO8 := c3 _ _ (a7 _ _ hO3)
      refine ⟨_, rfl, O, _, rfl, .inl (.inl (.inl (d1 _ _ hO8))), _, _, rfl, rfl, A4, (l : Int), [.str "v"], rfl, congrArg V.int el, upd_same, by omega, by omega, dec (by rw [Int.toNat_natCast]; show 1 * l ≤ 1000; omega), fun P4 nP4 => ?_⟩
      have d2 := d1.trans (same_upd nP4 (o := .lst (List.replicate (l : Int).toNat [V.str "v"]).flatten))
      refine ⟨O, P4, _, _, rfl, rfl, d2 _ _ hO8, upd_same, dec (by rw [Int.toNat_natCast, flat_rep, List.length_map, List.length_map, List.length_replicate]; omega), fun O2 nO2 => ?_⟩
      have d3 := d2.trans (same_upd nO2 (o := .lst ((wordsOf oldK rs).map V.str ++ (List.replicate (l : Int).toNat [V.str "v"]).flatten)))
      refine ⟨R2, O2, N2, _, fillR k l rs, rfl, s03.trans (a7.trans (c3.trans d3)), d3 _ _ (c3 _ _ hR7), hXf.same (c3.trans d3), ft.fill (by omega) (by omega) (by omega) (by omega) (by omega), ?_, d3 _ _ hN8⟩
      rw [upd_same, Int.toNat_natCast, flat_rep, fill_old, List.map_append]
    · obtain ⟨R, O, N, xs, rs, rfl, s5, hR, hX, ft, hO, hN⟩ := hM
      have t5 : Tb Ps H5 := ht.same s5
      have okO : ∀ a ∈ wordsOf oldK rs, PyData.strOk a = true := fun a ha => strOk_word (wordsOf_ok ft.ok a ha)
      have okN : ∀ a ∈ wordsOf newK rs, PyData.strOk a = true := fun a ha => strOk_word (wordsOf_ok ft.ok a ha)
      have lO := ft.old
      have lN := ft.new
      have lR := ft.len
      -- handed over
      refine ⟨_, rfl, R, _, rfl, .inl (.inl (.inl hR)), fun R' nR' => ?_⟩
      have e1 := same_upd nR' (o := .lst xs)
      refine ⟨_, rfl, O, _, rfl, .inl (.inl (.inl (e1 _ _ hO))), fun O' nO' => ⟨by show 2 ≤ sizeLine; decide, fun D nD => ?_⟩⟩
      have e2 := same_upd nO' (o := .lst ((wordsOf oldK rs).map V.str))
      have e3 := same_upd nD (o := .lst [.ref R', .ref O'])
      have e123 := e1.trans (e2.trans e3)
      have hR6 : (upd (upd (upd H5 R' (.lst xs)) O' (.lst ((wordsOf oldK rs).map V.str))) D (.lst [.ref R', .ref O'])) R' = some (.lst xs) := e3 _ _ (e2 _ _ upd_same)
      have hO6 : (upd (upd (upd H5 R' (.lst xs)) O' (.lst ((wordsOf oldK rs).map V.str))) D (.lst [.ref R', .ref O'])) O' = some (.lst ((wordsOf oldK rs).map V.str)) := e3 _ _ upd_same
      have hD6 : (upd (upd (upd H5 R' (.lst xs)) O' (.lst ((wordsOf oldK rs).map V.str))) D (.lst [.ref R', .ref O'])) D = some (.lst [.ref R', .ref O']) := upd_same
      generalize upd (upd (upd H5 R' (.lst xs)) O' (.lst ((wordsOf oldK rs).map V.str))) D (.lst [.ref R', .ref O']) = H6 at e123 hR6 hO6 hD6 ⊢
      have t6 := t5.same e123
      have hX6 := hX.same e123
      refine ⟨_, rfl, D, _, _, _, rfl, rfl, .inl (.inl hD6), at_of (j := 0) rfl rfl, _, rfl, D, _, _, _, rfl, rfl, .inl (.inl hD6), at_of (j := 1) rfl rfl, R', O', xs, rs, rfl, .inl (.inl hR6), hX6, ft, .inl (.inl hO6), t6, fun H7 F k7 nF hF => ?_⟩
      have k57 : Kp Ps H5 H7 := (Kp.same t5 e123).trans k7
      have R7 : SqL K H7 R xs := k57.seq t5 (.inl (.inl hR))
      have O7 : SqL K H7 O ((wordsOf oldK rs).map V.str) := k57.seq t5 (.inl (.inl hO))
      have N7 : SqL K H7 N ((wordsOf newK rs).map V.str) := k57.seq t5 (.inl (.inl hN))
      have R7' : SqL K H7 R' xs := k7.seq t6 (.inl (.inl hR6))
      have O7' : SqL K H7 O' ((wordsOf oldK rs).map V.str) := k7.seq t6 (.inl (.inl hO6))
      have D7 : SqL K H7 D [.ref R', .ref O'] := k7.seq t6 (.inl (.inl hD6))
      have X7 := hX.kp t5 k57
      refine ⟨_, rfl, _, rfl, F, N, _, rfl, .inl (.inl hF), N7, by omega, okN, fun H8 s8 => ⟨true, rfl, iteF ?_⟩⟩
      have sh := shaped_rows ft.ok
      have sw := shaped_words okO
      refine ⟨_, rfl, D, _, _, _, rfl, rfl, s8.seq D7, at_of (j := 0) rfl rfl, _, rfl, _, _, .lst (s8.seq R7') (dpRows (X7.same s8)), .lst (s8.seq R7) (dpRows (X7.same s8)), sh, sh, _, rfl, ?_⟩
      rw [SeqAt.eqv_refl _ (SeqAt.canLay_of_shaped sh)]
      refine iteF ⟨_, rfl, D, _, _, _, rfl, rfl, s8.seq D7, at_of (j := 1) rfl rfl, _, rfl, _, _, .lst (s8.seq O7') (dpStrs H8 K _), .lst (s8.seq O7) (dpStrs H8 K _), sw, sw, _, rfl, ?_⟩
      rw [SeqAt.eqv_refl _ (SeqAt.canLay_of_shaped sw)]
      have k58 : Kp Ps H5 H8 := k57.trans (Kp.same k57.1 s8)
      -- the way back
      refine iteF ⟨_, rfl, R, _, rfl, .inl (s8.seq R7), fun B nB => ?_⟩
      have e9 := same_upd nB (o := .lst xs)
      have k59 := k58.trans (Kp.same k58.1 e9)
      refine ⟨B, xs, rs, rfl, .inl (.inl upd_same), hX.kp t5 k59, ft.ok, by rw [hX.1]; omega, k59.1, fun H10 G ys k10 nG hG hZ => ?_⟩
      have k510 := k59.trans k10
      obtain ⟨ft2, w1, w2⟩ := ft.turn
      refine ⟨_, rfl, _, rfl, N, _, rfl, .inl (k510.seq t5 (.inl (.inl hN))), fun M nM => ?_⟩
      have e11 := same_upd nM (o := .lst ((wordsOf newK rs).map V.str))
      have k511 := k510.trans (Kp.same k510.1 e11)
      refine ⟨G, M, ys, rs.map turnR, rfl, .inl (.inl (e11 _ _ hG)), hZ.same e11, ft2, by rw [w1]; exact .inl (.inl upd_same), k511.1, fun H12 Z k12 nZ hZ2 => ?_⟩
      have k512 := k511.trans k12
      rw [w2] at hZ2
      exact ⟨_, rfl, Z, O, _, rfl, .inl (.inl hZ2), k512.seq t5 (.inl (.inl hO)), by omega, okO, fun H13 s13 => q H13⟩
end
/-! ### the head: facts by names, the run -/
def dd (x : Str) (i : Nat) : He.DefD := ⟨(x, none), x, x, defArgs (top i), defBody (top i), defScope (top i), [], []⟩
def fn : List He.DefD := [dd "is_sign" 9, dd "is_word" 10, dd "check_words" 11, dd "check_length" 12, dd "check_text" 13, dd "is_number" 21, dd "is_row_of_words" 22, dd "is_row" 23, dd "check_rows" 24, dd "words_of" 25, dd "blocks_of" 26, dd "check_fit" 27, dd "done" 28, dd "turned" 29, dd "_law_cell_at" 31, dd "_law_sign_by" 32, dd "_law_word_by" 33, dd "_law_near" 34, dd "_law_menu" 35, dd "_law_built_row" 36, dd "_law_built" 37, dd "_law_words_of" 38, dd "_law_alike" 39, dd "law" 40]
def fa : List He.Fa := [.glo "is_sign",
  .glo "is_word",
  .glo "check_words",
  .glo "check_length",
  .glo "check_text",
  .glo "is_number",
  .glo "is_row_of_words",
  .glo "is_row",
  .glo "check_rows",
  .glo "words_of",
  .glo "blocks_of",
  .glo "check_fit",
  .glo "done",
  .glo "turned",
  .glo "_law_cell_at",
  .glo "_law_sign_by",
  .glo "_law_word_by",
  .glo "_law_near",
  .glo "_law_menu",
  .glo "_law_built_row",
  .glo "_law_built",
  .glo "_law_words_of",
  .glo "_law_alike",
  .glo "law",
  .int "LONGEST" 40,
  .int "MOST" 120,
  .int "LAST_BLOCK" 999999999,
  .free "isinstance",
  .free "str",
  .free "len",
  .free "all",
  .free "list",
  .free "enumerate",
  .free "range",
  .free "tuple",
  .free "int",
  .free "bool",
  .free "reversed",
  .glo "PLAIN_KINDS",
  .glo "BLOCK_KINDS",
  .glo "OLD_KINDS",
  .glo "NEW_KINDS",
  .glo "WAY_BACK"]
def tf : List He.Defn := [("is_word", none), ("is_row_of_words", none)]
def ts : List He.Tab := [(fun K => He.ga K "WAY_BACK", ["keep", "cut", "put", "take", "lay"])]
def kv_WAY_BACK : List (Str × He.Dv) := [("keep", .str "keep"), ("cut", .str "put"), ("put", .str "cut"), ("take", .str "lay"), ("lay", .str "take")]
def ex (K : PySem.W.Frag) : Bool := tupB K (He.ga K "PLAIN_KINDS") plainK && tupB K (He.ga K "BLOCK_KINDS") blockK && tupB K (He.ga K "OLD_KINDS") oldK && tupB K (He.ga K "NEW_KINDS") newK && He.valsB K (He.ga K "WAY_BACK") kv_WAY_BACK
abbrev R : PySem.W.OpenRow := PySem.W.OpenLaw.row PySem.Challenge.rw_redraft_k04_a_telling_done
abbrev hk : PySem.W.Hook := He.hookX 4 fa fn ts tf ex
def ob (s : PySem.W.SharedT) : He.AlX := He.obsX 4 fa fn ts tf ex (HandSHeadRun.getT s)
theorem ob_eq (s : PySem.W.SharedT) : ob s = hk.obs s.abs := He.obsX_eq (HandSHeadRun.getT_eq s)
abbrev loose0 : List Str := ["RedraftError", "NoWord", "TooLong", "NoRow", "NoFit", "is_sign", "is_word", "check_words", "check_length", "check_text", "is_number", "is_row_of_words", "is_row", "check_rows", "words_of", "blocks_of", "check_fit", "done", "turned", "_law_cell_at", "_law_sign_by", "_law_word_by", "_law_near", "_law_menu", "_law_built_row", "_law_built", "_law_words_of", "_law_alike", "LONGEST", "MOST"]
abbrev loose1 : List Str := ["LAST_BLOCK", "PLAIN_KINDS", "BLOCK_KINDS", "OLD_KINDS", "NEW_KINDS", "WAY_BACK"]
abbrev loose : List Str := loose0 ++ loose1
theorem run (w : World) : HandSHeadRun.RunEq R (PySem.W.view R.prog [40]) hk ob 4000 loose w := by
  revert w
  exact PySem.W.byRow2 "special-get-raises" (fun w => by
    intro os
    kernel_rfl) (fun w => by
    intro os
    kernel_rfl)
theorem facts {w : World} {h : Heap} {K : PySem.W.Frag} {mg : Str → Option Value} {f : Addr} (X : K.In h) (G : h.Ns mainGlobals mg) (hfa : mg ("law" : Str) = some (.ref f)) (c : He.SaysX fa fn ts tf ex w h K) :
    LamX.LawAtS PySem.Challenge.rw_redraft_k04_a_telling_done w K (L2.CX PySem.Challenge.rw_redraft_k04_a_telling_done.prog w) 9 63 "_law_script" mg f h := by
  have d := c.t.d
  obtain ⟨d_is_sign, F_is_sign⟩ := d.def_ 0 (d := dd "is_sign" 9) rfl
  obtain ⟨d_is_word, F_is_word⟩ := d.def_ 1 (d := dd "is_word" 10) rfl
  obtain ⟨d_check_words, F_check_words⟩ := d.def_ 2 (d := dd "check_words" 11) rfl
  obtain ⟨d_check_length, F_check_length⟩ := d.def_ 3 (d := dd "check_length" 12) rfl
  obtain ⟨d_check_text, F_check_text⟩ := d.def_ 4 (d := dd "check_text" 13) rfl
  obtain ⟨d_is_number, F_is_number⟩ := d.def_ 5 (d := dd "is_number" 21) rfl
  obtain ⟨d_is_row_of_words, F_is_row_of_words⟩ := d.def_ 6 (d := dd "is_row_of_words" 22) rfl
  obtain ⟨d_is_row, F_is_row⟩ := d.def_ 7 (d := dd "is_row" 23) rfl
  obtain ⟨d_check_rows, F_check_rows⟩ := d.def_ 8 (d := dd "check_rows" 24) rfl
  obtain ⟨d_words_of, F_words_of⟩ := d.def_ 9 (d := dd "words_of" 25) rfl
  obtain ⟨d_blocks_of, F_blocks_of⟩ := d.def_ 10 (d := dd "blocks_of" 26) rfl
  obtain ⟨d_check_fit, F_check_fit⟩ := d.def_ 11 (d := dd "check_fit" 27) rfl
  obtain ⟨d_done, F_done⟩ := d.def_ 12 (d := dd "done" 28) rfl
  obtain ⟨d_turned, F_turned⟩ := d.def_ 13 (d := dd "turned" 29) rfl
  obtain ⟨d__law_cell_at, F__law_cell_at⟩ := d.def_ 14 (d := dd "_law_cell_at" 31) rfl
  obtain ⟨d__law_sign_by, F__law_sign_by⟩ := d.def_ 15 (d := dd "_law_sign_by" 32) rfl
  obtain ⟨d__law_word_by, F__law_word_by⟩ := d.def_ 16 (d := dd "_law_word_by" 33) rfl
  obtain ⟨d__law_near, F__law_near⟩ := d.def_ 17 (d := dd "_law_near" 34) rfl
  obtain ⟨d__law_menu, F__law_menu⟩ := d.def_ 18 (d := dd "_law_menu" 35) rfl
  obtain ⟨d__law_built_row, F__law_built_row⟩ := d.def_ 19 (d := dd "_law_built_row" 36) rfl
  obtain ⟨d__law_built, F__law_built⟩ := d.def_ 20 (d := dd "_law_built" 37) rfl
  obtain ⟨d__law_words_of, F__law_words_of⟩ := d.def_ 21 (d := dd "_law_words_of" 38) rfl
  obtain ⟨d__law_alike, F__law_alike⟩ := d.def_ 22 (d := dd "_law_alike" 39) rfl
  obtain ⟨d_law, F_law⟩ := d.def_ 23 (d := dd "law" 40) rfl
  have e := hfa.symm.trans (He.glo_ok X G (d.fact 23 (f := .glo "law") rfl))
  cases e
  have g_is_sign := He.glo_ok X G (d.fact 0 (f := .glo "is_sign") rfl)
  have g_is_word := He.glo_ok X G (d.fact 1 (f := .glo "is_word") rfl)
  have g_check_words := He.glo_ok X G (d.fact 2 (f := .glo "check_words") rfl)
  have g_check_length := He.glo_ok X G (d.fact 3 (f := .glo "check_length") rfl)
  have g_check_text := He.glo_ok X G (d.fact 4 (f := .glo "check_text") rfl)
  have g_is_number := He.glo_ok X G (d.fact 5 (f := .glo "is_number") rfl)
  have g_is_row_of_words := He.glo_ok X G (d.fact 6 (f := .glo "is_row_of_words") rfl)
  have g_is_row := He.glo_ok X G (d.fact 7 (f := .glo "is_row") rfl)
  have g_check_rows := He.glo_ok X G (d.fact 8 (f := .glo "check_rows") rfl)
  have g_words_of := He.glo_ok X G (d.fact 9 (f := .glo "words_of") rfl)
  have g_blocks_of := He.glo_ok X G (d.fact 10 (f := .glo "blocks_of") rfl)
  have g_check_fit := He.glo_ok X G (d.fact 11 (f := .glo "check_fit") rfl)
  have g_done := He.glo_ok X G (d.fact 12 (f := .glo "done") rfl)
  have g_turned := He.glo_ok X G (d.fact 13 (f := .glo "turned") rfl)
  have g__law_cell_at := He.glo_ok X G (d.fact 14 (f := .glo "_law_cell_at") rfl)
  have g__law_sign_by := He.glo_ok X G (d.fact 15 (f := .glo "_law_sign_by") rfl)
  have g__law_word_by := He.glo_ok X G (d.fact 16 (f := .glo "_law_word_by") rfl)
  have g__law_near := He.glo_ok X G (d.fact 17 (f := .glo "_law_near") rfl)
  have g__law_menu := He.glo_ok X G (d.fact 18 (f := .glo "_law_menu") rfl)
  have g__law_built_row := He.glo_ok X G (d.fact 19 (f := .glo "_law_built_row") rfl)
  have g__law_built := He.glo_ok X G (d.fact 20 (f := .glo "_law_built") rfl)
  have g__law_words_of := He.glo_ok X G (d.fact 21 (f := .glo "_law_words_of") rfl)
  have g__law_alike := He.glo_ok X G (d.fact 22 (f := .glo "_law_alike") rfl)
  obtain ⟨t_LONGEST, m_LONGEST⟩ := He.int_ok X G (d.fact 24 (f := .int "LONGEST" 40) rfl)
  obtain ⟨t_MOST, m_MOST⟩ := He.int_ok X G (d.fact 25 (f := .int "MOST" 120) rfl)
  obtain ⟨t_LAST_BLOCK, m_LAST_BLOCK⟩ := He.int_ok X G (d.fact 26 (f := .int "LAST_BLOCK" 999999999) rfl)
  have m_isinstance := He.free_ok X G (d.fact 27 (f := .free "isinstance") rfl)
  have m_str := He.free_ok X G (d.fact 28 (f := .free "str") rfl)
  have m_len := He.free_ok X G (d.fact 29 (f := .free "len") rfl)
  have m_all := He.free_ok X G (d.fact 30 (f := .free "all") rfl)
  have m_list := He.free_ok X G (d.fact 31 (f := .free "list") rfl)
  have m_enumerate := He.free_ok X G (d.fact 32 (f := .free "enumerate") rfl)
  have m_range := He.free_ok X G (d.fact 33 (f := .free "range") rfl)
  have m_tuple := He.free_ok X G (d.fact 34 (f := .free "tuple") rfl)
  have m_int := He.free_ok X G (d.fact 35 (f := .free "int") rfl)
  have m_bool := He.free_ok X G (d.fact 36 (f := .free "bool") rfl)
  have m_reversed := He.free_ok X G (d.fact 37 (f := .free "reversed") rfl)
  have m_PLAIN_KINDS := He.glo_ok X G (d.fact 38 (f := .glo "PLAIN_KINDS") rfl)
  have m_BLOCK_KINDS := He.glo_ok X G (d.fact 39 (f := .glo "BLOCK_KINDS") rfl)
  have m_OLD_KINDS := He.glo_ok X G (d.fact 40 (f := .glo "OLD_KINDS") rfl)
  have m_NEW_KINDS := He.glo_ok X G (d.fact 41 (f := .glo "NEW_KINDS") rfl)
  have m_WAY_BACK := He.glo_ok X G (d.fact 42 (f := .glo "WAY_BACK") rfl)
  have more := c.more
  unfold ex at more
  simp only [Bool.and_eq_true] at more
  obtain ⟨⟨⟨⟨x_PLAIN_KINDS, x_BLOCK_KINDS⟩, x_OLD_KINDS⟩, x_NEW_KINDS⟩, y_WAY_BACK⟩ := more
  have k_PLAIN_KINDS := tupB_ok x_PLAIN_KINDS
  have k_BLOCK_KINDS := tupB_ok x_BLOCK_KINDS
  have k_OLD_KINDS := tupB_ok x_OLD_KINDS
  have k_NEW_KINDS := tupB_ok x_NEW_KINDS
  obtain ⟨es_WAY_BACK, n_WAY_BACK, D_WAY_BACK⟩ := c.t.tab 0 (t := (fun K => He.ga K "WAY_BACK", ["keep", "cut", "put", "take", "lay"])) rfl
  have k_WAY_BACK : ∀ q ∈ kv_WAY_BACK, KDct K w (He.ga K "WAY_BACK") q.1 (He.Dv.v K q.2) := fun q hq => by
    obtain ⟨u, h1, h2⟩ := He.valsB_ok y_WAY_BACK hq
    exact ⟨es_WAY_BACK, n_WAY_BACK, u, D_WAY_BACK.at_, D_WAY_BACK.lit, h1, h2⟩
  have b_is_sign : Binds K d_is_sign ["sign"] [] := F_is_sign.bindsN fun _ _ _ _ _ _ us hl => match us, hl with | [_], _ => rfl
  have b_is_word : Binds K d_is_word ["word"] [] := F_is_word.bindsN fun _ _ _ _ _ _ us hl => match us, hl with | [_], _ => rfl
  have b_check_words : Binds K d_check_words ["words"] [] := F_check_words.bindsN fun _ _ _ _ _ _ us hl => match us, hl with | [_], _ => rfl
  have b_check_length : Binds K d_check_length ["words"] [] := F_check_length.bindsN fun _ _ _ _ _ _ us hl => match us, hl with | [_], _ => rfl
  have b_check_text : Binds K d_check_text ["words"] [] := F_check_text.bindsN fun _ _ _ _ _ _ us hl => match us, hl with | [_], _ => rfl
  have b_is_number : Binds K d_is_number ["kind", "number"] [] := F_is_number.bindsN fun _ _ _ _ _ _ us hl => match us, hl with | [_, _], _ => rfl
  have b_is_row_of_words : Binds K d_is_row_of_words ["words"] [] := F_is_row_of_words.bindsN fun _ _ _ _ _ _ us hl => match us, hl with | [_], _ => rfl
  have b_is_row : Binds K d_is_row ["row"] [] := F_is_row.bindsN fun _ _ _ _ _ _ us hl => match us, hl with | [_], _ => rfl
  have b_check_rows : Binds K d_check_rows ["rows"] [] := F_check_rows.bindsN fun _ _ _ _ _ _ us hl => match us, hl with | [_], _ => rfl
  have b_words_of : Binds K d_words_of ["rows", "kinds"] [] := F_words_of.bindsN fun _ _ _ _ _ _ us hl => match us, hl with | [_, _], _ => rfl
  have b_blocks_of : Binds K d_blocks_of ["rows", "block_kind"] [] := F_blocks_of.bindsN fun _ _ _ _ _ _ us hl => match us, hl with | [_, _], _ => rfl
  have b_check_fit : Binds K d_check_fit ["rows", "old"] [] := F_check_fit.bindsN fun _ _ _ _ _ _ us hl => match us, hl with | [_, _], _ => rfl
  have b_done : Binds K d_done ["rows", "old"] [] := F_done.bindsN fun _ _ _ _ _ _ us hl => match us, hl with | [_, _], _ => rfl
  have b_turned : Binds K d_turned ["rows"] [] := F_turned.bindsN fun _ _ _ _ _ _ us hl => match us, hl with | [_], _ => rfl
  have b__law_cell_at : Binds K d__law_cell_at ["_law_script", "_law_k"] [] := F__law_cell_at.bindsN fun _ _ _ _ _ _ us hl => match us, hl with | [_, _], _ => rfl
  have b__law_sign_by : Binds K d__law_sign_by ["_law_cell"] [] := F__law_sign_by.bindsN fun _ _ _ _ _ _ us hl => match us, hl with | [_], _ => rfl
  have b__law_word_by : Binds K d__law_word_by ["_law_cell"] [] := F__law_word_by.bindsN fun _ _ _ _ _ _ us hl => match us, hl with | [_], _ => rfl
  have b__law_near : Binds K d__law_near ["_law_word", "_law_cell"] [] := F__law_near.bindsN fun _ _ _ _ _ _ us hl => match us, hl with | [_, _], _ => rfl
  have b__law_menu : Binds K d__law_menu ["_law_script"] [] := F__law_menu.bindsN fun _ _ _ _ _ _ us hl => match us, hl with | [_], _ => rfl
  have b__law_built_row : Binds K d__law_built_row ["_law_menu_here", "_law_cell", "_law_rows", "_law_waiting"] [] := F__law_built_row.bindsN fun _ _ _ _ _ _ us hl => match us, hl with | [_, _, _, _], _ => rfl
  have b__law_built : Binds K d__law_built ["_law_script", "_law_many"] [] := F__law_built.bindsN fun _ _ _ _ _ _ us hl => match us, hl with | [_, _], _ => rfl
  have b__law_words_of : Binds K d__law_words_of ["_law_rows", "_law_kinds"] [] := F__law_words_of.bindsN fun _ _ _ _ _ _ us hl => match us, hl with | [_, _], _ => rfl
  have b__law_alike : Binds K d__law_alike ["_law_found", "_law_due"] [] := F__law_alike.bindsN fun _ _ _ _ _ _ us hl => match us, hl with | [_, _], _ => rfl
  have bL := FunD.bindsA (ps := ["_law_script"]) F_law fun _ _ _ _ _ _ us hl => match us, hl with | [_], _ => rfl
  have TT : ∀ q ∈ tf, (He.cT K q).2 ∈ tf.map fun q => (He.cT K q).2 := fun q hq => List.mem_map_of_mem (f := fun q => (He.cT K q).2) hq
  refine ⟨d_law, tf.map (He.cT K), spLaw K (tf.map fun q => (He.cT K q).2), fun p hp => ?_, fun p hp => ?_, fun p hp => ?_, fun s u => bL s [u] rfl, fun H a ns hl _ hT hS => ⟨a, ns, rfl, hS, fun P hP => ?_, fun _ => rfl⟩, fun base KB GB TBs => ?_⟩
  · obtain ⟨q, hq, rfl⟩ := List.mem_map.mp hp
    exact c.empty q hq
  · obtain ⟨q, hq, rfl⟩ := List.mem_map.mp hp
    exact c.out q hq
  · obtain ⟨q, hq, rfl⟩ := List.mem_map.mp hp
    exact PySem.W.codeHd_of_K X (c.hd q hq)
  · obtain ⟨q, hq, rfl⟩ := List.mem_map.mp hP
    exact ⟨#[], hT _ (List.mem_map_of_mem hq), trivial⟩
  · have TB : ∀ q ∈ tf, GxR.TabB base mg (He.codeOf K q) (He.cT K q).2 := fun q hq => by
      have tb := TBs _ (List.mem_map_of_mem (f := He.cT K) hq)
      exact ⟨tb.code, tb.bm, tb.gP⟩
    have q_is_word : (("is_word", none) : He.Defn) ∈ tf := by unfold tf; simp
    have q_is_row_of_words : (("is_row_of_words", none) : He.Defn) ∈ tf := by unfold tf; simp
    have kWB : ∀ k ∈ plainK ++ blockK, KDct K w (He.ga K "WAY_BACK") k (.str (wayB k)) := fun k hk => by
      have key : ∀ k ∈ plainK ++ blockK, (k, He.Dv.str (wayB k)) ∈ kv_WAY_BACK := by
        intro k hk
        have hk : k ∈ (["keep", "cut", "put", "take", "lay"] : List Str) := hk
        unfold kv_WAY_BACK
        simp only [List.mem_cons, List.not_mem_nil, or_false] at hk
        rcases hk with rfl | rfl | rfl | rfl | rfl
        · exact .head _
        · exact .tail _ (.head _)
        · exact .tail _ (.tail _ (.head _))
        · exact .tail _ (.tail _ (.tail _ (.head _)))
        · exact .tail _ (.tail _ (.tail _ (.tail _ (.head _))))
      exact k_WAY_BACK _ (key k hk)
    have GW := ok_is_word (P := PySem.Challenge.rw_redraft_k04_a_telling_done.prog) (w := w) (mg := mg) (base := base) F_is_word rfl (TT _ q_is_word) (TB _ q_is_word) F_is_sign b_is_sign g_is_sign m_isinstance m_str m_len m_all m_LONGEST
    have GCW := ok_check_words F_check_words GW F_is_word.kp b_is_word g_is_word m_isinstance m_list m_enumerate
    have GCL := ok_check_length (P := PySem.Challenge.rw_redraft_k04_a_telling_done.prog) (w := w) (mg := mg) (base := base) F_check_length m_len m_MOST
    have GCT := ok_check_text F_check_text GCW F_check_words.kp b_check_words g_check_words GCL F_check_length.kp b_check_length g_check_length
    have GN := ok_is_number (P := PySem.Challenge.rw_redraft_k04_a_telling_done.prog) (w := w) (mg := mg) (base := base) F_is_number m_isinstance m_int m_bool m_BLOCK_KINDS k_BLOCK_KINDS m_LAST_BLOCK
    have GRW := ok_row_words F_is_row_of_words rfl (TT _ q_is_row_of_words) (TB _ q_is_row_of_words) GW F_is_word.kp b_is_word g_is_word m_isinstance m_tuple m_len m_all
    have GR := ok_is_row F_is_row GN F_is_number.kp b_is_number g_is_number GRW F_is_row_of_words.kp b_is_row_of_words g_is_row_of_words m_isinstance m_tuple m_len m_PLAIN_KINDS k_PLAIN_KINDS m_BLOCK_KINDS k_BLOCK_KINDS
    have GC := ok_check_rows F_check_rows GR F_is_row.kp b_is_row g_is_row m_isinstance m_list m_enumerate
    have GU := ok_turned F_turned GC F_check_rows.kp b_check_rows g_check_rows m_WAY_BACK kWB
    have GWO := ok_words_of (P := PySem.Challenge.rw_redraft_k04_a_telling_done.prog) (w := w) (mg := mg) (base := base) F_words_of
    have GBO := ok_blocks_of (P := PySem.Challenge.rw_redraft_k04_a_telling_done.prog) (w := w) (mg := mg) (base := base) F_blocks_of
    have GF := ok_check_fit F_check_fit GWO F_words_of.kp b_words_of g_words_of GBO F_blocks_of.kp b_blocks_of g_blocks_of m_OLD_KINDS k_OLD_KINDS
    have GD := ok_done F_done GC F_check_rows.kp b_check_rows g_check_rows GCT F_check_text.kp b_check_text g_check_text GF F_check_fit.kp b_check_fit g_check_fit GWO F_words_of.kp b_words_of g_words_of GCL F_check_length.kp b_check_length g_check_length m_NEW_KINDS k_NEW_KINDS
    have GS := ok_sign_by (P := PySem.Challenge.rw_redraft_k04_a_telling_done.prog) (w := w) (mg := mg) (base := base) F__law_sign_by
    have GWB := ok_word_by (P := PySem.Challenge.rw_redraft_k04_a_telling_done.prog) (w := w) (mg := mg) (base := base) F__law_word_by F__law_sign_by b__law_sign_by g__law_sign_by m_range
    have GNe := ok_near F__law_near GS F__law_sign_by.kp b__law_sign_by g__law_sign_by m_len m_list m_reversed
    have GM := ok_menu F__law_menu (ok_cell_at F__law_cell_at m_len) F__law_cell_at.kp b__law_cell_at g__law_cell_at GWB F__law_word_by.kp b__law_word_by g__law_word_by GNe F__law_near.kp b__law_near g__law_near m_range
    have GBR := ok_built_row (P := PySem.Challenge.rw_redraft_k04_a_telling_done.prog) (w := w) (mg := mg) (base := base) F__law_built_row m_tuple m_range m_len
    have GB := ok_built F__law_built GM F__law_menu.kp b__law_menu g__law_menu GBR F__law_built_row.kp b__law_built_row g__law_built_row
    have GLW := ok_law_words_of (P := PySem.Challenge.rw_redraft_k04_a_telling_done.prog) (w := w) (mg := mg) (base := base) F__law_words_of m_list
    have GA := ok_alike (P := PySem.Challenge.rw_redraft_k04_a_telling_done.prog) (w := w) (mg := mg) (base := base) F__law_alike m_isinstance m_str m_list m_len m_all
    exact ok_law F_law (ok_cell_at F__law_cell_at m_len) F__law_cell_at.kp b__law_cell_at g__law_cell_at GB F__law_built.kp b__law_built g__law_built GLW F__law_words_of.kp b__law_words_of g__law_words_of GA F__law_alike.kp b__law_alike g__law_alike GD F_done.kp b_done g_done GU F_turned.kp b_turned g_turned m_list m_len
end Rd
open PySem PySem.W PySem.Calls PyProof.Rows
set_option maxHeartbeats 0 in
theorem PySem.Challenge.cw_redraft_k04_a_telling_done_holds : PySem.Challenge.rw_redraft_k04_a_telling_done.Holds := by
  w_on; o_law
  refine HandSHeadRun.head_any (r := OpenLaw.row PySem.Challenge.rw_redraft_k04_a_telling_done) (q := view (OpenLaw.row PySem.Challenge.rw_redraft_k04_a_telling_done).prog [40]) (H := Rd.hk) (ob := Rd.ob) (M := 4000) (loose := Rd.loose) (d := HandSHeadRun.topDef (OpenLaw.row PySem.Challenge.rw_redraft_k04_a_telling_done).prog 40) (kwd := []) Rd.ob_eq
    (by kernel_rfl) (fun s => by kernel_rfl) Rd.run (by kernel_rfl) (by kernel_rfl) (by kernel_rfl) (by rfl) (by first | assumption | decide +kernel) (by decide +kernel) ⟨rfl, rfl, rfl, rfl, rfl, by decide +kernel⟩ ?hw ?hc
  case hw => w_witness2
  case hc =>
    refine LamX.walk_ofTsE (l := PySem.Challenge.rw_redraft_k04_a_telling_done) (n := 63) (k := 9) (x := "_law_script") (CX := fun w => L2.CX PySem.Challenge.rw_redraft_k04_a_telling_done.prog w) rfl (by decide) (by kernel_rfl) ⟨rfl, by decide, by decide⟩ ?F fun w H s e s' z => ?z
    case z =>
      obtain ⟨_, _, _, _, _, _, _, _, _, _, _, _, z⟩ := z
      exact z
    case F =>
      intro w mg fa h Y G hmg0
      obtain ⟨K, KX, c⟩ := Y
      have hmg : mg ("law" : PySem.Str) = some (.ref fa) := by
        have e : (HandSHeadRun.topDef (OpenLaw.row PySem.Challenge.rw_redraft_k04_a_telling_done).prog 40).name = ("law" : PySem.Str) := by kernel_rfl
        rw [← e]
        exact hmg0
      exact ⟨K, KX, Rd.facts KX G hmg c⟩

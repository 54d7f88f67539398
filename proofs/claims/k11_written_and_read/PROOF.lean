import PyProof.Rows.All
import Wide.All
import OpenK.AllK
import Wide.FinOn
import HandS.ForMost
import HandS.ForExc
import HandS.AnyAll
import HandS.GenOver
import HandS.GenList
import HandS.More
import HandS.Defaults
import HandS.HeadHook4
import HandS.IsInst
import HandS.Iter
import HandS.Text
import HandS.Rev
import HandS.RevTup
import HandS.Deep
import HandS.List
import HandS.Head0
import HandS.Head1
import HandS.Head2
import HandS.HeadEnd
import HandS.HeadHook1
import HandS.HeadHook2
import HandS.HeadHook3
import HandS.HeadWalk
import HandS.LawCells
import HandS.Codes
import HandS.TupMul
import HandS.FStr
import HandS.RaiseMore
import HandS.Star
import HandS.StrMore
import PySem.Challenge.RW_redraft_k11_written_and_read
set_option Elab.async false
set_option linter.all false
set_option maxRecDepth 100000
set_option maxHeartbeats 4000000
/-! all(elt for x in iter if ..), any(..): the element any expression that the layer reads (calls of defs, too), the walked thing any that the layer walks -/
namespace Rd
open PySem PySem.Spec PyProof.Rows L2 GxR

/-- the frame of a generator expression of X, made at s -/
abbrev gcx (X : Cx) (s : Shared) (H : Hp) (sc : Scope) (ce : Env) (fp : List Addr) (a : Addr) (o : Obj) (B : Around) : Cx :=
  { X with A := B, s_0 := s, H_0 := H, env := ce, outer := X.stack, stack := ce :: X.stack, ex := fp, fn := fun x => sc.names.lookup x == some .cell, calm := true, pn := [(a, o)], xe := fun _ _ => False }

theorem not_in_frs {X : Cx} {pins : List (Addr × Obj)} {σ : L2.St} {H : Hp} {s : Shared} (I : Inv X pins σ H s) {b : Addr} (hb : s.heap.objs.size ≤ b) : b ∉ frs X.stack := fun hm => by
  obtain ⟨_, o, ho, _⟩ := I.stack.mem hm
  exact Nat.lt_irrefl _ (Nat.lt_of_lt_of_le (Heap.lt_size ho) hb)

theorem gen_start {X : Cx} {pins : List (Addr × Obj)} {σ : L2.St} {H : Hp} {s s' : Shared} {sc : Scope} {own : List (Str × Nat)} {fp : List Addr} {ce : Env} {a : Addr} {o : Obj} {B : Around}
    (I : Inv X pins σ H s) (ok : BlkOk X.N X.env.scope sc own) (nc : ∀ y ∈ sc.names, y.2 ≠ .cell) (hN : X.N.Nodup) (hfp : ∀ b ∈ fp, FpOk X pins H b ∧ b < s.heap.objs.size)
    (e1 : ce.scope = sc) (e2 : ce.locals = s.heap.objs.size) (e3 : ce.globals = X.env.globals) (e4 : ce.builtins = builtinsNs) (e5 : ce.cells = cloFrom X.env.cells sc.names []) (e6 : ce.frame = some s.heap.objs.size)
    (hB : B.frames = some (ce :: X.stack)) (hh : B.handled = none)
    (os : s'.os = s.os) (gb : AllBare s'.gens) (kp : ∀ b u, s.heap.get? b = some u → s'.heap.get? b = some u) (ns : ∃ m, s'.heap.Ns s.heap.objs.size m) (ha : s'.heap.get? a = some o) (hlt : s.heap.objs.size < a) (hod : ∀ v, o.data ≠ .cell v) :
    Inv (gcx X s H sc ce fp a o B) [] (wipe σ (own.map (·.2))) H s' := by
  have nocell : ∀ y, sc.names.lookup y ≠ some .cell := fun y z => nc _ (PySem.mem_of_lookup z) rfl
  have clo : ∀ {y c}, ce.cells.lookup y = some c → X.env.cells.lookup y = some c ∧ c < s.heap.objs.size := fun {y c} e => by
    rw [e5] at e
    rcases cloFrom_mem (PySem.mem_of_lookup e) with hm | ⟨hy, rfl⟩
    · cases hm
    · have h1 : ∃ c, X.env.cells.lookup y = some c := by
        rcases ok.free _ hy rfl with k | k
        · exact I.ok.has _ (.inl k)
        · exact I.ok.has _ (.inr k)
      obtain ⟨c1, h2⟩ := h1
      rw [h2]
      obtain ⟨v, z⟩ := I.cell _ _ h2
      exact ⟨rfl, z.lt⟩
  have has : ∀ {y}, sc.names.lookup y = some .free → ∃ c, ce.cells.lookup y = some c := fun {y} hy => by
    obtain ⟨c, hc⟩ := mem_lookup (cloFrom_has (cells := X.env.cells) (acc := []) (PySem.mem_of_lookup hy))
    exact ⟨c, by rw [e5]; exact hc⟩
  have okB : (gcx X s H sc ce fp a o B).Ok := by
    refine ⟨I.ok.mod, ?_, ?_, e4, ?_, fun y z c h1 h2 => I.ok.inj y z c (clo h1).1 (clo h2).1, fun y hy => ?_, fun y c z _ => ?_, fun _ => hh, hB, .inr ⟨rfl, ?_⟩, fun b hb => ⟨?_, fun y c e z => ?_⟩, I.bs, Nat.le_trans I.ok.bsz I.sz, fun b u e hb => ?_, fun b hb z => ?_, I.stack, I.stkFree⟩
    · show ce.scope.kind = _
      rw [e1]
      exact ok.kind
    · show ce.globals = _
      rw [e3]
      exact I.ok.glob
    · show s.heap.objs.size ≤ ce.locals
      rw [e2]
      exact Nat.le_refl _
    · show ∃ c, ce.cells.lookup y = some c
      rcases hy with hy | hy
      · have hy : ce.scope.names.lookup y = some .cell := hy
        rw [e1] at hy
        exact absurd hy (nocell y)
      · have hy : ce.scope.names.lookup y = some .free := hy
        rw [e1] at hy
        exact has hy
    · have z : (sc.names.lookup y == some NameKind.cell) = true := z
      exact absurd (by simpa using z) (nocell y)
    · show ce.frame = some ce.locals
      rw [e6, e2]
    · show b ≠ ce.locals
      rw [e2]
      exact Nat.ne_of_lt (hfp b hb).2
    · exact (hfp b hb).1.2.2.2.2.1 y c (clo e).1 z
    · rcases (hfp b hb).1.2.2.2.1 with z | z
      · exact I.ok.noex b u e z
      · exact absurd (Nat.lt_of_lt_of_le (Heap.lt_size e) (Nat.le_trans I.ok.bsz z)) (Nat.lt_irrefl _)
    · rcases List.mem_cons.mp (I.stkSub b z) with z | z
      · exact (hfp b hb).1.2.1 z
      · exact (hfp b hb).1.2.2.1 z
  obtain ⟨m1, hm1⟩ := ns
  refine ⟨okB, os, gb, Un.kept kp, ⟨m1, ?_, fun i y av q1 q2 q3 => ?_⟩, fun y c e => ?_, ?_, fun y c e => I.freeC y c (clo e).1, fun p hp => ?_, I.hok.kept kp, by rw [wipe_length]; exact I.len⟩
  · show Heap.Ns _ ce.locals _
    rw [e2]
    exact hm1
  · obtain ⟨q2, hne⟩ := wipe_some q2
    have q3 : Vis ce.scope y := q3
    rw [e1] at q3
    have q1 : X.N[i]? = some y := q1
    have no : ∀ k, sc.names.lookup y = some k → k = .local ∨ k = .cell → False := fun k e hk => by
      rcases ok.own _ (PySem.mem_of_lookup e) hk with z | z
      · obtain ⟨p, hp, hpy⟩ := List.mem_map.mp z
        have z2 := ok.ix p hp
        have hpy : p.1 = y := hpy
        rw [hpy] at z2
        exact hne (List.mem_map.mpr ⟨p, hp, nodup_ix hN z2 q1⟩)
      · exact z (List.mem_of_getElem? q1)
    have hf : sc.names.lookup y = some .free := by
      rcases q3 with z | z | z
      · exact (no _ z (.inl rfl)).elim
      · exact (no _ z (.inr rfl)).elim
      · exact z
    obtain ⟨m, hn, hl⟩ := I.loc
    have hk := ok.free _ (PySem.mem_of_lookup hf) rfl
    obtain ⟨u, r, q⟩ := hl i y av q1 q2 (hk.elim (fun k => .inr (.inl k)) fun k => .inr (.inr k))
    refine ⟨u, r, .inr ⟨.inr ?_, ?_⟩⟩
    · show ce.scope.names.lookup y = some .free
      rw [e1]
      exact hf
    · obtain ⟨c, hc⟩ := has hf
      rcases q with ⟨k, _⟩ | ⟨_, c', e', z⟩
      · have k : X.env.scope.names.lookup y = some .local := k
        rcases hk with hk | hk <;> rw [show X.env.scope.names.lookup y = _ from hk] at k <;> cases k
      · have hc' := (clo hc).1
        rw [hc'] at e'
        cases e'
        exact ⟨c, hc, z.keeps kp⟩
  · obtain ⟨v, z⟩ := I.cell y c (clo e).1
    exact ⟨v, z.keeps kp⟩
  · show H ce.locals = none
    rw [e2]
    exact I.hok.fresh (Nat.le_refl _)
  · have hp : p = (a, o) := by simpa using hp
    subst hp
    refine ⟨ha, I.hok.fresh (Nat.le_of_lt hlt), ?_, not_in_frs I (Nat.le_of_lt hlt), hod⟩
    show a ≠ ce.locals
    rw [e2]
    exact Nat.ne_of_gt hlt

theorem inv_gens {X : Cx} {pins : List (Addr × Obj)} {σ : L2.St} {H : Hp} {s : Shared} {G : Array GenState} (I : Inv X pins σ H s) (hG : AllBare G) : Inv X pins σ H { s with gens := G } :=
  ⟨I.ok, I.os, hG, I.base, I.loc, I.cell, I.free, I.freeC, I.pin, I.hok, I.len⟩

/-- the reading: J what is walked, k the answer that goes on (True for all, False for any) -/
def tGen (k : Bool) (P : Addr) (wi : TI) (g : TG) (tt : TT) (te : TE) (vs : List Nat) : TE := fun σ H Q => wi σ H fun J H1 => TabG H1 P ∧ ∀ H2, Tabbed P H1 H2 →
  ∃ W : Nat → Nat → Hp → Prop, (∃ m, W 0 m H2) ∧ ∀ i m H, W i m H →
    (J.stop i H ∧ Q (.bl k) H) ∨ (J.go i H ∧ ∃ Nx : Hp → Prop, (∀ H', Nx H' → ∃ m', m' < m ∧ W (i + 1) m' H') ∧ ∀ x H', J.yld i H x H' → g x (wipe σ vs) H' fun σ2 H2 => wipe σ2 vs = wipe σ vs ∧ tt σ2 H2 fun b H3 =>
      if b = true then te σ2 H3 fun y H4 => ∃ c, y = .bl c ∧ (c = k → Nx H4) ∧ (c = (!k) → Q (.bl (!k)) H4) else Nx H3)

/-- the answer is known -/
def Fin (X : Cx) (pins : List (Addr × Obj)) (σ : L2.St) (Q : VK) (b : Bool) (s : Shared) : Prop := ∃ H, Inv X pins σ H s ∧ Q (.bl b) H
theorem Fin.gens {X : Cx} {pins : List (Addr × Obj)} {σ : L2.St} {Q : VK} {b : Bool} {s : Shared} {G : Array GenState} (h : Fin X pins σ Q b s) (hG : AllBare G) : Fin X pins σ Q b { s with gens := G } :=
  let ⟨H, I, q⟩ := h; ⟨H, inv_gens I hG, q⟩
theorem Fin.kept {X : Cx} {pins : List (Addr × Obj)} {σ : L2.St} {Q : VK} {b : Bool} {s : Shared} {h' : Heap} (h : Fin X pins σ Q b s) (k : ∀ c u, s.heap.get? c = some u → h'.get? c = some u) : Fin X pins σ Q b { s with heap := h' } :=
  let ⟨H, I, q⟩ := h; ⟨H, I.kept (t' := s.toks) k, q⟩
/-- the generator's end -/
abbrev GR1 (X : Cx) (pins : List (Addr × Obj)) (σ : L2.St) (Q : VK) (k : Bool) : GenEnd := fun _ _ r s => r = .ok .next ∧ (AllBare s.gens ∧ Fin X pins σ Q k s)
/-- an item comes out -/
abbrev GY1 (X : Cx) (pins : List (Addr × Obj)) (σ : L2.St) (Q : VK) (k : Bool) (a : Addr) (g : Nat) : Protocol := fun _ _ v s kap =>
  ∃ b, v = .bool b ∧ s.heap.IsGen a g ∧ s.heap.NoLimit ∧ AllBare s.gens ∧ (b = (!k) → Fin X pins σ Q (!k) s) ∧ (b = k → ∀ G, AllBare G → kap (.send .none) { s with gens := G })
/-- a generator that is to be asked -/
def Live (X : Cx) (pins : List (Addr × Obj)) (σ : L2.St) (Q : VK) (k : Bool) (a : Addr) (g n : Nat) (s : Shared) : Prop :=
  s.heap.IsGen a g ∧ s.heap.NoLimit ∧ AllBare s.gens ∧ ∃ gs, s.gens[g]? = some gs ∧ gs.Goes (model X.prog X.w) X.A.in1.in1 (GR1 X pins σ Q k) (GY1 X pins σ Q k a g) n (.send .none) (s.setGen g .running)

section
variable {X : Cx} {pins : List (Addr × Obj)} {σ : L2.St} {Q : VK} {a : Addr} {g : Nat}
/-- what a step of the consumer finds -/
theorem next_live {k : Bool} {n : Nat} {s : Shared} {Q' : Option Value → Shared → Prop} {E : Value → Shared → Prop} (hh : X.A.handled = none) (hd : X.A.depth < recursionLimit) (h : Live X pins σ Q k a g n s)
    (hy : ∀ (b : Bool) (s' : Shared), (b = (!k) → Fin X pins σ Q (!k) s') → (b = k → ∃ m, m < n ∧ Live X pins σ Q k a g m s') → Q' (some (.bool b)) s') (he : ∀ s', Fin X pins σ Q k s' → Q' none s') :
    wpAny (model X.prog X.w) X.A.in1 (pyNext (.ref a)) Q' E s := by
  obtain ⟨hg, hl, hb0, gs, hgs, hgo⟩ := h
  have hgl : g < s.gens.size := (Array.getElem?_eq_some_iff.mp hgs).1
  refine GenW.wpAny_gsz (n := g + 1) hgl (wpAny_pyNext_genexpQ (A := X.A.in1) (P := fun _ _ s => AllBare s.gens ∧ Fin X pins σ Q k s) hh hl hd hg hgs hgo (fun v s1 gs1 hbare hv => ?_) fun s1 hp h1 hk => ?_)
  · intro hsz
    obtain ⟨b, rfl, hg1, hl1, hb1, q1, q2⟩ := hv
    have hG : AllBare (s1.setGen g gs1).gens := allBare_setGen hb1 hbare
    have es : s1.setGen g gs1 = { s1 with gens := (s1.setGen g gs1).gens } := rfl
    refine hy b _ (fun e => by rw [es]; exact (q1 e).gens hG) fun e => ?_
    have hsz1 : g < s1.gens.size := by
      have z : (s1.setGen g gs1).gens.size = s1.gens.size := GenW.setGen_size _ _ _
      have z2 : g + 1 ≤ (s1.setGen g gs1).gens.size := hsz
      omega
    cases n with
    | zero => exact False.elim (q2 e s1.gens hb1)
    | succ m =>
      refine ⟨m, Nat.lt_succ_self m, hg1, hl1, hG, gs1, setGen_at hsz1, ?_⟩
      exact q2 e ((s1.setGen g gs1).setGen g .running).gens (allBare_setGen hG rfl)
  · intro _
    have z := (Fin.gens (G := (s1.setGen g .finished).gens) hp.2 (allBare_setGen hp.1 rfl)).kept hk
    exact he _ z

theorem all_loop {R : Result → Shared → Prop} (hh : X.A.handled = none) (hd : X.A.depth < recursionLimit) (hR : ∀ b s, Fin X pins σ Q b s → R (.ok (.ret (.bool b))) s) :
    ∀ (n : Nat) (s : Shared), Live X pins σ Q true a g n s → codeAny (model X.prog X.w) X.A (.builtin "all.loop" ⟨[.ref a], []⟩) R s := by
  intro n
  induction n using Nat.strongRecOn with
  | ind n ih =>
    intro s h
    refine codeAny_builtin F.entry_all_loop ?_
    rw [Around.under_plainId F.plain_all_loop _]
    show wpAny _ X.A.in1 (pyNext (.ref a) >>= _) _ _ s
    refine wpAny_bind (next_live hh hd h (fun b s1 q1 q2 => ?_) fun s1 q => ?_)
    · refine wpAny_bind (wpAny_holding (wpAny_truthy_bool ?_))
      refine wpAny_bind (wpAny_letGo ?_)
      cases b with
      | true =>
        simp only [if_true]
        obtain ⟨m, hm, hL⟩ := q2 rfl
        exact wpAny_pure ⟨plainId_quiet F.plain_all_loop _, ih m hm _ hL⟩
      | false =>
        simp only [Bool.false_eq_true, if_false]
        exact wpAny_bind (wpAny_rule (wpAny_pure (hR _ _ (q1 rfl))))
    · exact wpAny_bind (wpAny_rule (wpAny_pure (hR _ _ q)))
theorem any_loop {R : Result → Shared → Prop} (hh : X.A.handled = none) (hd : X.A.depth < recursionLimit) (hR : ∀ b s, Fin X pins σ Q b s → R (.ok (.ret (.bool b))) s) :
    ∀ (n : Nat) (s : Shared), Live X pins σ Q false a g n s → codeAny (model X.prog X.w) X.A (.builtin "any.loop" ⟨[.ref a], []⟩) R s := by
  intro n
  induction n using Nat.strongRecOn with
  | ind n ih =>
    intro s h
    refine codeAny_builtin F.entry_any_loop ?_
    rw [Around.under_plainId F.plain_any_loop _]
    show wpAny _ X.A.in1 (pyNext (.ref a) >>= _) _ _ s
    refine wpAny_bind (next_live hh hd h (fun b s1 q1 q2 => ?_) fun s1 q => ?_)
    · refine wpAny_bind (wpAny_holding (wpAny_truthy_bool ?_))
      refine wpAny_bind (wpAny_letGo ?_)
      cases b with
      | false =>
        simp only [Bool.false_eq_true, if_false]
        obtain ⟨m, hm, hL⟩ := q2 rfl
        exact wpAny_pure ⟨plainId_quiet F.plain_any_loop _, ih m hm _ hL⟩
      | true =>
        simp only [if_true]
        exact wpAny_bind (wpAny_rule (wpAny_pure (hR _ _ (q1 rfl))))
    · exact wpAny_bind (wpAny_rule (wpAny_pure (hR _ _ q)))
theorem call_all_live {n : Nat} {s : Shared} {Q' : Value → Shared → Prop} {E : Value → Shared → Prop} (hh : X.A.handled = none) (hd : X.A.depth < recursionLimit) (h : Live X pins σ Q true a g n s) (hQ : ∀ b s', Fin X pins σ Q b s' → Q' (.bool b) s') :
    wpAny (model X.prog X.w) X.A (call (.builtin "all") [.ref a]) Q' E s := by
  refine call_function_tree F.kind_all F.plain_all F.entry_all (F.args_all1 _) ?_
  unfold Builtin.«all»
  refine wpAny_bind (m := oneArg "all" _) (wpAny_pure ?_)
  refine wpAny_bind (wpAny_pyIter_gen h.1 ?_)
  exact wpAny_pure ⟨plainId_quiet F.plain_all_loop _, all_loop hh hd (fun b s' q => hQ b s' q) n s h⟩
theorem call_any_live {n : Nat} {s : Shared} {Q' : Value → Shared → Prop} {E : Value → Shared → Prop} (hh : X.A.handled = none) (hd : X.A.depth < recursionLimit) (h : Live X pins σ Q false a g n s) (hQ : ∀ b s', Fin X pins σ Q b s' → Q' (.bool b) s') :
    wpAny (model X.prog X.w) X.A (call (.builtin "any") [.ref a]) Q' E s := by
  refine call_function_tree F.kind_any F.plain_any F.entry_any (F.args_any1 _) ?_
  unfold Builtin.«any»
  refine wpAny_bind (m := oneArg "any" _) (wpAny_pure ?_)
  refine wpAny_bind (wpAny_pyIter_gen h.1 ?_)
  exact wpAny_pure ⟨plainId_quiet F.plain_any_loop _, any_loop hh hd (fun b s' q => hQ b s' q) n s h⟩
end

/-! ### the generator's own turns -/
theorem mono_no {α : Type} {t : Sem α} {Q Q' : α → Shared → Prop} {M : Model} {A : Around} {E : Value → Shared → Prop} {s : Shared} (h : wpAny M A t Q (fun _ _ => False) s) (hQ : ∀ a s, Q a s → Q' a s) : wpAny M A t Q' E s :=
  wpAny_mono h hQ fun _ _ z => False.elim z

section
variable {X : Cx} {pins : List (Addr × Obj)} {σ : L2.St} {Q : VK} {k : Bool} {a : Addr} {g : Nat} {o : Obj} {s4 : Shared} {H3 : Hp} {sc : Scope} {own : List (Str × Nat)} {ce : Env} {fp : List Addr} {it : Addr} {tn : Nat → Heap → Prop} {J : It} {B : Around}
  {elt tg iter : Expr} {ifs : List Expr} {pos : Pos} {gt : TG} {tt : TT} {te : TE} {W : Nat → Nat → Hp → Prop}
theorem gen_turns (hB : B = X.A.in1.in1.over (.compLoop (.GeneratorExp elt [⟨tg, iter, ifs, 0⟩] sc pos) 0 (.ref it) .none ce) []) (hco : ce.scope.isCoroutine = false)
    (I4 : Inv X pins σ H3 s4) (T : Turn X.prog X.w X.K tg J fp it tn) (ffp : ∀ b ∈ fp, FpOk X pins H3 b) (hafp : ∀ b ∈ fp, b ≠ a) (hgo : ∃ nm qn, o.cls = .type "generator" ∧ o.data = .fields #[.int g 0, nm, qn] ∧ o.slots = #[])
    (pg : PG (gcx X s4 H3 sc ce fp a o B) tg gt) (pt : PTs (gcx X s4 H3 sc ce fp a o B) ifs tt) (pe : PE (gcx X s4 H3 sc ce fp a o B) elt te)
    (turn : ∀ i m H, W i m H → (J.stop i H ∧ Q (.bl k) H) ∨ (J.go i H ∧ ∃ Nx : Hp → Prop, (∀ H', Nx H' → ∃ m', m' < m ∧ W (i + 1) m' H') ∧ ∀ x H', J.yld i H x H' → gt x (wipe σ (own.map (·.2))) H' fun σ2 H2 => wipe σ2 (own.map (·.2)) = wipe σ (own.map (·.2)) ∧ tt σ2 H2 fun b H3 =>
      if b = true then te σ2 H3 fun y H4 => ∃ c, y = .bl c ∧ (c = k → Nx H4) ∧ (c = (!k) → Q (.bl (!k)) H4) else Nx H3)) :
    ∀ (m n i : Nat) (s0 s : Shared) (H : Hp), m < n → Inv (gcx X s4 H3 sc ce fp a o B) [] (wipe σ (own.map (·.2))) H s → tn i s.heap → (∀ b ∈ fp, H b = none) → W i m H →
      Seg (model X.prog X.w) X.A.in1.in1 (GR1 X pins σ Q k) (GY1 X pins σ Q k a g) n s0 (.compLoop (.GeneratorExp elt [⟨tg, iter, ifs, 0⟩] sc pos) 0 (.ref it) .none ce)
        ((model X.prog X.w).den (.compLoop (.GeneratorExp elt [⟨tg, iter, ifs, 0⟩] sc pos) 0 (.ref it) .none ce)) [] s := by
  have stat : ∀ {σ' : L2.St} {H' : Hp} {s' : Shared}, Inv (gcx X s4 H3 sc ce fp a o B) [] σ' H' s' → (∀ b ∈ fp, H' b = none) → ∀ b ∈ fp, FpOk (gcx X s4 H3 sc ce fp a o B) [] H' b := fun {σ' H' s'} I' hn b hb =>
    ⟨hn b hb, (I'.ok.exf b hb).1, I'.ok.exfs b hb, .inl hb, fun x c e => (I'.ok.exf b hb).2 x c e, fun p hp z => by
      have hp : p = (a, o) := by simpa using hp
      subst hp
      exact hafp b hb z.symm⟩
  -- back in the def's context
  have back : ∀ {σ' : L2.St} {H' : Hp} {s' : Shared} {ps : List (Addr × Obj)}, Inv (gcx X s4 H3 sc ce fp a o B) ps σ' H' s' → Inv X pins σ H' s' := fun {σ' H' s' ps} I6 =>
    I4.call' (ch := fp) I6.os I6.base I6.hok I6.bare fun b hb => ⟨(ffp b hb).2.2.2.1, (ffp b hb).2.1, (ffp b hb).2.2.2.2.1, (ffp b hb).2.2.2.2.2⟩
  have isg : ∀ {σ' : L2.St} {H' : Hp} {s' : Shared} {ps : List (Addr × Obj)}, Inv (gcx X s4 H3 sc ce fp a o B) ps σ' H' s' → s'.heap.IsGen a g := fun {σ' H' s' ps} I6 => by
    obtain ⟨nm, qn, h1, h2, h3⟩ := hgo
    exact ⟨o, nm, qn, (I6.pin (a, o) (by simp)).1, h1, h2, h3⟩
  have hy : ∀ v, yieldOut ce v = yieldValue v := fun v => by simp only [yieldOut, hco, Bool.false_eq_true, if_false]
  intro m
  induction m using Nat.strongRecOn with
  | ind m ih =>
    intro n i s0 s H hmn I st nf w
    show Seg _ X.A.in1.in1 _ _ _ s0 _ ((compTurn (.GeneratorExp elt [⟨tg, iter, ifs, 0⟩] sc pos) 0 (.ref it) .none ce).onRaise (leaving ce)) [] s
    rw [compTurn_gen, Sem.onRaise_eq_wrap]
    refine seg_bind_wrap (wpAny_standAt ?_)
    rcases turn i m H w with ⟨stop, q⟩ | ⟨go, Nx, hNx, step⟩
    · refine seg_bind_wrap ?_
      rw [← hB]
      refine mono_no (T.done (gcx X s4 H3 sc ce fp a o B) rfl rfl rfl rfl i [] s _ H (fun _ _ => False) I (stat I nf) st stop) fun r s6 hr => ?_
      obtain ⟨hr, I6⟩ := hr
      subst hr
      exact seg_end (.ok .next) ⟨rfl, I6.bare, H, back I6, q⟩
    · refine seg_bind_wrap ?_
      rw [← hB]
      refine mono_no (T.item (gcx X s4 H3 sc ce fp a o B) rfl rfl rfl rfl i [] s _ H (fun _ _ => False) I (stat I nf) st go) fun r s6 hr => ?_
      obtain ⟨u, hr, h6⟩ := hr
      subst hr
      refine seg_bind_wrap ?_
      rw [← hB]
      refine mono_no h6 fun _ s7 h7 => ?_
      obtain ⟨x, H7, I7, r7, y7, st7, n7⟩ := h7
      have I7' := I7.pinned (stat I7 n7) (T.obj _ _ st7)
      refine seg_bind_wrap ?_
      rw [← hB]
      refine mono_no (pg.run _ s7 _ H7 x u _ I7' r7 (step x H7 y7)) fun _ s8 h8 => ?_
      obtain ⟨σ8, H8, I8, hw8, q8⟩ := h8
      refine seg_bind_wrap ?_
      rw [← hB]
      refine mono_no (pt.run _ s8 σ8 H8 _ I8 q8) fun b s9 h9 => ?_
      obtain ⟨H9, I9, q9⟩ := h9
      -- the turn's end
      have fin : ∀ {s' : Shared} {H' : Hp}, Inv (gcx X s4 H3 sc ce fp a o B) ([] ++ pinsAt fp s7.heap) σ8 H' s' → Nx H' → ∃ m', m' < m ∧ Inv (gcx X s4 H3 sc ce fp a o B) [] (wipe σ (own.map (·.2))) H' s' ∧ tn (i + 1) s'.heap ∧ (∀ b ∈ fp, H' b = none) ∧ W (i + 1) m' H' := fun {s' H'} I' nx => by
        obtain ⟨m', hm, w'⟩ := hNx H' nx
        have pin' : ∀ b ∈ fp, ∀ ob, s7.heap.get? b = some ob → s'.heap.get? b = some ob ∧ H' b = none := fun b hb ob e => by
          have z := I'.pin (b, ob) (List.mem_append_right _ (List.mem_append_right _ (mem_pinsAt hb e)))
          exact ⟨z.1, z.2.1⟩
        have hl : (wipe σ (own.map (·.2))).length = σ8.length := by rw [← hw8, wipe_length]
        refine ⟨m', hm, (I'.unpinned (pins := [])).weak hl (fun j v e => ?_), T.keep _ _ _ st7 fun b hb ob e => (pin' b hb ob e).1, fun b hb => ?_, w'⟩
        · rw [← hw8] at e
          exact (wipe_some e).1
        · obtain ⟨ob, e, _⟩ := T.obj _ _ st7 b hb
          exact (pin' b hb ob e).2
      cases b with
      | false =>
        simp only [Bool.false_eq_true, if_false] at q9 ⊢
        obtain ⟨m', hm, J1, J2, J3, J4⟩ := fin I9 q9
        exact seg_again rfl (ih m' hm n (i + 1) s0 s9 H9 (Nat.lt_trans hm hmn) J1 J2 J3 J4)
      | true =>
        simp only [if_true] at q9 ⊢
        simp only [hy]
        rw [Sem.bind_eq_wrap', Sem.bind_eq_wrap', Sem.wrap_wrap, Sem.wrap_wrap]
        refine seg_wrap ?_
        rw [← hB]
        refine mono_no (pe.run _ s9 σ8 H9 _ I9 q9) fun z s10 h10 => ?_
        obtain ⟨y, H10, I10, r10, c, rfl, c1, c2⟩ := h10
        obtain rfl : z = Value.bool c := r10
        obtain ⟨n', rfl⟩ : ∃ n', n = n' + 1 := ⟨n - 1, by omega⟩
        refine seg_at (seg_yield rfl rfl rfl ⟨c, rfl, isg I10, I10.nolimit, I10.bare, fun e => ⟨H10, back I10, c2 e⟩, fun e G hG => ?_⟩)
        obtain ⟨m', hm, J1, J2, J3, J4⟩ := fin I10 (c1 e)
        exact seg_again rfl (ih m' hm n' (i + 1) _ _ H10 (by omega) (inv_gens J1 hG) J2 J3 J4)

/-- .. from its start -/
theorem gen_begins (hB : B = X.A.in1.in1.over (.compLoop (.GeneratorExp elt [⟨tg, iter, ifs, 0⟩] sc pos) 0 (.ref it) .none ce) []) (hco : ce.scope.isCoroutine = false)
    (I4 : Inv X pins σ H3 s4) (T : Turn X.prog X.w X.K tg J fp it tn) (ffp : ∀ b ∈ fp, FpOk X pins H3 b) (hafp : ∀ b ∈ fp, b ≠ a) (hgo : ∃ nm qn, o.cls = .type "generator" ∧ o.data = .fields #[.int g 0, nm, qn] ∧ o.slots = #[])
    (pg : PG (gcx X s4 H3 sc ce fp a o B) tg gt) (pt : PTs (gcx X s4 H3 sc ce fp a o B) ifs tt) (pe : PE (gcx X s4 H3 sc ce fp a o B) elt te)
    (turn : ∀ i m H, W i m H → (J.stop i H ∧ Q (.bl k) H) ∨ (J.go i H ∧ ∃ Nx : Hp → Prop, (∀ H', Nx H' → ∃ m', m' < m ∧ W (i + 1) m' H') ∧ ∀ x H', J.yld i H x H' → gt x (wipe σ (own.map (·.2))) H' fun σ2 H2 => wipe σ2 (own.map (·.2)) = wipe σ (own.map (·.2)) ∧ tt σ2 H2 fun b H3 =>
      if b = true then te σ2 H3 fun y H4 => ∃ c, y = .bl c ∧ (c = k → Nx H4) ∧ (c = (!k) → Q (.bl (!k)) H4) else Nx H3))
    {m : Nat} {s0 s : Shared} {H : Hp} (I : Inv (gcx X s4 H3 sc ce fp a o B) [] (wipe σ (own.map (·.2))) H s) (st : tn 0 s.heap) (nf : ∀ b ∈ fp, H b = none) (w : W 0 m H) :
      Seg (model X.prog X.w) X.A.in1.in1 (GR1 X pins σ Q k) (GY1 X pins σ Q k a g) (m + 1) s0 (.compStart (.GeneratorExp elt [⟨tg, iter, ifs, 0⟩] sc pos) 0 (.ref it) .none ce)
        ((model X.prog X.w).den (.compStart (.GeneratorExp elt [⟨tg, iter, ifs, 0⟩] sc pos) 0 (.ref it) .none ce)) [] s := by
  have loop := gen_turns (W := W) hB hco I4 T ffp hafp hgo pg pt pe turn m (m + 1) 0 s0 s H (Nat.lt_succ_self m) I st nf w
  show Seg _ X.A.in1.in1 _ _ _ s0 _ ((compStart (.GeneratorExp elt [⟨tg, iter, ifs, 0⟩] sc pos) 0 (.ref it) .none ce).onRaise (leaving ce)) [] s
  unfold compStart
  rw [Sem.onRaise_eq_wrap]
  show Seg _ X.A.in1.in1 _ _ _ s0 _ ((ask >>= _).wrap _ _ _ _) [] s
  refine seg_bind_wrap (wpAny_askSetting ?_)
  split
  · exact seg_again rfl loop
  · first
      | exact seg_bind_wrap (wpAny_rule (seg_bind_wrap (wpAny_standAt (seg_bind_wrap (T.self _ 0 s _ _ st (seg_again rfl loop))))))
      | (refine seg_bind_wrap (wpAny_rule ?_); show Seg _ X.A.in1.in1 _ _ _ s0 _ ((standAt iter.pos >>= _).wrap _ _ _ _) [] s; exact seg_bind_wrap (wpAny_standAt (seg_bind_wrap (T.self _ 0 s _ _ st (seg_again rfl loop)))))
end

/-- the generator expression's own scope -/
structure GScp (X : Cx) (sc : Scope) (own : List (Str × Nat)) : Prop where
  co : sc.isCoroutine = false
  cell : ∀ y ∈ sc.names, y.2 ≠ .cell
  dot : sc.names.lookup (".0" : Str) = some NameKind.local
  blk : BlkOk X.N X.env.scope sc own

section
variable {X : Cx} {pins : List (Addr × Obj)} {σ : L2.St} {H : Hp} {s : Shared} {Q : VK} {k : Bool} {j : Nat} {c P : Addr} {sc : Scope} {own : List (Str × Nat)} {elt tg iter : Expr} {ifs : List Expr} {gpos p pos : Pos} {wi : TI} {gt : TG} {tt : TT} {te : TE}
theorem gen_room {X : Cx} {j : Nat} {code : Code} (hr : Room (j + 1) X.A) (h1 : code.weight = 1) (h2 : code.cUnits ≤ 3) : Room j (X.A.in1.in1.over code []) := by
  refine ⟨hr.hd, ?_, ?_⟩
  · have e : (X.A.in1.in1.over code []).depth = X.A.depth + 0 + code.weight := rfl
    have := hr.dp
    rw [e, h1]
    omega
  · have e : (X.A.in1.in1.over code []).units = X.A.units + 1 + 1 + 0 + code.cUnits := rfl
    have := hr.un
    rw [e]
    omega
theorem gen_frames {A : Around} {l : List Env} {ce : Env} {iv acc : Value} (h : A.frames = some l) : (A.in1.in1.over (.compLoop (.GeneratorExp elt [⟨tg, iter, ifs, 0⟩] sc gpos) 0 iv acc ce) []).frames = some (ce :: l) := by
  have e : A.in1.in1.frames = some l := h
  have e2 : (A.in1.in1.over (.compLoop (.GeneratorExp elt [⟨tg, iter, ifs, 0⟩] sc gpos) 0 iv acc ce) []).frames = pushEnvs (Code.envs (.compLoop (.GeneratorExp elt [⟨tg, iter, ifs, 0⟩] sc gpos) 0 iv acc ce)) (pushEnvs (envsOf []) A.in1.in1.frames) := rfl
  rw [e2, e]
  rfl
theorem gen_made {Q' : Value → Shared → Prop} (hr : Room (j + 1) X.A) (hN : X.N.Nodup) (TB : TabB X.base X.mg c P) (hcode : X.env.code = .ref c) (S : GScp X sc own) (hi : PI X tg iter wi)
    (hg : ∀ (s : Shared) (H : Hp) (cl : List (Str × Addr)) (C : Addr) (code : Value) (fp : List Addr) (a : Addr) (o : Obj) (B : Around), PG (gcx X s H sc (genEnv sc cl C code builtinsNs X.env) fp a o B) tg gt)
    (ht : ∀ (s : Shared) (H : Hp) (cl : List (Str × Addr)) (C : Addr) (code : Value) (fp : List Addr) (a : Addr) (o : Obj) (B : Around), Room j B → PTs (gcx X s H sc (genEnv sc cl C code builtinsNs X.env) fp a o B) ifs tt)
    (he : ∀ (s : Shared) (H : Hp) (cl : List (Str × Addr)) (C : Addr) (code : Value) (fp : List Addr) (a : Addr) (o : Obj) (B : Around), Room j B → PE (gcx X s H sc (genEnv sc cl C code builtinsNs X.env) fp a o B) elt te)
    (hs : ∀ v, genFold iter X.env v = pure v) (I : Inv X pins σ H s) (h : tGen k P wi gt tt te (own.map (·.2)) σ H Q) (hQ : ∀ a g n s5, Live X pins σ Q k a g n s5 → Q' (.ref a) s5) :
    wpAny (model X.prog X.w) X.A (eval (.GeneratorExp elt [⟨tg, iter, ifs, 0⟩] sc gpos) X.env) Q' X.xe s := by
  have hfree : ∀ y ∈ sc.names, y.2 = .free → ∃ c, X.env.cells.lookup y.1 = some c := fun y hy e => by
    rcases S.blk.free y hy e with k | k
    · exact I.ok.has _ (.inl k)
    · exact I.ok.has _ (.inr k)
  refine wpAny_GeneratorExp_make S.co (closure_ok hfree) S.cell S.dot S.blk.kind (by have := hr.dp; omega) ?_ hs
  refine thn (hi.run pins s σ H _ I h) fun xv s1 hx => thn hx fun itv s2 h2 => ?_
  obtain ⟨it, fp, tn, J, H2, rfl, I2, T, st2, f2, ⟨ps, hP, hTr⟩, q⟩ := h2
  have hPs : s2.heap.get? P = some { cls := .none, data := .fields ps } := I2.hok P _ hP
  have cd : PySem.W.CodeHd s2.heap c P := TB.code.keeps fun b u e => I2.bk b u e
  refine ⟨I2.nolimit, ?_⟩
  have nP : ∀ b, H2 b = none → b ≠ P := fun b e z => by
    rw [z, hP] at e
    cases e
  have szf : ∀ b ∈ fp, b < s2.heap.objs.size := fun b hb => by
    obtain ⟨u, e, _⟩ := T.obj _ _ st2 b hb
    exact Heap.lt_size e
  have cont : ∀ (code : Value) (h3 : Heap) (tk : Nat) (ps' : Array Value), Heap.ExtBut P s2.heap h3 → s2.heap.objs.size ≤ h3.objs.size → h3.get? P = some { cls := .none, data := .fields ps' } → (∃ more, ps' = ps ++ more) → TriplesOk ps'.toList →
      wpAny (model X.prog X.w) X.A (builtinsFor X.env.globals X.env.builtins) (fun bi s₄ =>
        ∀ h', h'.Ns s₄.heap.objs.size (fun y => if y = ".0" then some (.ref it) else none) → Heap.SameBut s₄.heap.objs.size (s₄.heap.push { cls := .type "frame", data := .dict #[] }) h' →
          Q' (.ref h'.objs.size) { s₄ with
            gens := s₄.gens.push (.fresh (.compStart (.GeneratorExp elt [⟨tg, iter, ifs, 0⟩] sc gpos) 0 (.ref it) .none (genEnv sc (cloFrom X.env.cells sc.names []) s₄.heap.objs.size code bi X.env))),
            toks := s₄.toks + 1 + 1 + 1,
            heap := h'.push { cls := .type "generator", data := .fields #[.int s₄.gens.size 0, .str "<genexpr>" (s₄.toks + 1), .str (X.env.qual ++ "<genexpr>") (s₄.toks + 1 + 1)] } }) X.xe { s2 with heap := h3, toks := tk } := by
    intro code h3 tk ps' hx3 hsz3 hP3 hmore ht3
    have I3 : Inv X pins σ (upd H2 P (.tbl ps')) { s2 with heap := h3, toks := tk } := by
      obtain ⟨more, rfl⟩ := hmore
      exact inv_tab (more := more) (h' := h3) (g' := s2.gens) (d' := s2.drawn) (t' := tk) I2 hP (fun b u hb e => hx3 b u hb e) hP3 I2.bare
    generalize hH3 : upd H2 P (.tbl ps') = H3 at I3
    have hT3 : Tabbed P H2 H3 := by
      rw [← hH3]
      exact ⟨⟨ps', upd_same, ht3⟩, fun b hb => upd_ne hb⟩
    obtain ⟨W, ⟨m0, w0⟩, turn⟩ := q H3 hT3
    obtain ⟨bm, ob, e1, e2, e3, e4, e5, e6, e7, e8⟩ := TB.bm
    refine wpAny_builtinsFor (m := X.mg) (by rw [I3.ok.glob]; exact I3.mod.glob.keeps I3.bk) e1 e2 (I3.bk _ _ e5) e6 e7 e8 ?_
    intro h' hn' hs'
    have hsz : h'.objs.size = h3.objs.size + 1 := by
      rw [hs'.1, Heap.size_push]
    have keep' : ∀ b u, h3.get? b = some u → h'.get? b = some u := fun b u e => hs'.extBut b u (Nat.ne_of_lt (Heap.lt_size e)) (Heap.get?_push_of_some _ e)
    have hlt : h3.objs.size < h'.objs.size := by
      have hsz' : h'.objs.size = h3.objs.size + 1 := hsz
      omega
    have f3 : ∀ b ∈ fp, FpOk X pins H3 b := fun b hb => by
      have z := f2 b hb
      exact ⟨(hT3.2 b (nP b z.1)).trans z.1, z.2⟩
    have st3 : tn 0 h3 := T.keep _ _ _ st2 fun b hb u e => hx3 b u (nP b (f2 b hb).1) e
    have gb : AllBare (s2.gens.push (.fresh (.compStart (.GeneratorExp elt [⟨tg, iter, ifs, 0⟩] sc gpos) 0 (.ref it) .none (genEnv sc (cloFrom X.env.cells sc.names []) h3.objs.size code builtinsNs X.env)))) := I2.bare.push rfl
    have hsz2 : ∀ b ∈ fp, b < h3.objs.size := fun b hb => Nat.lt_of_lt_of_le (szf b hb) hsz3
    have keep5 : ∀ (u : Obj) b v, h3.get? b = some v → (h'.push u).get? b = some v := fun u b v e => Heap.get?_push_of_some _ (keep' b v e)
    refine hQ _ s2.gens.size (m0 + 1) _ ⟨⟨_, _, _, Heap.get?_push_size _ rfl, rfl, rfl, rfl⟩, I3.nolimit.keeps (keep5 _), gb, _, Array.getElem?_push_size .., rfl, ?_⟩
    refine gen_begins (own := own) (fp := fp) (tn := tn) (J := J) (W := W) (H3 := H3) (s4 := { s2 with heap := h3, toks := tk }) rfl S.co I3 T f3 (fun b hb z => ?_) ⟨_, _, rfl, rfl, rfl⟩ (hg _ _ _ _ _ _ _ _ _) (ht _ _ _ _ _ _ _ _ _ (gen_room hr rfl (by show (3 : Nat) ≤ 3; decide))) (he _ _ _ _ _ _ _ _ _ (gen_room hr rfl (by show (3 : Nat) ≤ 3; decide))) turn
      (inv_gens (gen_start (s' := { s2 with heap := h'.push _, toks := tk + 1 + 1 + 1, gens := s2.gens.push _ }) (a := h'.objs.size) I3 S.blk S.cell hN (fun b hb => ⟨f3 b hb, hsz2 b hb⟩) rfl rfl rfl rfl rfl rfl ?_ hr.hd rfl gb (keep5 _) ⟨_, Heap.Ns.push hn' _⟩ (Heap.get?_push_size _ rfl) hlt (fun v z => by cases z)) (allBare_setGen (s := { s2 with heap := h'.push _, toks := tk + 1 + 1 + 1, gens := s2.gens.push _ }) gb rfl))
      (T.keep _ _ _ st3 fun b hb u e => keep5 _ b u e) (fun b hb => (f3 b hb).1) w0
    · have h1 := hsz2 b hb
      rw [z] at h1
      exact absurd (Nat.lt_trans h1 hlt) (Nat.lt_irrefl _)
    · exact gen_frames I3.ok.frames
  cases hf : codeAmong gpos ps.toList with
  | none =>
    refine wpAny_genexprCodeX hcode (cd.code hPs hTr) (cd.tab hPs) hf fun c' h' tk hx hge hlt hco' _ htab' _ => ?_
    obtain ⟨o1, vs, f1, tf, fl, tg1, inF, tx, tt1, op, _, _, _, _, _, _, _, _, _, htr, _⟩ := hco'
    exact cont _ h' tk _ hx (Nat.le_trans hge (Nat.le_of_lt hlt)) htab'.2 ⟨_, rfl⟩ htr
  | some cv =>
    refine wpAny_genexprCode_hit hcode (cd.code hPs hTr) hf ?_
    exact cont cv s2.heap s2.toks ps (Heap.ExtBut.refl _ _) (Nat.le_refl _) hPs ⟨#[], by simp⟩ hTr

/-- all(elt for tg in iter if ..) -/
theorem pe_allG (hr : Room (j + 1) X.A) (hN : X.N.Nodup) (hgl : Gl X "all") (hm : X.mg "all" = none) (hb : bootBuiltins "all" = some (.builtin "all")) (TB : TabB X.base X.mg c P) (hcode : X.env.code = .ref c) (S : GScp X sc own) (hi : PI X tg iter wi)
    (hg : ∀ (s : Shared) (H : Hp) (cl : List (Str × Addr)) (C : Addr) (code : Value) (fp : List Addr) (a : Addr) (o : Obj) (B : Around), PG (gcx X s H sc (genEnv sc cl C code builtinsNs X.env) fp a o B) tg gt)
    (ht : ∀ (s : Shared) (H : Hp) (cl : List (Str × Addr)) (C : Addr) (code : Value) (fp : List Addr) (a : Addr) (o : Obj) (B : Around), Room j B → PTs (gcx X s H sc (genEnv sc cl C code builtinsNs X.env) fp a o B) ifs tt)
    (he : ∀ (s : Shared) (H : Hp) (cl : List (Str × Addr)) (C : Addr) (code : Value) (fp : List Addr) (a : Addr) (o : Obj) (B : Around), Room j B → PE (gcx X s H sc (genEnv sc cl C code builtinsNs X.env) fp a o B) elt te)
    (hs : ∀ v, genFold iter X.env v = pure v := by intro _; rfl)
    (hst : starEach [.GeneratorExp elt [⟨tg, iter, ifs, 0⟩] sc gpos] X.env = (false, eval (.GeneratorExp elt [⟨tg, iter, ifs, 0⟩] sc gpos) X.env) :: starEach [] X.env := by rfl) :
    PE X (.Call (.Name "all" p) [.GeneratorExp elt [⟨tg, iter, ifs, 0⟩] sc gpos] [] pos) (tGen true P wi gt tt te (own.map (·.2))) := by
  refine ⟨fun pins s σ H Q I h => ?_⟩
  refine wpAny_Call_Name_kw (ld_blt I hgl hm hb ?_)
  refine PyProof.Rows.callWith_builtin1 ?_ hst (by rfl)
  rw [hst]
  show wpAny _ _ (spliced ((false, eval (.GeneratorExp elt [⟨tg, iter, ifs, 0⟩] sc gpos) X.env) :: backTo pos (starEach [] X.env))) _ _ s
  refine Calls.spliced_cons (gen_made hr hN TB hcode S hi hg ht he hs I h fun a g n s5 hL => ?_)
  refine Calls.spliced_nil ?_
  refine call_all_live hr.hd (by have := hr.dp; omega) hL fun b s' hf => ?_
  obtain ⟨H', I', q⟩ := hf
  exact ⟨.bl b, H', I', rfl, q⟩
/-- any(elt for tg in iter if ..) -/
theorem pe_anyG (hr : Room (j + 1) X.A) (hN : X.N.Nodup) (hgl : Gl X "any") (hm : X.mg "any" = none) (hb : bootBuiltins "any" = some (.builtin "any")) (TB : TabB X.base X.mg c P) (hcode : X.env.code = .ref c) (S : GScp X sc own) (hi : PI X tg iter wi)
    (hg : ∀ (s : Shared) (H : Hp) (cl : List (Str × Addr)) (C : Addr) (code : Value) (fp : List Addr) (a : Addr) (o : Obj) (B : Around), PG (gcx X s H sc (genEnv sc cl C code builtinsNs X.env) fp a o B) tg gt)
    (ht : ∀ (s : Shared) (H : Hp) (cl : List (Str × Addr)) (C : Addr) (code : Value) (fp : List Addr) (a : Addr) (o : Obj) (B : Around), Room j B → PTs (gcx X s H sc (genEnv sc cl C code builtinsNs X.env) fp a o B) ifs tt)
    (he : ∀ (s : Shared) (H : Hp) (cl : List (Str × Addr)) (C : Addr) (code : Value) (fp : List Addr) (a : Addr) (o : Obj) (B : Around), Room j B → PE (gcx X s H sc (genEnv sc cl C code builtinsNs X.env) fp a o B) elt te)
    (hs : ∀ v, genFold iter X.env v = pure v := by intro _; rfl)
    (hst : starEach [.GeneratorExp elt [⟨tg, iter, ifs, 0⟩] sc gpos] X.env = (false, eval (.GeneratorExp elt [⟨tg, iter, ifs, 0⟩] sc gpos) X.env) :: starEach [] X.env := by rfl) :
    PE X (.Call (.Name "any" p) [.GeneratorExp elt [⟨tg, iter, ifs, 0⟩] sc gpos] [] pos) (tGen false P wi gt tt te (own.map (·.2))) := by
  refine ⟨fun pins s σ H Q I h => ?_⟩
  refine wpAny_Call_Name_kw (ld_blt I hgl hm hb ?_)
  refine PyProof.Rows.callWith_builtin1 ?_ hst (by rfl)
  rw [hst]
  show wpAny _ _ (spliced ((false, eval (.GeneratorExp elt [⟨tg, iter, ifs, 0⟩] sc gpos) X.env) :: backTo pos (starEach [] X.env))) _ _ s
  refine Calls.spliced_cons (gen_made hr hN TB hcode S hi hg ht he hs I h fun a g n s5 hL => ?_)
  refine Calls.spliced_nil ?_
  refine call_any_live hr.hd (by have := hr.dp; omega) hL fun b s' hf => ?_
  obtain ⟨H', I', q⟩ := hf
  exact ⟨.bl b, H', I', rfl, q⟩
end
end Rd

namespace Rd
open PySem PySem.Spec PyProof.Rows L2 GxR

/-! ### heaps: all that was tracked is as it was, but for the tables of the defs that hold a generator expression -/
def Tb (Ps : List Addr) (H : Hp) : Prop := ∀ P ∈ Ps, TabG H P
def Kp (Ps : List Addr) (H H' : Hp) : Prop := Tb Ps H' ∧ ∀ b o, b ∉ Ps → H b = some o → H' b = some o
theorem Kp.refl {Ps : List Addr} {H : Hp} (t : Tb Ps H) : Kp Ps H H := ⟨t, fun _ _ _ e => e⟩
theorem Kp.trans {Ps : List Addr} {H H1 H2 : Hp} (a : Kp Ps H H1) (b : Kp Ps H1 H2) : Kp Ps H H2 := ⟨b.1, fun c o hc e => b.2 c o hc (a.2 c o hc e)⟩
theorem Tb.notin {Ps : List Addr} {H : Hp} (t : Tb Ps H) {b : Addr} {o : HO} (e : H b = some o) (ho : ∀ ps, o ≠ .tbl ps) : b ∉ Ps := fun hb => by
  obtain ⟨ps, h1, _⟩ := t b hb
  rw [e] at h1
  exact ho ps (Option.some.inj h1)
theorem Tb.none {Ps : List Addr} {H : Hp} (t : Tb Ps H) {b : Addr} (e : H b = Option.none) : b ∉ Ps := fun hb => by
  obtain ⟨ps, h1, _⟩ := t b hb
  rw [e] at h1
  cases h1
theorem Tb.same {Ps : List Addr} {H H' : Hp} (t : Tb Ps H) (s : Same H H') : Tb Ps H' := fun P hP => by
  obtain ⟨ps, h1, h2⟩ := t P hP
  exact ⟨ps, s _ _ h1, h2⟩
theorem Kp.same {Ps : List Addr} {H H' : Hp} (t : Tb Ps H) (s : Same H H') : Kp Ps H H' := ⟨t.same s, fun b o _ e => s b o e⟩
theorem Kp.at {Ps : List Addr} {H H' : Hp} (t : Tb Ps H) (k : Kp Ps H H') {b : Addr} {o : HO} (e : H b = some o) (ho : ∀ ps, o ≠ .tbl ps) : H' b = some o := k.2 b o (t.notin e ho) e
theorem Kp.seq {Ps : List Addr} {H H' : Hp} {K : PySem.W.Frag} {a : Addr} {xs : List V} (t : Tb Ps H) (k : Kp Ps H H') (h : SqL K H a xs) : SqL K H' a xs := by
  rcases h with (h | ⟨o, h⟩) | h
  · exact .inl (.inl (k.at t h fun _ z => by cases z))
  · exact .inl (.inr ⟨o, k.at t h fun _ z => by cases z⟩)
  · exact .inr h
theorem Kp.seqT {Ps : List Addr} {H H' : Hp} {K : PySem.W.Frag} {a : Addr} {xs : List V} (t : Tb Ps H) (k : Kp Ps H H') (h : SqT K H a xs) : SqT K H' a xs := by
  rcases h with (h | ⟨o, h⟩) | h
  · exact .inl (.inl (k.at t h fun _ z => by cases z))
  · exact .inl (.inr ⟨o, k.at t h fun _ z => by cases z⟩)
  · exact .inr h
theorem same_upd {H : Hp} {p : Addr} {o : HO} (h : H p = Option.none) : Same H (upd H p o) := fun b x e => by
  rw [upd_ne (ne_of_none e h)]
  exact e
theorem Kp.new {Ps : List Addr} {H : Hp} (t : Tb Ps H) {p : Addr} {o : HO} (h : H p = Option.none) : Kp Ps H (upd H p o) := Kp.same t (same_upd h)
theorem Kp.tab {Ps : List Addr} {P : Addr} {H H' : Hp} (t : Tb Ps H) (hP : P ∈ Ps) (h : Tabbed P H H') : Kp Ps H H' := by
  refine ⟨fun p hp => ?_, fun b o hb e => ?_⟩
  · by_cases z : p = P
    · rw [z]
      exact h.1
    · obtain ⟨ps, h1, h2⟩ := t p hp
      exact ⟨ps, (h.2 p z).trans h1, h2⟩
  · have z : b ≠ P := fun z => hb (by rw [z]; exact hP)
    exact (h.2 b z).trans e
/-- what was free before is free or new -/
theorem Kp.free {Ps : List Addr} {H H' : Hp} (t : Tb Ps H) (k : Kp Ps H H') {l : Addr} (h : H' l = Option.none) : H l = Option.none := by
  cases q : H l with
  | none => rfl
  | some o =>
    by_cases hl : l ∈ Ps
    · obtain ⟨ps, h1, _⟩ := k.1 l hl
      rw [h] at h1
      cases h1
    · rw [k.2 l o hl q] at h
      cases h

/-! ### a def whose code object is known -/
theorem okC {CX : CXT} {P : Program} {w : World} {K : PySem.W.Frag} {mg : Str → Option Value} {base : Heap} {x qual : Str} {params : Arguments} {body : List Stmt} {scope : Scope} {f : Addr} {fd : FuncData} {N ps : List Str} {k : Nat} {sp : Sp} {p : He.Defn}
    (F : FunD K x qual params body scope [] [] f fd) (hf : f = He.fAd K p) (S : FnScope N ps scope) (len : ∀ vs H Q E, sp vs H Q E → vs.length = ps.length)
    (hbody : ∀ (A : Around) (outer : List Env) (s : Shared) (H : Hp) (vs : List V) (Q : VK) (E : XK), Room k (A.deeper (envOfC qual scope s.heap.objs.size f (.ref (He.codeOf K p)))) → sp vs H Q E →
      ∃ t, PSs (cxOf CX P w K mg base N qual scope f (.ref (He.codeOf K p)) A outer s H E) body t ∧ t { nx := fun _ H' => Q .non H', rt := Q } (start N vs) H) : FnOk P w K mg base CX (k + 1) f fd ps sp := by
  obtain ⟨oc, od, dV, kV, doc, pm, an, cdv, ct, osl, rfl, lk, hcd, _, _⟩ := F.ex
  obtain ⟨c, rfl⟩ := He.codeIn_ref hcd
  have e : He.codeOf K p = c := He.codeOf_eq (by rw [← hf]; exact lk) rfl
  rw [e] at hbody
  exact fn_of lk hcd S len fun A outer s H vs Q E hr hsp => hbody A outer s H vs Q E hr hsp

/-! ### readings of generator expressions -/
theorem take_all {α : Type} {l : List α} {pb : α → Bool} {i : Nat} {x : α} (h : l[i]? = some x) (ht : (l.take i).all pb = true) : (l.take (i + 1)).all pb = pb x := by
  rw [List.take_add_one, List.all_append, ht, h]
  simp
theorem all_fail {α : Type} {l : List α} {pb : α → Bool} {i : Nat} {x : α} (h : l[i]? = some x) (hx : pb x = false) : l.all pb = false := by
  cases e : l.all pb with
  | false => rfl
  | true =>
    have := List.all_eq_true.mp e x (List.mem_of_getElem? h)
    rw [hx] at this
    cases this
/-- all(.. for x in text) -/
theorem read_all_str {x : Str} {pb : Nat → Bool} {Pv : Hp → Prop} {g : TG} {te : TE} {vs : List Nat} {σ : L2.St} {H2 : Hp} {Q : VK} (h0 : Pv H2)
    (he : ∀ (i c : Nat) (H : Hp) (R : V → Hp → Prop), x.cps.toList[i]? = some c → Pv H → (∀ H4, Pv H4 → R (.bl (pb c)) H4) → g (.str ⟨#[c]⟩) (wipe σ vs) H fun σ2 H2 => wipe σ2 vs = wipe σ vs ∧ te σ2 H2 R) (hd : ∀ H, Pv H → Q (.bl (x.cps.toList.all pb)) H) :
    ∃ W : Nat → Nat → Hp → Prop, (∃ m, W 0 m H2) ∧ ∀ i m H, W i m H →
      ((Its x).stop i H ∧ Q (.bl true) H) ∨ ((Its x).go i H ∧ ∃ Nx : Hp → Prop, (∀ H', Nx H' → ∃ m', m' < m ∧ W (i + 1) m' H') ∧ ∀ v H', (Its x).yld i H v H' → g v (wipe σ vs) H' fun σ2 H2 => wipe σ2 vs = wipe σ vs ∧ tYes σ2 H2 fun b H3 =>
        if b = true then te σ2 H3 fun y H4 => ∃ c, y = .bl c ∧ (c = true → Nx H4) ∧ (c = (!true) → Q (.bl (!true)) H4) else Nx H3) := by
  have esz : x.cps.size = x.cps.toList.length := by simp
  refine ⟨fun i m H => m = x.cps.size - i ∧ i ≤ x.cps.size ∧ Pv H ∧ (x.cps.toList.take i).all pb = true, ⟨x.cps.size, by simp, Nat.zero_le _, h0, rfl⟩, ?_⟩
  rintro i m H ⟨rfl, hi, hp, ha⟩
  by_cases hlt : i < x.cps.size
  · refine .inr ⟨hlt, fun H' => Pv H' ∧ (x.cps.toList.take (i + 1)).all pb = true, fun H' q => ⟨x.cps.size - (i + 1), by omega, rfl, hlt, q⟩, fun v H' y => ?_⟩
    obtain ⟨rfl, c, hc, rfl⟩ := y
    have hc' : x.cps.toList[i]? = some c := by rw [Array.getElem?_toList]; exact hc
    refine he i c H' _ hc' hp fun H4 p4 => ⟨pb c, rfl, fun z => ⟨p4, ?_⟩, fun z => ?_⟩
    · rw [take_all hc' ha]
      exact z
    · have z : pb c = false := z
      have q5 := hd H4 p4
      rw [all_fail hc' z] at q5
      exact q5
  · have e : i = x.cps.size := by omega
    subst e
    refine .inl ⟨Nat.le_refl _, ?_⟩
    have q := hd H hp
    rw [List.take_of_length_le (by omega)] at ha
    rw [ha] at q
    exact q
/-- all(.. for x in xs), xs a tuple -/
theorem read_all_tup {K : PySem.W.Frag} {a : Addr} {xs : List V} {pb : V → Bool} {Pv : Hp → Prop} {g : TG} {te : TE} {vs : List Nat} {σ : L2.St} {H2 : Hp} {Q : VK} (h0 : Pv H2) (hl : ∀ H, Pv H → SqT K H a xs)
    (he : ∀ (i : Nat) (v : V) (H : Hp) (R : V → Hp → Prop), xs[i]? = some v → Pv H → (∀ H4, Pv H4 → R (.bl (pb v)) H4) → g v (wipe σ vs) H fun σ2 H2 => wipe σ2 vs = wipe σ vs ∧ te σ2 H2 R) (hd : ∀ H, Pv H → Q (.bl (xs.all pb)) H) :
    ∃ W : Nat → Nat → Hp → Prop, (∃ m, W 0 m H2) ∧ ∀ i m H, W i m H →
      ((Itt K a).stop i H ∧ Q (.bl true) H) ∨ ((Itt K a).go i H ∧ ∃ Nx : Hp → Prop, (∀ H', Nx H' → ∃ m', m' < m ∧ W (i + 1) m' H') ∧ ∀ v H', (Itt K a).yld i H v H' → g v (wipe σ vs) H' fun σ2 H2 => wipe σ2 vs = wipe σ vs ∧ tYes σ2 H2 fun b H3 =>
        if b = true then te σ2 H3 fun y H4 => ∃ c, y = .bl c ∧ (c = true → Nx H4) ∧ (c = (!true) → Q (.bl (!true)) H4) else Nx H3) := by
  refine ⟨fun i m H => m = xs.length - i ∧ i ≤ xs.length ∧ Pv H ∧ (xs.take i).all pb = true, ⟨xs.length, by simp, Nat.zero_le _, h0, rfl⟩, ?_⟩
  rintro i m H ⟨rfl, hi, hp, ha⟩
  by_cases hlt : i < xs.length
  · refine .inr ⟨⟨xs, xs[i], hl H hp, List.getElem?_eq_getElem hlt⟩, fun H' => Pv H' ∧ (xs.take (i + 1)).all pb = true, fun H' q => ⟨xs.length - (i + 1), by omega, rfl, hlt, q⟩, fun v H' y => ?_⟩
    obtain ⟨rfl, y⟩ := y
    have hc' : xs[i]? = some v := y xs (hl H' hp)
    refine he i v H' _ hc' hp fun H4 p4 => ⟨pb v, rfl, fun z => ⟨p4, ?_⟩, fun z => ?_⟩
    · rw [take_all hc' ha]
      exact z
    · have z : pb v = false := z
      have q5 := hd H4 p4
      rw [all_fail hc' z] at q5
      exact q5
  · have e : i = xs.length := by omega
    subst e
    refine .inl ⟨⟨xs, hl H hp, Nat.le_refl _⟩, ?_⟩
    have q := hd H hp
    rw [List.take_of_length_le (Nat.le_refl _)] at ha
    rw [ha] at q
    exact q
end Rd

/-! list(reversed(text)) -/
namespace Rs
open PySem PySem.Spec PyProof.Rows RT
theorem norev_str : typeLookup (.type "str") "__reversed__" = pure none := by rw [typeLookup_type, builtinLookup_eq_fast]; kernel_rfl
theorem item_str : typeLookup (.type "str") "__getitem__" = pure (some (.builtin "str.__getitem__")) := by rw [typeLookup_type, builtinLookup_eq_fast]; kernel_rfl
theorem nolen_rev : typeLookup (.type "reversed") "__len__" = pure none := by rw [typeLookup_type, builtinLookup_eq_fast]; kernel_rfl
theorem hint_rev : typeLookup (.type "reversed") "__length_hint__" = pure (some (.builtin "reversed.__length_hint__")) := by rw [typeLookup_type, builtinLookup_eq_fast]; kernel_rfl
theorem slot_hint : Slot "reversed" "__length_hint__" "reversed.__length_hint__" :=
  .of (owner := "reversed") (n := "__length_hint__") hint_rev (by decide +kernel) (by decide +kernel) (by decide +kernel) (by first | exact .inl (by decide +kernel) | exact .inr (by decide +kernel)) (by rw [isSubtype_type]; kernel_rfl)
theorem entry_hint : entryFor table "reversed.__length_hint__" = some Builtin.«reversed.__length_hint__» := entryFor_of_tree (by kernel_rfl)
theorem args_hint (a : Value) : argsOk "reversed.__length_hint__" ⟨[a], []⟩ := by
  unfold argsOk
  rw [signature?_of (id := "reversed.__length_hint__") (n := ['_', '_', 't', 'n', 'i', 'h', '_', 'h', 't', 'g', 'n', 'e', 'l', '_', '_']) (o := ['d', 'e', 's', 'r', 'e', 'v', 'e', 'r']) (by kernel_rfl) owner_rt]
  kernel_rfl
theorem desc_hint : typeOf (.builtin "reversed.__length_hint__") = pure (.type "method_descriptor") := by show builtinType _ = _; rw [builtinType_eq_fast]; kernel_rfl
theorem sub_str_dict : isSubtype (.type "str") (.type "dict") = pure false := by rw [isSubtype_type]; kernel_rfl
def rsObj (x : Str) (t : Tok) (i : Int) : Obj := { cls := .type "reversed", data := .fields #[.str x t, rawInt i] }
def IsRs (h : Heap) (a : Addr) (x : Str) (t : Tok) (i : Int) : Prop := ∃ o, h.get? a = some o ∧ o.cls = .type "reversed" ∧ o.data = .fields #[.str x t, rawInt i]
theorem IsRs.at {h h' : Heap} {a : Addr} {x : Str} {t : Tok} {i : Int} (z : IsRs h a x t i) (e : ∀ o, h.get? a = some o → h'.get? a = some o) : IsRs h' a x t i := let ⟨o, ho, r⟩ := z; ⟨o, e _ ho, r⟩
section
variable {prog : Program} {w : World} {A : Around} {E : Value → Shared → Prop} {s : Shared} {x : Str} {t : Tok}
theorem IsRs.typeIs {a : Addr} {i : Int} (z : IsRs s.heap a x t i) : s.TypeIs (.ref a) "reversed" := let ⟨o, ho, hc, _⟩ := z; ⟨o, ho, hc⟩
theorem line_index {n : Nat} (h : n ≤ sizeLine) : ¬ ((n : Int) ≥ 2 ^ 63) := by
  rw [sizeLine_eq] at h
  omega
theorem code_rs {Q1 : Value → Shared → Prop} (hz : x.length ≤ sizeLine) (h : Q1 (.ref s.heap.objs.size) { s with heap := s.heap.push (rsObj x t ((x.length : Int) - 1)), toks := s.toks + 1 + 1 }) :
    codeAny (model prog w) A (.call (.builtin "reversed.__new__") ⟨[.type "reversed", .str x t], []⟩) (wants Q1 E) s := by
  have hT : s.TypeIs (.str x t) "str" := rfl
  refine codeAny_of_tree ?_
  show wpAny _ A.in1 (do checkBuiltinCall "reversed.__new__" ⟨[.type "reversed", .str x t], []⟩; again (.builtin "reversed.__new__" ⟨[.type "reversed", .str x t], []⟩)) _ _ s
  refine wpAny_bind (wpAny_of_eq (F.newCall_reversed_1 _) (wpAny_pure ⟨plainId_quiet F.plain_reversed_new _, codeAny_builtin F.entry_reversed_new ?_⟩))
  rw [Around.under_plainId F.plain_reversed_new _]
  unfold Builtin.«reversed.__new__»
  refine wpAny_bind (wpAny_of_eq (newClass_reversed _) ?_)
  try dsimp only
  refine wpAny_bind (wpAny_of_eq (a := ()) (by first | rfl | kernel_rfl) ?_)
  try dsimp only
  refine wpAny_bind (wpAny_of_eq (a := ()) (by first | rfl | kernel_rfl) ?_)
  try dsimp only
  refine wpAny_bind (wpAny_specialOf hT norev_str ?_)
  try dsimp only
  refine wpAny_bind ?_
  wp_delta
  refine wpAny_bind (wpAny_isInstance (T := "str") (U := "dict") (b := false) hT sub_str_dict ?_)
  try dsimp only
  try rw [if_neg Bool.false_ne_true]
  try dsimp only
  refine wpAny_bind (wpAny_specialOf hT item_str ?_)
  try dsimp only
  try rw [if_pos (by decide +kernel)]
  refine wpAny_pure ?_
  try dsimp only
  try rw [if_neg (by decide)]
  try dsimp only
  refine wpAny_bind (len_str (line_index hz) ?_)
  refine wpAny_bind (wpAny_of_eq (a := some ((x.length : Nat) : Int)) rfl ?_)
  try dsimp only
  refine wpAny_bind ?_
  show wpAny _ _ (newObj (.type "reversed") (.fields #[.str x t, rawInt ((x.length : Int) - 1)])) _ _ _
  refine wpAny_newObj_type ?_
  exact wpAny_pure h
theorem call_rs {Q : Value → Shared → Prop} (hz : x.length ≤ sizeLine) (h : Q (.ref s.heap.objs.size) { s with heap := s.heap.push (rsObj x t ((x.length : Int) - 1)), toks := s.toks + 1 + 1 }) :
    wpAny (model prog w) A (call (.type "reversed") [.str x t]) Q E s := by
  refine callType_codes (Q₁ := fun obj s₁ => s₁.TypeIs obj "reversed" ∧ Q obj s₁) called_rt (F.typeCall_reversed_1 _) F.entry_object_init (code_rs (A := A.in1) hz ⟨⟨_, Heap.get?_push_size _ rfl, rfl⟩, h⟩) fun obj s1 h1 => ?_
  exact ⟨h1.1, F.args_object_init_2 obj _, object_init_meets called_rt.init.lookup called_rt.made (by decide) prog w A.in1 _ s1 ⟨h1.1, rfl, h1.2⟩⟩
theorem next_rs {it : Addr} {i : Nat} {c : Nat} {Q : Option Value → Shared → Prop} (hit : IsRs s.heap it x t (i : Int)) (hc0 : x.cps[i]? = some c) (hz : x.length ≤ sizeLine)
    (hQ : ∀ h' u k, IsRs h' it x t ((i : Int) - 1) → Heap.SameBut it s.heap h' → Q (some (.str ⟨#[c]⟩ u)) { s with heap := h', toks := k }) : wpAny (model prog w) A (pyNext (.ref it)) Q E s := by
  obtain ⟨o, ho, hc, hd⟩ := id hit
  have hi : i < x.cps.size := (Array.getElem?_eq_some_iff.mp hc0).1
  have hT : s.TypeIs (.str x t) "str" := rfl
  have hz2 := hz
  rw [sizeLine_eq] at hz2
  have hi2 : i < x.length := hi
  unfold pyNext
  refine wpAny_bind (wpAny_attempt (wpAny_callSpecial?_slot (name := Str.ofString "__next__") hit.typeIs slot_rt_next (wpAny_call_entry slot_rt_next hit.typeIs entry_rt_next ?_ (args_rt_next _))))
  unfold Builtin.«reversed.__next__»
  refine wpAny_bind (wpAny_of_eq (a := (Value.ref it, [])) rfl ?_)
  try dsimp only
  refine wpAny_bind (wpAny_field ho hd (x := .str x t) rfl ?_)
  try dsimp only
  refine wpAny_bind (wpAny_field ho hd (x := rawInt (i : Int)) rfl ?_)
  show wpAny _ _ (if (i : Int) < 0 then _ else _) _ _ s
  rw [if_neg (by omega)]
  try dsimp only
  refine wpAny_bind (wpAny_specialOf hT item_str ?_)
  try dsimp only
  try rw [if_neg (by decide)]
  try dsimp only
  refine wpAny_bind (wpAny_mkInt ?_)
  refine wpAny_bind (wpAny_attempt ?_)
  have fin : seqIndex? (i : Int) x.length = some i := seqIndex_of (by omega) (by omega)
  refine getItem_str (s := { s with toks := s.toks + 1 }) (c := c) (by rw [decide_eq_false (by omega), decide_eq_false (by omega)]; rfl) (by rw [fin]; exact hc0) ?_
  try dsimp only
  refine wpAny_bind (wpAny_field (s := { s with toks := s.toks + 1 + 1 }) ho hd (x := rawInt (i : Int)) rfl ?_)
  try dsimp only
  refine wpAny_bind (wpAny_setField (s := { s with toks := s.toks + 1 + 1 }) ho hd (by simp) ?_)
  first
  | refine wpAny_pure ⟨_, rfl, wpAny_pure (hQ _ _ _ ?_ (Heap.SameBut.update ..))⟩
  | refine wpAny_bind (wpAny_pure (wpAny_pure ⟨_, rfl, wpAny_pure (hQ _ _ _ ?_ (Heap.SameBut.update ..))⟩))
  exact ⟨_, Heap.get?_update_self _ ho (Obj.isFreed_of_fields (Obj.data_mapFields hd _)), (Obj.cls_mapFields ..).trans hc, by
    rw [Obj.data_mapFields hd]; simp⟩
theorem end_rs {it : Addr} {Q : Option Value → Shared → Prop} (hh : A.handled = none) (hit : IsRs s.heap it x t (-1)) (hQ : ∀ h', Heap.ExtBut it s.heap h' → Q none { s with heap := h' }) : wpAny (model prog w) A (pyNext (.ref it)) Q E s := by
  obtain ⟨o, ho, hc, hd⟩ := id hit
  unfold pyNext
  refine wpAny_bind (wpAny_attempt (wpAny_callSpecial?_slot (name := Str.ofString "__next__") hit.typeIs slot_rt_next (wpAny_call_entry slot_rt_next hit.typeIs entry_rt_next ?_ (args_rt_next _))))
  unfold Builtin.«reversed.__next__»
  refine wpAny_bind (wpAny_of_eq (a := (Value.ref it, [])) rfl ?_)
  try dsimp only
  refine wpAny_bind (wpAny_field ho hd (x := .str x t) rfl ?_)
  try dsimp only
  refine wpAny_bind (wpAny_field ho hd (x := rawInt (-1)) rfl ?_)
  show wpAny _ _ (if (-1 : Int) < 0 then _ else _) _ _ s
  rw [if_pos (by decide)]
  try dsimp only
  refine wpAny_bind (wpAny_rule ?_)
  refine wpAny_bind ?_
  wp_delta
  refine wpAny_bind (wpAny_setField ho hd (by simp) ?_)
  have ho2 := Heap.get?_update_self (Obj.mapFields (·.setIfInBounds 1 (rawInt (-1)))) ho (Obj.isFreed_of_fields (Obj.data_mapFields hd _))
  refine wpAny_setField (s := { s with heap := s.heap.update it (Obj.mapFields (·.setIfInBounds 1 (rawInt (-1)))) }) ho2 (Obj.data_mapFields hd _) (by simp) ?_
  try dsimp only
  first
  | show wpAny _ _ (newExc (.type "StopIteration") [] >>= _) _ _ _
  | (refine wpAny_bind ?_; show wpAny _ _ (newExc (.type "StopIteration") [] >>= _) _ _ _)
  | (refine wpAny_bind ?_; wp_delta; show wpAny _ _ (newExc (.type "StopIteration") [] >>= _) _ _ _)
  refine wpAny_bind ?_
  simp only [newExc, newTuple]
  refine wpAny_bind (wpAny_newObj_type ?_ (by size_fits))
  refine wpAny_bind (m := firstArgMember _ _) (wpAny_of_eq (a := Value.none) (by first | rfl | (simp only [firstArgMember]; rfl)) ?_)
  refine wpAny_newObj_type ?_ (by size_fits)
  simp only [raiseNew]
  refine wpAny_bind (wpAny_handled ?_)
  first | rw [show A.in1.handled = none from hh] | rw [hh]
  refine wpAny_bind (wpAny_pure (wpAny_throw ?_))
  refine wpAny_bind (wpAny_isInstance (T := "StopIteration") (b := true) ⟨_, Heap.get?_push_size _ rfl, rfl⟩ isSubtype_stop ?_)
  refine wpAny_pure (hQ _ ?_)
  refine ((?_ : Heap.ExtBut it s.heap _).push _).push _
  exact fun b ob hb e => (Heap.get?_update_other _ _ (Ne.symm hb)).trans ((Heap.get?_update_other _ _ (Ne.symm hb)).trans e)
theorem iter_rs {it : Addr} {i : Int} {Q : Value → Shared → Prop} (hit : IsRs s.heap it x t i) (h : Q (.ref it) s) : wpAny (model prog w) A (pyIter (.ref it)) Q E s := by
  refine wpAny_pyIter_slot hit.typeIs slot_rt_iter (wpAny_call_entry slot_rt_iter hit.typeIs entry_rt_iter ?_ (args_rt_iter _))
  show wpAny _ _ (ret (.ref it)) _ _ s
  exact wpAny_pure ⟨_, rfl, "reversed", _, hit.typeIs, slot_rt_next.lookup, h⟩
end
theorem walks_rs {prog : Program} {w : World} {A : Around} (hh : A.handled = none) (it : Addr) (x : Str) (t : Tok) (hz : x.length ≤ sizeLine) :
    Walks prog w A it [it] [it] x.cps.size (fun i v => ∃ c u, x.cps[x.cps.size - 1 - i]? = some c ∧ v = .str ⟨#[c]⟩ u) (fun i h => i ≤ x.cps.size ∧ IsRs h it x t ((x.cps.size : Int) - 1 - (i : Int))) where
  sub := fun b hb => hb
  frame := fun _ _ _ z hk => ⟨z.1, z.2.at fun o e => hk it (by simp) o e⟩
  item := fun i s Q E hi z hQ => by
    have e : (x.cps.size : Int) - 1 - (i : Int) = ((x.cps.size - 1 - i : Nat) : Int) := by omega
    have hit := z.2
    rw [e] at hit
    have hx : x.cps[x.cps.size - 1 - i]? = some (x.cps[x.cps.size - 1 - i]'(by omega)) := Array.getElem?_eq_getElem (by omega)
    refine next_rs hit hx hz fun h' u k hit' hs' => ?_
    have e2 : ((x.cps.size - 1 - i : Nat) : Int) - 1 = (x.cps.size : Int) - 1 - ((i + 1 : Nat) : Int) := by omega
    rw [e2] at hit'
    exact hQ _ h' k ⟨_, _, hx, rfl⟩ ⟨hi, hit'⟩ fun b o hb eo => hs'.extBut b o (fun h => hb (by simp [h])) eo
  done := fun s Q E z hQ => by
    have e : (x.cps.size : Int) - 1 - (x.cps.size : Int) = -1 := by omega
    have hit := z.2
    rw [e] at hit
    exact end_rs hh hit fun h' he' => hQ h' s.toks fun b o hb eo => he' b o (fun h => hb (by simp [h])) eo
  self := fun _ _ _ _ z hQ => iter_rs z.2 hQ

section
variable {prog : Program} {w : World} {A : Around} {E : Value → Shared → Prop} {s : Shared} {x : Str} {t : Tok}
theorem code_hint {it : Addr} {i : Nat} {Q : Value → Shared → Prop} (hit : IsRs s.heap it x t (i : Int)) (hi : i < x.length) (hz : x.length ≤ sizeLine) (hQ : ∀ u k, Q (.int ((i : Int) + 1) u) { s with toks := k }) :
    wpAny (model prog w) A (call (.builtin "reversed.__length_hint__") [.ref it]) Q E s := by
  obtain ⟨o, ho, hc, hd⟩ := id hit
  have hz2 := hz
  rw [sizeLine_eq] at hz2
  refine wpAny_call_entry slot_hint hit.typeIs entry_hint ?_ (args_hint _)
  unfold Builtin.«reversed.__length_hint__»
  refine wpAny_bind (wpAny_of_eq (a := Value.ref it) rfl ?_)
  try dsimp only
  refine wpAny_bind (wpAny_field ho hd (x := .str x t) rfl ?_)
  try dsimp only
  try rw [if_neg (by decide)]
  try dsimp only
  refine wpAny_bind (len_str (line_index hz) ?_)
  refine wpAny_bind (wpAny_of_eq (a := some ((x.length : Nat) : Int)) rfl ?_)
  try dsimp only
  refine wpAny_bind (wpAny_field (s := { s with toks := s.toks + 1 + 1 }) ho hd (x := rawInt (i : Int)) rfl ?_)
  show wpAny _ _ (if ((x.length : Nat) : Int) < (i : Int) + 1 then _ else _) _ _ _
  rw [if_neg (by omega)]
  show wpAny _ _ (retInt ((i : Int) + 1)) _ _ _
  exact wpAny_bind (wpAny_mkInt (wpAny_pure ⟨_, rfl, hQ _ _⟩))
/-- the length hint -/
theorem hint_rs {it : Addr} {i : Nat} {Q : Bool → Shared → Prop} (hit : IsRs s.heap it x t (i : Int)) (hi : i < x.length) (hz : x.length ≤ 1000000) (hQ : ∀ k, Q true { s with toks := k }) : wpAny (model prog w) A (Builtin.List.listLengthHint (.ref it)) Q E s := by
  obtain ⟨o, ho, hc, hd⟩ := id hit
  unfold Builtin.List.listLengthHint
  refine wpAny_bind (wpAny_specialOf hit.typeIs nolen_rev ?_)
  show wpAny _ _ (specialOf (Value.ref it) (Str.ofString "__length_hint__") >>= _) _ _ _
  refine wpAny_bind (wpAny_specialOf hit.typeIs hint_rev ?_)
  generalize hid : ("reversed.__length_hint__" : String) = id0
  wp_delta
  rw [show splitId id0 = some ("reversed", "__length_hint__") from by subst hid; decide +kernel]
  subst hid
  refine wpAny_bind (wpAny_isInstance (b := true) hit.typeIs (by rw [isSubtype_type]; kernel_rfl) ?_)
  try dsimp only
  rw [if_neg (show ¬ (!true) = true by decide)]
  rw [if_neg (by decide +kernel)]
  refine wpAny_bind (wpAny_rule ?_)
  refine wpAny_bind ?_
  unfold bindSpecial
  refine wpAny_bind (wpAny_of_eq desc_hint ?_)
  rw [if_pos (by decide +kernel)]
  refine wpAny_pure ?_
  try dsimp only
  refine wpAny_bind (wpAny_attempt (code_hint hit hi (Nat.le_trans hz (by decide)) fun u k => ?_))
  try dsimp only
  obtain ⟨j, hj⟩ : ∃ j : Int, j = (i : Int) + 1 := ⟨_, rfl⟩
  rw [← hj]
  refine wpAny_bind (wpAny_of_eq (show asInt? (.int j u) = pure (some j) from rfl) ?_)
  try dsimp only
  have h1 : Builtin.List.listFitsIndex j = true := by
    unfold Builtin.List.listFitsIndex
    rw [Bool.and_eq_true]
    exact ⟨decide_eq_true (by omega), decide_eq_true (by omega)⟩
  have h2 : Builtin.List.listTooLong j.toNat = false := by
    unfold Builtin.List.listTooLong
    exact decide_eq_false (by rw [sizeLine_eq]; omega)
  rw [if_neg (by rw [h1]; decide), if_neg (by omega), if_neg (by rw [h2]; decide)]
  have h3 : (j != 0) = true := by
    rw [bne_iff_ne]
    omega
  rw [h3]
  exact wpAny_pure (hQ k)
end

section
variable {prog : Program} {w : World} {A : Around} {E : Value → Shared → Prop} {s : Shared} {x : Str} {t : Tok}
/-- what is collected -/
abbrev RevAt (x : Str) (i : Nat) (v : Value) : Prop := ∃ c u, x.cps[x.cps.size - 1 - i]? = some c ∧ v = .str ⟨#[c]⟩ u
theorem extend_rs {R : Result → Shared → Prop} (hh : A.handled = none) {it S : Addr} {res : Value} {c0 : Nat} (hit : IsRs s.heap it x t ((x.cps.size : Int) - 1)) (h1 : 1 ≤ x.length) (hz : x.length ≤ 1000000) (hSI : S ≠ it) (hS : s.heap.get? S = some { cls := .type "list", data := .seq #[] c0 })
    (hR : ∀ h' tk acc' c', (∀ b o, b ≠ S → b ≠ it → s.heap.get? b = some o → h'.get? b = some o) → h'.get? S = some { cls := .type "list", dict := none, data := .seq acc' c', slots := #[] } → ItemsOf (RevAt x) acc' x.cps.size → R (.ok (.ret res)) { s with heap := h', toks := tk }) :
    wpAny (model prog w) A.in1 (Builtin.List.listExtendWith (.ref S) (.ref it) res)
      (fun fin s' => match fin with | .done f => R (.ok f) s' | .again c' => c'.quiet = true ∧ codeAny (model prog w) A c' R s') (fun e s' => R (.error e) s') s := by
  have hz2 : x.length ≤ sizeLine := Nat.le_trans hz (by decide)
  have W := (walks_rs (prog := prog) (w := w) (A := A.in1) hh it x t hz2).toS
  have hSf : S ∉ [it] := fun hm => hSI (List.mem_singleton.mp hm)
  have hx1 : 1 ≤ x.cps.size := h1
  have e0 : (x.cps.size : Int) - 1 = ((x.cps.size - 1 : Nat) : Int) := by omega
  unfold Builtin.List.listExtendWith
  refine wpAny_bind (wpAny_typeOf hit.typeIs ?_)
  have q1 : Builtin.List.listSameRef (.ref S) (.ref it) = false := by simp [Builtin.List.listSameRef, hSI]
  have q2 : (Value.type "reversed" == Value.type "list") = false := by decide
  have q3 : (Value.type "reversed" == Value.type "tuple") = false := by decide
  simp only [q1, q2, q3, Bool.or_false, Bool.false_eq_true, if_false]
  refine wpAny_bind (iter_rs hit ?_)
  refine wpAny_bind (wpAny_holding ?_)
  refine hint_rs (i := x.cps.size - 1) (by rw [← e0]; exact hit) (by show x.cps.size - 1 < x.cps.size; omega) hz fun k => ?_
  show wpAny _ A.in1 (rule "list.extend.makes-room" >>= fun _ => Builtin.List.listTouch (.ref S) >>= fun _ => again (.builtin "list.extend.loop" ⟨[.ref S, .ref it, res], []⟩)) _ _ _
  refine wpAny_bind (wpAny_rule ?_)
  refine wpAny_bind ?_
  show wpAny _ A.in1 (updateSeq S (·.push .none) >>= fun _ => updateSeq S (·.pop)) _ _ _
  refine wpAny_bind (wpAny_updateSeq (s := { s with toks := k }) hS rfl ?_)
  have hS2 := Heap.get?_update_self (Obj.mapSeq (·.push Value.none)) hS rfl
  refine wpAny_updateSeq (hz := by seq_fits) hS2 rfl ?_
  have hS3 := Heap.get?_update_self (Obj.mapSeq (·.pop)) hS2 rfl
  have oth : ∀ b o, b ≠ S → s.heap.get? b = some o → ((s.heap.update S (Obj.mapSeq (·.push Value.none))).update S (Obj.mapSeq (·.pop))).get? b = some o :=
    fun b o hb e => (Heap.get?_update_other _ _ (Ne.symm hb)).trans ((Heap.get?_update_other _ _ (Ne.symm hb)).trans e)
  have ez : (x.cps.size : Int) - 1 - ((0 : Nat) : Int) = (x.cps.size : Int) - 1 := by omega
  refine wpAny_pure ⟨plainId_quiet F.plain_extend_loop _, codeAny_extend_loopS W hz2 _ hSf _ x.cps.size 0 _ _ _ rfl (Nat.zero_le _) ⟨Nat.zero_le _, by rw [ez]; exact hit.at fun o e => oth it o (Ne.symm hSI) e⟩ hS3 (ItemsOf.nil _) fun s' acc' c' hm hS' hacc => ?_⟩
  rw [Moved.eq_with hm]
  refine hR s'.heap s'.toks acc' c' (fun b ob hb hi e => hm.heap b ob (fun hmem => ?_) (oth b ob hb e)) hS' hacc
  rcases List.mem_cons.mp hmem with e' | hmem
  · exact hb e'
  · exact hi (List.mem_singleton.mp hmem)
theorem call_list_rs {Q : Value → Shared → Prop} (hh : A.handled = none) {it : Addr} (hit : IsRs s.heap it x t ((x.cps.size : Int) - 1)) (h1 : 1 ≤ x.length) (hz : x.length ≤ 1000000)
    (hQ : ∀ h' tk acc' c', (∀ b o, b ≠ it → s.heap.get? b = some o → h'.get? b = some o) → h'.get? s.heap.objs.size = some { cls := .type "list", dict := none, data := .seq acc' c', slots := #[] } → ItemsOf (RevAt x) acc' x.cps.size → Q (.ref s.heap.objs.size) { s with heap := h', toks := tk }) :
    wpAny (model prog w) A (call (.type "list") [.ref it]) Q E s := by
  have hlt : it < s.heap.objs.size := let ⟨_, ho, _⟩ := hit; Heap.lt_size ho
  refine callType_codes (Q₁ := fun obj s₁ => obj = .ref s.heap.objs.size ∧ s₁ = { s with heap := s.heap.push { cls := .type "list", data := .seq #[] } }) F.called_list (F.typeCall_list_1 _) F.entry_list_init
    (code_list_new _ ⟨rfl, rfl⟩) fun obj s1 hs1 => ?_
  obtain ⟨rfl, rfl⟩ := hs1
  have hS : (s.heap.push { cls := .type "list", data := .seq #[] }).get? s.heap.objs.size = some { cls := .type "list", data := .seq #[] } := Heap.get?_push_size _ rfl
  refine ⟨⟨_, hS, rfl⟩, F.args_list_init_2 _ _, ?_⟩
  show wpAny _ A.in1.in1 (do let old ← Builtin.List.listItems (.ref s.heap.objs.size); Builtin.List.listUpdate (.ref s.heap.objs.size) (fun _ => #[]); letGo old.toList.reverse; Builtin.List.listExtendWith (.ref s.heap.objs.size) (.ref it) .none) _ _ _
  refine wpAny_bind ?_
  unfold Builtin.List.listItems
  refine wpAny_bind (wpAny_seqItems hS rfl (wpAny_pure ?_))
  show wpAny _ A.in1.in1 (updateSeq s.heap.objs.size (fun _ => #[]) >>= fun _ => letGo (#[] : Array Value).toList.reverse >>= fun _ => Builtin.List.listExtendWith (.ref s.heap.objs.size) (.ref it) .none) _ _ _
  refine wpAny_bind (wpAny_updateSeq hS rfl ?_)
  have hS2 := Heap.get?_update_self (Obj.mapSeq (fun _ => (#[] : Array Value))) hS rfl
  have oth : ∀ b o, b ≠ s.heap.objs.size → (s.heap.push { cls := .type "list", data := .seq #[] }).get? b = some o → ((s.heap.push { cls := .type "list", data := .seq #[] }).update s.heap.objs.size (Obj.mapSeq (fun _ => (#[] : Array Value)))).get? b = some o :=
    fun b o hb e => (Heap.get?_update_other _ _ (Ne.symm hb)).trans e
  have old : ∀ b o, s.heap.get? b = some o → ((s.heap.push { cls := .type "list", data := .seq #[] }).update s.heap.objs.size (Obj.mapSeq (fun _ => (#[] : Array Value)))).get? b = some o :=
    fun b o e => oth b o (Nat.ne_of_lt (Heap.lt_size e)) (Heap.get?_push_of_some _ e)
  refine wpAny_bind (wpAny_letGo ?_)
  refine extend_rs (A := A.in1) hh (hit.at fun o e => old it o e) h1 hz (Nat.ne_of_gt hlt) hS2 fun h' tk acc' c' hk hS' hacc => ?_
  exact ⟨rfl, hQ h' tk acc' c' (fun b o hb e => hk b o (Nat.ne_of_lt (Heap.lt_size e)) hb (old b o e)) hS' hacc⟩
end
theorem vals_rs {x : Str} {acc : Array Value} (h : ItemsOf (RevAt x) acc x.cps.size) : L2.Vals (x.cps.toList.reverse.map fun c => L2.V.str ⟨#[c]⟩) acc.toList := by
  have key : ∀ (l : List L2.V) (us : List Value), l.length = us.length → (∀ (i : Nat) (v : L2.V) (u : Value), l[i]? = some v → us[i]? = some u → L2.RelV v u) → L2.Vals l us := by
    intro l
    induction l with
    | nil =>
      intro us hl _
      cases us with
      | nil => exact .nil
      | cons _ _ => cases hl
    | cons v r ih =>
      intro us hl hr
      cases us with
      | nil => cases hl
      | cons u us => exact .cons (hr 0 v u rfl rfl) (ih us (Nat.succ.inj hl) fun i a b h1 h2 => hr (i + 1) a b h1 h2)
  have hs : acc.toList.length = x.cps.size := by rw [Array.length_toList]; exact h.1
  refine key _ _ (by rw [List.length_map, List.length_reverse, Array.length_toList, hs]) fun i v u h1 h2 => ?_
  rw [Array.getElem?_toList] at h2
  obtain ⟨c, tk, hc, rfl⟩ := h.2 i u h2
  have hi : i < x.cps.size := by
    have := (Array.getElem?_eq_some_iff.mp h2).1
    rw [h.1] at this
    exact this
  rw [List.getElem?_map, List.getElem?_reverse (by rw [Array.length_toList]; exact hi), Array.length_toList, Array.getElem?_toList, hc] at h1
  cases h1
  exact ⟨tk, rfl⟩
section
open L2
variable {X : Cx}
/-- list(reversed(x)), x a text: a new list of its signs, from behind -/
def tListRs (te : TE) : TE := fun σ H Q => te σ H fun v H1 => ∃ x : Str, v = .str x ∧ 1 ≤ x.length ∧ x.length ≤ 1000000 ∧ ∀ q, H1 q = none → Q (.ref q) (upd H1 q (.lst (x.cps.toList.reverse.map fun c => V.str ⟨#[c]⟩)))
theorem pe_listRs {e : Expr} {te : TE} {p p2 pos pos2 : Pos} (hc : X.calm = true) (hg : Gl X "list") (hm : X.mg "list" = none) (hg2 : Gl X "reversed") (hm2 : X.mg "reversed" = none) (he : PE X e te)
    (hs : starEach [e] X.env = (false, eval e X.env) :: starEach [] X.env := by rfl)
    (hs2 : starEach [.Call (.Name "reversed" p2) [e] [] pos2] X.env = (false, eval (.Call (.Name "reversed" p2) [e] [] pos2) X.env) :: starEach [] X.env := by rfl) :
    PE X (.Call (.Name "list" p) [.Call (.Name "reversed" p2) [e] [] pos2] [] pos) (tListRs te) := by
  refine ⟨fun pins s σ H Q I h => ?_⟩
  refine Call_ (ld_blt (u := .type "list") I hg hm (by decide +kernel) (PyProof.Rows.callWith_type1 (args_cons (Call_ (ld_blt I hg2 hm2 PyProof.Rows.boot_reversed (PyProof.Rows.callWith_type1 (args_cons (thn (he.run pins s σ H _ I h) fun u s1 hq => args_nil ?_) hs) hs rfl))) hs2) hs2 rfl))
  obtain ⟨v, H1, I1, r1, x, ev, h1, hz, q⟩ := hq
  subst ev
  obtain ⟨t, rfl⟩ := r1
  refine call_rs (Nat.le_trans hz (by decide)) (args_nil ?_)
  have k0 : ∀ b o, s1.heap.get? b = some o → (s1.heap.push (rsObj x t ((x.length : Int) - 1))).get? b = some o := fun b o e => Heap.get?_push_of_some _ e
  have I2 : Inv X pins σ H1 { s1 with heap := s1.heap.push (rsObj x t ((x.length : Int) - 1)), toks := s1.toks + 1 + 1 } := I1.kept k0
  obtain ⟨f0, f1, f2, f3, f4, f5⟩ := I1.fpOk (H' := H1) (b := s1.heap.objs.size) (Nat.le_refl _) (I1.hok.fresh (Nat.le_refl _))
  refine call_list_rs (s := { s1 with heap := s1.heap.push (rsObj x t ((x.length : Int) - 1)), toks := s1.toks + 1 + 1 }) (I1.ok.hd hc) ⟨_, Heap.get?_push_size _ rfl, rfl, rfl⟩ h1 hz fun h' tk acc c' hk hS hi => ?_
  have hne : (s1.heap.push (rsObj x t ((x.length : Int) - 1))).objs.size ≠ s1.heap.objs.size := by
    rw [Heap.size_push]
    exact Nat.succ_ne_self _
  have kp : ∀ b u, s1.heap.get? b = some u → h'.get? b = some u := fun b u e => hk b u (Nat.ne_of_lt (Heap.lt_size e)) (Heap.get?_push_of_some _ e)
  have hD : s1.heap.objs.size ≤ (s1.heap.push (rsObj x t ((x.length : Int) - 1))).objs.size := by
    rw [Heap.size_push]
    exact Nat.le_succ _
  refine ⟨.ref (s1.heap.push (rsObj x t ((x.length : Int) - 1))).objs.size, _, I1.laid (t' := tk) kp hD (show ObjOk X.prog X.w _ h' _ (.lst (x.cps.toList.reverse.map fun c => V.str ⟨#[c]⟩)) from ⟨?_, acc.toList, c', vals_rs hi, ?_⟩), rfl, q _ (I1.hok.fresh hD)⟩
  · rw [List.length_map, List.length_reverse, Array.length_toList]
    exact Nat.le_trans hz (by decide)
  · rw [hS, Array.toArray_toList]
end
end Rs

namespace It2
open PySem PySem.Spec PyProof.Rows L2
/-! ### x in t, x not in t: t a tuple of data, x data -/
def rInTD (K : PySem.W.Frag) (neg : Bool) : R2 := fun x y H Q => ∃ d ds, Dp K H x d ∧ Dp K H y (.tuple ds) ∧ SeqAt.shaped d = true ∧ SeqAt.shaped (.tuple ds) = true ∧ Q (.bl (if neg then !ds.any fun z => PyData.eqv z d else ds.any fun z => PyData.eqv z d)) H
theorem op_notInTD {X : Cx} (hu : X.A.units + 65 < cLine) : OpR X (compareOp .NotIn) (rInTD X.K true) := by
  intro pins s σ H x y v u Q I rx ry h
  obtain ⟨d, ds, hd, he, sd, se, q⟩ := h
  obtain ⟨as, r1⟩ := Dp.reads I d x v hd rx
  obtain ⟨bs, r2⟩ := Dp.reads I (.tuple ds) y u he ry
  exact SeqAt.notIn_tuple_reads r2 r1 (SeqAt.canLay_of_shaped se) (SeqAt.canLay_of_shaped sd) (room_in_shaped sd hu) ⟨.bl (!ds.any fun z => PyData.eqv z d), H, I, rfl, q⟩
theorem op_inTD {X : Cx} (hu : X.A.units + 65 < cLine) : OpR X (compareOp .In) (rInTD X.K false) := by
  intro pins s σ H x y v u Q I rx ry h
  obtain ⟨d, ds, hd, he, sd, se, q⟩ := h
  obtain ⟨as, r1⟩ := Dp.reads I d x v hd rx
  obtain ⟨bs, r2⟩ := Dp.reads I (.tuple ds) y u he ry
  exact SeqAt.in_tuple_reads r2 r1 (SeqAt.canLay_of_shaped se) (SeqAt.canLay_of_shaped sd) (room_in_shaped sd hu) ⟨.bl (ds.any fun z => PyData.eqv z d), H, I, rfl, q⟩
end It2

namespace Rd
open PySem PySem.Spec PyProof.Rows L2 GxR
open C8 (pss_cut tCut)
/-! ### words, plainly -/
theorem one_lt (a b : Nat) : decide (([a] : List Nat) < [b]) = decide (a < b) := by
  by_cases h : a < b
  · rw [decide_eq_true h]
    exact decide_eq_true (List.cons_lt_cons_iff.mpr (.inl h))
  · rw [decide_eq_false h]
    refine decide_eq_false fun z => ?_
    rcases List.cons_lt_cons_iff.mp z with z | ⟨_, z⟩
    · exact h z
    · exact List.not_lt_nil _ z
def signB (c : Nat) : Bool := (!decide (c < 33) && !decide (36 < c)) || (!decide (c < 38) && !decide (126 < c))
def wordB (a : Str) : Bool := decide ((1 : Int) ≤ (a.length : Int)) && (decide ((a.length : Int) ≤ 40) && a.cps.toList.all signB)
theorem wordB_len {a : Str} (h : wordB a = true) : 1 ≤ a.length ∧ a.length ≤ 40 := by
  unfold wordB at h
  rw [Bool.and_eq_true, Bool.and_eq_true] at h
  obtain ⟨h1, h2, _⟩ := h
  have h1 := of_decide_eq_true h1
  have h2 := of_decide_eq_true h2
  omega
theorem wordB_signs {a : Str} (h : wordB a = true) : ∀ c ∈ a.cps.toList, signB c = true := by
  unfold wordB at h
  rw [Bool.and_eq_true, Bool.and_eq_true] at h
  exact List.all_eq_true.mp h.2.2
theorem small_line {n : Nat} (h : n ≤ 1000000) : n ≤ sizeLine := Nat.le_trans h (by decide)
theorem tyL {K : PySem.W.Frag} {H : Hp} {a : Addr} {xs : List V} (h : SqL K H a xs) : TyX K H (.ref a) (.type "list") := by
  rcases h with (h | ⟨o, h⟩) | ⟨o, its, n, e, c, _⟩
  · exact .base (.lst h)
  · exact .base (.frz h)
  · exact .kList e c
theorem tyT {K : PySem.W.Frag} {H : Hp} {a : Addr} {xs : List V} (h : SqT K H a xs) : TyX K H (.ref a) (.type "tuple") := by
  rcases h with (h | ⟨o, h⟩) | ⟨o, its, n, e, c, _⟩
  · exact .base (.tup h)
  · exact .fTuple h
  · exact .kTuple e c
theorem for_enum {K : PySem.W.Frag} {a : Addr} {xs : List V} {g : TG} {tb : TS} {D : Ends} {σ : L2.St} {H : Hp} (Pv : Nat → L2.St → Hp → Prop) (h0 : Pv 0 σ H) (hl : ∀ i σ H, i ≤ xs.length → Pv i σ H → SqL K H a xs)
    (hs : ∀ (i : Nat) (x : V) (T : Addr) (σ : L2.St) (H : Hp), xs[i]? = some x → H T = none → Pv i σ H → g (.ref T) σ (upd H T (.tup [.int (i : Nat), x])) fun σ2 H2 => tb { D with nx := Pv (i + 1), ct := Pv (i + 1), bk := D.nx } σ2 H2) (hd : ∀ σ H, Pv xs.length σ H → D.nx σ H) :
    ∃ W : Nat → Nat → L2.St → Hp → Prop, (∃ m, W 0 m σ H) ∧ ∀ i m σ H, W i m σ H →
      ((Ite K a).stop i H ∧ D.nx σ H) ∨ ((Ite K a).go i H ∧ ∃ N : L2.St → Hp → Prop, (∀ σ' H', N σ' H' → ∃ m', m' < m ∧ W (i + 1) m' σ' H') ∧ ∀ x H', (Ite K a).yld i H x H' → g x σ H' fun σ2 H2 => tb { D with nx := N, ct := N, bk := D.nx } σ2 H2) := by
  refine ⟨fun i m σ H => m = xs.length - i ∧ i ≤ xs.length ∧ Pv i σ H, ⟨xs.length, by simp, Nat.zero_le _, h0⟩, ?_⟩
  rintro i m σ H ⟨rfl, hi, p⟩
  have q := hl i σ H hi p
  by_cases hlt : i < xs.length
  · refine .inr ⟨⟨xs, xs[i], q, by simp [hlt]⟩, Pv (i + 1), fun σ' H' p' => ⟨xs.length - (i + 1), by omega, rfl, hlt, p'⟩, fun x H' y => ?_⟩
    obtain ⟨T, z, rfl, nT, rfl, hz⟩ := y
    exact hs i z T σ H (hz xs q) nT p
  · have e : i = xs.length := by omega
    subst e
    exact .inl ⟨⟨xs, q, Nat.le_refl _⟩, hd σ H p⟩
theorem yesT {σ : L2.St} {H : Hp} {f g : Hp → Prop} (h : f H) : tYes σ H fun b H3 => if b = true then f H3 else g H3 := by
  show if true = true then f H else g H
  exact iteT h
theorem Kp.set {Ps : List Addr} {H H' : Hp} (t : Tb Ps H) (k : Kp Ps H H') {D : Addr} {o : HO} (h : H D = Option.none) : Kp Ps H (upd H' D o) := by
  have hD := t.none h
  refine ⟨fun P hP => ?_, fun b u hb e => ?_⟩
  · obtain ⟨ps, h1, h2⟩ := k.1 P hP
    exact ⟨ps, by rw [upd_ne (fun z => hD (by rw [← z]; exact hP))]; exact h1, h2⟩
  · rw [upd_ne (ne_of_none e h)]
    exact k.2 b u hb e
theorem take_snoc {α : Type} {l : List α} {i : Nat} {x : α} (h : l[i]? = some x) : l.take (i + 1) = l.take i ++ [x] := by
  rw [List.take_add_one, h]
  rfl
def top (i : Nat) : Stmt := PySem.Challenge.pw_redraft_k11_written_and_read.main.body.getD i (.Pass ⟨0, 0, 0, 0⟩)
abbrev sIsSign : Stmt := top 5
abbrev sIsWord : Stmt := top 6
abbrev sIsNumber : Stmt := top 11
abbrev sRowWords : Stmt := top 12
abbrev sIsRow : Stmt := top 13
abbrev sCheckRows : Stmt := top 14
abbrev sWrittenRow : Stmt := top 19
abbrev sWritten : Stmt := top 20
abbrev sReadNumber : Stmt := top 21
abbrev sReadWords : Stmt := top 22
abbrev sReadRow : Stmt := top 23
abbrev sRead : Stmt := top 24
abbrev sCellAt : Stmt := top 26
abbrev sSignBy : Stmt := top 27
abbrev sWordBy : Stmt := top 28
abbrev sNear : Stmt := top 29
abbrev sMenu : Stmt := top 30
abbrev sWhole : Stmt := top 31
abbrev sTexts : Stmt := top 32
abbrev sRowsTold : Stmt := top 33
abbrev sAnyRow : Stmt := top 34
abbrev sLine : Stmt := top 35
abbrev sLaw : Stmt := top 36
/-! ### the program's words -/
section
variable {P : Program} {w : World} {K : PySem.W.Frag} {mg : Str → Option Value} {base : Heap}
abbrev FnP (K : PySem.W.Frag) (x : Str) (st : Stmt) (f : Addr) (fd : FuncData) : Prop := FunD K x x (defArgs st) (defBody st) (defScope st) [] [] f fd
theorem scIsSign : FnScope ["sign"] ["sign"] (defScope sIsSign) := ⟨rfl, rfl, rfl, by decide +kernel, rfl, by decide +kernel, by decide +kernel⟩
theorem scIsWord : FnScope ["word", "sign"] ["word"] (defScope sIsWord) := ⟨rfl, rfl, rfl, by decide +kernel, rfl, by decide +kernel, by decide +kernel⟩
def spIsSign : Sp := fun vs H Q _ => ∃ c : Nat, vs = [.str ⟨#[c]⟩] ∧ Q (.bl (signB c)) H
theorem ok_is_sign {f : Addr} {fd : FuncData} (F : FnP K "is_sign" sIsSign f fd) : FnOk P w K mg base (L2.CX P w) 1 f fd ["sign"] spIsSign := by
  refine F.ok scIsSign (fun vs H Q E h => ?_) (fun cdv A outer s H vs Q E hr h => ?_)
  · obtain ⟨c, rfl, _⟩ := h
    rfl
  · obtain ⟨c, rfl, q⟩ := h
    refine ⟨_, pss_one (ps_ret (pe_or (pe_chain op_le_str op_le_str pe_str (pv 0) pe_str) (pe_one (pe_chain op_le_str op_le_str pe_str (pv 0) pe_str)))), ?_⟩
    have k1 : ("!" : Str).cps.toList = [33] := by decide +kernel
    have k2 : ("$" : Str).cps.toList = [36] := by decide +kernel
    have k3 : ("&" : Str).cps.toList = [38] := by decide +kernel
    have k4 : ("~" : Str).cps.toList = [126] := by decide +kernel
    have kc : (⟨#[c]⟩ : Str).cps.toList = [c] := rfl
    refine ⟨_, rfl, _, _, rfl, rfl, _, rfl, ?_⟩
    rw [k1, kc, one_lt]
    unfold signB at q
    by_cases h1 : c < 33
    · rw [decide_eq_true h1] at q ⊢
      refine iteF ⟨_, rfl, iteF ⟨_, rfl, _, _, rfl, rfl, _, rfl, ?_⟩⟩
      rw [k3, kc, one_lt]
      by_cases h3 : c < 38
      · rw [decide_eq_true h3] at q ⊢
        exact iteF q
      · omega
    · rw [decide_eq_false h1] at q ⊢
      refine iteT ⟨_, _, rfl, rfl, ?_⟩
      rw [k2, kc, one_lt]
      by_cases h2 : 36 < c
      · rw [decide_eq_true h2] at q ⊢
        refine ⟨_, rfl, iteF ⟨_, rfl, _, _, rfl, rfl, _, rfl, ?_⟩⟩
        rw [k3, kc, one_lt]
        by_cases h3 : c < 38
        · rw [decide_eq_true h3] at q ⊢
          exact iteF q
        · rw [decide_eq_false h3] at q ⊢
          refine iteT ⟨_, _, rfl, rfl, ?_⟩
          rw [k4, kc, one_lt]
          exact q
      · rw [decide_eq_false h2] at q ⊢
        exact ⟨_, rfl, iteT q⟩

def spIsWord (Ps : List Addr) : Sp := fun vs H Q _ => ∃ a : Str, vs = [.str a] ∧ a.length ≤ sizeLine ∧ Tb Ps H ∧ ∀ H', Kp Ps H H' → Q (.bl (wordB a)) H'
theorem ok_is_word {Ps : List Addr} {f fS Pw : Addr} {fd fdS : FuncData} (F : FnP K "is_word" sIsWord f fd) (hf : f = He.fAd K ("is_word", none)) (hPw : Pw ∈ Ps) (TB : GxR.TabB base mg (He.codeOf K ("is_word", none)) Pw)
    (FS : FnP K "is_sign" sIsSign fS fdS) (bS : Binds K fdS ["sign"] []) (gS : mg "is_sign" = some (.ref fS)) (mI : mg "isinstance" = none) (mS : mg "str" = none) (mL : mg "len" = none) (mA : mg "all" = none) {tL : Tok} (mN : mg "LONGEST" = some (.int 40 tL)) :
    FnOk P w K mg base (L2.CX P w) 3 f fd ["word"] (spIsWord Ps) := by
  have GS : FnOk P w K mg base (L2.CX P w) 1 fS fdS ["sign"] spIsSign := ok_is_sign FS
  refine okC F hf scIsWord (fun vs H Q E h => ?_) (fun A outer s H vs Q E hr h => ?_)
  · obtain ⟨a, rfl, _⟩ := h
    rfl
  · obtain ⟨a, rfl, hz, ht, q⟩ := h
    refine ⟨_, pss_cons (ps_if (pt_not (pt_val (pe_callB call_isi (by rfl) mI (by decide +kernel) (pa_cons (pv 0) (pa_cons (pe_bltn (v := .ty "str") (by rfl) mS (by decide +kernel) rfl) pa_nil))))) (pss_one (ps_ret pe_bl)) pss_nil)
      (pss_one (ps_ret (pe_and (pe_chain op_le op_le pe_int (pe_callB call_len_str (by rfl) mL PySem.boot_len (pa_cons (pv 0) pa_nil)) (pe_glob (v := .int 40) (by rfl) mN ⟨_, rfl⟩))
        (pe_one (pe_allG (own := [("sign", 1)]) (gt := gName 1) (tt := tYes) (P := Pw) hr scIsWord.nd (by rfl) mA (by decide +kernel) TB rfl ⟨rfl, by decide +kernel, rfl, blkOk_by (N := ["word", "sign"]) (sc := defScope sIsWord) (by decide +kernel)⟩ (pi_str (pv 0))
          (fun _ _ _ _ _ _ _ _ _ => pg_name (i := 1) scIsWord.nd rfl (Or.inl rfl)) (fun _ _ _ _ _ _ _ _ _ _ => pts_nil) (fun _ _ _ _ _ _ _ _ _ hb => pe_call GS hb (by rfl) gS FS.kp bS .nil passL (pa_cons (pv 1) pa_nil))))))), ?_⟩
    refine ⟨_, rfl, .str a, .ty "str", _, _, true, rfl, .ty _, .base (.str a), kit_ty (by decide +kernel), true, rfl, iteF ?_⟩
    refine ⟨_, rfl, a, rfl, hz, 1, (a.length : Int), rfl, rfl, _, rfl, ?_⟩
    have eN : wordB a = (decide ((1 : Int) ≤ (a.length : Int)) && (decide ((a.length : Int) ≤ 40) && a.cps.toList.all signB)) := rfl
    rw [eN] at q
    by_cases h1 : (1 : Int) ≤ (a.length : Int)
    · rw [decide_eq_true h1] at q ⊢
      refine iteT ⟨(a.length : Int), 40, rfl, rfl, _, rfl, ?_⟩
      by_cases h2 : (a.length : Int) ≤ 40
      · rw [decide_eq_true h2] at q ⊢
        refine iteT ⟨_, rfl, a, rfl, ht Pw hPw, fun H2 hT => ?_⟩
        have k2 := Kp.tab ht hPw hT
        refine read_all_str (pb := signB) (Pv := fun H3 => H3 = H2) rfl (fun i c H3 R _ p hR => ?_) (fun H3 p => ?_)
        · subst p
          refine ⟨rfl, _, rfl, c, rfl, hR _ rfl⟩
        · subst p
          exact q _ k2
      · rw [decide_eq_false h2] at q ⊢
        exact iteF (q H (Kp.refl ht))
    · rw [decide_eq_false h1] at q ⊢
      exact iteF ⟨_, rfl, iteF (q H (Kp.refl ht))⟩
end
/-! ### rows, plainly -/
structure RowD where
  kind : Str
  num : Int
  ws : List Str
def plainK : List Str := ["keep", "cut", "put"]
def blockK : List Str := ["take", "lay"]
def oldK : List Str := ["keep", "cut", "take"]
def newK : List Str := ["keep", "put", "lay"]
def numB (k : Str) (n : Int) : Bool := if inV (.str k) (blockK.map V.str) = true then decide (1 ≤ n) && decide (n ≤ 999999999) else decide (V.int n = V.int 0)
structure RowOk (r : RowD) : Prop where
  kind : r.kind ∈ plainK ++ blockK
  num : numB r.kind r.num = true
  some : r.ws ≠ []
  words : ∀ a ∈ r.ws, wordB a = true
def RowAt (K : PySem.W.Frag) (H : Hp) (v : V) (r : RowD) : Prop := ∃ T W, v = .ref T ∧ SqT K H T [.str r.kind, .int r.num, .ref W] ∧ SqT K H W (r.ws.map V.str)
def RowsAt (K : PySem.W.Frag) (H : Hp) (xs : List V) (rs : List RowD) : Prop := xs.length = rs.length ∧ ∀ (i : Nat) (v : V), xs[i]? = some v → ∃ r, rs[i]? = some r ∧ RowAt K H v r
theorem RowAt.kp {K : PySem.W.Frag} {Ps : List Addr} {H H' : Hp} {v : V} {r : RowD} (t : Tb Ps H) (k : Kp Ps H H') (h : RowAt K H v r) : RowAt K H' v r :=
  let ⟨T, W, e, h1, h2⟩ := h; ⟨T, W, e, k.seqT t h1, k.seqT t h2⟩
theorem RowsAt.kp {K : PySem.W.Frag} {Ps : List Addr} {H H' : Hp} {xs : List V} {rs : List RowD} (t : Tb Ps H) (k : Kp Ps H H') (h : RowsAt K H xs rs) : RowsAt K H' xs rs :=
  ⟨h.1, fun i v e => let ⟨r, h1, h2⟩ := h.2 i v e; ⟨r, h1, h2.kp t k⟩⟩
theorem inV_strs (k : Str) : ∀ l : List Str, inV (.str k) (l.map V.str) = decide (k ∈ l) := by
  intro l
  unfold inV
  induction l with
  | nil => rfl
  | cons a r ih =>
    rw [List.map_cons, List.any_cons, ih]
    have e : eqV (V.str a) (V.str k) = decide (k = a) := by
      show decide (a = k) = decide (k = a)
      by_cases h : a = k
      · subst h
        rfl
      · rw [decide_eq_false h, decide_eq_false (Ne.symm h)]
    rw [e]
    by_cases h : k = a
    · rw [decide_eq_true h, decide_eq_true (show k ∈ a :: r from h ▸ List.mem_cons_self)]
      rfl
    · by_cases h2 : k ∈ r
      · rw [decide_eq_true h2, decide_eq_true (List.mem_cons_of_mem _ h2), Bool.or_true]
      · rw [decide_eq_false h, decide_eq_false h2, decide_eq_false (fun z => (List.mem_cons.mp z).elim h h2)]
        rfl
theorem flat_strs : ∀ l : List Str, (l.map V.str).all flatV = true := by
  intro l
  induction l with
  | nil => rfl
  | cons a r ih =>
    rw [List.map_cons, List.all_cons, ih]
    rfl
/-- a tuple of texts that stands at the top -/
def KTup (K : PySem.W.Frag) (a : Addr) (l : List Str) : Prop := ∀ H, SqT K H a (l.map V.str)
def tupB (K : PySem.W.Frag) (a : Addr) (l : List Str) : Bool := match K.lookup a with
  | some ⟨.type c, _, .seq its _, _⟩ => decide (c = "tuple") && (decide (its.size ≤ 100) && He.relAll (l.map V.str) its.toList)
  | _ => false
theorem tupB_ok {K : PySem.W.Frag} {a : Addr} {l : List Str} (h : tupB K a l = true) : KTup K a l := by
  intro H
  unfold tupB at h
  cases q : K.lookup a with
  | none =>
    rw [q] at h
    cases h
  | some o =>
    obtain ⟨oc, od, dt, osl⟩ := o
    rw [q] at h
    cases oc with
    | type c =>
      cases dt with
      | seq its n =>
        have h2 : (decide (c = "tuple") && (decide (its.size ≤ 100) && He.relAll (l.map V.str) its.toList)) = true := h
        rw [Bool.and_eq_true, Bool.and_eq_true] at h2
        obtain ⟨h3, h4, h5⟩ := h2
        refine .inr ⟨_, its, n, q, congrArg Value.type (of_decide_eq_true h3), rfl, Nat.le_trans (of_decide_eq_true h4) (by decide), He.relAll_ok h5⟩
      | _ => cases h
    | _ => cases dt <;> cases h
def strV : V → Bool
  | .str a => wordB a
  | _ => false
theorem all_strV : ∀ ws : List Str, (ws.map V.str).all strV = ws.all wordB := by
  intro ws
  induction ws with
  | nil => rfl
  | cons a r ih =>
    rw [List.map_cons, List.all_cons, List.all_cons, ih]
    rfl
/-! ### the program's rows -/
section
variable {P : Program} {w : World} {K : PySem.W.Frag} {mg : Str → Option Value} {base : Heap}
theorem scIsNumber : FnScope ["kind", "number"] ["kind", "number"] (defScope sIsNumber) := ⟨rfl, rfl, rfl, by decide +kernel, rfl, by decide +kernel, by decide +kernel⟩
theorem scRowWords : FnScope ["words", "word"] ["words"] (defScope sRowWords) := ⟨rfl, rfl, rfl, by decide +kernel, rfl, by decide +kernel, by decide +kernel⟩
theorem scIsRow : FnScope ["row", "kind", "number", "words"] ["row"] (defScope sIsRow) := ⟨rfl, rfl, rfl, by decide +kernel, rfl, by decide +kernel, by decide +kernel⟩
theorem scCheckRows : FnScope ["rows", "at", "row"] ["rows"] (defScope sCheckRows) := ⟨rfl, rfl, rfl, by decide +kernel, rfl, by decide +kernel, by decide +kernel⟩
def spIsNumber : Sp := fun vs H Q _ => ∃ (k : Str) (n : Int), vs = [.str k, .int n] ∧ Q (.bl (numB k n)) H
theorem ok_is_number {aB f : Addr} {fd : FuncData} (F : FnP K "is_number" sIsNumber f fd) (mI : mg "isinstance" = none) (mN : mg "int" = none) (mO : mg "bool" = none) (mB : mg "BLOCK_KINDS" = some (.ref aB)) (kB : KTup K aB blockK) {tL : Tok} (mL : mg "LAST_BLOCK" = some (.int 999999999 tL)) :
    FnOk P w K mg base (L2.CX P w) 1 f fd ["kind", "number"] spIsNumber := by
  refine F.ok scIsNumber (fun vs H Q E h => ?_) (fun cdv A outer s H vs Q E hr h => ?_)
  · obtain ⟨k, n, rfl, _⟩ := h
    rfl
  · obtain ⟨k, n, rfl, q⟩ := h
    refine ⟨_, pss_cons (ps_if (PW.pt (pw_or (pt_not (pt_val (pe_callB call_isi (by rfl) mI (by decide +kernel) (pa_cons (pv 1) (pa_cons (pe_bltn (v := .ty "int") (by rfl) mN (by decide +kernel) rfl) pa_nil)))))
        (pw_or1 (pt_val (pe_callB call_isi (by rfl) mI (by decide +kernel) (pa_cons (pv 1) (pa_cons (pe_bltn (v := .ty "bool") (by rfl) mO (by decide +kernel) rfl) pa_nil))))))) (pss_one (ps_ret pe_bl)) pss_nil)
      (pss_cons (ps_if (pt_cmpR op_in_seq (pv 0) (pe_glob (v := .ref aB) (by rfl) mB rfl) (by rfl)) (pss_one (ps_ret (pe_chain op_le op_le pe_int (pv 1) (pe_glob (v := .int 999999999) (by rfl) mL ⟨_, rfl⟩)))) pss_nil)
      (pss_one (ps_ret (pe_cmpR op_eq (pv 1) pe_int (nomark _))))), ?_⟩
    refine ⟨_, rfl, .int n, .ty "int", _, _, true, rfl, .ty _, .base (.int n), kit_ty (by decide +kernel), true, rfl, iteF ?_⟩
    refine ⟨_, rfl, .int n, .ty "bool", _, _, false, rfl, .ty _, .base (.int n), kit_ty (by decide +kernel), false, rfl, iteF ?_⟩
    refine ⟨_, rfl, aB, blockK.map V.str, rfl, .inr (kB H), rfl, flat_strs _, _, rfl, ?_⟩
    unfold numB at q
    show if inV (.str k) (blockK.map V.str) = true then _ else _
    cases e : inV (.str k) (blockK.map V.str) with
    | true =>
      rw [e, if_pos rfl] at q
      refine iteT ⟨_, rfl, _, _, rfl, rfl, _, rfl, ?_⟩
      by_cases h1 : 1 ≤ n
      · rw [decide_eq_true h1] at q ⊢
        exact iteT ⟨_, _, rfl, rfl, q⟩
      · rw [decide_eq_false h1] at q ⊢
        exact iteF q
    | false =>
      rw [e, if_neg Bool.false_ne_true] at q
      exact iteF ⟨_, rfl, rfl, q⟩
def spRowWords (K : PySem.W.Frag) (Ps : List Addr) : Sp := fun vs H Q _ => ∃ (W : Addr) (ws : List Str), vs = [.ref W] ∧ SqT K H W (ws.map V.str) ∧ ws ≠ [] ∧ (∀ a ∈ ws, a.length ≤ sizeLine) ∧ Tb Ps H ∧ ∀ H', Kp Ps H H' → Q (.bl (ws.all wordB)) H'
theorem ok_row_words {Ps : List Addr} {f fW Pr : Addr} {fd fdW : FuncData} (F : FnP K "is_row_of_words" sRowWords f fd) (hf : f = He.fAd K ("is_row_of_words", none)) (hPr : Pr ∈ Ps) (TB : GxR.TabB base mg (He.codeOf K ("is_row_of_words", none)) Pr)
    (GW : FnOk P w K mg base (L2.CX P w) 3 fW fdW ["word"] (spIsWord Ps)) (kW : PySem.W.keepIn K (.ref fW) = true) (bW : Binds K fdW ["word"] []) (gW : mg "is_word" = some (.ref fW))
    (mI : mg "isinstance" = none) (mT : mg "tuple" = none) (mL : mg "len" = none) (mA : mg "all" = none) : FnOk P w K mg base (L2.CX P w) 5 f fd ["words"] (spRowWords K Ps) := by
  refine okC F hf scRowWords (fun vs H Q E h => ?_) (fun A outer s H vs Q E hr h => ?_)
  · obtain ⟨W, ws, rfl, _⟩ := h
    rfl
  · obtain ⟨W, ws, rfl, hS, hne, hz, ht, q⟩ := h
    refine ⟨_, pss_cons (ps_if (PW.pt (pw_or (pt_not (pt_val (pe_callB call_isi (by rfl) mI (by decide +kernel) (pa_cons (pv 0) (pa_cons (pe_bltn (v := .ty "tuple") (by rfl) mT (by decide +kernel) rfl) pa_nil)))))
        (pw_or1 (pt_cmpR op_eq (pe_callB call_len_seq (by rfl) mL PySem.boot_len (pa_cons (pv 0) pa_nil)) pe_int (nomark _))))) (pss_one (ps_ret pe_bl)) pss_nil)
      (pss_one (ps_ret (pe_allG (own := [("word", 1)]) (gt := gName 1) (tt := tYes) (P := Pr) hr scRowWords.nd (by rfl) mA (by decide +kernel) TB rfl ⟨rfl, by decide +kernel, rfl, blkOk_by (N := ["words", "word"]) (sc := defScope sRowWords) (by decide +kernel)⟩ (pi_tup (pv 0))
          (fun _ _ _ _ _ _ _ _ _ => pg_name (i := 1) scRowWords.nd rfl (Or.inl rfl)) (fun _ _ _ _ _ _ _ _ _ _ => pts_nil) (fun _ _ _ _ _ _ _ _ _ hb => pe_call GW hb (by rfl) gW kW bW .nil passL (pa_cons (pv 1) pa_nil))))), ?_⟩
    refine ⟨_, rfl, .ref W, .ty "tuple", _, _, true, rfl, .ty _, tyT hS, kit_ty (by decide +kernel), true, rfl, iteF ?_⟩
    refine ⟨_, rfl, W, _, rfl, .inr hS, rfl, _, rfl, ?_⟩
    have e0 : decide (V.int ((ws.map V.str).length : Int) = V.int 0) = false := decide_eq_false fun z => by
      have z2 := V.int.inj z
      rw [List.length_map] at z2
      exact hne (List.length_eq_zero_iff.mp (by omega))
    rw [e0]
    refine iteF ⟨_, rfl, W, rfl, ⟨_, hS⟩, ht Pr hPr, fun H2 hT => ?_⟩
    have k2 := Kp.tab ht hPr hT
    refine read_all_tup (xs := ws.map V.str) (pb := strV) (Pv := fun H3 => Kp Ps H H3) k2 (fun H3 p => p.seqT ht hS) (fun i v H3 R hx p hR => ?_) (fun H3 p => ?_)
    · rw [List.getElem?_map] at hx
      obtain ⟨a, ha, rfl⟩ := Option.map_eq_some_iff.mp hx
      exact ⟨rfl, _, rfl, a, rfl, hz a (List.mem_of_getElem? ha), p.1, fun H4 k4 => hR H4 (p.trans k4)⟩
    · rw [all_strV]
      exact q H3 p
def spIsRow (K : PySem.W.Frag) (Ps : List Addr) : Sp := fun vs H Q _ => ∃ (v : V) (r : RowD), vs = [v] ∧ RowAt K H v r ∧ RowOk r ∧ Tb Ps H ∧ ∀ H', Kp Ps H H' → Q (.bl true) H'
theorem ok_is_row {Ps : List Addr} {aP aB f fN fW : Addr} {fd fdN fdW : FuncData} (F : FnP K "is_row" sIsRow f fd)
    (GN : FnOk P w K mg base (L2.CX P w) 1 fN fdN ["kind", "number"] spIsNumber) (kN : PySem.W.keepIn K (.ref fN) = true) (bN : Binds K fdN ["kind", "number"] []) (gN : mg "is_number" = some (.ref fN))
    (GW : FnOk P w K mg base (L2.CX P w) 5 fW fdW ["words"] (spRowWords K Ps)) (kW : PySem.W.keepIn K (.ref fW) = true) (bW : Binds K fdW ["words"] []) (gW : mg "is_row_of_words" = some (.ref fW))
    (mI : mg "isinstance" = none) (mT : mg "tuple" = none) (mL : mg "len" = none) (mP : mg "PLAIN_KINDS" = some (.ref aP)) (kP : KTup K aP plainK) (mB : mg "BLOCK_KINDS" = some (.ref aB)) (kB : KTup K aB blockK) : FnOk P w K mg base (L2.CX P w) 6 f fd ["row"] (spIsRow K Ps) := by
  refine F.ok scIsRow (fun vs H Q E h => ?_) (fun cdv A outer s H vs Q E hr h => ?_)
  · obtain ⟨v, r, rfl, _⟩ := h
    rfl
  · obtain ⟨v, r, rfl, ⟨T, W, rfl, hT, hW⟩, ok, ht, q⟩ := h
    refine ⟨_, pss_cons (ps_if (PW.pt (pw_or (pt_not (pt_val (pe_callB call_isi (by rfl) mI (by decide +kernel) (pa_cons (pv 0) (pa_cons (pe_bltn (v := .ty "tuple") (by rfl) mT (by decide +kernel) rfl) pa_nil)))))
        (pw_or1 (pt_cmpR op_ne (pe_callB call_len_seq (by rfl) mL PySem.boot_len (pa_cons (pv 0) pa_nil)) pe_int (nomark _))))) (pss_one (ps_ret pe_bl)) pss_nil)
      (pss_cons (ps_asg (pv 0) (pg_tup (by rfl) (pgs_cons (pg_name (i := 1) scIsRow.nd rfl (.inl rfl)) (pgs_cons (pg_name (i := 2) scIsRow.nd rfl (.inl rfl)) (pgs_cons (pg_name (i := 3) scIsRow.nd rfl (.inl rfl)) pgs_nil)))))
      (pss_cons (ps_if (PW.pt (pw_and (pt_cmpR op_notIn_seq (pv 1) (pe_glob (v := .ref aP) (by rfl) mP rfl) (by rfl)) (pw_and1 (pt_cmpR op_notIn_seq (pv 1) (pe_glob (v := .ref aB) (by rfl) mB rfl) (by rfl))))) (pss_one (ps_ret pe_bl)) pss_nil)
      (pss_one (ps_ret (pe_and (pe_call GN (hr.mono (by decide)) (by rfl) gN kN bN .nil passL (pa_cons (pv 1) (pa_cons (pv 2) pa_nil))) (pe_one (pe_call GW hr (by rfl) gW kW bW .nil passL (pa_cons (pv 3) pa_nil)))))))), ?_⟩
    refine ⟨_, rfl, .ref T, .ty "tuple", _, _, true, rfl, .ty _, tyT hT, kit_ty (by decide +kernel), true, rfl, iteF ?_⟩
    refine ⟨_, rfl, T, _, rfl, .inr hT, rfl, _, rfl, iteF ?_⟩
    refine ⟨_, rfl, T, _, rfl, hT, rfl, _, _, rfl, _, _, rfl, _, _, rfl, rfl, ?_⟩
    refine ⟨_, rfl, aP, plainK.map V.str, rfl, .inr (kP H), rfl, flat_strs _, _, rfl, ?_⟩
    have rest : ∀ b : Bool, b = (!inV (.str r.kind) (blockK.map V.str)) → b = false ∨ (!inV (.str r.kind) (plainK.map V.str)) = false := fun b hb => by
      rw [inV_strs] at hb
      rw [inV_strs]
      rcases List.mem_append.mp ok.kind with h | h
      · exact .inr (by rw [decide_eq_true h]; rfl)
      · exact .inl (by rw [hb, decide_eq_true h]; rfl)
    have fin : ∀ H1, H1 = H → ((FnOk P w K mg base (L2.CX P w) 1 fN fdN ["kind", "number"] spIsNumber) → tAndV (tCall spIsNumber [] E0 (tCons (tVar 1) (tCons (tVar 2) tNil))) (tCall (spRowWords K Ps) [] E0 (tCons (tVar 3) tNil)) [some (.ref T), some (.str r.kind), some (.int r.num), some (.ref W)] H1 Q) := fun H1 e _ => by
      subst e
      refine ⟨_, rfl, _, rfl, r.kind, r.num, rfl, _, rfl, ?_⟩
      rw [ok.num]
      refine iteT ⟨_, rfl, W, r.ws, rfl, hW, ok.some, fun a ha => small_line (by have := wordB_len (ok.words a ha); omega), ht, fun H' k => ?_⟩
      rw [List.all_eq_true.mpr ok.words]
      exact q H' k
    cases e : inV (.str r.kind) (plainK.map V.str) with
    | true => exact iteF (iteF (fin H rfl GN))
    | false =>
      refine iteT ⟨_, rfl, aB, blockK.map V.str, rfl, .inr (kB H), rfl, flat_strs _, _, rfl, ?_⟩
      rcases rest _ rfl with h | h
      · show if (!inV (.str r.kind) (blockK.map V.str)) = true then _ else _
        rw [h]
        exact iteF (fin H rfl GN)
      · rw [e] at h
        cases h
def spCheckRows (K : PySem.W.Frag) (Ps : List Addr) : Sp := fun vs H Q _ => ∃ (p : Addr) (xs : List V) (rs : List RowD), vs = [.ref p] ∧ SqL K H p xs ∧ RowsAt K H xs rs ∧ (∀ r ∈ rs, RowOk r) ∧ Tb Ps H ∧ ∀ H', Kp Ps H H' → Q .non H'
theorem ok_check_rows {Ps : List Addr} {f fR : Addr} {fd fdR : FuncData} (F : FnP K "check_rows" sCheckRows f fd) (GR : FnOk P w K mg base (L2.CX P w) 6 fR fdR ["row"] (spIsRow K Ps)) (kR : PySem.W.keepIn K (.ref fR) = true) (bR : Binds K fdR ["row"] []) (gR : mg "is_row" = some (.ref fR))
    (mI : mg "isinstance" = none) (mT : mg "list" = none) (mE : mg "enumerate" = none) : FnOk P w K mg base (L2.CX P w) 7 f fd ["rows"] (spCheckRows K Ps) := by
  refine F.ok scCheckRows (fun vs H Q E h => ?_) (fun cdv A outer s H vs Q E hr h => ?_)
  · obtain ⟨p, xs, rs, rfl, _⟩ := h
    rfl
  · obtain ⟨p, xs, rs, rfl, hS, hR, hok, ht, q⟩ := h
    refine ⟨_, pss_cons (ps_if (pt_not (pt_val (pe_callB call_isi (by rfl) mI (by decide +kernel) (pa_cons (pv 0) (pa_cons (pe_bltn (v := .ty "list") (by rfl) mT (by decide +kernel) rfl) pa_nil))))) pss_never pss_nil)
      (pss_one (ps_for (passes_of rfl) rfl (pi_enum (by rfl) mE (pa_cons (pv 0) pa_nil)) (pg_tup rfl (pgs_cons (pg_name (i := 1) scCheckRows.nd rfl (.inl rfl)) (pgs_cons (pg_name (i := 2) scCheckRows.nd rfl (.inl rfl)) pgs_nil)))
        (pss_one (ps_if (pt_not (pt_val (pe_call GR hr (by rfl) gR kR bR .nil passL (pa_cons (pv 2) pa_nil)))) pss_never pss_nil)))), ?_⟩
    refine ⟨_, rfl, .ref p, .ty "list", _, _, true, rfl, .ty _, tyL hS, kit_ty (by decide +kernel), true, rfl, iteF ?_⟩
    refine ⟨_, rfl, p, _, rfl, hS, for_enum (xs := xs) (fun i σ' H' => Kp Ps H H' ∧ ∃ y1 y2, σ' = [some (.ref p), y1, y2]) ⟨Kp.refl ht, none, none, rfl⟩ (fun i σ' H' _ hp => hp.1.seq ht hS) (fun i x T σ' H' hx nT hp => ?_) (fun σ' H' hp => q H' hp.1)⟩
    obtain ⟨k, y1, y2, rfl⟩ := hp
    obtain ⟨r, hr1, hr2⟩ := hR.2 i x hx
    have k2 : Kp Ps H (upd H' T (.tup [.int (i : Nat), x])) := k.trans (Kp.new k.1 nT)
    refine ⟨T, _, rfl, .inl (.inl upd_same), rfl, _, _, rfl, _, _, rfl, rfl, ?_⟩
    exact ⟨_, rfl, x, r, rfl, hr2.kp ht k2, hok r (List.mem_of_getElem? hr1), k2.1, fun H3 k3 => ⟨_, rfl, iteF ⟨k2.trans k3, _, _, rfl⟩⟩⟩
end
/-! ### the way back, the cost -/
def wayB (k : Str) : Str := if k = "cut" then "put" else if k = "put" then "cut" else if k = "take" then "lay" else if k = "lay" then "take" else "keep"
def cutPut : List Str := ["cut", "put"]
def turnR (r : RowD) : RowD := { r with kind := wayB r.kind }
def rowCost (r : RowD) : Int := if inV (.str r.kind) (cutPut.map V.str) = true then (r.ws.length : Int) else if r.kind = "take" then 3 else 0
def costOf (rs : List RowD) : Int := (rs.map rowCost).sum
theorem RowAt.set {K : PySem.W.Frag} {H : Hp} {D : Addr} {o : HO} {v : V} {r : RowD} (hD : ∀ xs, ¬ Rd H D (.tup xs)) (h : RowAt K H v r) : RowAt K (upd H D o) v r := by
  obtain ⟨T, W, e, h1, h2⟩ := h
  have key : ∀ {a : Addr} {xs : List V}, SqT K H a xs → SqT K (upd H D o) a xs := fun {a xs} h => by
    rcases h with h | h
    · have ne : a ≠ D := fun z => hD xs (by rw [← z]; exact h)
      rcases h with h | ⟨ob, h⟩
      · exact .inl (.inl (by rw [upd_ne ne]; exact h))
      · exact .inl (.inr ⟨ob, by rw [upd_ne ne]; exact h⟩)
    · exact .inr h
  exact ⟨T, W, e, key h1, key h2⟩
theorem noTup {H : Hp} {D : Addr} {ys : List V} (h : H D = some (.lst ys)) : ∀ xs, ¬ Rd H D (.tup xs) := fun xs z => by
  rcases z with z | ⟨o, z⟩
  · rw [h] at z
    cases z
  · rw [h] at z
    cases z
/-! ### rows as data; what the laws say of rows -/
theorem signB_lt' {c : Nat} (h : signB c = true) : c < 127 := by
  unfold signB at h
  rw [Bool.or_eq_true, Bool.and_eq_true, Bool.and_eq_true, Bool.not_eq_true', Bool.not_eq_true', Bool.not_eq_true', Bool.not_eq_true'] at h
  rcases h with ⟨_, h⟩ | ⟨_, h⟩
  · have := of_decide_eq_false h
    omega
  · have := of_decide_eq_false h
    omega
theorem strOk_word {a : Str} (h : wordB a = true) : PyData.strOk a = true := by
  unfold PyData.strOk
  rw [Array.all_eq_true]
  intro i hi
  have h1 : a.cps[i] ∈ a.cps.toList := by simp
  have h2 := signB_lt' (wordB_signs h _ h1)
  exact decide_eq_true (by omega)
theorem dpStrs (H : Hp) (K : PySem.W.Frag) : ∀ ws : List Str, DpAll K H (ws.map V.str) (ws.map PyData.str)
  | [] => .nil
  | x :: r => .cons (.str x) (dpStrs H K r)
theorem lay_strs : ∀ ws : List Str, (∀ a ∈ ws, PyData.strOk a = true) → PyData.canLayAll0 (ws.map PyData.str) = true := fun ws => by
  induction ws with
  | nil => exact fun _ => rfl
  | cons x r ih =>
    intro h
    show (PyData.canLay0 (.str x) && PyData.canLayAll0 (r.map PyData.str)) = true
    rw [ih fun b hb => h b (List.mem_cons_of_mem _ hb), show PyData.canLay0 (.str x) = PyData.strOk x from rfl, h x List.mem_cons_self]
    rfl
theorem depth_strs : ∀ ws : List Str, PyData.depthAll (ws.map PyData.str) = 0 := fun ws => by
  induction ws with
  | nil => rfl
  | cons x r ih =>
    show max (PyData.depth (.str x)) (PyData.depthAll (r.map PyData.str)) = 0
    rw [ih]
    rfl
theorem shaped_words {ws : List Str} (h : ∀ a ∈ ws, PyData.strOk a = true) : SeqAt.shaped (.list (ws.map PyData.str)) = true := by
  show (PyData.canLayAll0 (ws.map PyData.str) && decide (PyData.depthAll (ws.map PyData.str) + 1 ≤ 64)) = true
  rw [lay_strs ws h, depth_strs]
  rfl
def rowData (r : RowD) : PyData := .tuple [.str r.kind, .int r.num, .tuple (r.ws.map PyData.str)]
theorem dpRow {K : PySem.W.Frag} {H : Hp} {v : V} {r : RowD} (h : RowAt K H v r) : Dp K H v (rowData r) := by
  obtain ⟨T, W, rfl, hT, hW⟩ := h
  exact .tup hT (.cons (.str _) (.cons (.int _) (.cons (.tup hW (dpStrs H K r.ws)) .nil)))
theorem dpRows {K : PySem.W.Frag} {H : Hp} : ∀ {xs : List V} {rs : List RowD}, RowsAt K H xs rs → DpAll K H xs (rs.map rowData)
  | [], [], _ => .nil
  | [], _ :: _, h => nomatch h.1
  | _ :: _, [], h => nomatch h.1
  | x :: xs, r :: rs, h => by
    obtain ⟨r', h1, h2⟩ := h.2 0 x rfl
    cases h1
    exact .cons (dpRow h2) (dpRows ⟨Nat.succ.inj h.1, fun i v e => h.2 (i + 1) v e⟩)
theorem kinds_strOk : ∀ k ∈ plainK ++ blockK, PyData.strOk k = true := by decide +kernel
theorem lay_rows : ∀ rs : List RowD, (∀ r ∈ rs, RowOk r) → PyData.canLayAll0 (rs.map rowData) = true := fun rs => by
  induction rs with
  | nil => exact fun _ => rfl
  | cons x r ih =>
    intro h
    have hx := h x List.mem_cons_self
    show (((PyData.strOk x.kind && (true && (PyData.canLayAll0 (x.ws.map PyData.str) && true)))) && PyData.canLayAll0 (r.map rowData)) = true
    rw [ih fun b hb => h b (List.mem_cons_of_mem _ hb), lay_strs x.ws fun a ha => strOk_word (hx.words a ha), kinds_strOk _ hx.kind]
    rfl
theorem depth_rows : ∀ rs : List RowD, PyData.depthAll (rs.map rowData) ≤ 2 := fun rs => by
  induction rs with
  | nil => exact Nat.zero_le _
  | cons x r ih =>
    show max (max (0 : Nat) (max (0 : Nat) (max (PyData.depthAll (x.ws.map PyData.str) + 1) 0)) + 1) (PyData.depthAll (r.map rowData)) ≤ 2
    rw [depth_strs]
    omega
theorem shaped_rows {rs : List RowD} (h : ∀ r ∈ rs, RowOk r) : SeqAt.shaped (.list (rs.map rowData)) = true := by
  show (PyData.canLayAll0 (rs.map rowData) && decide (PyData.depthAll (rs.map rowData) + 1 ≤ 64)) = true
  rw [lay_rows rs h, decide_eq_true (show PyData.depthAll (rs.map rowData) + 1 ≤ 64 by have := depth_rows rs; omega)]
  rfl
theorem noTb {H : Hp} : Tb [] H := fun _ h => by cases h
theorem RowAt.same {K : PySem.W.Frag} {H H' : Hp} {v : V} {r : RowD} (s : Same H H') (h : RowAt K H v r) : RowAt K H' v r := h.kp noTb (Kp.same noTb s)
theorem RowsAt.same {K : PySem.W.Frag} {H H' : Hp} {xs : List V} {rs : List RowD} (s : Same H H') (h : RowsAt K H xs rs) : RowsAt K H' xs rs := h.kp noTb (Kp.same noTb s)
theorem sameT {K : PySem.W.Frag} {H H' : Hp} {a : Addr} {xs : List V} (s : Same H H') (h : SqT K H a xs) : SqT K H' a xs := (Kp.same noTb s).seqT noTb h
theorem atM {α : Type} {l : List α} {c : Int} {n : Nat} {x : α} (hn : 0 < n) (h : l[(c % (n : Int)).toNat]? = some x) : atI l (c % (n : Int)) = some x := by
  have h1 : 0 ≤ c % (n : Int) := Int.emod_nonneg c (by omega)
  have e : c % (n : Int) = (((c % (n : Int)).toNat : Nat) : Int) := (Int.toNat_of_nonneg h1).symm
  rw [e]
  exact atI_nat h
theorem ltM {c : Int} {n : Nat} (hn : 0 < n) : (c % (n : Int)).toNat < n := by
  have h1 : 0 ≤ c % (n : Int) := Int.emod_nonneg c (by omega)
  have h2 : c % (n : Int) < (n : Int) := Int.emod_lt_of_pos c (by omega)
  omega
theorem lay_words {ws : List Str} (h : ∀ a ∈ ws, wordB a = true) : (PyData.tuple (ws.map PyData.str)).canLay0 = true := lay_strs ws fun a ha => strOk_word (h a ha)
theorem shaped_tup {ws : List Str} (h : ∀ a ∈ ws, wordB a = true) : SeqAt.shaped (.tuple (ws.map PyData.str)) = true := by
  show (PyData.canLayAll0 (ws.map PyData.str) && decide (PyData.depthAll (ws.map PyData.str) + 1 ≤ 64)) = true
  rw [lay_strs ws fun a ha => strOk_word (h a ha), depth_strs]
  rfl
theorem same_set {H H' : Hp} (m : Same H H') {D : Addr} {o : HO} (n : H D = none) : Same H (upd H' D o) := fun b u e => by
  rw [upd_ne (ne_of_none e n)]
  exact m b u e
/-! ### more of rows -/
theorem cut30 (xs : List V) : (cutV xs (some 4) (some 34)).length ≤ 30 := by
  unfold cutV
  have h1 : HT.sIx xs.length 0 (some 4) = min 4 xs.length := HT.sIx_nat _ _ 4
  have h2 : HT.sIx xs.length xs.length (some 34) = min 34 xs.length := HT.sIx_nat _ _ 34
  rw [h1, h2, List.length_take, List.length_drop]
  omega
theorem cut_mem {xs : List V} {lo hi : Option Int} {x : V} (h : x ∈ cutV xs lo hi) : x ∈ xs := List.mem_of_mem_drop (List.mem_of_mem_take h)
theorem RowsAt.snoc {K : PySem.W.Frag} {H : Hp} {xs : List V} {rs : List RowD} {v : V} {r : RowD} (h : RowsAt K H xs rs) (h2 : RowAt K H v r) : RowsAt K H (xs ++ [v]) (rs ++ [r]) := by
  refine ⟨by rw [List.length_append, List.length_append, h.1]; rfl, fun i x e => ?_⟩
  by_cases hi : i < xs.length
  · rw [List.getElem?_append_left hi] at e
    obtain ⟨r', h3, h4⟩ := h.2 i x e
    exact ⟨r', by rw [List.getElem?_append_left (by rw [← h.1]; exact hi)]; exact h3, h4⟩
  · have hl := (List.getElem?_eq_some_iff.mp e).1
    rw [List.length_append] at hl
    have hl : i < xs.length + 1 := hl
    have e2 : i = xs.length := by omega
    subst e2
    rw [List.getElem?_append_right (Nat.le_refl _), Nat.sub_self] at e
    cases e
    exact ⟨r, by rw [List.getElem?_append_right (by rw [← h.1]; exact Nat.le_refl _), h.1, Nat.sub_self]; rfl, h2⟩
theorem RowsAt.set {K : PySem.W.Frag} {H : Hp} {D : Addr} {o : HO} {xs : List V} {rs : List RowD} (hD : ∀ xs, ¬ Rd H D (.tup xs)) (h : RowsAt K H xs rs) : RowsAt K (upd H D o) xs rs :=
  ⟨h.1, fun i v e => let ⟨r, h1, h2⟩ := h.2 i v e; ⟨r, h1, h2.set hD⟩⟩
theorem turnR_ok {r : RowD} (h : RowOk r) : RowOk (turnR r) := by
  have key : ∀ k ∈ plainK ++ blockK, wayB k ∈ plainK ++ blockK ∧ (decide (k ∈ blockK) = decide (wayB k ∈ blockK)) := by decide +kernel
  obtain ⟨h1, h2⟩ := key _ h.kind
  refine ⟨h1, ?_, h.some, h.words⟩
  have h3 := h.num
  unfold numB at h3 ⊢
  rw [inV_strs] at h3 ⊢
  show (if decide (wayB r.kind ∈ blockK) = true then _ else _) = true
  rw [← h2]
  exact h3
theorem numB_block {k : Str} {n : Int} (hk : k = "take" ∨ k = "lay") (h1 : 1 ≤ n) (h2 : n ≤ 999999999) : numB k n = true := by
  unfold numB
  rw [inV_strs, decide_eq_true (show k ∈ blockK by rcases hk with rfl | rfl <;> decide +kernel), if_pos rfl, decide_eq_true h1, decide_eq_true h2]
  rfl
theorem numB_plain {k : Str} (h1 : k ≠ "take") (h2 : k ≠ "lay") : numB k 0 = true := by
  unfold numB
  rw [inV_strs, decide_eq_false (show ¬ k ∈ blockK from fun z => by
    rcases List.mem_cons.mp z with z | z
    · exact h1 z
    · rcases List.mem_cons.mp z with z | z
      · exact h2 z
      · cases z), if_neg Bool.false_ne_true]
  rfl
/-! ### whole numbers -/
section
variable {P : Program} {w : World} {K : PySem.W.Frag} {mg : Str → Option Value} {base : Heap}
theorem scWhole : FnScope ["_law_found"] ["_law_found"] (defScope sWhole) := ⟨rfl, rfl, rfl, by decide +kernel, rfl, by decide +kernel, by decide +kernel⟩
def spWhole : Sp := fun vs H Q _ => ∃ n : Int, vs = [.int n] ∧ Q (.bl true) H
theorem ok_whole {f : Addr} {fd : FuncData} (F : FnP K "_law_whole" sWhole f fd) (mI : mg "isinstance" = none) (mN : mg "int" = none) (mO : mg "bool" = none) : FnOk P w K mg base (L2.CX P w) 1 f fd ["_law_found"] spWhole := by
  refine F.ok scWhole (fun vs H Q E h => ?_) (fun cdv A outer s H vs Q E hr h => ?_)
  · obtain ⟨n, rfl, _⟩ := h
    rfl
  · obtain ⟨n, rfl, q⟩ := h
    refine ⟨_, pss_one (ps_ret (pe_and (pe_callB call_isi (by rfl) mI (by decide +kernel) (pa_cons (pv 0) (pa_cons (pe_bltn (v := .ty "int") (by rfl) mN (by decide +kernel) rfl) pa_nil)))
      (pe_one (pe_not (pe_callB call_isi (by rfl) mI (by decide +kernel) (pa_cons (pv 0) (pa_cons (pe_bltn (v := .ty "bool") (by rfl) mO (by decide +kernel) rfl) pa_nil))))))), ?_⟩
    refine ⟨_, rfl, .int n, .ty "int", _, _, true, rfl, .ty _, .base (.int n), kit_ty (by decide +kernel), true, rfl, iteT ?_⟩
    exact ⟨_, rfl, .int n, .ty "bool", _, _, false, rfl, .ty _, .base (.int n), kit_ty (by decide +kernel), _, rfl, q⟩
end
/-! ### the law's own helpers -/
def sg (i : Nat) : Nat := if i < 4 then 33 + i else 34 + i
def sgnOf (c : Int) : Nat := sg (c % 93).toNat
theorem sg_ok {i : Nat} (h : i < 93) : signB (sg i) = true := by
  unfold signB sg
  by_cases h1 : i < 4
  · rw [if_pos h1, decide_eq_false (show ¬ 33 + i < 33 by omega), decide_eq_false (show ¬ 36 < 33 + i by omega)]
    rfl
  · rw [if_neg h1, decide_eq_false (show ¬ 34 + i < 38 by omega), decide_eq_false (show ¬ 126 < 34 + i by omega)]
    exact Bool.or_true _
theorem sgnOf_ok (c : Int) : signB (sgnOf c) = true := sg_ok (by
  have h1 : 0 ≤ c % 93 := Int.emod_nonneg c (by decide)
  have h2 : c % 93 < 93 := Int.emod_lt_of_pos c (by decide)
  omega)
def wMore (c : Int) : Int := (c + 5) * 48271 % 1000003
def wSize (c : Int) : Int := if wMore c / 3 % 3 = 1 then 1 + wMore c / 9 % 40 else 1 + wMore c % 3
def wSign (c : Int) (k : Nat) : Nat := sgnOf ((wMore c + 11 * (0 + (k : Int)) + 1) * (wMore c + 211 * (0 + (k : Int)) + 3) % 1000033)
def wCodes (c : Int) (n : Nat) : List Nat := (List.range n).map (wSign c)
def wordOf (c : Int) : Str := ⟨(wCodes c (wSize c).toNat).toArray⟩
theorem wMore_b (c : Int) : 0 ≤ wMore c ∧ wMore c < 1000003 := ⟨Int.emod_nonneg _ (by decide), Int.emod_lt_of_pos _ (by decide)⟩
theorem wSize_b (c : Int) : 1 ≤ wSize c ∧ wSize c ≤ 40 := by
  have h := wMore_b c
  unfold wSize
  by_cases h1 : wMore c / 3 % 3 = 1
  · rw [if_pos h1]
    omega
  · rw [if_neg h1]
    omega
theorem wordOf_len (c : Int) : (wordOf c).length = (wSize c).toNat := by
  show (wCodes c (wSize c).toNat).toArray.size = _
  rw [List.size_toArray]
  unfold wCodes
  rw [List.length_map, List.length_range]
theorem wordOf_ok (c : Int) : wordB (wordOf c) = true := by
  have h := wSize_b c
  have hl := wordOf_len c
  unfold wordB
  rw [Bool.and_eq_true, Bool.and_eq_true]
  refine ⟨decide_eq_true (by omega), decide_eq_true (by omega), List.all_eq_true.mpr fun x hx => ?_⟩
  have hx : x ∈ wCodes c (wSize c).toNat := hx
  obtain ⟨k, _, rfl⟩ := List.mem_map.mp hx
  exact sgnOf_ok _
/-- signs put together -/
theorem join_signs : ∀ l : List Nat, Txt.join ("" : Str) (l.map fun c => (⟨#[c]⟩ : Str)) = (⟨l.toArray⟩ : Str) := by
  intro l
  show Builtin.Str.glued ("" : Str) (l.map fun c => (⟨#[c]⟩ : Str)) = _
  rw [StrLaws.glued_eq_join]
  have e0 : ("" : Str) = ⟨#[]⟩ := by decide +kernel
  rw [e0]
  induction l with
  | nil => rfl
  | cons c r ih =>
    cases r with
    | nil => rfl
    | cons d r =>
      show (⟨#[c]⟩ : Str) ++ (⟨#[]⟩ : Str) ++ Str.join ⟨#[]⟩ ((d :: r).map fun c => (⟨#[c]⟩ : Str)) = _
      rw [ih]
      refine Str.ext' (Array.toList_inj.mp ?_)
      rw [Str.cps_append, Str.cps_append, Array.toList_append, Array.toList_append]
      simp
section
variable {P : Program} {w : World} {K : PySem.W.Frag} {mg : Str → Option Value} {base : Heap}
theorem scCellAt : FnScope ["_law_script", "_law_k"] ["_law_script", "_law_k"] (defScope sCellAt) := ⟨rfl, rfl, rfl, by decide +kernel, rfl, by decide +kernel, by decide +kernel⟩
theorem scSignBy : FnScope ["_law_cell", "_law_some"] ["_law_cell"] (defScope sSignBy) := ⟨rfl, rfl, rfl, by decide +kernel, rfl, by decide +kernel, by decide +kernel⟩
theorem scWordBy : FnScope ["_law_cell", "_law_more", "_law_size", "_law_k"] ["_law_cell"] (defScope sWordBy) := ⟨rfl, rfl, rfl, by decide +kernel, rfl, by decide +kernel, by decide +kernel⟩
theorem ok_cell_at {f : Addr} {fd : FuncData} (F : FnP K "_law_cell_at" sCellAt f fd) (mL : mg "len" = none) : FnOk P w K mg base (L2.CX P w) 1 f fd ["_law_script", "_law_k"] (spCell K) := by
  refine F.ok scCellAt (fun vs H Q E h => ?_) (fun cdv A outer s H vs Q E hr h => ?_)
  · obtain ⟨l, ns, j, rfl, _⟩ := h
    rfl
  · obtain ⟨l, ns, j, rfl, hS, q⟩ := h
    refine ⟨_, pss_cons (ps_if (pt_cmpR op_lt (pv 1) (pe_callB call_len_seq (by rfl) mL PySem.boot_len (pa_cons (pv 0) pa_nil)) (nomark _)) (pss_one (ps_ret (pe_ix ix_list (pv 0) (pv 1) (fun _ _ => rfl)))) pss_nil) (pss_one (ps_ret pe_int)), ?_⟩
    refine ⟨_, rfl, _, rfl, l, _, rfl, .inl hS, _, _, rfl, rfl, _, rfl, ite2 (fun e => ?_) (fun e => ?_)⟩
    · have e1 := of_decide_eq_true e
      rw [List.length_map] at e1
      exact ⟨_, rfl, _, rfl, l, _, _, _, rfl, rfl, hS, atI_cell (by omega), q⟩
    · have hj : ¬ j < ns.length := fun z => e (decide_eq_true (by rw [List.length_map]; omega))
      rw [cell_out hj] at q
      exact q
def spSignBy : Sp := fun vs H Q _ => ∃ c : Int, vs = [.int c] ∧ Q (.str ⟨#[sgnOf c]⟩) H
theorem ok_sign_by {f : Addr} {fd : FuncData} (F : FnP K "_law_sign_by" sSignBy f fd) : FnOk P w K mg base (L2.CX P w) 1 f fd ["_law_cell"] spSignBy := by
  refine F.ok scSignBy (fun vs H Q E h => ?_) (fun cdv A outer s H vs Q E hr h => ?_)
  · obtain ⟨c, rfl, _⟩ := h
    rfl
  · obtain ⟨c, rfl, q⟩ := h
    refine ⟨_, pss_cons (ps_set (i := 1) scSignBy.nd rfl (.inl rfl) pe_str) (pss_cons (ps_set (i := 1) scSignBy.nd rfl (.inl rfl) (pe_op op_add_str (pv 1) pe_str)) (pss_one (ps_ret (pe_ix ix_str (pv 1) (pe_op op_mod (pv 0) pe_int) (fun _ _ => rfl))))), ?_⟩
    refine ⟨_, rfl, _, _, rfl, rfl, by decide +kernel, ?_⟩
    refine ⟨_, rfl, _, rfl, _, _, rfl, rfl, (by show (0 : Int) < 93; decide), _, _, sgnOf c, rfl, rfl, by decide +kernel, ?_, q⟩
    have h1 : 0 ≤ c % 93 := Int.emod_nonneg c (by decide)
    have h2 : c % 93 < 93 := Int.emod_lt_of_pos c (by decide)
    have e : c % 93 = (((c % 93).toNat : Nat) : Int) := (Int.toNat_of_nonneg h1).symm
    have hn : (c % 93).toNat < 93 := by omega
    unfold sgnOf
    rw [e, Int.toNat_natCast]
    generalize (c % 93).toNat = i at hn
    refine atI_nat ?_
    have key : ∀ i, i < 93 → (("!\"#$&'()*+,-./0123456789:;<=>?@ABCDEFGHIJKLMNOPQRSTUVWXYZ[\\]^_`" : Str) ++ ("abcdefghijklmnopqrstuvwxyz{|}~" : Str)).cps.toList[i]? = some (sg i) := by decide +kernel
    exact key i hn
def spWordBy : Sp := fun vs H Q _ => ∃ c : Int, vs = [.int c] ∧ ∀ H', Same H H' → Q (.str (wordOf c)) H'
theorem ok_word_by {f fS : Addr} {fd fdS : FuncData} (F : FnP K "_law_word_by" sWordBy f fd) (FS : FnP K "_law_sign_by" sSignBy fS fdS) (bS : Binds K fdS ["_law_cell"] []) (gS : mg "_law_sign_by" = some (.ref fS)) (mR : mg "range" = none) :
    FnOk P w K mg base (L2.CX P w) 2 f fd ["_law_cell"] spWordBy := by
  have GS : FnOk P w K mg base (L2.CX P w) 1 fS fdS ["_law_cell"] spSignBy := ok_sign_by FS
  refine F.ok scWordBy (fun vs H Q E h => ?_) (fun cdv A outer s H vs Q E hr h => ?_)
  · obtain ⟨c, rfl, _⟩ := h
    rfl
  · obtain ⟨c, rfl, q⟩ := h
    refine ⟨_, pss_cons (ps_set (i := 1) scWordBy.nd rfl (.inr rfl) (pe_op op_mod (pe_op op_mul (pe_op op_add (pv 0) pe_int) pe_int) pe_int))
      (pss_cons (ps_set (i := 2) scWordBy.nd rfl (.inl rfl) (pe_op op_add pe_int (pe_op op_mod (pv 1) pe_int)))
      (pss_cons (ps_if (pt_cmpR op_eq (pe_op op_mod (pe_op op_fdiv (pv 1) pe_int) pe_int) pe_int (nomark _)) (pss_one (ps_set (i := 2) scWordBy.nd rfl (.inl rfl) (pe_op op_add pe_int (pe_op op_mod (pe_op op_fdiv (pv 1) pe_int) pe_int)))) pss_nil)
      (pss_one (ps_ret (pe_join pe_str (pe_lc (own := [("_law_k", 3)]) (g := gName 3) (tt := tYes) rfl scWordBy.nd (pi_range1 (by rfl) mR (pa_cons (pv 2) pa_nil)) (blkOk_by (N := ["_law_cell", "_law_more", "_law_size", "_law_k"]) (sc := defScope sWordBy) (by decide +kernel))
        (fun _ _ _ _ _ => pg_name (i := 3) scWordBy.nd rfl (Or.inl rfl)) (fun _ _ _ _ _ => pts_nil)
        (fun _ _ _ _ _ => pe_call GS hr (by rfl) gS FS.kp bS .nil passL (pa_cons (pe_op op_mod (pe_op op_mul (pe_op op_add (pe_op op_add (pv 1) (pe_op op_mul pe_int (pv 3))) pe_int) (pe_op op_add (pe_op op_add (pv 1) (pe_op op_mul pe_int (pv 3))) pe_int)) pe_int) pa_nil)))))))), ?_⟩
    have hm := wMore_b c
    have hsz := wSize_b c
    refine ⟨_, rfl, _, _, rfl, rfl, _, _, rfl, rfl, .inr (by decide), _, _, rfl, rfl, (by show (0 : Int) < 1000003; decide), ?_⟩
    refine ⟨_, rfl, _, _, rfl, rfl, (by show (0 : Int) < 3; decide), _, _, rfl, rfl, ?_⟩
    refine ⟨_, rfl, _, _, rfl, rfl, ⟨by decide, by decide⟩, _, _, rfl, rfl, (by show (0 : Int) < 3; decide), rfl, _, rfl, ?_⟩
    -- both ways lead to the size
    have rest : ∀ σ0, σ0 = [some (V.int c), some (.int (wMore c)), some (.int (wSize c)), none] → tRet (tM1 (fun x xs H Q => ∃ a p, ∃ ys : List Str, x = .str a ∧ xs = [.ref p] ∧ (SqL K H p (ys.map V.str) ∨ SqT K H p (ys.map V.str)) ∧
        (ys.map (·.length)).sum + ys.length * a.length ≤ 16777216 ∧ Q (.str (Txt.join a ys)) H) (tC (.str "")) (tLc (iRng1 (tCons (tVar 2) tNil)) (gName 3) tYes
          (tCall spSignBy [] E0 (tCons (tOp (rI (fun _ j => 0 < j) fun i j => .int (i % j)) (tOp (rI CMul fun i j => .int (i * j)) (tOp (rI0 fun i j => .int (i + j)) (tOp (rI0 fun i j => .int (i + j)) (tVar 1) (tOp (rI CMul fun i j => .int (i * j)) (tC (.int 11)) (tVar 3))) (tC (.int 1)))
            (tOp (rI0 fun i j => .int (i + j)) (tOp (rI0 fun i j => .int (i + j)) (tVar 1) (tOp (rI CMul fun i j => .int (i * j)) (tC (.int 211)) (tVar 3))) (tC (.int 3)))) (tC (.int 1000033))) tNil)) [3])) { nx := fun _ H' => Q .non H', rt := Q } σ0 H := by
      rintro _ rfl
      refine ⟨⟨_, rfl⟩, _, rfl, _, rfl, by omega, by omega, fun D nD => ?_⟩
      refine lc_range (lo := 0) (n := (wSize c).toNat) (fun i H' => Same H H' ∧ H' D = some (.lst ((wCodes c i).map fun z => V.str ⟨#[z]⟩))) ⟨same_upd nD, upd_same⟩ (fun i H' hi hp => ?_) (fun H' hp => ?_)
      · obtain ⟨sm, hD⟩ := hp
        refine ⟨rfl, yesT ?_⟩
        refine ⟨_, rfl, _, rfl, _, _, rfl, rfl, .inl (by decide), _, _, rfl, rfl, _, _, rfl, rfl, _, rfl, _, rfl, _, _, rfl, rfl, .inl (by decide), _, _, rfl, rfl, _, _, rfl, rfl, _, _, rfl, rfl, .inl ⟨by omega, by omega⟩, _, _, rfl, rfl, (by show (0 : Int) < 1000033; decide), _, rfl, ?_⟩
        refine ⟨_, hD, ?_, fun b o e => ?_, ?_⟩
        · rw [List.length_map]
          unfold wCodes
          rw [List.length_map, List.length_range]
          exact Nat.lt_of_lt_of_le (show i < 1000 by omega) (by decide)
        · rw [upd_ne (ne_of_none e nD)]
          exact sm b o e
        · rw [upd_same]
          unfold wCodes
          rw [List.range_succ, List.map_append, List.map_append]
          rfl
      · obtain ⟨sm, hD⟩ := hp
        refine ⟨_, _, (wCodes c (wSize c).toNat).map fun z => (⟨#[z]⟩ : Str), rfl, rfl, .inl (.inl (.inl ?_)), ?_, ?_⟩
        · rw [hD, List.map_map]
          rfl
        · have e0 : ("" : Str).length = 0 := by decide +kernel
          rw [e0, Nat.mul_zero, Nat.add_zero]
          have e1 : ∀ l : List Nat, ((l.map fun z => (⟨#[z]⟩ : Str)).map (·.length)).sum = l.length := fun l => by
            induction l with
            | nil => rfl
            | cons a r ih =>
              rw [List.map_cons, List.map_cons, List.sum_cons, ih, List.length_cons]
              show 1 + r.length = _
              omega
          rw [e1]
          unfold wCodes
          rw [List.length_map, List.length_range]
          omega
        · rw [join_signs]
          exact q H' sm
    refine ite2 (fun e => ?_) (fun e => ?_)
    · have e1 : wMore c / 3 % 3 = 1 := V.int.inj (of_decide_eq_true e)
      refine ⟨_, rfl, _, _, rfl, rfl, ⟨by decide, by decide⟩, _, _, rfl, rfl, (by show (0 : Int) < 40; decide), _, _, rfl, rfl, rest _ ?_⟩
      unfold wSize
      rw [if_pos e1]
      rfl
    · have e1 : ¬ wMore c / 3 % 3 = 1 := fun z => e (decide_eq_true (congrArg V.int z))
      refine rest _ ?_
      unfold wSize
      rw [if_neg e1]
      rfl
end
/-! ### near words, the menu -/
theorem wordB_of {b : Str} (h1 : 1 ≤ b.length) (h2 : b.length ≤ 40) (h : ∀ c ∈ b.cps.toList, signB c = true) : wordB b = true := by
  unfold wordB
  rw [Bool.and_eq_true, Bool.and_eq_true]
  exact ⟨decide_eq_true (by omega), decide_eq_true (by omega), List.all_eq_true.mpr h⟩
theorem str_len (a : Str) : a.length = a.cps.toList.length := by simp [Str.length]
theorem cut_lo (a : Str) (k : Nat) (h : k ≤ a.length) : (cutS a none (some (k : Int))).cps.toList = a.cps.toList.take k := by
  unfold cutS
  rw [HT.sIx_none, HT.sIx_nat, Nat.min_eq_left h, Nat.sub_zero]
  rfl
theorem cut_hi (a : Str) (k : Nat) (h : k ≤ a.length) : (cutS a (some (k : Int)) none).cps.toList = a.cps.toList.drop k := by
  unfold cutS
  rw [HT.sIx_none, HT.sIx_nat, Nat.min_eq_left h]
  show (a.cps.toList.drop k).take (a.length - k) = _
  rw [List.take_of_length_le (by rw [List.length_drop, str_len]; exact Nat.le_refl _)]
section
variable {P : Program} {w : World} {K : PySem.W.Frag} {mg : Str → Option Value} {base : Heap}
theorem scNear : FnScope ["_law_word", "_law_cell", "_law_at"] ["_law_word", "_law_cell"] (defScope sNear) := ⟨rfl, rfl, rfl, by decide +kernel, rfl, by decide +kernel, by decide +kernel⟩
theorem scMenu : FnScope ["_law_script", "_law_base", "_law_k"] ["_law_script"] (defScope sMenu) := ⟨rfl, rfl, rfl, by decide +kernel, rfl, by decide +kernel, by decide +kernel⟩
def spNear : Sp := fun vs H Q _ => ∃ (a : Str) (c : Int), vs = [.str a, .int c] ∧ wordB a = true ∧ ∀ H' b, Same H H' → wordB b = true → Q (.str b) H'
theorem ok_near {f fS : Addr} {fd fdS : FuncData} (F : FnP K "_law_near" sNear f fd) (GS : FnOk P w K mg base (L2.CX P w) 1 fS fdS ["_law_cell"] spSignBy) (kS : PySem.W.keepIn K (.ref fS) = true) (bS : Binds K fdS ["_law_cell"] []) (gS : mg "_law_sign_by" = some (.ref fS))
    (mL : mg "len" = none) (mT : mg "list" = none) (mV : mg "reversed" = none) : FnOk P w K mg base (L2.CX P w) 2 f fd ["_law_word", "_law_cell"] spNear := by
  refine F.ok scNear (fun vs H Q E h => ?_) (fun cdv A outer s H vs Q E hr h => ?_)
  · obtain ⟨a, c, rfl, _⟩ := h
    rfl
  · obtain ⟨a, c, rfl, ha, q⟩ := h
    refine ⟨_, pss_cut (ps_set (i := 2) scNear.nd rfl (.inl rfl) (pe_op op_mod (pv 1) (pe_callB call_len_str (by rfl) mL PySem.boot_len (pa_cons (pv 0) pa_nil))))
      (pss_cons (ps_if (pt_cmpR op_eq (pe_op op_mod (pe_op op_fdiv (pv 1) pe_int) pe_int) pe_int (nomark _)) (pss_one (ps_ret (pe_join pe_str (Rs.pe_listRs rfl (by rfl) mT (by rfl) mV (pv 0))))) pss_nil)
      (pss_cut (ps_if (PW.pt (pw_and (pt_cmpR op_eq (pe_op op_mod (pe_op op_fdiv (pv 1) pe_int) pe_int) pe_int (nomark _)) (pw_and1 (pt_cmpR op_gt (pe_callB call_len_str (by rfl) mL PySem.boot_len (pa_cons (pv 0) pa_nil)) pe_int (nomark _)))))
        (pss_one (ps_ret (pe_op op_add_str (pe_slice sl_str (pv 0) po_none (po_some (pv 2))) (pe_slice sl_str (pv 0) (po_some (pe_op op_add (pv 2) pe_int)) po_none)))) pss_nil)
      (pss_one (ps_ret (pe_op op_add_str (pe_op op_add_str (pe_slice sl_str (pv 0) po_none (po_some (pv 2))) (pe_call GS hr (by rfl) gS kS bS .nil passL (pa_cons (pe_op op_fdiv (pv 1) pe_int) pa_nil))) (pe_slice sl_str (pv 0) (po_some (pe_op op_add (pv 2) pe_int)) po_none)))))), ?_⟩
    have hl := wordB_len ha
    have hz : a.length ≤ sizeLine := small_line (by omega)
    have hsg := wordB_signs ha
    have h1 : 0 ≤ c % (a.length : Int) := Int.emod_nonneg c (by omega)
    have h2 : c % (a.length : Int) < (a.length : Int) := Int.emod_lt_of_pos c (by omega)
    obtain ⟨k, hk⟩ : ∃ k : Nat, c % (a.length : Int) = (k : Int) := ⟨(c % (a.length : Int)).toNat, (Int.toNat_of_nonneg h1).symm⟩
    have hka : k < a.length := by omega
    have el := str_len a
    have lo := cut_lo a k (by omega)
    have hi := cut_hi a (k + 1) (by omega)
    have llo : (cutS a none (some (k : Int))).length = k := by
      rw [str_len, lo, List.length_take]
      omega
    have lhi : (cutS a (some ((k + 1 : Nat) : Int)) none).length = a.length - (k + 1) := by
      rw [str_len, hi, List.length_drop]
      omega
    have slo : ∀ x ∈ (cutS a none (some (k : Int))).cps.toList, signB x = true := fun x hx => hsg x (by rw [lo] at hx; exact List.mem_of_mem_take hx)
    have shi : ∀ x ∈ (cutS a (some ((k + 1 : Nat) : Int)) none).cps.toList, signB x = true := fun x hx => hsg x (by rw [hi] at hx; exact List.mem_of_mem_drop hx)
    have ek : ((k : Int) + 1) = ((k + 1 : Nat) : Int) := by omega
    refine ⟨fun σ' H' => σ' = [some (.str a), some (.int c), some (.int (k : Int))] ∧ H' = H, ⟨_, rfl, _, rfl, a, rfl, hz, _, _, rfl, rfl, by omega, ?_, rfl⟩, fun σ' H' hM => ?_⟩
    · show [some (V.str a), some (V.int c), some (V.int (c % (a.length : Int)))] = _
      rw [hk]
    obtain ⟨rfl, rfl⟩ := hM
    refine ⟨_, rfl, _, _, rfl, rfl, ⟨by decide, by decide⟩, _, _, rfl, rfl, (by show (0 : Int) < 3; decide), rfl, _, rfl, ite2 (fun e => ?_) (fun e => ?_)⟩
    · refine ⟨⟨_, rfl⟩, _, rfl, a, rfl, hl.1, by omega, fun p np => ?_⟩
      refine ⟨_, p, a.cps.toList.reverse.map fun c => (⟨#[c]⟩ : Str), rfl, rfl, .inl (.inl (.inl ?_)), ?_, ?_⟩
      · rw [upd_same, List.map_map]
        rfl
      · have e0 : ("" : Str).length = 0 := by decide +kernel
        rw [e0, Nat.mul_zero, Nat.add_zero]
        have e1 : ∀ l : List Nat, ((l.map fun z => (⟨#[z]⟩ : Str)).map (·.length)).sum = l.length := fun l => by
          induction l with
          | nil => rfl
          | cons a r ih =>
            rw [List.map_cons, List.map_cons, List.sum_cons, ih, List.length_cons]
            show 1 + r.length = _
            omega
        rw [e1, List.length_reverse]
        omega
      · rw [join_signs]
        refine q _ _ (same_upd np) (wordB_of ?_ ?_ fun x hx => hsg x ?_)
        · show 1 ≤ (a.cps.toList.reverse.toArray).size
          rw [List.size_toArray, List.length_reverse]
          omega
        · show (a.cps.toList.reverse.toArray).size ≤ 40
          rw [List.size_toArray, List.length_reverse]
          omega
        · exact List.mem_reverse.mp hx
    · refine ⟨fun σ' H2 => σ' = [some (.str a), some (.int c), some (.int (k : Int))] ∧ H2 = H', ?_, fun σ' H2 hM => ?_⟩
      · refine ⟨_, rfl, _, _, rfl, rfl, ⟨by decide, by decide⟩, _, _, rfl, rfl, (by show (0 : Int) < 3; decide), rfl, _, rfl, ?_⟩
        cases decide (V.int (c / 41 % 3) = V.int 1) with
        | false => exact iteF (iteF ⟨rfl, rfl⟩)
        | true =>
          refine iteT ⟨_, rfl, a, rfl, hz, _, _, rfl, rfl, _, rfl, ite2 (fun e => ?_) (fun e => ⟨rfl, rfl⟩)⟩
          have e1 : (1 : Int) < (a.length : Int) := of_decide_eq_true e
          refine ⟨_, rfl, _, rfl, _, rfl, a, rfl, hz, _, rfl, _, rfl, _, _, rfl, rfl, _, rfl, a, rfl, hz, _, _, rfl, rfl, ?_, ?_⟩
          · rw [ek, llo, lhi]
            exact small_line (by omega)
          · rw [ek]
            refine q _ _ (Same.refl _) (wordB_of ?_ ?_ fun x hx => ?_)
            · rw [Str.length_append, llo, lhi]
              omega
            · rw [Str.length_append, llo, lhi]
              omega
            · rw [Str.cps_append, Array.toList_append] at hx
              rcases List.mem_append.mp hx with hx | hx
              · exact slo x hx
              · exact shi x hx
      · obtain ⟨rfl, rfl⟩ := hM
        refine ⟨_, rfl, _, rfl, _, rfl, a, rfl, hz, _, rfl, _, _, rfl, rfl, ⟨by decide, by decide⟩, _, rfl, _, _, rfl, rfl, ?_, _, rfl, _, rfl, _, _, rfl, rfl, _, rfl, a, rfl, hz, _, _, rfl, rfl, ?_, ?_⟩
        · rw [llo]
          exact small_line (by show k + 1 ≤ 1000000; omega)
        · rw [ek, Str.length_append, llo, lhi]
          exact small_line (by show k + 1 + (a.length - (k + 1)) ≤ 1000000; omega)
        · rw [ek]
          refine q _ _ (Same.refl _) (wordB_of ?_ ?_ fun x hx => ?_)
          · rw [Str.length_append, Str.length_append, llo, lhi]
            show 1 ≤ k + 1 + (a.length - (k + 1))
            omega
          · rw [Str.length_append, Str.length_append, llo, lhi]
            show k + 1 + (a.length - (k + 1)) ≤ 40
            omega
          · rw [Str.cps_append, Array.toList_append, Str.cps_append, Array.toList_append] at hx
            rcases List.mem_append.mp hx with hx | hx
            · rcases List.mem_append.mp hx with hx | hx
              · exact slo x hx
              · have hx : x ∈ [sgnOf (c / 123)] := hx
                rw [List.mem_singleton.mp hx]
                exact sgnOf_ok _
            · exact shi x hx

def spMenu (K : PySem.W.Frag) : Sp := fun vs H Q _ => ∃ (a : Addr) (ns : List Int), vs = [.ref a] ∧ SqL K H a (ns.map V.int) ∧ ∀ (H' : Hp) (p : Addr) (ws : List Str), Same H H' → H p = none → H' p = some (.lst (ws.map V.str)) → ws.length = 12 → (∀ x ∈ ws, wordB x = true) → Q (.ref p) H'
theorem ok_menu {f fC fW fN : Addr} {fd fdC fdW fdN : FuncData} (F : FnP K "_law_menu" sMenu f fd)
    (GC : FnOk P w K mg base (L2.CX P w) 1 fC fdC ["_law_script", "_law_k"] (spCell K)) (kC : PySem.W.keepIn K (.ref fC) = true) (bC : Binds K fdC ["_law_script", "_law_k"] []) (gC : mg "_law_cell_at" = some (.ref fC))
    (GW : FnOk P w K mg base (L2.CX P w) 2 fW fdW ["_law_cell"] spWordBy) (kW : PySem.W.keepIn K (.ref fW) = true) (bW : Binds K fdW ["_law_cell"] []) (gW : mg "_law_word_by" = some (.ref fW))
    (GN : FnOk P w K mg base (L2.CX P w) 2 fN fdN ["_law_word", "_law_cell"] spNear) (kN : PySem.W.keepIn K (.ref fN) = true) (bN : Binds K fdN ["_law_word", "_law_cell"] []) (gN : mg "_law_near" = some (.ref fN)) (mR : mg "range" = none) :
    FnOk P w K mg base (L2.CX P w) 3 f fd ["_law_script"] (spMenu K) := by
  refine F.ok scMenu (fun vs H Q E h => ?_) (fun cdv A outer s H vs Q E hr h => ?_)
  · obtain ⟨a, ns, rfl, _⟩ := h
    rfl
  · obtain ⟨a, ns, rfl, hS, q⟩ := h
    have r1 : Room 1 (A.deeper (envOfC "_law_menu" (defScope sMenu) s.heap.objs.size f cdv)) := hr.mono (by decide)
    refine ⟨_, pss_cut (ps_setLc (i := 1) (own := [("_law_k", 2)]) (g := gName 2) (tt := tYes) rfl scMenu.nd rfl rfl (sw_true rfl rfl rfl (by decide +kernel)) (pi_range1 (by rfl) mR (pa_cons pe_int pa_nil)) (blkOk_by (N := ["_law_script", "_law_base", "_law_k"]) (sc := defScope sMenu) (by decide +kernel))
        (fun _ _ _ _ _ => pg_name (i := 2) scMenu.nd rfl (Or.inl rfl)) (fun _ _ _ _ _ => pts_nil) (fun _ _ _ _ _ => pe_call GW hr (by rfl) gW kW bW .nil passL (pa_cons (pe_op op_add (pe_call GC r1 (by rfl) gC kC bC .nil passL (pa_cons (pv 0) (pa_cons (pv 2) pa_nil))) (pe_op op_mul pe_int (pv 2))) pa_nil)))
      (pss_cut (ps_if (pt_cmpR op_eq (pe_op op_mod (pe_call GC r1 (by rfl) gC kC bC .nil passL (pa_cons (pv 0) (pa_cons pe_int pa_nil))) pe_int) pe_int (nomark _))
        (pss_cons (ps_asg (pe_call GN hr (by rfl) gN kN bN .nil passL (pa_cons (pe_ix ix_list (pv 1) pe_int (fun _ _ => rfl)) (pa_cons (pe_call GC r1 (by rfl) gC kC bC .nil passL (pa_cons (pv 0) (pa_cons pe_int pa_nil))) pa_nil))) (pg_sub (pv 1) pe_int set_list))
          (pss_one (ps_asg (pe_call GN hr (by rfl) gN kN bN .nil passL (pa_cons (pe_ix ix_list (pv 1) pe_int (fun _ _ => rfl)) (pa_cons (pe_call GC r1 (by rfl) gC kC bC .nil passL (pa_cons (pv 0) (pa_cons pe_int pa_nil))) pa_nil))) (pg_sub (pv 1) pe_int set_list)))) pss_nil)
      (pss_cons (ps_if (pt_cmpR op_eq (pe_op op_mod (pe_call GC r1 (by rfl) gC kC bC .nil passL (pa_cons (pv 0) (pa_cons pe_int pa_nil))) pe_int) pe_int (nomark _))
        (pss_one (ps_ret (pe_op op_cat (pv 1) (pe_lc (own := [("_law_k", 2)]) (g := gName 2) (tt := tYes) rfl scMenu.nd (pi_range1 (by rfl) mR (pa_cons pe_int pa_nil)) (blkOk_by (N := ["_law_script", "_law_base", "_law_k"]) (sc := defScope sMenu) (by decide +kernel))
          (fun _ _ _ _ _ => pg_name (i := 2) scMenu.nd rfl (Or.inl rfl)) (fun _ _ _ _ _ => pts_nil)
          (fun _ _ _ _ _ => pe_call GW hr (by rfl) gW kW bW .nil passL (pa_cons (pe_op op_add (pe_op op_add (pe_call GC r1 (by rfl) gC kC bC .nil passL (pa_cons (pv 0) (pa_cons (pe_op op_mod (pv 2) pe_int) pa_nil))) (pe_op op_mul pe_int (pv 2))) pe_int) pa_nil)))))) pss_nil)
      (pss_one (ps_ret (pe_op op_rep (pv 1) pe_int))))), ?_⟩
    -- the base of four
    refine ⟨fun σ' H' => ∃ D ws, σ' = [some (.ref a), some (.ref D), none] ∧ H D = none ∧ Same H H' ∧ H' D = some (.lst ((ws : List Str).map V.str)) ∧ ws.length = 4 ∧ ∀ x ∈ ws, wordB x = true, ?_, fun σ1 H1 hM => ?_⟩
    · refine ⟨_, rfl, by decide, by decide, fun D nD => ?_⟩
      refine lc_range (lo := 0) (n := 4) (fun i H' => Same H H' ∧ H' D = some (.lst (((List.range i).map fun k => wordOf (cellOf ns (0 + k) + 97 * (0 + (k : Int)))).map V.str))) ⟨same_upd nD, upd_same⟩ (fun i H' hi hp => ?_) (fun H1 hp => ?_)
      · obtain ⟨sm, hD⟩ := hp
        refine ⟨rfl, yesT ?_⟩
        refine ⟨_, rfl, _, rfl, a, ns, 0 + i, congrArg (fun t : Int => [V.ref a, V.int t]) (show (0 : Int) + (i : Int) = ((0 + i : Nat) : Int) by omega), sm.seq hS, _, rfl, _, _, rfl, rfl, .inl (by decide), _, _, rfl, rfl, _, rfl, fun H2 sm2 => ?_⟩
        refine ⟨_, sm2 _ _ hD, ?_, fun b o e => ?_, ?_⟩
        · rw [List.length_map, List.length_map, List.length_range]
          exact Nat.lt_of_lt_of_le (show i < 1000 by omega) (by decide)
        · rw [upd_ne (ne_of_none e nD)]
          exact sm2 b o (sm b o e)
        · rw [upd_same, List.range_succ, List.map_append, List.map_append]
          rfl
      · obtain ⟨sm, hD⟩ := hp
        refine ⟨D, _, rfl, nD, sm, hD, by rw [List.length_map, List.length_range], fun x hx => ?_⟩
        obtain ⟨k, _, rfl⟩ := List.mem_map.mp hx
        exact wordOf_ok _
    obtain ⟨D, ws, rfl, nD, sm1, hD1, hl, hw⟩ := hM
    refine ⟨fun σ' H' => ∃ ws, σ' = [some (.ref a), some (.ref D), none] ∧ Same H H' ∧ H' D = some (.lst ((ws : List Str).map V.str)) ∧ ws.length = 4 ∧ ∀ x ∈ ws, wordB x = true, ?_, fun σ2 H2 hM => ?_⟩
    · have hS1 := sm1.seq hS
      refine ⟨_, rfl, a, ns, 0, rfl, hS1, _, _, rfl, rfl, (by show (0 : Int) < 2; decide), rfl, _, rfl, ite2 (fun _ => ?_) (fun _ => ⟨ws, rfl, sm1, hD1, hl, hw⟩)⟩
      have step : ∀ (H1 : Hp) (ws : List Str) (j : Nat), j < 4 → Same H H1 → H1 D = some (.lst (ws.map V.str)) → ws.length = 4 → (∀ x ∈ ws, wordB x = true) → ∃ x, ws[j]? = some x ∧ wordB x = true := fun H1 ws j hj _ _ hl hw => by
        have : j < ws.length := by omega
        exact ⟨ws[j], List.getElem?_eq_getElem this, hw _ (List.getElem_mem this)⟩
      have put : ∀ (ws : List Str) (j : Nat) (b : Str), (ws.map V.str).set j (.str b) = (ws.set j b).map V.str := fun ws j b => by rw [List.map_set]
      have good : ∀ (ws : List Str) (j : Nat) (b : Str), (∀ x ∈ ws, wordB x = true) → wordB b = true → ∀ x ∈ ws.set j b, wordB x = true := fun ws j b h hb x hx => by
        rcases List.mem_or_eq_of_mem_set hx with h1 | h1
        · exact h x h1
        · rw [h1]
          exact hb
      obtain ⟨x0, hx0, hb0⟩ := step H1 ws 0 (by decide) sm1 hD1 hl hw
      refine ⟨_, rfl, D, _, _, _, rfl, rfl, .inl (.inl hD1), at_of (j := 0) rfl (by rw [List.getElem?_map, hx0]; rfl), _, rfl, a, ns, 1, rfl, hS1, x0, _, rfl, hb0, fun H3 b sm3 hb => ?_⟩
      have hD3 := sm3 _ _ hD1
      refine ⟨_, rfl, D, _, _, 1, rfl, rfl, hD3, by rw [List.length_map, hl]; rfl, ?_⟩
      rw [put]
      have s4 : Same H (upd H3 D (.lst ((ws.set 1 b).map V.str))) := fun c o e => by
        rw [upd_ne (ne_of_none e nD)]
        exact sm3 c o (sm1 c o e)
      have hl4 : (ws.set 1 b).length = 4 := by rw [List.length_set]; exact hl
      have hw4 := good ws 1 b hw hb
      have hD4 : (upd H3 D (.lst ((ws.set 1 b).map V.str))) D = some (.lst ((ws.set 1 b).map V.str)) := upd_same
      obtain ⟨x2, hx2, hb2⟩ := step _ _ 2 (by decide) s4 hD4 hl4 hw4
      refine ⟨_, rfl, D, _, _, _, rfl, rfl, .inl (.inl hD4), at_of (j := 2) rfl (by rw [List.getElem?_map, hx2]; rfl), _, rfl, a, ns, 2, rfl, s4.seq hS, x2, _, rfl, hb2, fun H5 b5 sm5 hb5 => ?_⟩
      have hD5 := sm5 _ _ hD4
      refine ⟨_, rfl, D, _, _, 3, rfl, rfl, hD5, by rw [List.length_map, hl4]; rfl, ?_⟩
      rw [put]
      refine ⟨_, rfl, fun c o e => ?_, upd_same, by rw [List.length_set]; exact hl4, good _ 3 b5 hw4 hb5⟩
      rw [upd_ne (ne_of_none e nD)]
      exact sm5 c o (s4 c o e)
    obtain ⟨ws, rfl, sm2, hD2, hl, hw⟩ := hM
    have hS2 := sm2.seq hS
    refine ⟨_, rfl, a, ns, 3, rfl, hS2, _, _, rfl, rfl, (by show (0 : Int) < 4; decide), rfl, _, rfl, ite2 (fun _ => ?_) (fun _ => ?_)⟩
    · refine ⟨_, rfl, _, rfl, by decide, by decide, fun E nE => ?_⟩
      refine lc_range (lo := 0) (n := 8) (fun i H' => Same H2 H' ∧ ∃ vs, H' E = some (.lst ((vs : List Str).map V.str)) ∧ vs.length = i ∧ ∀ x ∈ vs, wordB x = true) ⟨same_upd nE, [], upd_same, rfl, fun x hx => by cases hx⟩ (fun i H' hi hp => ?_) (fun H3 hp => ?_)
      · obtain ⟨sm, vs, hE, hlv, hv⟩ := hp
        refine ⟨rfl, yesT ?_⟩
        have hk : ∃ j : Nat, (0 + (i : Int)) % 3 = (j : Int) := ⟨((0 + (i : Int)) % 3).toNat, (Int.toNat_of_nonneg (Int.emod_nonneg _ (by decide))).symm⟩
        obtain ⟨j, hj⟩ := hk
        refine ⟨_, rfl, _, rfl, _, _, rfl, rfl, (by show (0 : Int) < 3; decide), a, ns, j, congrArg (fun t : Int => [V.ref a, V.int t]) hj, sm.seq hS2, _, rfl, _, _, rfl, rfl, .inl (by decide), _, _, rfl, rfl, _, _, rfl, rfl, _, rfl, fun H4 sm4 => ?_⟩
        refine ⟨_, sm4 _ _ hE, ?_, fun b o e => ?_, vs ++ [wordOf (cellOf ns j + 97 * (0 + (i : Int)) + 13)], ?_, ?_, ?_⟩
        · rw [List.length_map, hlv]
          exact Nat.lt_of_lt_of_le (show i < 1000 by omega) (by decide)
        · rw [upd_ne (ne_of_none e nE)]
          exact sm4 b o (sm b o e)
        · rw [upd_same, List.map_append]
          rfl
        · rw [List.length_append, hlv]
          rfl
        · intro x hx
          rcases List.mem_append.mp hx with hx | hx
          · exact hv x hx
          · rw [List.mem_singleton.mp hx]
            exact wordOf_ok _
      · obtain ⟨sm, vs, hE, hlv, hv⟩ := hp
        have hD3 := sm _ _ hD2
        refine ⟨D, E, _, _, rfl, rfl, hD3, hE, by rw [List.length_map, List.length_map, hl, hlv]; decide, fun p np => ?_⟩
        have s3 : Same H H3 := sm2.trans sm
        refine q _ p (ws ++ vs) (s3.trans (same_upd np)) (s3.free np) ?_ (by rw [List.length_append, hl, hlv]) fun x hx => ?_
        · rw [upd_same, List.map_append]
        · rcases List.mem_append.mp hx with hx | hx
          · exact hw x hx
          · exact hv x hx
    · refine ⟨_, rfl, D, _, _, rfl, rfl, hD2, by decide, by decide, by rw [List.length_map, hl]; decide, fun p np => ?_⟩
      refine q _ p (ws ++ (ws ++ (ws ++ []))) (sm2.trans (same_upd np)) (sm2.free np) ?_ (by simp [hl]) fun x hx => ?_
      · rw [upd_same, List.map_append, List.map_append, List.map_append]
        rfl
      · simp at hx
        exact hw x hx
end
/-! ### the program's words, good or not -/
/-- a value that is no text -/
inductive NoStr (K : PySem.W.Frag) (H : Hp) : V → Prop
  | int (n : Int) : NoStr K H (.int n)
  | non : NoStr K H .non
  | bl (b : Bool) : NoStr K H (.bl b)
  | lst {a : Addr} {xs : List V} (h : SqL K H a xs) : NoStr K H (.ref a)
  | tup {a : Addr} {xs : List V} (h : SqT K H a xs) : NoStr K H (.ref a)
  | dic {a : Addr} {kvs : List (Key × V)} (h : H a = some (.dK kvs)) : NoStr K H (.ref a)
theorem NoStr.kp {K : PySem.W.Frag} {Ps : List Addr} {H H' : Hp} (t : Tb Ps H) (k : Kp Ps H H') {v : V} (h : NoStr K H v) : NoStr K H' v := by
  cases h with
  | int n => exact .int n
  | non => exact .non
  | bl b => exact .bl b
  | lst h => exact .lst (k.seq t h)
  | tup h => exact .tup (k.seqT t h)
  | dic h => exact .dic (k.at t h fun _ z => by cases z)
theorem NoStr.ty {K : PySem.W.Frag} {H : Hp} {v : V} (h : NoStr K H v) : ∃ T : String, TyX K H v (.type T) ∧ (T = "int" ∨ T = "NoneType" ∨ T = "bool" ∨ T = "list" ∨ T = "tuple" ∨ T = "dict") := by
  cases h with
  | int n => exact ⟨_, .base (.int n), .inl rfl⟩
  | non => exact ⟨_, .base .non, .inr (.inl rfl)⟩
  | bl b => exact ⟨_, .base (.bl b), .inr (.inr (.inl rfl))⟩
  | lst h => exact ⟨_, tyL h, .inr (.inr (.inr (.inl rfl)))⟩
  | tup h => exact ⟨_, tyT h, .inr (.inr (.inr (.inr (.inl rfl))))⟩
  | dic h => exact ⟨_, .base (.dK h), .inr (.inr (.inr (.inr (.inr rfl))))⟩
/-- a value that may stand among words -/
def WV (K : PySem.W.Frag) (H : Hp) (v : V) : Prop := (∃ a : Str, v = .str a ∧ a.length ≤ 1000000) ∨ NoStr K H v
theorem WV.kp {K : PySem.W.Frag} {Ps : List Addr} {H H' : Hp} (t : Tb Ps H) (k : Kp Ps H H') {v : V} (h : WV K H v) : WV K H' v := h.imp id (·.kp t k)
def isW : V → Bool
  | .str a => wordB a
  | _ => false
theorem isW_no {K : PySem.W.Frag} {H : Hp} {v : V} (h : NoStr K H v) : isW v = false := by
  cases h <;> rfl
theorem all_isW (ws : List Str) : (ws.map V.str).all isW = ws.all wordB := by
  induction ws with
  | nil => rfl
  | cons a r ih =>
    rw [List.map_cons, List.all_cons, List.all_cons, ih]
    rfl
theorem log_small {n : Nat} (h : n < 2 ^ 64) : n.log2 < 1920 := by
  by_cases h0 : n = 0
  · subst h0
    decide
  · exact (Nat.log2_lt h0).mpr (Nat.lt_of_lt_of_le h (Nat.pow_le_pow_right (by decide) (by decide)))
section
variable {P : Program} {w : World} {K : PySem.W.Frag} {mg : Str → Option Value} {base : Heap}
def spIsWordX (K : PySem.W.Frag) (Ps : List Addr) : Sp := fun vs H Q _ => ∃ v, vs = [v] ∧ WV K H v ∧ Tb Ps H ∧ ∀ H', Kp Ps H H' → Q (.bl (isW v)) H'
theorem ok_is_wordX {Ps : List Addr} {f fS Pw : Addr} {fd fdS : FuncData} (F : FnP K "is_word" sIsWord f fd) (hf : f = He.fAd K ("is_word", none)) (hPw : Pw ∈ Ps) (TB : GxR.TabB base mg (He.codeOf K ("is_word", none)) Pw)
    (FS : FnP K "is_sign" sIsSign fS fdS) (bS : Binds K fdS ["sign"] []) (gS : mg "is_sign" = some (.ref fS)) (mI : mg "isinstance" = none) (mS : mg "str" = none) (mL : mg "len" = none) (mA : mg "all" = none) {tL : Tok} (mN : mg "LONGEST" = some (.int 40 tL)) :
    FnOk P w K mg base (L2.CX P w) 3 f fd ["word"] (spIsWordX K Ps) := by
  have GS : FnOk P w K mg base (L2.CX P w) 1 fS fdS ["sign"] spIsSign := ok_is_sign FS
  refine okC F hf scIsWord (fun vs H Q E h => ?_) (fun A outer s H vs Q E hr h => ?_)
  · obtain ⟨v, rfl, _⟩ := h
    rfl
  · obtain ⟨v, rfl, hv, ht, q⟩ := h
    refine ⟨_, pss_cons (ps_if (pt_not (pt_val (pe_callB call_isi (by rfl) mI (by decide +kernel) (pa_cons (pv 0) (pa_cons (pe_bltn (v := .ty "str") (by rfl) mS (by decide +kernel) rfl) pa_nil))))) (pss_one (ps_ret pe_bl)) pss_nil)
      (pss_one (ps_ret (pe_and (pe_chain op_le op_le pe_int (pe_callB call_len_str (by rfl) mL PySem.boot_len (pa_cons (pv 0) pa_nil)) (pe_glob (v := .int 40) (by rfl) mN ⟨_, rfl⟩))
        (pe_one (pe_allG (own := [("sign", 1)]) (gt := gName 1) (tt := tYes) (P := Pw) hr scIsWord.nd (by rfl) mA (by decide +kernel) TB rfl ⟨rfl, by decide +kernel, rfl, blkOk_by (N := ["word", "sign"]) (sc := defScope sIsWord) (by decide +kernel)⟩ (pi_str (pv 0))
          (fun _ _ _ _ _ _ _ _ _ => pg_name (i := 1) scIsWord.nd rfl (Or.inl rfl)) (fun _ _ _ _ _ _ _ _ _ _ => pts_nil) (fun _ _ _ _ _ _ _ _ _ hb => pe_call GS hb (by rfl) gS FS.kp bS .nil passL (pa_cons (pv 1) pa_nil))))))), ?_⟩
    rcases hv with ⟨a, rfl, hz⟩ | hv
    · refine ⟨_, rfl, .str a, .ty "str", _, _, true, rfl, .ty _, .base (.str a), kit_ty (by decide +kernel), true, rfl, iteF ?_⟩
      refine ⟨_, rfl, a, rfl, small_line hz, 1, (a.length : Int), rfl, rfl, _, rfl, ?_⟩
      have eN : isW (.str a) = (decide ((1 : Int) ≤ (a.length : Int)) && (decide ((a.length : Int) ≤ 40) && a.cps.toList.all signB)) := rfl
      rw [eN] at q
      by_cases h1 : (1 : Int) ≤ (a.length : Int)
      · rw [decide_eq_true h1] at q ⊢
        refine iteT ⟨(a.length : Int), 40, rfl, rfl, _, rfl, ?_⟩
        by_cases h2 : (a.length : Int) ≤ 40
        · rw [decide_eq_true h2] at q ⊢
          refine iteT ⟨_, rfl, a, rfl, ht Pw hPw, fun H2 hT => ?_⟩
          have k2 := Kp.tab ht hPw hT
          refine read_all_str (pb := signB) (Pv := fun H3 => H3 = H2) rfl (fun i c H3 R _ p hR => ?_) (fun H3 p => ?_)
          · subst p
            refine ⟨rfl, _, rfl, c, rfl, hR _ rfl⟩
          · subst p
            exact q _ k2
        · rw [decide_eq_false h2] at q ⊢
          exact iteF (q H (Kp.refl ht))
      · rw [decide_eq_false h1] at q ⊢
        exact iteF ⟨_, rfl, iteF (q H (Kp.refl ht))⟩
    · obtain ⟨T, hT, hk⟩ := hv.ty
      rw [isW_no hv] at q
      have kk : kitB T "str" = some false := by
        rcases hk with rfl | rfl | rfl | rfl | rfl | rfl <;> decide +kernel
      exact ⟨_, rfl, v, .ty "str", _, _, false, rfl, .ty _, hT, kit_ty kk, false, rfl, iteT (q H (Kp.refl ht))⟩
/-- an own class of errors -/
structure ExcC (K : PySem.W.Frag) (mg : Str → Option Value) (x : Str) (c : Addr) : Prop where
  g : mg x = some (.ref c)
  ex : PySem.W.excIn K c He.veBase "ValueError.__new__" = true
  kp : PySem.W.keepIn K (.ref c) = true
  be : PySem.W.subIn K (.ref c) (.type "BaseException") = some true
  ty : PySem.W.typeIn K (.ref c) = some (.type "type")
/-- what is no list -/
inductive NoList (K : PySem.W.Frag) (H : Hp) : V → Prop
  | str (a : Str) : NoList K H (.str a)
  | int (n : Int) : NoList K H (.int n)
  | non : NoList K H .non
  | bl (b : Bool) : NoList K H (.bl b)
  | tup {a : Addr} {xs : List V} (h : SqT K H a xs) : NoList K H (.ref a)
  | dic {a : Addr} {kvs : List (Key × V)} (h : H a = some (.dK kvs)) : NoList K H (.ref a)
theorem NoList.kp {K : PySem.W.Frag} {Ps : List Addr} {H H' : Hp} (t : Tb Ps H) (k : Kp Ps H H') {v : V} (h : NoList K H v) : NoList K H' v := by
  cases h with
  | str a => exact .str a
  | int n => exact .int n
  | non => exact .non
  | bl b => exact .bl b
  | tup h => exact .tup (k.seqT t h)
  | dic h => exact .dic (k.at t h fun _ z => by cases z)
theorem NoList.ty {K : PySem.W.Frag} {H : Hp} {v : V} (h : NoList K H v) : ∃ T : String, TyX K H v (.type T) ∧ kitB T "list" = some false := by
  cases h with
  | str a => exact ⟨_, .base (.str a), by decide +kernel⟩
  | int n => exact ⟨_, .base (.int n), by decide +kernel⟩
  | non => exact ⟨_, .base .non, by decide +kernel⟩
  | bl b => exact ⟨_, .base (.bl b), by decide +kernel⟩
  | tup h => exact ⟨_, tyT h, by decide +kernel⟩
  | dic h => exact ⟨_, .base (.dK h), by decide +kernel⟩
/-- what is handed in where words are asked for: no list, or a list of such values -/
def TextV (K : PySem.W.Frag) (H : Hp) (v : V) (o : Option (List V)) : Prop := match o with
  | none => NoList K H v
  | some xs => ∃ p, v = .ref p ∧ SqL K H p xs ∧ (∀ x ∈ xs, WV K H x) ∧ xs.length ≤ 1000
theorem TextV.kp {K : PySem.W.Frag} {Ps : List Addr} {H H' : Hp} (t : Tb Ps H) (k : Kp Ps H H') {v : V} {o : Option (List V)} (h : TextV K H v o) : TextV K H' v o := by
  cases o with
  | none => exact NoList.kp t k h
  | some xs =>
    obtain ⟨p, e, h1, h2, h3⟩ := h
    exact ⟨p, e, k.seq t h1, fun x hx => (h2 x hx).kp t k, h3⟩
def wordsB (o : Option (List V)) : Bool := match o with
  | none => false
  | some xs => xs.all isW
def shortB (o : Option (List V)) : Bool := match o with
  | none => false
  | some xs => decide (xs.length ≤ 120)
end
/-! ### rows, good or not -/
/-- what is no tuple -/
inductive NoTup (K : PySem.W.Frag) (H : Hp) : V → Prop
  | str (a : Str) : NoTup K H (.str a)
  | int (n : Int) : NoTup K H (.int n)
  | non : NoTup K H .non
  | bl (b : Bool) : NoTup K H (.bl b)
  | lst {a : Addr} {xs : List V} (h : SqL K H a xs) : NoTup K H (.ref a)
  | dic {a : Addr} {kvs : List (Key × V)} (h : H a = some (.dK kvs)) : NoTup K H (.ref a)
theorem NoTup.kp {K : PySem.W.Frag} {Ps : List Addr} {H H' : Hp} (t : Tb Ps H) (k : Kp Ps H H') {v : V} (h : NoTup K H v) : NoTup K H' v := by
  cases h with
  | str a => exact .str a
  | int n => exact .int n
  | non => exact .non
  | bl b => exact .bl b
  | lst h => exact .lst (k.seq t h)
  | dic h => exact .dic (k.at t h fun _ z => by cases z)
theorem NoTup.ty {K : PySem.W.Frag} {H : Hp} {v : V} (h : NoTup K H v) : ∃ T : String, TyX K H v (.type T) ∧ kitB T "tuple" = some false := by
  cases h with
  | str a => exact ⟨_, .base (.str a), by decide +kernel⟩
  | int n => exact ⟨_, .base (.int n), by decide +kernel⟩
  | non => exact ⟨_, .base .non, by decide +kernel⟩
  | bl b => exact ⟨_, .base (.bl b), by decide +kernel⟩
  | lst h => exact ⟨_, tyL h, by decide +kernel⟩
  | dic h => exact ⟨_, .base (.dK h), by decide +kernel⟩
/-- a number, good or not, by a kind -/
inductive NumV (K : PySem.W.Frag) (H : Hp) (k : Str) : V → Bool → Prop
  | int (n : Int) : NumV K H k (.int n) (numB k n)
  | bl (b : Bool) : NumV K H k (.bl b) false
  | str (a : Str) : NumV K H k (.str a) false
  | non : NumV K H k .non false
  | lst {a : Addr} {xs : List V} (h : SqL K H a xs) : NumV K H k (.ref a) false
theorem NumV.kp {K : PySem.W.Frag} {Ps : List Addr} {H H' : Hp} (t : Tb Ps H) (k : Kp Ps H H') {q : Str} {v : V} {b : Bool} (h : NumV K H q v b) : NumV K H' q v b := by
  cases h with
  | int n => exact .int n
  | bl b => exact .bl b
  | str a => exact .str a
  | non => exact .non
  | lst h => exact .lst (k.seq t h)
/-- words of a row, good or not -/
inductive WsV (K : PySem.W.Frag) (H : Hp) : V → Bool → Prop
  | no {v : V} (h : NoTup K H v) : WsV K H v false
  | nil {a : Addr} (h : SqT K H a []) : WsV K H (.ref a) false
  | tup {a : Addr} {xs : List V} (h : SqT K H a xs) (ne : xs ≠ []) (hw : ∀ x ∈ xs, WV K H x) : WsV K H (.ref a) (xs.all isW)
theorem WsV.kp {K : PySem.W.Frag} {Ps : List Addr} {H H' : Hp} (t : Tb Ps H) (k : Kp Ps H H') {v : V} {b : Bool} (h : WsV K H v b) : WsV K H' v b := by
  cases h with
  | no h => exact .no (h.kp t k)
  | nil h => exact .nil (k.seqT t h)
  | tup h ne hw => exact .tup (k.seqT t h) ne fun x hx => (hw x hx).kp t k
def kindsD : List PyData := (plainK ++ blockK).map PyData.str
/-- a row, good or not -/
inductive RV (K : PySem.W.Frag) (H : Hp) : V → Bool → Prop
  | no {v : V} (h : NoTup K H v) : RV K H v false
  | len {a : Addr} {xs : List V} (h : SqT K H a xs) (hl : xs.length ≠ 3) : RV K H (.ref a) false
  | kind {a : Addr} {k n x : V} {d : PyData} (h : SqT K H a [k, n, x]) (hk : Dp K H k d) (hs : SeqAt.shaped d = true) (hn : ∀ z ∈ kindsD, z.eqv d = false) (st : ∀ H', (∀ b o, (∀ ps, o ≠ .tbl ps) → H b = some o → H' b = some o) → Dp K H' k d) : RV K H (.ref a) false
  | row {a : Addr} {k : Str} {n x : V} {b1 b2 : Bool} (h : SqT K H a [.str k, n, x]) (hk : k ∈ plainK ++ blockK) (hn : NumV K H k n b1) (hw : WsV K H x b2) : RV K H (.ref a) (b1 && b2)
theorem RV.kp {K : PySem.W.Frag} {Ps : List Addr} {H H' : Hp} (t : Tb Ps H) (k : Kp Ps H H') {v : V} {b : Bool} (h : RV K H v b) : RV K H' v b := by
  have kk : ∀ b o, (∀ ps, o ≠ .tbl ps) → H b = some o → H' b = some o := fun b o ho e => k.at t e ho
  cases h with
  | no h => exact .no (h.kp t k)
  | len h hl => exact .len (k.seqT t h) hl
  | kind h hk hs hn st => exact .kind (k.seqT t h) (st H' kk) hs hn fun H2 k2 => st H2 fun b o ho e => k2 b o ho (kk b o ho e)
  | row h hk hn hw => exact .row (k.seqT t h) hk (hn.kp t k) (hw.kp t k)
/-- a good row is such a row -/
theorem RV.of_row {K : PySem.W.Frag} {H : Hp} {v : V} {r : RowD} (h : RowAt K H v r) (ok : RowOk r) : RV K H v true := by
  obtain ⟨T, W, rfl, hT, hW⟩ := h
  have h1 := RV.row (b1 := numB r.kind r.num) (b2 := (r.ws.map V.str).all isW) hT ok.kind (.int r.num) (.tup hW (fun z => ok.some (List.map_eq_nil_iff.mp z)) fun x hx => by
    obtain ⟨a, ha, rfl⟩ := List.mem_map.mp hx
    have := wordB_len (ok.words a ha)
    exact .inl ⟨a, rfl, by omega⟩)
  rw [ok.num, all_isW, List.all_eq_true.mpr ok.words] at h1
  exact h1
section
variable {P : Program} {w : World} {K : PySem.W.Frag} {mg : Str → Option Value} {base : Heap}
theorem scRowWordsX : FnScope ["words", "word"] ["words"] (defScope sRowWords) := ⟨rfl, rfl, rfl, by decide +kernel, rfl, by decide +kernel, by decide +kernel⟩
def spRowWordsX (K : PySem.W.Frag) (Ps : List Addr) : Sp := fun vs H Q _ => ∃ (v : V) (b : Bool), vs = [v] ∧ WsV K H v b ∧ Tb Ps H ∧ ∀ H', Kp Ps H H' → Q (.bl b) H'
theorem ok_row_wordsX {Ps : List Addr} {f fW Pr : Addr} {fd fdW : FuncData} (F : FnP K "is_row_of_words" sRowWords f fd) (hf : f = He.fAd K ("is_row_of_words", none)) (hPr : Pr ∈ Ps) (TB : GxR.TabB base mg (He.codeOf K ("is_row_of_words", none)) Pr)
    (GW : FnOk P w K mg base (L2.CX P w) 3 fW fdW ["word"] (spIsWordX K Ps)) (kW : PySem.W.keepIn K (.ref fW) = true) (bW : Binds K fdW ["word"] []) (gW : mg "is_word" = some (.ref fW))
    (mI : mg "isinstance" = none) (mT : mg "tuple" = none) (mL : mg "len" = none) (mA : mg "all" = none) : FnOk P w K mg base (L2.CX P w) 5 f fd ["words"] (spRowWordsX K Ps) := by
  refine okC F hf scRowWordsX (fun vs H Q E h => ?_) (fun A outer s H vs Q E hr h => ?_)
  · obtain ⟨v, b, rfl, _⟩ := h
    rfl
  · obtain ⟨v, b, rfl, hv, ht, q⟩ := h
    refine ⟨_, pss_cons (ps_if (PW.pt (pw_or (pt_not (pt_val (pe_callB call_isi (by rfl) mI (by decide +kernel) (pa_cons (pv 0) (pa_cons (pe_bltn (v := .ty "tuple") (by rfl) mT (by decide +kernel) rfl) pa_nil)))))
        (pw_or1 (pt_cmpR op_eq (pe_callB call_len_seq (by rfl) mL PySem.boot_len (pa_cons (pv 0) pa_nil)) pe_int (nomark _))))) (pss_one (ps_ret pe_bl)) pss_nil)
      (pss_one (ps_ret (pe_allG (own := [("word", 1)]) (gt := gName 1) (tt := tYes) (P := Pr) hr scRowWordsX.nd (by rfl) mA (by decide +kernel) TB rfl ⟨rfl, by decide +kernel, rfl, blkOk_by (N := ["words", "word"]) (sc := defScope sRowWords) (by decide +kernel)⟩ (pi_tup (pv 0))
          (fun _ _ _ _ _ _ _ _ _ => pg_name (i := 1) scRowWordsX.nd rfl (Or.inl rfl)) (fun _ _ _ _ _ _ _ _ _ _ => pts_nil) (fun _ _ _ _ _ _ _ _ _ hb => pe_call GW hb (by rfl) gW kW bW .nil passL (pa_cons (pv 1) pa_nil))))), ?_⟩
    cases hv with
    | no h =>
      obtain ⟨T, hT, hk⟩ := h.ty
      exact ⟨_, rfl, v, .ty "tuple", _, _, false, rfl, .ty _, hT, kit_ty hk, false, rfl, iteT (q H (Kp.refl ht))⟩
    | nil h =>
      refine ⟨_, rfl, .ref _, .ty "tuple", _, _, true, rfl, .ty _, tyT h, kit_ty (by decide +kernel), true, rfl, iteF ?_⟩
      exact ⟨_, rfl, _, _, rfl, .inr h, rfl, _, rfl, iteT (q H (Kp.refl ht))⟩
    | tup h ne hw =>
      rename_i W xs
      refine ⟨_, rfl, .ref W, .ty "tuple", _, _, true, rfl, .ty _, tyT h, kit_ty (by decide +kernel), true, rfl, iteF ?_⟩
      refine ⟨_, rfl, W, _, rfl, .inr h, rfl, _, rfl, ?_⟩
      have e0 : decide (V.int (xs.length : Int) = V.int 0) = false := decide_eq_false fun z => by
        have z2 := V.int.inj z
        exact ne (List.length_eq_zero_iff.mp (by omega))
      rw [e0]
      refine iteF ⟨_, rfl, W, rfl, ⟨_, h⟩, ht Pr hPr, fun H2 hT => ?_⟩
      have k2 := Kp.tab ht hPr hT
      refine read_all_tup (xs := xs) (pb := isW) (Pv := fun H3 => Kp Ps H H3) k2 (fun H3 p => p.seqT ht h) (fun i v H3 R hx p hR => ?_) (fun H3 p => q H3 p)
      exact ⟨rfl, _, rfl, v, rfl, (hw v (List.mem_of_getElem? hx)).kp ht p, p.1, fun H4 k4 => hR H4 (p.trans k4)⟩
end
/-! ### texts put together -/
theorem join_snoc {sep : Str} : ∀ (l : List Str) (x : Str), l ≠ [] → Txt.join sep (l ++ [x]) = Txt.join sep l ++ sep ++ x := by
  intro l x hl
  show Builtin.Str.glued sep (l ++ [x]) = Builtin.Str.glued sep l ++ sep ++ x
  rw [StrLaws.glued_eq_join, StrLaws.glued_eq_join]
  induction l with
  | nil => exact absurd rfl hl
  | cons a r ih =>
    cases r with
    | nil => rfl
    | cons b r =>
      show a ++ sep ++ Str.join sep ((b :: r) ++ [x]) = a ++ sep ++ Str.join sep (b :: r) ++ sep ++ x
      rw [ih (by simp)]
      refine Str.ext' (Array.toList_inj.mp ?_)
      simp only [Str.cps_append, Array.toList_append, List.append_assoc]
theorem join_one (sep x : Str) : Txt.join sep [x] = x := by
  show Builtin.Str.glued sep [x] = x
  rw [StrLaws.glued_eq_join]
  rfl
theorem join_none (sep : Str) : Txt.join sep [] = Str.empty := by
  show Builtin.Str.glued sep [] = Str.empty
  rw [StrLaws.glued_eq_join]
  rfl
theorem sum_len {ws : List Str} (h : ∀ a ∈ ws, wordB a = true) : (ws.map (·.length)).sum ≤ 40 * ws.length := by
  induction ws with
  | nil => exact Nat.zero_le _
  | cons a r ih =>
    have h1 := (wordB_len (h a List.mem_cons_self)).2
    have h2 := ih fun b hb => h b (List.mem_cons_of_mem _ hb)
    rw [List.map_cons, List.sum_cons, List.length_cons]
    omega
theorem join_len {ws : List Str} (h : ∀ a ∈ ws, wordB a = true) : (Txt.join (" " : Str) ws).length ≤ 41 * ws.length := by
  have h1 := StrLaws.join_length_le (" " : Str) ws
  have h2 := sum_len h
  have e : (" " : Str).length = 1 := by decide +kernel
  have h3 : (Txt.join (" " : Str) ws).length ≤ (ws.map (·.length)).sum + ws.length * (" " : Str).length := by
    show (Builtin.Str.glued (" " : Str) ws).length ≤ _
    rw [StrLaws.glued_eq_join]
    exact h1
  rw [e] at h3
  omega
/-! ### a telling as text, plainly -/
def signK (k : Str) : Str := if k = ("keep" : Str) then "=" else if k = ("cut" : Str) then "-" else if k = ("put" : Str) then "+" else if k = ("take" : Str) then "<" else ">"
def kindK (z : Str) : Option Str := if z = ("=" : Str) then some "keep" else if z = ("-" : Str) then some "cut" else if z = ("+" : Str) then some "put" else if z = ("<" : Str) then some "take" else if z = (">" : Str) then some "lay" else none
def numS (n : Int) : Str := Str.ofString (toString n)
def piecesR (r : RowD) : List Str := if r.kind ∈ blockK then signK r.kind :: numS r.num :: r.ws else signK r.kind :: r.ws
def lineR (r : RowD) : Str := Txt.join " " (piecesR r)
def numT (a : Str) : Option Int := if (Txt.isascii a && Txt.isdigit a) = true then (if (decide (9 < a.length) || Txt.startswith a "0") = true then none else intText? a) else none
def wsT (l : List Str) : Bool := !l.isEmpty && l.all wordB
def rdRow (a : Str) : Option RowD := match Txt.split a " " with
  | [] => none
  | s :: l => match kindK s with
    | none => none
    | some k => if k ∈ blockK then (match l with
        | [] => none
        | f :: ws => match numT f with
          | none => none
          | some n => if wsT ws = true then some ⟨k, n, ws⟩ else none)
      else if wsT l = true then some ⟨k, 0, l⟩ else none
theorem kindK_sign : ∀ k ∈ plainK ++ blockK, kindK (signK k) = some k ∧ (signK k).length = 1 := by decide +kernel
theorem sign_free : ∀ k ∈ plainK ++ blockK, (¬ 32 ∈ (signK k).cps.toList) ∧ (¬ 10 ∈ (signK k).cps.toList) ∧ ((signK k).cps.toList.all fun c => decide (c < 256)) = true := by decide +kernel
theorem digits_of {a : Str} (h1 : Txt.isascii a = true) (h2 : Txt.isdigit a = true) : NumText.AllDigits a.cps.toList ∧ a.cps.toList ≠ [] := by
  unfold Txt.isascii at h1
  unfold Txt.isdigit at h2
  rw [Bool.and_eq_true] at h2
  obtain ⟨h2, h3⟩ := h2
  rw [Array.all_eq_true] at h1 h3
  refine ⟨fun c hc => ?_, fun z => ?_⟩
  · obtain ⟨i, hi⟩ := List.mem_iff_getElem?.mp hc
    rw [Array.getElem?_toList] at hi
    obtain ⟨hi1, hi2⟩ := Array.getElem?_eq_some_iff.mp hi
    have c1 := of_decide_eq_true (h1 i hi1)
    have c2 := h3 i hi1
    rw [hi2] at c1 c2
    rw [PyProof.Rows.cls_isdigit c c1] at c2
    unfold PyProof.Rows.inR at c2
    rw [Bool.and_eq_true, Bool.not_eq_true', Bool.not_eq_true'] at c2
    obtain ⟨c3, c4⟩ := c2
    have d3 : decide (c < 48) = false := by
      rw [← c3]
      show decide (c < 48) = Spec.ltCps [c] [48]
      unfold Spec.ltCps
      simp [Spec.ltCps]
    have d4 : decide (57 < c) = false := by
      rw [← c4]
      show decide (57 < c) = Spec.ltCps [57] [c]
      unfold Spec.ltCps
      simp [Spec.ltCps]
    have := of_decide_eq_false d3
    have := of_decide_eq_false d4
    omega
  · have h2 := of_decide_eq_true h2
    have e : a.length = a.cps.toList.length := rfl
    rw [e, z] at h2
    exact Nat.lt_irrefl _ h2
theorem numS_codes (n : Nat) : (numS (n : Int)).cps.toList = TL.numL n := TL.tl_num n
theorem numL_first : ∀ (m n : Nat), n ≤ m → 0 < n → ∃ c r, TL.numL n = c :: r ∧ 49 ≤ c
  | 0, n, h, h0 => by omega
  | m + 1, n, h, h0 => by
    by_cases h1 : n < 10
    · rw [TL.numL_lt h1]
      exact ⟨_, _, rfl, by omega⟩
    · rw [TL.numL_step (by omega)]
      obtain ⟨c, r, e, hc⟩ := numL_first m (n / 10) (by omega) (by omega)
      rw [e]
      exact ⟨c, _, rfl, hc⟩
theorem starts0_iff (a : Str) : Txt.startswith a "0" = true ↔ a.cps.toList[0]? = some 48 := by
  have e0 : ("0" : Str) = ⟨#[48]⟩ := by decide +kernel
  rw [e0, ← StrLaws.subAt_one a 48 0]
  unfold Txt.startswith
  rw [Bool.and_eq_true]
  exact ⟨fun h => ⟨of_decide_eq_true h.1, h.2⟩, fun h => ⟨decide_eq_true h.1, h.2⟩⟩
theorem starts0 (a : Str) (h : Txt.startswith a "0" = true) : ∃ r, a.cps.toList = 48 :: r := by
  have h1 := (starts0_iff a).mp h
  cases e : a.cps.toList with
  | nil =>
    rw [e] at h1
    cases h1
  | cons c r =>
    rw [e] at h1
    cases h1
    exact ⟨r, rfl⟩
theorem numT_num {n : Int} (h1 : 1 ≤ n) (h2 : n ≤ 999999999) : numT (numS n) = some n := by
  obtain ⟨m, rfl⟩ : ∃ m : Nat, n = (m : Int) := ⟨n.toNat, by omega⟩
  have ec := numS_codes m
  have hd := TL.numL_digits m
  have hl : (numS (m : Int)).length ≤ 9 := by
    show (numS (m : Int)).cps.toList.length ≤ 9
    rw [ec]
    exact TL.numL_len (by decide) (by omega)
  have dig : ∀ c ∈ (numS (m : Int)).cps.toList, 48 ≤ c ∧ c ≤ 57 := by
    rw [ec]
    exact hd
  have a1 : Txt.isascii (numS (m : Int)) = true := by
    unfold Txt.isascii
    rw [Array.all_eq_true]
    intro i hi
    have := dig _ (List.mem_iff_getElem?.mpr ⟨i, by rw [Array.getElem?_toList]; exact Array.getElem?_eq_getElem hi⟩)
    exact decide_eq_true (by omega)
  have a2 : Txt.isdigit (numS (m : Int)) = true := by
    unfold Txt.isdigit
    rw [Bool.and_eq_true]
    refine ⟨decide_eq_true ?_, ?_⟩
    · show (numS (m : Int)).cps.toList.length > 0
      rw [ec]
      exact List.length_pos_iff.mpr (TL.numL_ne m)
    · rw [Array.all_eq_true]
      intro i hi
      have := dig _ (List.mem_iff_getElem?.mpr ⟨i, by rw [Array.getElem?_toList]; exact Array.getElem?_eq_getElem hi⟩)
      rw [PyProof.Rows.cls_isdigit _ (by omega)]
      unfold PyProof.Rows.inR
      rw [Bool.and_eq_true, Bool.not_eq_true', Bool.not_eq_true']
      constructor
      · show Spec.ltCps [_] [48] = false
        unfold Spec.ltCps
        simp [Spec.ltCps]
        omega
      · show Spec.ltCps [57] [_] = false
        unfold Spec.ltCps
        simp [Spec.ltCps]
        omega
  have a3 : Txt.startswith (numS (m : Int)) "0" = false := by
    cases e : Txt.startswith (numS (m : Int)) "0" with
    | false => rfl
    | true =>
      obtain ⟨r, e1⟩ := starts0 _ e
      obtain ⟨c, r2, e2, hc⟩ := numL_first m m (Nat.le_refl _) (by omega)
      rw [ec, e2] at e1
      have := (List.cons.inj e1).1
      omega
  unfold numT
  rw [a1, a2, if_pos (show (true && true) = true from rfl), a3, decide_eq_false (show ¬ 9 < (numS (m : Int)).length by omega), if_neg (by decide)]
  exact PySem.W.KIN.num_reads (by omega) (by omega)
theorem word_free {a : Str} (h : wordB a = true) : (¬ 32 ∈ a.cps.toList) ∧ (¬ 10 ∈ a.cps.toList) := by
  have key : ∀ c ∈ a.cps.toList, 32 < c := fun c hc => by
    have := wordB_signs h c hc
    unfold signB at this
    rw [Bool.or_eq_true, Bool.and_eq_true, Bool.and_eq_true, Bool.not_eq_true', Bool.not_eq_true', Bool.not_eq_true', Bool.not_eq_true'] at this
    rcases this with ⟨h, _⟩ | ⟨h, _⟩
    · have := of_decide_eq_false h
      omega
    · have := of_decide_eq_false h
      omega
  exact ⟨fun z => by have := key _ z; omega, fun z => by have := key _ z; omega⟩
theorem num_free {n : Int} (h1 : 1 ≤ n) : (¬ 32 ∈ (numS n).cps.toList) ∧ (¬ 10 ∈ (numS n).cps.toList) := by
  obtain ⟨m, rfl⟩ : ∃ m : Nat, n = (m : Int) := ⟨n.toNat, by omega⟩
  rw [numS_codes]
  exact ⟨TL.numL_free (by decide), TL.numL_free (by decide)⟩
theorem blk_num {r : RowD} (h : RowOk r) (hk : r.kind ∈ blockK) : 1 ≤ r.num ∧ r.num ≤ 999999999 := by
  have := h.num
  unfold numB at this
  rw [inV_strs, decide_eq_true hk, if_pos rfl, Bool.and_eq_true] at this
  exact ⟨of_decide_eq_true this.1, of_decide_eq_true this.2⟩
theorem pieces_free {r : RowD} (h : RowOk r) : ∀ p ∈ piecesR r, (¬ 32 ∈ p.cps.toList) ∧ (¬ 10 ∈ p.cps.toList) := fun p hp => by
  have hs := sign_free _ h.kind
  unfold piecesR at hp
  split at hp
  · next hk =>
    rcases List.mem_cons.mp hp with rfl | hp
    · exact ⟨hs.1, hs.2.1⟩
    · rcases List.mem_cons.mp hp with rfl | hp
      · exact num_free (blk_num h hk).1
      · exact word_free (h.words p hp)
  · rcases List.mem_cons.mp hp with rfl | hp
    · exact ⟨hs.1, hs.2.1⟩
    · exact word_free (h.words p hp)
theorem split_line {r : RowD} (h : RowOk r) : Txt.split (lineR r) " " = piecesR r := by
  refine TL.split_join (s := 32) (S := []) (by decide +kernel) (by decide +kernel) ?_ fun p hp => (pieces_free h p hp).1
  unfold piecesR
  split <;> exact List.cons_ne_nil _ _
theorem wsT_ok {r : RowD} (h : RowOk r) : wsT r.ws = true := by
  unfold wsT
  rw [Bool.and_eq_true]
  refine ⟨?_, List.all_eq_true.mpr h.words⟩
  cases e : r.ws with
  | nil => exact absurd e h.some
  | cons a l => rfl
theorem rdRow_line {r : RowD} (h : RowOk r) : rdRow (lineR r) = some r := by
  unfold rdRow
  rw [split_line h]
  have hk := (kindK_sign _ h.kind).1
  have hw := wsT_ok h
  unfold piecesR
  by_cases hb : r.kind ∈ blockK
  · obtain ⟨n1, n2⟩ := blk_num h hb
    rw [if_pos hb]
    dsimp only
    rw [hk]
    dsimp only
    rw [if_pos hb, numT_num n1 n2]
    dsimp only
    rw [if_pos hw]
  · rw [if_neg hb]
    dsimp only
    rw [hk]
    dsimp only
    rw [if_neg hb, if_pos hw]
    have h0 : r.num = 0 := by
      have := h.num
      unfold numB at this
      rw [inV_strs, decide_eq_false hb, if_neg Bool.false_ne_true] at this
      have := of_decide_eq_true this
      exact V.int.inj this
    rw [← h0]
/-- the text of a telling -/
def textR (rs : List RowD) : Str := Txt.join "\n" (rs.map lineR)
def rdAll (a : Str) : List (Option RowD) := if a = ("" : Str) then [] else (Txt.split a "\n").map rdRow
/-! ### the program's notes -/
theorem spl_parts (s : Nat) : ∀ (L acc : List Nat), TL.spl [s] 0 acc L ≠ [] ∧ (∀ p ∈ TL.spl [s] 0 acc L, p.length ≤ acc.length + L.length) ∧ (TL.spl [s] 0 acc L).length ≤ L.length + 1
  | [], acc => by
    rw [TL.spl_nil]
    exact ⟨List.cons_ne_nil _ _, fun p hp => by rw [List.mem_singleton.mp hp]; omega, Nat.le_refl _⟩
  | c :: r, acc => by
    cases e : TL.pre [s] (c :: r) with
    | true =>
      rw [TL.spl_hit e]
      obtain ⟨h1, h2, h3⟩ := spl_parts s r []
      refine ⟨List.cons_ne_nil _ _, fun p hp => ?_, ?_⟩
      · rcases List.mem_cons.mp hp with rfl | hp
        · omega
        · have := h2 p hp
          simp only [List.length_nil, List.length_cons] at this ⊢
          omega
      · show (TL.spl [s] 0 [] r).length + 1 ≤ r.length + 1 + 1
        omega
    | false =>
      rw [TL.spl_miss e]
      obtain ⟨h1, h2, h3⟩ := spl_parts s r (acc ++ [c])
      refine ⟨h1, fun p hp => ?_, ?_⟩
      · have := h2 p hp
        rw [List.length_append] at this
        simp only [List.length_cons, List.length_nil] at this ⊢
        omega
      · rw [List.length_cons]
        omega
theorem split_parts {s : Nat} (hs : s < 256) (a : Str) : Txt.split a ⟨#[s]⟩ ≠ [] ∧ (∀ p ∈ Txt.split a ⟨#[s]⟩, p.length ≤ a.length) ∧ (Txt.split a ⟨#[s]⟩).length ≤ a.length + 1 := by
  have k1 : Builtin.Str.strKind ⟨#[s]⟩ = 1 := by
    unfold Builtin.Str.strKind
    rw [if_pos]
    simp [hs]
  have e := TL.split_spl a ⟨#[s]⟩ (List.cons_ne_nil _ _) (by
    rw [k1]
    unfold Builtin.Str.strKind
    split
    · exact Nat.lt_irrefl _
    · split <;> decide)
  obtain ⟨h1, h2, h3⟩ := spl_parts s a.cps.toList []
  have e : (Txt.split a ⟨#[s]⟩).map TL.tl = TL.spl [s] 0 [] a.cps.toList := e
  rw [← e] at h1 h2 h3
  refine ⟨fun z => h1 (by rw [z]; rfl), fun p hp => ?_, ?_⟩
  · have h : p.cps.toList.length ≤ 0 + a.cps.toList.length := h2 (TL.tl p) (List.mem_map.mpr ⟨p, hp, rfl⟩)
    show p.cps.toList.length ≤ a.cps.toList.length
    omega
  · rw [List.length_map] at h3
    exact h3
theorem blank_is : (" " : Str) = ⟨#[32]⟩ ∧ ("\n" : Str) = ⟨#[10]⟩ := ⟨by decide +kernel, by decide +kernel⟩
theorem cut_from (xs : List V) (k : Nat) : cutV xs (some (k : Int)) none = xs.drop k := by
  unfold cutV
  rw [HT.sIx_none, HT.sIx_nat]
  by_cases h : k ≤ xs.length
  · rw [Nat.min_eq_left h, List.take_of_length_le (by rw [List.length_drop]; exact Nat.le_refl _)]
  · rw [Nat.min_eq_right (by omega), List.drop_of_length_le (Nat.le_refl _), List.drop_of_length_le (by omega)]
    rw [List.take_nil]
section
variable {P : Program} {w : World} {K : PySem.W.Frag} {mg : Str → Option Value} {base : Heap}
theorem scReadNumber : FnScope ["figures"] ["figures"] (defScope sReadNumber) := ⟨rfl, rfl, rfl, by decide +kernel, rfl, by decide +kernel, by decide +kernel⟩
theorem scReadWords : FnScope ["pieces", "words"] ["pieces"] (defScope sReadWords) := ⟨rfl, rfl, rfl, by decide +kernel, rfl, by decide +kernel, by decide +kernel⟩
theorem scReadRow : FnScope ["line", "pieces", "kind"] ["line"] (defScope sReadRow) := ⟨rfl, rfl, rfl, by decide +kernel, rfl, by decide +kernel, by decide +kernel⟩
def spReadNumber (cR : Addr) : Sp := fun vs H Q E => ∃ a : Str, vs = [.str a] ∧ a.length ≤ 1000000 ∧ (∀ n, numT a = some n → Q (.int n) H) ∧ (numT a = none → E (.ref cR) none H)
theorem ok_read_number {cR f : Addr} {fd : FuncData} (F : FnP K "read_number" sReadNumber f fd) (X : ExcC K mg "NoRow" cR) (mL : mg "len" = none) (mN : mg "int" = none) {tM : Tok} (mM : mg "MOST_FIGURES" = some (.int 9 tM)) : FnOk P w K mg base (L2.CX P w) 1 f fd ["figures"] (spReadNumber cR) := by
  refine F.ok scReadNumber (fun vs H Q E h => ?_) (fun cdv A outer s H vs Q E hr h => ?_)
  · obtain ⟨a, rfl, _⟩ := h
    rfl
  · obtain ⟨a, rfl, hl, q, e⟩ := h
    refine ⟨_, pss_cons (ps_if (PW.pt (pw_or (pt_not (pt_val (pe_m0 PySem.F.slot_str_isascii PySem.F.type_str_isascii mt_isascii (pv 0)))) (pw_or1 (pt_not (pt_val (pe_m0 PySem.F.slot_str_isdigit PySem.F.type_str_isdigit mt_isdigit (pv 0)))))))
        (pss_one (ps_raise rfl (takes_of rfl rfl rfl rfl) (pmk_own PySem.F.excBase_ValueError X.ex X.g X.kp (raises_own X.be X.ty) (by rfl)))) pss_nil)
      (pss_cons (ps_if (PW.pt (pw_or (pt_cmpR op_gt (pe_callB call_len_str (by rfl) mL PySem.boot_len (pa_cons (pv 0) pa_nil)) (pe_glob (v := .int 9) (by rfl) mM ⟨_, rfl⟩) (nomark _)) (pw_or1 (pt_val (pe_m1 PySem.F.slot_str_startswith PySem.F.type_str_startswith mt_startswith (pv 0) pe_str)))))
        (pss_one (ps_raise rfl (takes_of rfl rfl rfl rfl) (SkE.pmk_own1 PySem.F.excBase_ValueError X.ex X.g X.kp (raises_own X.be X.ty) (by rfl) (pe_joined (.cons pe_str (.cons (pe_fmt (pe_glob (v := .int 9) (by rfl) mM ⟨_, rfl⟩)) (.cons pe_str .nil))))))) pss_nil)
      (pss_one (ps_ret (pe_callTy call_int_str (by rfl) mN (by decide +kernel) (pa_cons (pv 0) pa_nil))))), ?_⟩
    refine ⟨_, rfl, ⟨_, rfl⟩, a, rfl, rfl, trivial, _, rfl, ?_⟩
    have eN : numT a = if (Txt.isascii a && Txt.isdigit a) = true then (if (decide (9 < a.length) || Txt.startswith a "0") = true then none else intText? a) else none := rfl
    cases h1 : Txt.isascii a with
    | false =>
      rw [h1, Bool.false_and, if_neg Bool.false_ne_true] at eN
      exact iteT (e eN)
    | true =>
      refine iteF ⟨_, rfl, ⟨_, rfl⟩, a, rfl, rfl, trivial, _, rfl, ?_⟩
      cases h2 : Txt.isdigit a with
      | false =>
        rw [h1, h2, if_neg (show ¬ (true && false) = true by decide)] at eN
        exact iteT (e eN)
      | true =>
        rw [h1, h2, if_pos (show (true && true) = true from rfl)] at eN
        have ec : decide ((a.length : Int) > 9) = decide (9 < a.length) := by
          by_cases h : 9 < a.length
          · rw [decide_eq_true h, decide_eq_true (by omega)]
          · rw [decide_eq_false h, decide_eq_false (by omega)]
        have e0 : (Str.empty ++ ("a block's number has 1 to " : Str)).length = 26 := by decide +kernel
        have e9 : (Str.ofString (toString (9 : Int))).length = 1 := by decide +kernel
        have e1 : (" figures, the first one no 0" : Str).length = 28 := by decide +kernel
        refine (fun (bad : numT a = none → _) => iteF ⟨_, rfl, a, rfl, small_line hl, _, _, rfl, rfl, _, rfl, ite2 (fun h3 => bad ?b1) (fun h3 => ⟨_, rfl, ⟨_, rfl⟩, a, _, rfl, rfl, _, rfl, ite2 (fun h4 => bad ?b2) (fun h4 => ⟨_, rfl, ?b3⟩)⟩)⟩) ?b4
        case b1 =>
          have h3 : decide ((a.length : Int) > 9) = true := h3
          rw [ec] at h3
          rw [eN, h3, Bool.true_or, if_pos rfl]
        case b2 =>
          have h4 : Txt.startswith a "0" = true := h4
          rw [eN, h4, Bool.or_true, if_pos rfl]
        case b3 =>
          have h3 : decide ((a.length : Int) > 9) = false := Bool.eq_false_iff.mpr h3
          have h4 : Txt.startswith a "0" = false := Bool.eq_false_iff.mpr h4
          rw [ec] at h3
          rw [h3, h4, if_neg (show ¬ (false || false) = true by decide)] at eN
          have h9 := of_decide_eq_false h3
          obtain ⟨d1, d2⟩ := digits_of h1 h2
          have hi := intText_digits d1 d2 (by omega)
          exact ⟨a, _, rfl, hi, by omega, q _ (eN.trans hi)⟩
        case b4 =>
          intro hb
          refine ⟨_, rfl, small_line (by rw [e0]; decide), .inr ⟨_, rfl, by decide +kernel, _, rfl, small_line ?_, _, rfl, small_line ?_, e hb⟩⟩
          · rw [Str.length_append, e0, e9]
            decide
          · rw [Str.length_append, Str.length_append, e0, e9, e1]
            decide
def spReadWords (K : PySem.W.Frag) (Ps : List Addr) (cR : Addr) : Sp := fun vs H Q E => ∃ (p : Addr) (l : List Str), vs = [.ref p] ∧ SqL K H p (l.map V.str) ∧ (∀ a ∈ l, a.length ≤ 1000000) ∧ Tb Ps H ∧ (wsT l = true → ∀ (H' : Hp) (W : Addr), Kp Ps H H' → SqT K H' W (l.map V.str) → Q (.ref W) H') ∧ (wsT l = false → ∀ H', Kp Ps H H' → E (.ref cR) none H')
theorem ok_read_words {Ps : List Addr} {cR f fW : Addr} {fd fdW : FuncData} (F : FnP K "read_words" sReadWords f fd) (GW : FnOk P w K mg base (L2.CX P w) 5 fW fdW ["words"] (spRowWordsX K Ps)) (kW : PySem.W.keepIn K (.ref fW) = true) (bW : Binds K fdW ["words"] []) (gW : mg "is_row_of_words" = some (.ref fW))
    (X : ExcC K mg "NoRow" cR) (mT : mg "tuple" = none) : FnOk P w K mg base (L2.CX P w) 6 f fd ["pieces"] (spReadWords K Ps cR) := by
  refine F.ok scReadWords (fun vs H Q E h => ?_) (fun cdv A outer s H vs Q E hr h => ?_)
  · obtain ⟨p, l, rfl, _⟩ := h
    rfl
  · obtain ⟨p, l, rfl, hp, hl, ht, q, e⟩ := h
    refine ⟨_, pss_cons (ps_set (i := 1) scReadWords.nd rfl (.inl rfl) (pe_callTy call_tuple_of (by rfl) mT (by decide +kernel) (pa_cons (pv 0) pa_nil)))
      (pss_cons (ps_if (pt_not (pt_val (pe_call GW hr (by rfl) gW kW bW .nil passL (pa_cons (pv 1) pa_nil)))) (pss_one (ps_raise rfl (takes_of rfl rfl rfl rfl) (pmk_own PySem.F.excBase_ValueError X.ex X.g X.kp (raises_own X.be X.ty) (by rfl)))) pss_nil)
      (pss_one (ps_ret (pv 1)))), ?_⟩
    refine ⟨_, rfl, p, _, rfl, .inl ⟨hp, fun W nW => ?_⟩⟩
    have k1 : Kp Ps H (upd H W (.tup (l.map V.str))) := Kp.same ht (same_upd nW)
    have hW : SqT K (upd H W (.tup (l.map V.str))) W (l.map V.str) := .inl (.inl upd_same)
    generalize upd H W (.tup (l.map V.str)) = H1 at k1 hW ⊢
    have wv : WsV K H1 (.ref W) (wsT l) := by
      cases l with
      | nil => exact .nil hW
      | cons a r =>
        have e1 : wsT (a :: r) = ((a :: r).map V.str).all isW := by
          rw [all_isW]
          rfl
        rw [e1]
        refine .tup hW (List.cons_ne_nil _ _) fun x hx => ?_
        obtain ⟨b, hb, rfl⟩ := List.mem_map.mp hx
        exact .inl ⟨b, rfl, hl b hb⟩
    refine ⟨_, rfl, .ref W, _, rfl, wv, k1.1, fun H2 k2 => ⟨_, rfl, ?_⟩⟩
    have k12 := k1.trans k2
    cases hb : wsT l with
    | true => exact iteF ⟨_, rfl, q hb H2 W k12 (k2.seqT k1.1 hW)⟩
    | false => exact iteT (e hb H2 k12)
theorem kindK_ok {z k : Str} (h : kindK z = some k) : k ∈ plainK ++ blockK ∧ k.length ≤ 4 := by
  have key : ∀ k ∈ plainK ++ blockK, k.length ≤ 4 := by decide +kernel
  have m : k ∈ plainK ++ blockK := by
    unfold kindK at h
    split at h
    · cases h; decide +kernel
    · split at h
      · cases h; decide +kernel
      · split at h
        · cases h; decide +kernel
        · split at h
          · cases h; decide +kernel
          · split at h
            · cases h; decide +kernel
            · cases h
  exact ⟨m, key k m⟩
/-- the kinds by their signs, as they stand at the top -/
def KindAt (K : PySem.W.Frag) (w : World) (aK : Addr) : Prop := (∃ es n, KDict K w aK es n) ∧ ∀ z, (∃ k, kindK z = some k ∧ KDct K w aK z (.str k)) ∨ (kindK z = none ∧ PySem.W.nsIn K aK z = some none)
def spReadRow (K : PySem.W.Frag) (Ps : List Addr) (cR : Addr) : Sp := fun vs H Q E => ∃ a : Str, vs = [.str a] ∧ a.length ≤ 900000 ∧ Tb Ps H ∧ (∀ r, rdRow a = some r → ∀ (H' : Hp) (v : V), Kp Ps H H' → RowAt K H' v r → Q v H') ∧ (rdRow a = none → ∀ H', Kp Ps H H' → E (.ref cR) none H')
theorem ok_read_row {Ps : List Addr} {aK aB cR f fN fW : Addr} {fd fdN fdW : FuncData} (F : FnP K "read_row" sReadRow f fd)
    (GN : FnOk P w K mg base (L2.CX P w) 1 fN fdN ["figures"] (spReadNumber cR)) (kN : PySem.W.keepIn K (.ref fN) = true) (bN : Binds K fdN ["figures"] []) (gN : mg "read_number" = some (.ref fN))
    (GW : FnOk P w K mg base (L2.CX P w) 6 fW fdW ["pieces"] (spReadWords K Ps cR)) (kW : PySem.W.keepIn K (.ref fW) = true) (bW : Binds K fdW ["pieces"] []) (gW : mg "read_words" = some (.ref fW))
    (X : ExcC K mg "NoRow" cR) (mL : mg "len" = none) (mK : mg "KINDS" = some (.ref aK)) (kK : KindAt K w aK) (mB : mg "BLOCK_KINDS" = some (.ref aB)) (kB : KTup K aB blockK) : FnOk P w K mg base (L2.CX P w) 7 f fd ["line"] (spReadRow K Ps cR) := by
  refine F.ok scReadRow (fun vs H Q E h => ?_) (fun cdv A outer s H vs Q E hr h => ?_)
  · obtain ⟨a, rfl, _⟩ := h
    rfl
  · obtain ⟨a, rfl, hl, ht, q, e⟩ := h
    obtain ⟨⟨es, en, kD⟩, kK⟩ := kK
    have r1 : Room 1 (A.deeper (envOfC "read_row" (defScope sReadRow) s.heap.objs.size f cdv)) := hr.mono (by decide)
    refine ⟨_, pss_cons (ps_set (i := 1) scReadRow.nd rfl (.inl rfl) (pe_split (pv 0) pe_str))
      (pss_cons (ps_if (pt_cmpR (op_notIn_kd kD) (pe_ix ix_list (pv 1) pe_int (fun _ _ => rfl)) (pe_glob (v := .ref aK) (by rfl) mK rfl) (by rfl)) (pss_one (ps_raise rfl (takes_of rfl rfl rfl rfl) (pmk_own PySem.F.excBase_ValueError X.ex X.g X.kp (raises_own X.be X.ty) (by rfl)))) pss_nil)
      (pss_cons (ps_set (i := 2) scReadRow.nd rfl (.inl rfl) (pe_ix (r := rIxD K w) ix_kdict (pe_glob (v := .ref aK) (by rfl) mK rfl) (pe_ix ix_list (pv 1) pe_int (fun _ _ => rfl)) (fun _ _ => rfl)))
      (pss_cons (ps_if (pt_cmpR op_notIn_seq (pv 2) (pe_glob (v := .ref aB) (by rfl) mB rfl) (by rfl)) (pss_one (ps_ret (pe_tup (pa_cons (pv 2) (pa_cons pe_int (pa_cons (pe_callS GW hr (by rfl) gW kW bW (fun σ => passAt (takes_of rfl rfl rfl rfl) σ) (pa_cons (pe_slice sl_list (pv 1) (po_some pe_int) po_none) pa_nil)) pa_nil)))))) pss_nil)
      (pss_cons (ps_if (pt_cmpR op_eq (pe_callB call_len_seq (by rfl) mL PySem.boot_len (pa_cons (pv 1) pa_nil)) pe_int (nomark _)) (pss_one (ps_raise rfl (takes_of rfl rfl rfl rfl) (SkE.pmk_own1 PySem.F.excBase_ValueError X.ex X.g X.kp (raises_own X.be X.ty) (by rfl) (pe_joined (.cons pe_str (.cons (pe_fmt (pv 2)) (.cons pe_str .nil))))))) pss_nil)
      (pss_one (ps_ret (pe_tup (pa_cons (pv 2) (pa_cons (pe_callS GN r1 (by rfl) gN kN bN (fun σ => passAt (takes_of rfl rfl rfl rfl) σ) (pa_cons (pe_ix ix_list (pv 1) pe_int (fun _ _ => rfl)) pa_nil)) (pa_cons (pe_callS GW hr (by rfl) gW kW bW (fun σ => passAt (takes_of rfl rfl rfl rfl) σ) (pa_cons (pe_slice sl_list (pv 1) (po_some pe_int) po_none) pa_nil)) pa_nil)))))))))), ?_⟩
    refine ⟨_, rfl, ⟨_, rfl⟩, a, _, rfl, rfl, by decide +kernel, small_line (by omega), fun p np => ?_⟩
    have hps := split_parts (s := 32) (by decide) a
    rw [← blank_is.1] at hps
    obtain ⟨hne, hpl, hpn⟩ := hps
    unfold rdRow at q e
    generalize Txt.split a " " = ps at q e hne hpl ⊢
    cases ps with
    | nil => exact absurd rfl hne
    | cons s0 l =>
      have k1 : Kp Ps H (upd H p (.lst ((s0 :: l).map V.str))) := Kp.same ht (same_upd np)
      have hS : SqL K (upd H p (.lst ((s0 :: l).map V.str))) p ((s0 :: l).map V.str) := .inl (.inl upd_same)
      generalize upd H p (.lst ((s0 :: l).map V.str)) = H1 at k1 hS ⊢
      rcases kK s0 with ⟨k, hk, hd⟩ | ⟨hk, hn⟩
      · dsimp only at q e
        rw [hk] at q e
        dsimp only at q e
        obtain ⟨hkm, hkl⟩ := kindK_ok hk
        obtain ⟨es', n', u, d1, d2, d3, d4⟩ := id hd
        refine ⟨_, rfl, p, _, _, _, rfl, rfl, hS, at_of (j := 0) rfl rfl, s0, some u, rfl, rfl, d3, _, rfl, iteF ?_⟩
        refine ⟨_, rfl, p, _, _, _, rfl, rfl, hS, at_of (j := 0) rfl rfl, aK, s0, _, rfl, rfl, hd, ?_⟩
        refine ⟨_, rfl, aB, blockK.map V.str, rfl, .inr (kB _), rfl, flat_strs _, _, rfl, ?_⟩
        show if (!inV (.str k) (blockK.map V.str)) = true then _ else _
        rw [inV_strs]
        by_cases hb : k ∈ blockK
        · rw [decide_eq_true hb]
          rw [if_pos hb] at q e
          refine iteF ⟨_, rfl, p, _, rfl, .inl hS, rfl, _, rfl, ?_⟩
          cases l with
          | nil =>
            have e0 : (Str.empty ++ ("a " : Str)).length = 2 := by decide +kernel
            have e1 : (" has a number" : Str).length = 13 := by decide +kernel
            refine iteT ⟨_, rfl, small_line (by rw [e0]; decide), _, rfl, .inl ⟨_, rfl, small_line (by omega), _, rfl, small_line ?_, _, rfl, small_line ?_, e rfl H1 k1⟩⟩
            · rw [Str.length_append, e0]
              omega
            · rw [Str.length_append, Str.length_append, e0, e1]
              omega
          | cons f ws =>
            refine iteF ⟨_, rfl, _, rfl, p, _, _, _, rfl, rfl, hS, at_of (j := 1) rfl rfl, f, rfl, ?_, fun n hn => ?_, fun hn => ?_⟩
            · have := hpl f (List.mem_cons_of_mem _ List.mem_cons_self)
              omega
            · dsimp only at q e
              rw [hn] at q e
              dsimp only at q e
              refine ⟨_, rfl, _, rfl, p, _, rfl, hS, fun S nS => ?_⟩
              have ec : cutV ((s0 :: f :: ws).map V.str) (some 2) none = ws.map V.str := by
                rw [show (2 : Int) = ((2 : Nat) : Int) from rfl, cut_from]
                rfl
              rw [ec]
              have k2 := Kp.same k1.1 (same_upd nS (o := .lst (ws.map V.str)))
              refine ⟨S, ws, rfl, .inl (.inl upd_same), fun x hx => ?_, k2.1, fun hw H2 W k3 hW => ⟨by show 3 ≤ sizeLine; decide, fun T nT => ?_⟩, fun hw H2 k3 => ?_⟩
              · have := hpl x (List.mem_cons_of_mem _ (List.mem_cons_of_mem _ hx))
                omega
              · have k4 := Kp.new (o := .tup [.str k, .int n, .ref W]) k3.1 nT
                exact q ⟨k, n, ws⟩ (if_pos hw) _ _ (k1.trans (k2.trans (k3.trans k4))) ⟨T, W, rfl, .inl (.inl upd_same), k4.seqT k3.1 hW⟩
              · exact e (if_neg (by rw [hw]; exact Bool.false_ne_true)) H2 (k1.trans (k2.trans k3))
            · dsimp only at e
              rw [hn] at e
              exact e rfl H1 k1
        · rw [decide_eq_false hb]
          rw [if_neg hb] at q e
          refine iteT ⟨_, rfl, _, rfl, _, rfl, p, _, rfl, hS, fun S nS => ?_⟩
          have ec : cutV ((s0 :: l).map V.str) (some 1) none = l.map V.str := by
            rw [show (1 : Int) = ((1 : Nat) : Int) from rfl, cut_from]
            rfl
          rw [ec]
          have k2 := Kp.same k1.1 (same_upd nS (o := .lst (l.map V.str)))
          refine ⟨S, l, rfl, .inl (.inl upd_same), fun x hx => ?_, k2.1, fun hw H2 W k3 hW => ⟨by show 3 ≤ sizeLine; decide, fun T nT => ?_⟩, fun hw H2 k3 => ?_⟩
          · have := hpl x (List.mem_cons_of_mem _ hx)
            omega
          · have k4 := Kp.new (o := .tup [.str k, .int 0, .ref W]) k3.1 nT
            exact q ⟨k, 0, l⟩ (if_pos hw) _ _ (k1.trans (k2.trans (k3.trans k4))) ⟨T, W, rfl, .inl (.inl upd_same), k4.seqT k3.1 hW⟩
          · exact e (if_neg (by rw [hw]; exact Bool.false_ne_true)) H2 (k1.trans (k2.trans k3))
      · dsimp only at e
        rw [hk] at e
        exact ⟨_, rfl, p, _, _, _, rfl, rfl, hS, at_of (j := 0) rfl rfl, s0, none, rfl, rfl, hn, _, rfl, iteT (e rfl H1 k1)⟩
end
/-! ### which keys a dict of the top has -/
def onlyB (K : PySem.W.Frag) (a : Addr) (ks : List Str) : Bool := match List.lookup a K with
  | some ⟨_, _, .dict es _, _⟩ => es.toList.all fun e => match e.key with
    | .str k _ => decide (k ∈ ks)
    | _ => false
  | _ => false
theorem only_ok {K : PySem.W.Frag} {a : Addr} {ks : List Str} (h : onlyB K a ks = true) {z : Str} (hz : ¬ z ∈ ks) : PySem.W.nsIn K a z = some none := by
  unfold onlyB at h
  unfold PySem.W.nsIn
  cases q : List.lookup a K with
  | none =>
    rw [q] at h
    cases h
  | some o =>
    obtain ⟨oc, od, dt, osl⟩ := o
    rw [q] at h
    cases dt with
    | dict es n =>
      dsimp only at h ⊢
      have key : ∀ e ∈ es.toList, e.key.isStr z = false ∧ e.refKey = false := fun e he => by
        have h1 := List.all_eq_true.mp h e he
        obtain ⟨hs, k, v⟩ := e
        cases k with
        | str x t =>
          have h2 : x ∈ ks := of_decide_eq_true h1
          refine ⟨?_, rfl⟩
          show (x == z) = false
          exact beq_eq_false_iff_ne.mpr fun e => hz (e ▸ h2)
        | _ => cases h1
      have e1 : es.toList.find? (fun x => x.key.isStr z) = none := List.find?_eq_none.mpr fun e he => by
        rw [(key e he).1]
        exact Bool.false_ne_true
      have e2 : (es.toList.any fun x => x.refKey) = false := by
        rw [List.any_eq_false]
        intro e he
        rw [(key e he).2]
        exact Bool.false_ne_true
      rw [e1, e2]
      rfl
    | _ => cases h
theorem kind_at {K : PySem.W.Frag} {w : World} {aK : Addr} (D : ∃ es n, KDict K w aK es n) (o : onlyB K aK ["=", "-", "+", "<", ">"] = true) (h : ∀ z k : Str, ((z = "=" ∧ k = "keep") ∨ (z = "-" ∧ k = "cut") ∨ (z = "+" ∧ k = "put") ∨ (z = "<" ∧ k = "take") ∨ (z = ">" ∧ k = "lay")) → KDct K w aK z (.str k)) : KindAt K w aK := by
  refine ⟨D, fun z => ?_⟩
  unfold kindK
  by_cases h1 : z = ("=" : Str)
  · exact .inl ⟨_, if_pos h1, h _ _ (.inl ⟨h1, rfl⟩)⟩
  · rw [if_neg h1]
    by_cases h2 : z = ("-" : Str)
    · exact .inl ⟨_, if_pos h2, h _ _ (.inr (.inl ⟨h2, rfl⟩))⟩
    · rw [if_neg h2]
      by_cases h3 : z = ("+" : Str)
      · exact .inl ⟨_, if_pos h3, h _ _ (.inr (.inr (.inl ⟨h3, rfl⟩)))⟩
      · rw [if_neg h3]
        by_cases h4 : z = ("<" : Str)
        · exact .inl ⟨_, if_pos h4, h _ _ (.inr (.inr (.inr (.inl ⟨h4, rfl⟩))))⟩
        · rw [if_neg h4]
          by_cases h5 : z = (">" : Str)
          · exact .inl ⟨_, if_pos h5, h _ _ (.inr (.inr (.inr (.inr ⟨h5, rfl⟩))))⟩
          · rw [if_neg h5]
            refine .inr ⟨rfl, only_ok o fun m => ?_⟩
            rcases List.mem_cons.mp m with m | m
            · exact h1 m
            · rcases List.mem_cons.mp m with m | m
              · exact h2 m
              · rcases List.mem_cons.mp m with m | m
                · exact h3 m
                · rcases List.mem_cons.mp m with m | m
                  · exact h4 m
                  · exact h5 (List.mem_singleton.mp m)
/-! ### rows written, a telling read -/
theorem join_le (sep : Str) (ps : List Str) : (Txt.join sep ps).length ≤ (ps.map (·.length)).sum + ps.length * sep.length := by
  show (Builtin.Str.glued sep ps).length ≤ _
  rw [StrLaws.glued_eq_join]
  exact StrLaws.join_length_le sep ps
theorem num_len {n : Int} (h1 : 1 ≤ n) (h2 : n ≤ 999999999) : (numS n).length ≤ 9 := by
  obtain ⟨m, rfl⟩ : ∃ m : Nat, n = (m : Int) := ⟨n.toNat, by omega⟩
  show (numS (m : Int)).cps.toList.length ≤ 9
  rw [numS_codes]
  exact TL.numL_len (by decide) (by omega)
theorem pieces_sum {r : RowD} (h : RowOk r) : ((piecesR r).map (·.length)).sum ≤ 10 + 40 * r.ws.length ∧ (piecesR r).length ≤ 2 + r.ws.length := by
  have hs := (kindK_sign _ h.kind).2
  have hw := sum_len h.words
  unfold piecesR
  split
  · next hb =>
    obtain ⟨n1, n2⟩ := blk_num h hb
    have := num_len n1 n2
    rw [List.map_cons, List.map_cons, List.sum_cons, List.sum_cons, hs, List.length_cons, List.length_cons]
    omega
  · rw [List.map_cons, List.sum_cons, hs, List.length_cons]
    omega
theorem lineR_len {r : RowD} (h : RowOk r) : (lineR r).length ≤ 12 + 41 * r.ws.length := by
  obtain ⟨h1, h2⟩ := pieces_sum h
  have h3 := join_le " " (piecesR r)
  rw [show (" " : Str).length = 1 by decide +kernel] at h3
  unfold lineR
  omega
section
variable {P : Program} {w : World} {K : PySem.W.Frag} {mg : Str → Option Value} {base : Heap}
theorem scWrittenRow : FnScope ["row", "kind", "number", "words"] ["row"] (defScope sWrittenRow) := ⟨rfl, rfl, rfl, by decide +kernel, rfl, by decide +kernel, by decide +kernel⟩
theorem scWritten : FnScope ["rows", "row"] ["rows"] (defScope sWritten) := ⟨rfl, rfl, rfl, by decide +kernel, rfl, by decide +kernel, by decide +kernel⟩
def spWrittenRow (K : PySem.W.Frag) : Sp := fun vs H Q _ => ∃ (v : V) (r : RowD), vs = [v] ∧ RowAt K H v r ∧ RowOk r ∧ r.ws.length ≤ 1000 ∧ ∀ H', Same H H' → Q (.str (lineR r)) H'
theorem ok_written_row {aS aB f : Addr} {fd : FuncData} (F : FnP K "written_row" sWrittenRow f fd) (mS : mg "SIGNS" = some (.ref aS)) (kS : ∀ k ∈ plainK ++ blockK, KDct K w aS k (.str (signK k))) (mB : mg "BLOCK_KINDS" = some (.ref aB)) (kB : KTup K aB blockK) (mT : mg "str" = none) : FnOk P w K mg base (L2.CX P w) 1 f fd ["row"] (spWrittenRow K) := by
  refine F.ok scWrittenRow (fun vs H Q E h => ?_) (fun cdv A outer s H vs Q E hr h => ?_)
  · obtain ⟨v, r, rfl, _⟩ := h
    rfl
  · obtain ⟨v, r, rfl, ⟨T, W, rfl, hT, hW⟩, ok, hl, q⟩ := h
    refine ⟨_, pss_cons (ps_asg (pv 0) (pg_tup (by rfl) (pgs_cons (pg_name (i := 1) scWrittenRow.nd rfl (.inl rfl)) (pgs_cons (pg_name (i := 2) scWrittenRow.nd rfl (.inl rfl)) (pgs_cons (pg_name (i := 3) scWrittenRow.nd rfl (.inl rfl)) pgs_nil)))))
      (pss_cons (ps_if (pt_cmpR op_in_seq (pv 1) (pe_glob (v := .ref aB) (by rfl) mB rfl) (by rfl))
        (pss_one (ps_ret (pe_join pe_str (pe_lst (pa_cons (pe_ix (r := rIxD K w) ix_kdict (pe_glob (v := .ref aS) (by rfl) mS rfl) (pv 1) (fun _ _ => rfl)) (pa_cons (pe_callTy call_str_int (by rfl) mT (by decide +kernel) (pa_cons (pv 2) pa_nil)) (StX.pa_star (pv 3) pa_nil))))))) pss_nil)
      (pss_one (ps_ret (pe_join pe_str (pe_lst (pa_cons (pe_ix (r := rIxD K w) ix_kdict (pe_glob (v := .ref aS) (by rfl) mS rfl) (pv 1) (fun _ _ => rfl)) (StX.pa_star (pv 3) pa_nil))))))), ?_⟩
    refine ⟨_, rfl, T, _, rfl, hT, rfl, _, _, rfl, _, _, rfl, _, _, rfl, rfl, ?_⟩
    refine ⟨_, rfl, aB, blockK.map V.str, rfl, .inr (kB H), rfl, flat_strs _, _, rfl, ?_⟩
    show if inV (.str r.kind) (blockK.map V.str) = true then _ else _
    obtain ⟨p1, p2⟩ := pieces_sum ok
    have e1 : (" " : Str).length = 1 := by decide +kernel
    rw [inV_strs]
    by_cases hb : r.kind ∈ blockK
    · rw [decide_eq_true hb]
      obtain ⟨n1, n2⟩ := blk_num ok hb
      have eP : piecesR r = signK r.kind :: numS r.num :: r.ws := if_pos hb
      have eL : lineR r = Txt.join " " (signK r.kind :: numS r.num :: r.ws) := by
        unfold lineR
        rw [eP]
      rw [eL] at q
      rw [eP] at p1 p2
      refine iteT ⟨⟨_, rfl⟩, _, rfl, aS, r.kind, _, rfl, rfl, kS _ ok.kind, _, rfl, r.num, rfl, log_small (by omega), _, rfl, W, _, rfl, .inl hW, ?_, fun L nL => ?_⟩
      · show (V.str (signK r.kind) :: V.str (numS r.num) :: (r.ws.map V.str ++ [])).length ≤ sizeLine
        rw [List.append_nil, List.length_cons, List.length_cons, List.length_map]
        exact small_line (by omega)
      · refine ⟨_, L, signK r.kind :: numS r.num :: r.ws, rfl, rfl, .inl (.inl (.inl ?_)), ?_, q _ (same_upd nL)⟩
        · rw [upd_same]
          show some (HO.lst (V.str (signK r.kind) :: V.str (numS r.num) :: (r.ws.map V.str ++ []))) = _
          rw [List.append_nil]
          rfl
        · rw [e1]
          omega
    · rw [decide_eq_false hb]
      have eP : piecesR r = signK r.kind :: r.ws := if_neg hb
      have eL : lineR r = Txt.join " " (signK r.kind :: r.ws) := by
        unfold lineR
        rw [eP]
      rw [eL] at q
      rw [eP] at p1 p2
      refine iteF ⟨⟨_, rfl⟩, _, rfl, aS, r.kind, _, rfl, rfl, kS _ ok.kind, _, rfl, W, _, rfl, .inl hW, ?_, fun L nL => ?_⟩
      · show (V.str (signK r.kind) :: (r.ws.map V.str ++ [])).length ≤ sizeLine
        rw [List.append_nil, List.length_cons, List.length_map]
        exact small_line (by omega)
      · refine ⟨_, L, signK r.kind :: r.ws, rfl, rfl, .inl (.inl (.inl ?_)), ?_, q _ (same_upd nL)⟩
        · rw [upd_same]
          show some (HO.lst (V.str (signK r.kind) :: (r.ws.map V.str ++ []))) = _
          rw [List.append_nil]
          rfl
        · rw [e1]
          omega
def spWritten (K : PySem.W.Frag) (Ps : List Addr) : Sp := fun vs H Q _ => ∃ (p : Addr) (xs : List V) (rs : List RowD), vs = [.ref p] ∧ SqL K H p xs ∧ RowsAt K H xs rs ∧ (∀ r ∈ rs, RowOk r ∧ r.ws.length ≤ 1000) ∧ rs.length ≤ 100 ∧ Tb Ps H ∧ ∀ H', Kp Ps H H' → Q (.str (textR rs)) H'
theorem ok_written {Ps : List Addr} {f fC fR : Addr} {fd fdC fdR : FuncData} (F : FnP K "written" sWritten f fd)
    (GC : FnOk P w K mg base (L2.CX P w) 7 fC fdC ["rows"] (spCheckRows K Ps)) (kC : PySem.W.keepIn K (.ref fC) = true) (bC : Binds K fdC ["rows"] []) (gC : mg "check_rows" = some (.ref fC))
    (GR : FnOk P w K mg base (L2.CX P w) 1 fR fdR ["row"] (spWrittenRow K)) (kR : PySem.W.keepIn K (.ref fR) = true) (bR : Binds K fdR ["row"] []) (gR : mg "written_row" = some (.ref fR)) : FnOk P w K mg base (L2.CX P w) 8 f fd ["rows"] (spWritten K Ps) := by
  refine F.ok scWritten (fun vs H Q E h => ?_) (fun cdv A outer s H vs Q E hr h => ?_)
  · obtain ⟨p, xs, rs, rfl, _⟩ := h
    rfl
  · obtain ⟨p, xs, rs, rfl, hp, hR, hok, hl, ht, q⟩ := h
    have r1 : Room 1 (A.deeper (envOfC "written" (defScope sWritten) s.heap.objs.size f cdv)) := hr.mono (by decide)
    refine ⟨_, pss_cons (ps_expr (pe_call GC hr (by rfl) gC kC bC .nil passL (pa_cons (pv 0) pa_nil)))
      (pss_one (ps_ret (pe_join pe_str (pe_lc (own := [("row", 1)]) (g := gName 1) (tt := tYes) rfl scWritten.nd (pi_list (pv 0)) (blkOk_by (N := ["rows", "row"]) (sc := defScope sWritten) (by decide +kernel))
        (fun _ _ _ _ _ => pg_name (i := 1) scWritten.nd rfl (Or.inl rfl)) (fun _ _ _ _ _ => pts_nil) (fun _ _ _ _ _ => pe_call GR r1 (by rfl) gR kR bR .nil passL (pa_cons (pv 1) pa_nil)))))), ?_⟩
    refine ⟨_, rfl, p, xs, rs, rfl, hp, hR, fun r hr => (hok r hr).1, ht, fun H1 k1 => ?_⟩
    have hp1 := k1.seq ht hp
    have hR1 := hR.kp ht k1
    refine ⟨⟨_, rfl⟩, _, rfl, p, rfl, ⟨_, hp1⟩, fun D nD => ?_⟩
    refine lc_list (K := K) (a := p) (xs := xs) (fun i H' => Same H1 H' ∧ H' D = some (.lst (((rs.take i).map lineR).map V.str))) ⟨same_upd nD, upd_same⟩ (fun i H' _ hp => hp.1.seq hp1) (fun i x H' hx hp => ?_) (fun H2 hp => ?_)
    · obtain ⟨sm, hD⟩ := hp
      obtain ⟨r, hr1, hr2⟩ := hR1.2 i x hx
      have ok := hok r (List.mem_of_getElem? hr1)
      refine ⟨rfl, yesT ?_⟩
      refine ⟨_, rfl, x, r, rfl, hr2.same sm, ok.1, ok.2, fun H3 s3 => ⟨_, s3 _ _ hD, ?_, fun b o e => ?_, ?_⟩⟩
      · rw [List.length_map, List.length_map, List.length_take]
        exact Nat.lt_of_le_of_lt (show _ ≤ 100 by omega) (by decide)
      · rw [upd_ne (ne_of_none e nD)]
        exact s3 b o (sm b o e)
      · rw [upd_same, take_snoc hr1, List.map_append, List.map_append]
        rfl
    · obtain ⟨sm, hD⟩ := hp
      rw [List.take_of_length_le (by rw [hR.1]; exact Nat.le_refl _)] at hD
      refine ⟨_, D, rs.map lineR, rfl, rfl, .inl (.inl (.inl hD)), ?_, q H2 (k1.trans (Kp.same k1.1 sm))⟩
      have e1 : ("\n" : Str).length = 1 := by decide +kernel
      have key : ∀ l : List RowD, (∀ r ∈ l, RowOk r ∧ r.ws.length ≤ 1000) → ((l.map lineR).map (·.length)).sum ≤ 42000 * l.length := fun l => by
        induction l with
        | nil => exact fun _ => Nat.le_refl _
        | cons a r ih =>
          intro h
          have h1 := ih fun x hx => h x (List.mem_cons_of_mem _ hx)
          obtain ⟨h2, h3⟩ := h a List.mem_cons_self
          have h4 := lineR_len h2
          rw [List.map_cons, List.map_cons, List.sum_cons, List.length_cons]
          omega
      have h2 := key rs hok
      rw [e1, List.length_map]
      omega
end
/-! ### a telling read, if all its lines are good -/
section
variable {P : Program} {w : World} {K : PySem.W.Frag} {mg : Str → Option Value} {base : Heap}
theorem scRead : FnScope ["line", "row_line"] ["line"] (defScope sRead) := ⟨rfl, rfl, rfl, by decide +kernel, rfl, by decide +kernel, by decide +kernel⟩
def spRead (K : PySem.W.Frag) (Ps : List Addr) : Sp := fun vs H Q _ => ∃ (a : Str) (rs : List RowD), vs = [.str a] ∧ a.length ≤ 900000 ∧ rdAll a = rs.map some ∧ Tb Ps H ∧ ∀ (H' : Hp) (D : Addr) (xs : List V), Kp Ps H H' → H' D = some (.lst xs) → RowsAt K H' xs rs → Q (.ref D) H'
theorem ok_read {Ps : List Addr} {cR f fR : Addr} {fd fdR : FuncData} (F : FnP K "read" sRead f fd)
    (GR : FnOk P w K mg base (L2.CX P w) 7 fR fdR ["line"] (spReadRow K Ps cR)) (kR : PySem.W.keepIn K (.ref fR) = true) (bR : Binds K fdR ["line"] []) (gR : mg "read_row" = some (.ref fR))
    (mI : mg "isinstance" = none) (mS : mg "str" = none) : FnOk P w K mg base (L2.CX P w) 8 f fd ["line"] (spRead K Ps) := by
  refine F.ok scRead (fun vs H Q E h => ?_) (fun cdv A outer s H vs Q E hr h => ?_)
  · obtain ⟨a, rs, rfl, _⟩ := h
    rfl
  · obtain ⟨a, rs, rfl, hl, hrs, ht, q⟩ := h
    refine ⟨_, pss_cons (ps_if (pt_not (pt_val (pe_callB call_isi (by rfl) mI (by decide +kernel) (pa_cons (pv 0) (pa_cons (pe_bltn (v := .ty "str") (by rfl) mS (by decide +kernel) rfl) pa_nil))))) pss_never pss_nil)
      (pss_cons (ps_if (pt_cmpR op_eq (pv 0) pe_str (nomark _)) (pss_one (ps_ret (pe_lst pa_nil))) pss_nil)
      (pss_one (ps_ret (pe_lc (own := [("row_line", 1)]) (g := gName 1) (tt := tYes) rfl scRead.nd (pi_list (pe_split (pv 0) pe_str)) (blkOk_by (N := ["line", "row_line"]) (sc := defScope sRead) (by decide +kernel))
        (fun _ _ _ _ _ => pg_name (i := 1) scRead.nd rfl (Or.inl rfl)) (fun _ _ _ _ _ => pts_nil) (fun _ _ _ _ _ => pe_call GR hr (by rfl) gR kR bR .nil passL (pa_cons (pv 1) pa_nil)))))), ?_⟩
    refine ⟨_, rfl, .str a, .ty "str", _, _, true, rfl, .ty _, .base (.str a), kit_ty (by decide +kernel), true, rfl, iteF ?_⟩
    refine ⟨_, rfl, rfl, _, rfl, ite2 (fun e => ?_) (fun e => ?_)⟩
    · have e1 : a = ("" : Str) := V.str.inj (of_decide_eq_true e)
      have e2 : rs = [] := by
        unfold rdAll at hrs
        rw [if_pos e1] at hrs
        exact List.map_eq_nil_iff.mp hrs.symm
      subst e2
      exact ⟨by show 0 ≤ sizeLine; decide, fun D nD => q _ D [] (Kp.same ht (same_upd nD)) upd_same ⟨rfl, fun i v e => by cases e⟩⟩
    · have e1 : a ≠ ("" : Str) := fun z => e (decide_eq_true (congrArg V.str z))
      unfold rdAll at hrs
      rw [if_neg e1] at hrs
      have hps := split_parts (s := 10) (by decide) a
      rw [← blank_is.2] at hps
      obtain ⟨_, hpl, hpn⟩ := hps
      refine ⟨_, rfl, ⟨_, rfl⟩, a, _, rfl, rfl, by decide +kernel, small_line (by omega), fun p np => ⟨p, rfl, ⟨_, .inl (.inl upd_same)⟩, ?_⟩⟩
      generalize Txt.split a "\n" = ps at hrs hpl hpn ⊢
      have k1 : Kp Ps H (upd H p (.lst (ps.map V.str))) := Kp.same ht (same_upd np)
      have hS : SqL K (upd H p (.lst (ps.map V.str))) p (ps.map V.str) := .inl (.inl upd_same)
      generalize upd H p (.lst (ps.map V.str)) = H1 at k1 hS ⊢
      intro D nD
      have nDH : H D = none := k1.free ht nD
      refine lc_list (K := K) (a := p) (xs := ps.map V.str) (fun i H' => Kp Ps H1 H' ∧ ∃ xs, H' D = some (.lst xs) ∧ RowsAt K H' xs (rs.take i)) ⟨Kp.same k1.1 (same_upd nD), [], upd_same, rfl, fun i v e => by cases e⟩ (fun i H' _ hp => hp.1.seq k1.1 hS) (fun i x H' hx hp => ?_) (fun H2 hp => ?_)
      · obtain ⟨kp, xs, hD, hX⟩ := hp
        rw [List.getElem?_map] at hx
        obtain ⟨l, hl2, rfl⟩ := Option.map_eq_some_iff.mp hx
        have h1 : (ps.map rdRow)[i]? = some (rdRow l) := by rw [List.getElem?_map, hl2]; rfl
        rw [hrs, List.getElem?_map] at h1
        obtain ⟨r, hr1, hr2⟩ := Option.map_eq_some_iff.mp h1
        refine ⟨rfl, yesT ?_⟩
        have hll := hpl l (List.mem_of_getElem? hl2)
        refine ⟨_, rfl, l, rfl, by omega, kp.1, fun r' hr' H3 v k3 hv => ?_, fun hn => ?_⟩
        · have er : r' = r := by
            rw [← hr2] at hr'
            exact (Option.some.inj hr').symm
          subst er
          have hD3 := k3.2 D _ (kp.1.notin hD fun ps z => by cases z) hD
          have hX3 := hX.kp kp.1 k3
          have hi : i < ps.length := (List.getElem?_eq_some_iff.mp hl2).1
          refine ⟨_, hD3, ?_, ?_, xs ++ [v], upd_same, ?_⟩
          · have := hX.1
            rw [List.length_take] at this
            exact Nat.lt_of_le_of_lt (show xs.length ≤ 900001 by omega) (by decide)
          · exact Kp.set k1.1 (kp.trans k3) nD
          · rw [take_snoc hr1]
            exact RowsAt.set (noTup hD3) (hX3.snoc hv)
        · rw [← hr2] at hn
          cases hn
      · obtain ⟨kp, xs, hD, hX⟩ := hp
        have hlen : rs.length = ps.length := by
          have := congrArg List.length hrs
          rw [List.length_map, List.length_map] at this
          exact this.symm
        rw [List.take_of_length_le (by rw [List.length_map, hlen]; exact Nat.le_refl _)] at hX
        exact q H2 D xs (k1.trans kp) hD hX
end
/-! ### what the laws say of tellings -/
section
variable {P : Program} {w : World} {K : PySem.W.Frag} {mg : Str → Option Value} {base : Heap}
theorem scTexts : FnScope ["_law_found", "_law_one"] ["_law_found"] (defScope sTexts) := ⟨rfl, rfl, rfl, by decide +kernel, rfl, by decide +kernel, by decide +kernel⟩
theorem scRowsTold : FnScope ["_law_found", "_law_row"] ["_law_found"] (defScope sRowsTold) := ⟨rfl, rfl, rfl, by decide +kernel, rfl, by decide +kernel, by decide +kernel⟩
def spTexts (K : PySem.W.Frag) : Sp := fun vs H Q _ => ∃ (p : Addr) (ws : List Str), vs = [.ref p] ∧ SqT K H p (ws.map V.str) ∧ ws.length ≤ 1000 ∧ ∀ H', Same H H' → Q (.bl true) H'
theorem ok_texts {f : Addr} {fd : FuncData} (F : FnP K "_law_texts" sTexts f fd) (mI : mg "isinstance" = none) (mS : mg "str" = none) (mA : mg "all" = none) : FnOk P w K mg base (L2.CX P w) 1 f fd ["_law_found"] (spTexts K) := by
  refine F.ok scTexts (fun vs H Q E h => ?_) (fun cdv A outer s H vs Q E hr h => ?_)
  · obtain ⟨p, ws, rfl, _⟩ := h
    rfl
  · obtain ⟨p, ws, rfl, hp, hl, q⟩ := h
    refine ⟨_, pss_one (ps_ret (pe_callB (cr_all rfl) (by rfl) mA (by decide +kernel) (pa_cons (pe_lc (own := [("_law_one", 1)]) (g := gName 1) (tt := tYes) rfl scTexts.nd (pi_tup (pv 0)) (blkOk_by (N := ["_law_found", "_law_one"]) (sc := defScope sTexts) (by decide +kernel))
          (fun _ _ _ _ _ => pg_name (i := 1) scTexts.nd rfl (Or.inl rfl)) (fun _ _ _ _ _ => pts_nil) (fun _ _ _ _ _ => pe_callB (id := "isinstance") (r := rIsi K) call_isi (by rfl) mI (by decide +kernel) (pa_cons (pv 1) (pa_cons (pe_bltn (v := .ty "str") (by rfl) mS (by decide +kernel) rfl) pa_nil)))) pa_nil))), ?_⟩
    refine ⟨_, rfl, p, rfl, ⟨_, hp⟩, fun D nD => ?_⟩
    refine lc_tup (xs := ws.map V.str) (fun i H' => Same H H' ∧ H' D = some (.lst ((List.replicate i true).map V.bl))) ⟨same_upd nD, upd_same⟩ (fun i H' _ hP => sameT hP.1 hp) (fun i x H' hx hP => ?_) (fun H' hP => ?_)
    · obtain ⟨sm, hD⟩ := hP
      rw [List.getElem?_map] at hx
      obtain ⟨a, ha, rfl⟩ := Option.map_eq_some_iff.mp hx
      refine ⟨rfl, yesT ?_⟩
      have hi : i < ws.length := (List.getElem?_eq_some_iff.mp ha).1
      refine ⟨_, rfl, .str a, .ty "str", _, _, true, rfl, .ty _, .base (.str a), kit_ty (by decide +kernel), _, hD, ?_, fun b o e => ?_, ?_⟩
      · rw [List.length_map, List.length_replicate]
        exact Nat.lt_of_lt_of_le (show i < 1001 by omega) (by decide)
      · rw [upd_ne (ne_of_none e nD)]
        exact sm b o e
      · rw [upd_same, List.replicate_succ', List.map_append]
        rfl
    · obtain ⟨sm, hD⟩ := hP
      refine ⟨D, _, rfl, .inl (.inl hD), ?_⟩
      have e : ∀ n, (List.replicate n true).all id = true := fun n => by simp
      rw [e]
      exact q H' sm
def spRowsTold (K : PySem.W.Frag) : Sp := fun vs H Q _ => ∃ (p : Addr) (xs : List V) (rs : List RowD), vs = [.ref p] ∧ SqL K H p xs ∧ RowsAt K H xs rs ∧ (∀ r ∈ rs, r.ws ≠ [] ∧ r.ws.length ≤ 1000) ∧ ∀ H', Same H H' → Q (.bl true) H'
theorem ok_rows_told {f fW fT : Addr} {fd fdW fdT : FuncData} (F : FnP K "_law_rows_told" sRowsTold f fd)
    (GW : FnOk P w K mg base (L2.CX P w) 1 fW fdW ["_law_found"] spWhole) (kW : PySem.W.keepIn K (.ref fW) = true) (bW : Binds K fdW ["_law_found"] []) (gW : mg "_law_whole" = some (.ref fW))
    (GT : FnOk P w K mg base (L2.CX P w) 1 fT fdT ["_law_found"] (spTexts K)) (kT : PySem.W.keepIn K (.ref fT) = true) (bT : Binds K fdT ["_law_found"] []) (gT : mg "_law_texts" = some (.ref fT))
    (mI : mg "isinstance" = none) (mS : mg "str" = none) (mT : mg "list" = none) (mU : mg "tuple" = none) (mL : mg "len" = none) : FnOk P w K mg base (L2.CX P w) 2 f fd ["_law_found"] (spRowsTold K) := by
  refine F.ok scRowsTold (fun vs H Q E h => ?_) (fun cdv A outer s H vs Q E hr h => ?_)
  · obtain ⟨p, xs, rs, rfl, _⟩ := h
    rfl
  · obtain ⟨p, xs, rs, rfl, hp, hR, hok, q⟩ := h
    refine ⟨_, pss_cons (ps_if (pt_not (pt_val (pe_callB call_isi (by rfl) mI (by decide +kernel) (pa_cons (pv 0) (pa_cons (pe_bltn (v := .ty "list") (by rfl) mT (by decide +kernel) rfl) pa_nil))))) pss_never pss_nil)
      (pss_cons (ps_for (passes_of rfl) rfl (pi_list (pv 0)) (pg_name (i := 1) scRowsTold.nd rfl (.inl rfl))
        (pss_cons (ps_if (PW.pt (pw_or (pt_not (pt_val (pe_callB call_isi (by rfl) mI (by decide +kernel) (pa_cons (pv 1) (pa_cons (pe_bltn (v := .ty "tuple") (by rfl) mU (by decide +kernel) rfl) pa_nil)))))
            (pw_or (pt_cmpR op_ne (pe_callB call_len_seq (by rfl) mL PySem.boot_len (pa_cons (pv 1) pa_nil)) pe_int (nomark _))
            (pw_or1 (pt_not (pt_val (pe_callB call_isi (by rfl) mI (by decide +kernel) (pa_cons (pe_ix ix_tup (pv 1) pe_int (fun _ _ => rfl)) (pa_cons (pe_bltn (v := .ty "str") (by rfl) mS (by decide +kernel) rfl) pa_nil))))))))) pss_never pss_nil)
        (pss_cons (ps_if (PW.pt (pw_or (pt_not (pt_val (pe_call GW hr (by rfl) gW kW bW .nil passL (pa_cons (pe_ix ix_tup (pv 1) pe_int (fun _ _ => rfl)) pa_nil))))
            (pw_or (pt_not (pt_val (pe_callB call_isi (by rfl) mI (by decide +kernel) (pa_cons (pe_ix ix_tup (pv 1) pe_int (fun _ _ => rfl)) (pa_cons (pe_bltn (v := .ty "tuple") (by rfl) mU (by decide +kernel) rfl) pa_nil)))))
            (pw_or1 (pt_cmpR op_eq (pe_callB call_len_seq (by rfl) mL PySem.boot_len (pa_cons (pe_ix ix_tup (pv 1) pe_int (fun _ _ => rfl)) pa_nil)) pe_int (nomark _)))))) pss_never pss_nil)
        (pss_one (ps_if (pt_not (pt_val (pe_call GT hr (by rfl) gT kT bT .nil passL (pa_cons (pe_ix ix_tup (pv 1) pe_int (fun _ _ => rfl)) pa_nil)))) pss_never pss_nil)))))
      (pss_one (ps_ret pe_bl))), ?_⟩
    refine ⟨_, rfl, .ref p, .ty "list", _, _, true, rfl, .ty _, tyL hp, kit_ty (by decide +kernel), true, rfl, iteF ?_⟩
    refine ⟨_, rfl, p, rfl, ⟨_, hp⟩, for_list (xs := xs) (fun i σ' H' => Same H H' ∧ ∃ y1, σ' = [some (.ref p), y1]) ⟨Same.refl _, none, rfl⟩ (fun i σ' H' _ hP => hP.1.seq hp) (fun i x σ' H' hx hP => ?_) (fun σ' H' hP => q H' hP.1)⟩
    obtain ⟨sm, y1, rfl⟩ := hP
    obtain ⟨r, hr1, hr2⟩ := hR.2 i x hx
    obtain ⟨h1, h2⟩ := hok r (List.mem_of_getElem? hr1)
    obtain ⟨T, W, rfl, hT, hW⟩ := hr2.same sm
    refine ⟨_, rfl, .ref T, .ty "tuple", _, _, true, rfl, .ty _, tyT hT, kit_ty (by decide +kernel), true, rfl, iteF ?_⟩
    refine ⟨_, rfl, T, _, rfl, .inr hT, rfl, _, rfl, iteF ?_⟩
    refine ⟨_, rfl, T, _, _, _, rfl, rfl, hT, at_of (j := 0) rfl rfl, .str r.kind, .ty "str", _, _, true, rfl, .ty _, .base (.str _), kit_ty (by decide +kernel), true, rfl, iteF ?_⟩
    refine ⟨_, rfl, T, _, _, _, rfl, rfl, hT, at_of (j := 1) rfl rfl, r.num, rfl, true, rfl, iteF ?_⟩
    refine ⟨_, rfl, T, _, _, _, rfl, rfl, hT, at_of (j := 2) rfl rfl, .ref W, .ty "tuple", _, _, true, rfl, .ty _, tyT hW, kit_ty (by decide +kernel), true, rfl, iteF ?_⟩
    refine ⟨_, rfl, T, _, _, _, rfl, rfl, hT, at_of (j := 2) rfl rfl, W, _, rfl, .inr hW, rfl, _, rfl, ?_⟩
    have e0 : decide (V.int ((r.ws.map V.str).length : Int) = V.int 0) = false := decide_eq_false fun z => by
      have z2 := V.int.inj z
      rw [List.length_map] at z2
      exact h1 (List.length_eq_zero_iff.mp (by omega))
    rw [e0]
    refine iteF ⟨_, rfl, T, _, _, _, rfl, rfl, hT, at_of (j := 2) rfl rfl, W, r.ws, rfl, hW, h2, fun H2 s2 => ⟨true, rfl, iteF ⟨sm.trans s2, _, rfl⟩⟩⟩
end
/-! ### any row -/
def kindsL : List Str := ["keep", "cut", "put", "take", "lay"]
def aMore (c : Int) : Int := (c + 3) * 48271 % 1000003
def numsL : List Int := [1, 9, 10, 999999999, 100000000, 7]
theorem kinds_at : ∀ i, i < 5 → ∃ k, kindsL[i]? = some k ∧ k ∈ plainK ++ blockK := by
  have key : ∀ i, i < 5 → (match kindsL[i]? with | some g => decide (g ∈ plainK ++ blockK) | none => false) = true := by decide +kernel
  intro i hi
  have h := key i hi
  cases e : kindsL[i]? with
  | none =>
    rw [e] at h
    cases h
  | some g =>
    rw [e] at h
    exact ⟨g, rfl, of_decide_eq_true h⟩
theorem nums_at : ∀ i : Nat, i < 6 → ∃ k : Int, numsL[i]? = some k ∧ 1 ≤ k ∧ k ≤ 999999999 := by
  have key : ∀ i : Nat, i < 6 → (match (numsL[i]? : Option Int) with | some g => decide (1 ≤ g) && decide (g ≤ 999999999) | none => false) = true := by decide +kernel
  intro i hi
  have h := key i hi
  cases e : numsL[i]? with
  | none =>
    rw [e] at h
    cases h
  | some g =>
    rw [e] at h
    have h : (decide (1 ≤ g) && decide (g ≤ 999999999)) = true := h
    rw [Bool.and_eq_true] at h
    exact ⟨g, rfl, of_decide_eq_true h.1, of_decide_eq_true h.2⟩
section
variable {P : Program} {w : World} {K : PySem.W.Frag} {mg : Str → Option Value} {base : Heap}
theorem scAnyRow : FnScope ["_law_menu_here", "_law_cell", "_law_more", "_law_kind", "_law_words", "_law_number", "_law_k"] ["_law_menu_here", "_law_cell"] (defScope sAnyRow) := ⟨rfl, rfl, rfl, by decide +kernel, rfl, by decide +kernel, by decide +kernel⟩
def spAnyRow (K : PySem.W.Frag) : Sp := fun vs H Q _ => ∃ (a : Addr) (c : Int) (ms : List Str), vs = [.ref a, .int c] ∧ SqL K H a (ms.map V.str) ∧ ms.length = 12 ∧ (∀ x ∈ ms, wordB x = true) ∧
  ∀ (H' : Hp) (v : V) (r : RowD), Same H H' → RowAt K H' v r → RowOk r → r.ws.length ≤ 90 → Q v H'
theorem ok_any_row {f : Addr} {fd : FuncData} (F : FnP K "_law_any_row" sAnyRow f fd) (mU : mg "tuple" = none) (mR : mg "range" = none) : FnOk P w K mg base (L2.CX P w) 1 f fd ["_law_menu_here", "_law_cell"] (spAnyRow K) := by
  refine F.ok scAnyRow (fun vs H Q E h => ?_) (fun cdv A outer s H vs Q E hr h => ?_)
  · obtain ⟨a, c, ms, rfl, _⟩ := h
    rfl
  · obtain ⟨a, c, ms, rfl, hS, hml, hmw, q⟩ := h
    refine ⟨_, pss_cons (ps_set (i := 2) scAnyRow.nd rfl (.inr rfl) (pe_op op_mod (pe_op op_mul (pe_op op_add (pv 1) pe_int) pe_int) pe_int))
      (pss_cut (ps_set (i := 3) scAnyRow.nd rfl (.inl rfl) (pe_ix ix_list (pe_lst (pa_cons pe_str (pa_cons pe_str (pa_cons pe_str (pa_cons pe_str (pa_cons pe_str pa_nil)))))) (pe_op op_mod (pv 2) pe_int) (fun _ _ => rfl)))
      (pss_cons (ps_set (i := 4) scAnyRow.nd rfl (.inl rfl) (pe_callTy call_tuple_of (by rfl) mU (by decide +kernel) (pa_cons (pe_lc (own := [("_law_k", 6)]) (g := gName 6) (tt := tYes) rfl scAnyRow.nd (pi_range1 (by rfl) mR (pa_cons (pe_op op_add pe_int (pe_op op_mod (pe_op op_fdiv (pv 2) pe_int) pe_int)) pa_nil))
          (blkOk_by (N := ["_law_menu_here", "_law_cell", "_law_more", "_law_kind", "_law_words", "_law_number", "_law_k"]) (sc := defScope sAnyRow) (by decide +kernel))
          (fun _ _ _ _ _ => pg_name (i := 6) scAnyRow.nd rfl (Or.inl rfl)) (fun _ _ _ _ _ => pts_nil)
          (fun _ _ _ _ _ => pe_ix (r := rIxL K) ix_list (pv 0) (pe_op op_mod (pe_op op_add (pe_op op_fdiv (pv 2) pe_int) (pv 6)) pe_int) (fun _ _ => rfl))) pa_nil)))
      (pss_cut (ps_if (pt_cmpR op_eq (pe_op op_mod (pe_op op_fdiv (pv 2) pe_int) pe_int) pe_int (nomark _)) (pss_one (ps_set (i := 4) scAnyRow.nd rfl (.inl rfl) (pe_op op_repT (pv 4) pe_int))) pss_nil)
      (pss_cons (ps_set (i := 5) scAnyRow.nd rfl (.inl rfl) (pe_op op_add pe_int (pe_op op_mod (pe_op op_mul (pe_op op_add (pv 1) pe_int) pe_int) pe_int)))
      (pss_cut (ps_if (pt_cmpR op_eq (pe_op op_mod (pe_op op_fdiv (pv 2) pe_int) pe_int) pe_int (nomark _))
        (pss_one (ps_set (i := 5) scAnyRow.nd rfl (.inl rfl) (pe_ix ix_list (pe_lst (pa_cons pe_int (pa_cons pe_int (pa_cons pe_int (pa_cons pe_int (pa_cons pe_int (pa_cons pe_int pa_nil))))))) (pe_op op_mod (pe_op op_fdiv (pv 2) pe_int) pe_int) (fun _ _ => rfl)))) pss_nil)
      (pss_cons (ps_if (PW.pt (pw_or (pt_cmpR op_eq (pv 3) pe_str (nomark _)) (pw_or1 (pt_cmpR op_eq (pv 3) pe_str (nomark _))))) (pss_one (ps_ret (pe_tup (pa_cons (pv 3) (pa_cons (pv 5) (pa_cons (pv 4) pa_nil)))))) pss_nil)
      (pss_one (ps_ret (pe_tup (pa_cons (pv 3) (pa_cons pe_int (pa_cons (pv 4) pa_nil)))))))))))), ?_⟩
    refine ⟨_, rfl, _, _, rfl, rfl, _, _, rfl, rfl, .inr (by decide), _, _, rfl, rfl, (by show (0 : Int) < 1000003; decide), ?_⟩
    have hm : 0 ≤ aMore c ∧ aMore c < 1000003 := ⟨Int.emod_nonneg _ (by decide), Int.emod_lt_of_pos _ (by decide)⟩
    -- the kind
    obtain ⟨k, hk, hkk⟩ := kinds_at _ (ltM (c := aMore c) (n := 5) (by decide))
    refine ⟨fun σ' H' => σ' = [some (.ref a), some (.int c), some (.int (aMore c)), some (.str k), none, none, none] ∧ Same H H', ?_, fun σ1 H1 hM => ?_⟩
    · exact ⟨by show 5 ≤ sizeLine; decide, fun L nL => ⟨_, rfl, _, _, rfl, rfl, (by show (0 : Int) < 5; decide), L, kindsL.map V.str, _, .str k, rfl, rfl, .inl (.inl upd_same), atM (c := aMore c) (n := 5) (by decide) (by rw [List.getElem?_map, hk]; rfl), rfl, same_upd nL⟩⟩
    obtain ⟨rfl, s1⟩ := hM
    have hS1 := s1.seq hS
    -- the words
    refine ⟨_, rfl, _, _, rfl, rfl, ⟨by decide, by decide⟩, _, _, rfl, rfl, (by show (0 : Int) < 3; decide), _, _, rfl, rfl, _, rfl, by omega, by omega, fun D nD => ?_⟩
    refine lc_range (lo := 0) (n := (1 + aMore c / 60 % 3).toNat) (fun i H' => Same H1 H' ∧ ∃ ws, H' D = some (.lst ((ws : List Str).map V.str)) ∧ ws.length = i ∧ ∀ x ∈ ws, wordB x = true) ⟨same_upd nD, [], upd_same, rfl, fun x hx => by cases hx⟩ (fun i H' hi hp => ?_) (fun H2 hp => ?_)
    · obtain ⟨sm, ws, hD, hl, hw⟩ := hp
      refine ⟨rfl, yesT ?_⟩
      have hx : ∃ x, ms[((aMore c / 5 + (0 + (i : Int))) % (12 : Nat)).toNat]? = some x ∧ wordB x = true := by
        have h1 := ltM (c := aMore c / 5 + (0 + (i : Int))) (n := 12) (by decide)
        have h2 : ((aMore c / 5 + (0 + (i : Int))) % (12 : Nat)).toNat < ms.length := by omega
        exact ⟨ms[_]'h2, List.getElem?_eq_getElem h2, hmw _ (List.getElem_mem h2)⟩
      obtain ⟨x, hx, hxw⟩ := hx
      refine ⟨_, rfl, _, rfl, _, _, rfl, rfl, ⟨by decide, by decide⟩, _, rfl, _, _, rfl, rfl, _, _, rfl, rfl, (by show (0 : Int) < 12; decide), a, _, _, .str x, rfl, rfl, sm.seq hS1, atM (n := 12) (by decide) (by rw [List.getElem?_map, hx]; rfl), ?_⟩
      refine ⟨_, hD, ?_, fun b o e => ?_, ws ++ [x], ?_, ?_, ?_⟩
      · rw [List.length_map, hl]
        exact Nat.lt_of_lt_of_le (show i < 1000 by omega) (by decide)
      · rw [upd_ne (ne_of_none e nD)]
        exact sm b o e
      · rw [upd_same, List.map_append]
        rfl
      · rw [List.length_append, hl]
        rfl
      · intro y hy
        rcases List.mem_append.mp hy with hy | hy
        · exact hw y hy
        · rw [List.mem_singleton.mp hy]
          exact hxw
    obtain ⟨s2, ws, hD, hl, hw⟩ := hp
    refine ⟨D, _, rfl, .inl ⟨.inl (.inl hD), fun W nW => ?_⟩⟩
    refine ⟨fun σ' H' => ∃ W ws, σ' = [some (.ref a), some (.int c), some (.int (aMore c)), some (.str k), some (.ref W), none, none] ∧ Same H H' ∧ SqT K H' W ((ws : List Str).map V.str) ∧ ws ≠ [] ∧ ws.length ≤ 90 ∧ ∀ x ∈ ws, wordB x = true, ?_, fun σ1 H3 hM => ?_⟩
    · have s3 : Same H (upd H2 W (.tup (ws.map V.str))) := (s1.trans s2).trans (same_upd nW)
      have hne : ws ≠ [] := fun z => by
        rw [z] at hl
        have hl : (0 : Nat) = _ := hl
        omega
      have hws : (ws.map V.str) ≠ [] := fun z => hne (List.map_eq_nil_iff.mp z)
      refine ⟨_, rfl, _, _, rfl, rfl, ⟨by decide, by decide⟩, _, _, rfl, rfl, (by show (0 : Int) < 9; decide), rfl, _, rfl, ite2 (fun _ => ?_) (fun _ => ⟨W, ws, rfl, s3, .inl (.inl upd_same), hne, by omega, hw⟩)⟩
      refine ⟨_, rfl, W, _, _, rfl, rfl, .inl (.inl upd_same), hws, by decide, by decide, by rw [List.length_map]; omega, fun W2 nW2 => ?_⟩
      have e2 : (List.replicate (30 : Int).toNat (ws.map V.str)).flatten = (List.replicate 30 ws).flatten.map V.str := by
        rw [List.map_flatten, List.map_replicate]
        rfl
      rw [e2]
      have e3 : ∀ n, (List.replicate n ws).flatten.length = n * ws.length := fun n => by
        rw [List.length_flatten, List.map_replicate, List.sum_replicate_nat]
      refine ⟨W2, _, rfl, s3.trans (same_upd nW2), .inl (.inl upd_same), fun z => ?_, ?_, fun x hx => ?_⟩
      · have := congrArg List.length z
        rw [e3, List.length_nil] at this
        omega
      · rw [e3]
        omega
      · obtain ⟨l, h1, h2⟩ := List.mem_flatten.mp hx
        rw [(List.mem_replicate.mp h1).2] at h2
        exact hw x h2
    clear hD hl hw nW s2 nD
    obtain ⟨W, ws, rfl, s3, hW, hne, hl, hw⟩ := hM
    -- the number
    refine ⟨_, rfl, _, _, rfl, rfl, _, _, rfl, rfl, .inr (by decide), _, _, rfl, rfl, (by show (0 : Int) < 999999999; decide), _, _, rfl, rfl, ?_⟩
    have hn0 : 0 ≤ (c + 7) * 69621 % 999999999 := Int.emod_nonneg _ (by decide)
    have hn1 : (c + 7) * 69621 % 999999999 < 999999999 := Int.emod_lt_of_pos _ (by decide)
    refine ⟨fun σ' H' => ∃ n, σ' = [some (.ref a), some (.int c), some (.int (aMore c)), some (.str k), some (.ref W), some (.int n), none] ∧ Same H H' ∧ SqT K H' W (ws.map V.str) ∧ 1 ≤ n ∧ n ≤ 999999999, ?_, fun σ1 H4 hM => ?_⟩
    · refine ⟨_, rfl, _, _, rfl, rfl, ⟨by decide, by decide⟩, _, _, rfl, rfl, (by show (0 : Int) < 2; decide), rfl, _, rfl, ite2 (fun _ => ?_) (fun _ => ⟨_, rfl, s3, hW, by omega, by omega⟩)⟩
      obtain ⟨n, hn, hn2, hn3⟩ := nums_at _ (ltM (c := aMore c / 3240) (n := 6) (by decide))
      refine ⟨by show 6 ≤ sizeLine; decide, fun L nL => ⟨_, rfl, _, _, rfl, rfl, ⟨by decide, by decide⟩, _, _, rfl, rfl, (by show (0 : Int) < 6; decide), L, numsL.map V.int, _, .int n, rfl, rfl, .inl (.inl upd_same), atM (n := 6) (by decide) (by rw [List.getElem?_map, hn]; rfl), ?_⟩⟩
      exact ⟨n, rfl, s3.trans (same_upd nL), sameT (same_upd nL) hW, hn2, hn3⟩
    obtain ⟨n, rfl, s4, hW, hn2, hn3⟩ := hM
    have plain : k ≠ "take" → k ≠ "lay" → tRet (tTup (tCons (tVar 3) (tCons (tC (.int 0)) (tCons (tVar 4) tNil)))) { nx := fun _ H' => Q .non H', rt := Q } [some (.ref a), some (.int c), some (.int (aMore c)), some (.str k), some (.ref W), some (.int n), none] H4 := fun h1 h2 =>
      ⟨_, rfl, _, rfl, by show 3 ≤ sizeLine; decide, fun T nT => q _ _ ⟨k, 0, ws⟩ (s4.trans (same_upd nT)) ⟨T, W, rfl, .inl (.inl upd_same), sameT (same_upd nT) hW⟩ ⟨hkk, numB_plain h1 h2, hne, hw⟩ hl⟩
    have block : (k = "take" ∨ k = "lay") → tRet (tTup (tCons (tVar 3) (tCons (tVar 5) (tCons (tVar 4) tNil)))) { nx := fun _ H' => Q .non H', rt := Q } [some (.ref a), some (.int c), some (.int (aMore c)), some (.str k), some (.ref W), some (.int n), none] H4 := fun h1 =>
      ⟨_, rfl, _, rfl, _, rfl, by show 3 ≤ sizeLine; decide, fun T nT => q _ _ ⟨k, n, ws⟩ (s4.trans (same_upd nT)) ⟨T, W, rfl, .inl (.inl upd_same), sameT (same_upd nT) hW⟩ ⟨hkk, numB_block h1 hn2 hn3, hne, hw⟩ hl⟩
    refine ⟨_, rfl, rfl, _, rfl, ite2 (fun e1 => ?_) (fun e1 => ?_)⟩
    · exact block (.inl (V.str.inj (of_decide_eq_true e1)))
    · have e1 : k ≠ "take" := fun z => e1 (decide_eq_true (congrArg V.str z))
      refine ⟨_, rfl, rfl, _, rfl, ite2 (fun e2 => ?_) (fun e2 => ?_)⟩
      · exact block (.inr (V.str.inj (of_decide_eq_true e2)))
      · exact plain e1 fun z => e2 (decide_eq_true (congrArg V.str z))
end
/-! ### the law: written and read -/
theorem join_free {s : Nat} {y : Str} (hy : ¬ s ∈ y.cps.toList) : ∀ ps : List Str, (∀ p ∈ ps, ¬ s ∈ p.cps.toList) → ¬ s ∈ (Txt.join y ps).cps.toList := by
  intro ps h
  show ¬ s ∈ (Builtin.Str.glued y ps).cps.toList
  rw [StrLaws.glued_eq_join]
  induction ps with
  | nil => exact fun z => by cases z
  | cons a r ih =>
    cases r with
    | nil => exact h a List.mem_cons_self
    | cons b r =>
      have ih := ih fun p hp => h p (List.mem_cons_of_mem _ hp)
      show ¬ s ∈ (a ++ y ++ Str.join y (b :: r)).cps.toList
      rw [Str.cps_append, Array.toList_append, Str.cps_append, Array.toList_append]
      intro z
      rcases List.mem_append.mp z with z | z
      · rcases List.mem_append.mp z with z | z
        · exact h a List.mem_cons_self z
        · exact hy z
      · exact ih z
theorem emp2 (x : Str) : ("" : Str) ++ x = x := by
  refine Str.ext' (Array.toList_inj.mp ?_)
  rw [Str.cps_append, Array.toList_append, show ("" : Str).cps.toList = [] by decide +kernel]
  rfl
theorem rdAll_text {rs : List RowD} (h : ∀ r ∈ rs, RowOk r) : rdAll (textR rs) = rs.map some := by
  cases rs with
  | nil =>
    have e : textR [] = ("" : Str) := by
      unfold textR
      show Txt.join "\n" [] = _
      rw [join_none]
      decide +kernel
    unfold rdAll
    rw [e, if_pos rfl]
    rfl
  | cons r0 rs =>
    have hs : Txt.split (textR (r0 :: rs)) "\n" = (r0 :: rs).map lineR := by
      refine TL.split_join (s := 10) (S := []) (by decide +kernel) (by decide +kernel) (List.cons_ne_nil _ _) fun p hp => ?_
      obtain ⟨r, hr, rfl⟩ := List.mem_map.mp hp
      exact join_free (by decide +kernel) _ fun q hq => (pieces_free (h r hr) q hq).2
    have hne : textR (r0 :: rs) ≠ ("" : Str) := fun z => by
      rw [z] at hs
      have e1 : Txt.split ("" : Str) "\n" = [("" : Str)] := by decide +kernel
      rw [e1] at hs
      have e2 : ("" : Str) = lineR r0 := (List.cons.inj hs).1
      have e3 := split_line (h r0 List.mem_cons_self)
      rw [← e2] at e3
      have e4 : Txt.split ("" : Str) " " = [("" : Str)] := by decide +kernel
      rw [e4] at e3
      have hk := (kindK_sign _ (h r0 List.mem_cons_self).kind).2
      have e5 : ("" : Str) = signK r0.kind := by
        unfold piecesR at e3
        split at e3 <;> exact (List.cons.inj e3).1
      rw [← e5] at hk
      exact absurd hk (by decide +kernel)
    unfold rdAll
    rw [if_neg hne, hs, List.map_map]
    exact List.map_congr_left fun r hr => rdRow_line (h r hr)
def headR (r : RowD) : List Str := if r.kind ∈ blockK then [signK r.kind, numS r.num] else [signK r.kind]
theorem head_pieces (r : RowD) : piecesR r = headR r ++ r.ws := by
  unfold piecesR headR
  split <;> rfl
theorem pre_len {r : RowD} (h : RowOk r) (i : Nat) : (Txt.join " " (headR r ++ r.ws.take i)).length ≤ 12 + 41 * r.ws.length := by
  have h1 := join_le " " (headR r ++ r.ws.take i)
  rw [show (" " : Str).length = 1 by decide +kernel, List.map_append, List.sum_append, List.length_append, List.length_take] at h1
  have hw := sum_len fun a ha => h.words a (List.mem_of_mem_take (i := i) ha)
  rw [List.length_take] at hw
  have hs := (kindK_sign _ h.kind).2
  have hh : ((headR r).map (·.length)).sum ≤ 10 ∧ (headR r).length ≤ 2 := by
    unfold headR
    split
    · next hb =>
      obtain ⟨n1, n2⟩ := blk_num h hb
      have := num_len n1 n2
      show (signK r.kind).length + ((numS r.num).length + 0) ≤ 10 ∧ 2 ≤ 2
      omega
    · show (signK r.kind).length + 0 ≤ 10 ∧ 1 ≤ 2
      omega
  omega
theorem text_len {rs : List RowD} (h : ∀ r ∈ rs, RowOk r ∧ r.ws.length ≤ 90) : (textR rs).length ≤ 3703 * rs.length := by
  have h1 := join_le "\n" (rs.map lineR)
  rw [show ("\n" : Str).length = 1 by decide +kernel, List.length_map] at h1
  have key : ∀ l : List RowD, (∀ r ∈ l, RowOk r ∧ r.ws.length ≤ 90) → ((l.map lineR).map (·.length)).sum ≤ 3702 * l.length := fun l => by
    induction l with
    | nil => exact fun _ => Nat.le_refl _
    | cons a r ih =>
      intro h
      have h1 := ih fun x hx => h x (List.mem_cons_of_mem _ hx)
      obtain ⟨h2, h3⟩ := h a List.mem_cons_self
      have h4 := lineR_len h2
      rw [List.map_cons, List.map_cons, List.sum_cons, List.length_cons]
      omega
  have h2 := key rs h
  unfold textR
  omega
def signKv : List (Key × V) := [(.inr "keep", .str "="), (.inr "cut", .str "-"), (.inr "put", .str "+"), (.inr "take", .str "<"), (.inr "lay", .str ">")]
theorem sign_at : ∀ k ∈ plainK ++ blockK, valV (mergeK [] signKv) (.inr k) = some (.str (signK k)) := by decide +kernel
section
variable {P : Program} {w : World} {K : PySem.W.Frag} {mg : Str → Option Value} {base : Heap}
abbrev lawN : List Str := ["_law_script", "_law_menu_here", "_law_rows", "_law_due", "_law_k", "_law_handed", "_law_found", "_law_back", "_law_cell"]
theorem scLine : FnScope ["_law_row", "_law_line_here", "_law_word"] ["_law_row"] (defScope sLine) := ⟨rfl, rfl, rfl, by decide +kernel, rfl, by decide +kernel, by decide +kernel⟩
theorem scLaw : FnScope lawN ["_law_script"] (defScope sLaw) := ⟨rfl, rfl, rfl, by decide +kernel, rfl, by decide +kernel, by decide +kernel⟩
def spLine (K : PySem.W.Frag) : Sp := fun vs H Q _ => ∃ (v : V) (r : RowD), vs = [v] ∧ RowAt K H v r ∧ RowOk r ∧ r.ws.length ≤ 1000 ∧ ∀ H', Same H H' → Q (.str (lineR r)) H'
theorem ok_line {f : Addr} {fd : FuncData} (F : FnP K "_law_line" sLine f fd) (mT : mg "str" = none) : FnOk P w K mg base (L2.CX P w) 1 f fd ["_law_row"] (spLine K) := by
  refine F.ok scLine (fun vs H Q E h => ?_) (fun cdv A outer s H vs Q E hr h => ?_)
  · obtain ⟨v, r, rfl, _⟩ := h
    rfl
  · obtain ⟨v, r, rfl, ⟨T, W, rfl, hT, hW⟩, ok, hl, q⟩ := h
    refine ⟨_, pss_cons (ps_set (i := 1) scLine.nd rfl (.inl rfl) (pe_dget (hu_of hr) (pe_disp (pps_cons pe_str pe_str (pps_cons pe_str pe_str (pps_cons pe_str pe_str (pps_cons pe_str pe_str (pps_cons pe_str pe_str pps_nil))))) (by rfl) (by rfl) (fun z => by cases z) (by decide)) (pe_ix ix_tup (pv 0) pe_int (fun _ _ => rfl)) (fun _ _ => rfl)))
      (pss_cut (ps_if (PW.pt (pw_or (pt_cmpR op_eq (pe_ix ix_tup (pv 0) pe_int (fun _ _ => rfl)) pe_str (nomark _)) (pw_or1 (pt_cmpR op_eq (pe_ix ix_tup (pv 0) pe_int (fun _ _ => rfl)) pe_str (nomark _)))))
        (pss_one (ps_set (i := 1) scLine.nd rfl (.inl rfl) (pe_op op_add_str (pe_op op_add_str (pv 1) pe_str) (pe_callTy call_str_int (by rfl) mT (by decide +kernel) (pa_cons (pe_ix ix_tup (pv 0) pe_int (fun _ _ => rfl)) pa_nil))))) pss_nil)
      (pss_cons (ps_for (passes_of rfl) rfl (pi_tup (pe_ix ix_tup (pv 0) pe_int (fun _ _ => rfl))) (pg_name (i := 2) scLine.nd rfl (.inl rfl))
        (pss_one (ps_set (i := 1) scLine.nd rfl (.inl rfl) (pe_op op_add_str (pe_op op_add_str (pv 1) pe_str) (pv 2)))))
      (pss_one (ps_ret (pv 1))))), ?_⟩
    refine fun p np => ⟨upd_same, signKv, rfl, by decide, ?_⟩
    have s1 : Same H (upd (upd H p (.dK [])) p (.dK (mergeK [] signKv))) := fun b o e => by
      rw [upd_ne (ne_of_none e np), upd_ne (ne_of_none e np)]
      exact e
    have hp : (upd (upd H p (.dK [])) p (.dK (mergeK [] signKv))) p = some (.dK (mergeK [] signKv)) := upd_same
    generalize upd (upd H p (.dK [])) p (.dK (mergeK [] signKv)) = H1 at s1 hp ⊢
    have hT1 := sameT s1 hT
    have hW1 := sameT s1 hW
    have e1 : (" " : Str).length = 1 := by decide +kernel
    have hs := (kindK_sign _ ok.kind).2
    refine ⟨_, rfl, T, _, _, _, rfl, rfl, hT1, at_of (j := 0) rfl rfl, p, _, rfl, .inl ⟨_, .inr r.kind, .inl hp, rfl, (sign_at _ ok.kind).symm⟩, ?_⟩
    refine ⟨fun σ' H' => σ' = [some (.ref T), some (.str (Txt.join " " (headR r))), none] ∧ H' = H1, ?_, fun σ' H' hM => ?_⟩
    · refine (fun (body : r.kind ∈ blockK → _) => ⟨_, rfl, T, _, _, _, rfl, rfl, hT1, at_of (j := 0) rfl rfl, rfl, _, rfl, ite2 (fun e => body ?b1) (fun e => ⟨_, rfl, T, _, _, _, rfl, rfl, hT1, at_of (j := 0) rfl rfl, rfl, _, rfl, ite2 (fun e2 => body ?b2) (fun e2 => ?b3)⟩)⟩) ?b4
      case b1 =>
        have h := V.str.inj (of_decide_eq_true e)
        rw [h]
        decide +kernel
      case b2 =>
        have h := V.str.inj (of_decide_eq_true e2)
        rw [h]
        decide +kernel
      case b3 =>
        have n1 : r.kind ≠ "take" := fun z => e (decide_eq_true (congrArg V.str z))
        have n2 : r.kind ≠ "lay" := fun z => e2 (decide_eq_true (congrArg V.str z))
        have hb : ¬ r.kind ∈ blockK := fun z => by
          rcases List.mem_cons.mp z with z | z
          · exact n1 z
          · exact n2 (List.mem_singleton.mp z)
        refine ⟨?_, rfl⟩
        unfold headR
        rw [if_neg hb, join_one]
        rfl
      case b4 =>
        intro hb
        obtain ⟨n1, n2⟩ := blk_num ok hb
        have hn := num_len n1 n2
        refine ⟨_, rfl, _, _, rfl, rfl, small_line (by rw [hs, e1]; decide), _, rfl, T, _, _, _, rfl, rfl, hT1, at_of (j := 1) rfl rfl, r.num, rfl, log_small (by omega), _, _, rfl, rfl, small_line ?_, ?_, rfl⟩
        · have hn : (Str.ofString (toString r.num)).length ≤ 9 := hn
          rw [Str.length_append, hs, e1]
          omega
        · unfold headR
          rw [if_pos hb, show [signK r.kind, numS r.num] = [signK r.kind] ++ [numS r.num] from rfl, join_snoc _ _ (List.cons_ne_nil _ _), join_one]
          rfl
    · obtain ⟨rfl, rfl⟩ := hM
      refine ⟨_, rfl, T, _, _, _, rfl, rfl, hT1, at_of (j := 2) rfl rfl, W, rfl, ⟨_, hW1⟩, for_tup (xs := r.ws.map V.str) (fun i σ' H2 => H2 = H' ∧ ∃ y2, σ' = [some (.ref T), some (.str (Txt.join " " (headR r ++ r.ws.take i))), y2]) ⟨rfl, none, ?_⟩ (fun i σ' H2 _ hp => ?_) (fun i x σ' H2 hx hp => ?_) (fun σ' H2 hp => ?_)⟩
      · rw [List.take_zero, List.append_nil]
      · obtain ⟨rfl, _⟩ := hp
        exact hW1
      · obtain ⟨rfl, y2, rfl⟩ := hp
        rw [List.getElem?_map] at hx
        obtain ⟨a, ha, rfl⟩ := Option.map_eq_some_iff.mp hx
        have hpl := pre_len ok i
        have hal := (wordB_len (ok.words a (List.mem_of_getElem? ha))).2
        refine ⟨_, rfl, _, _, rfl, rfl, small_line (by rw [e1]; omega), _, rfl, _, _, rfl, rfl, small_line ?_, rfl, some (.str a), ?_⟩
        · rw [Str.length_append, e1]
          omega
        · rw [take_snoc ha, ← List.append_assoc, join_snoc]
          · rfl
          · unfold headR
            split <;> exact List.cons_ne_nil _ _
      · obtain ⟨rfl, y2, rfl⟩ := hp
        rw [List.take_of_length_le (by rw [List.length_map]; exact Nat.le_refl _), ← head_pieces]
        exact ⟨_, rfl, q _ s1⟩
def spLaw (K : PySem.W.Frag) (Ps : List Addr) : Sp := fun vs H Q _ => ∃ (a : Addr) (ns : List Int), vs = [.ref a] ∧ SqL K H a (ns.map V.int) ∧ Tb Ps H ∧ ∀ H', Q (.bl true) H'
theorem ok_law {Ps : List Addr} {f fM fR fL fW fD fT : Addr} {fd fdM fdR fdL fdW fdD fdT : FuncData} (F : FnP K "law" sLaw f fd)
    (GM : FnOk P w K mg base (L2.CX P w) 3 fM fdM ["_law_script"] (spMenu K)) (kM : PySem.W.keepIn K (.ref fM) = true) (bM : Binds K fdM ["_law_script"] []) (gM : mg "_law_menu" = some (.ref fM))
    (GR : FnOk P w K mg base (L2.CX P w) 1 fR fdR ["_law_menu_here", "_law_cell"] (spAnyRow K)) (kR : PySem.W.keepIn K (.ref fR) = true) (bR : Binds K fdR ["_law_menu_here", "_law_cell"] []) (gR : mg "_law_any_row" = some (.ref fR))
    (GL : FnOk P w K mg base (L2.CX P w) 1 fL fdL ["_law_row"] (spLine K)) (kL : PySem.W.keepIn K (.ref fL) = true) (bL : Binds K fdL ["_law_row"] []) (gL : mg "_law_line" = some (.ref fL))
    (GW : FnOk P w K mg base (L2.CX P w) 8 fW fdW ["rows"] (spWritten K Ps)) (kW : PySem.W.keepIn K (.ref fW) = true) (bW : Binds K fdW ["rows"] []) (gW : mg "written" = some (.ref fW))
    (GD : FnOk P w K mg base (L2.CX P w) 8 fD fdD ["line"] (spRead K Ps)) (kD : PySem.W.keepIn K (.ref fD) = true) (bD : Binds K fdD ["line"] []) (gD : mg "read" = some (.ref fD))
    (GT : FnOk P w K mg base (L2.CX P w) 2 fT fdT ["_law_found"] (spRowsTold K)) (kT : PySem.W.keepIn K (.ref fT) = true) (bT : Binds K fdT ["_law_found"] []) (gT : mg "_law_rows_told" = some (.ref fT))
    (mT : mg "list" = none) (mL : mg "len" = none) (mR : mg "range" = none) (mI : mg "isinstance" = none) (mS : mg "str" = none) : FnOk P w K mg base (L2.CX P w) 9 f fd ["_law_script"] (spLaw K Ps) := by
  refine F.ok scLaw (fun vs H Q E h => ?_) (fun cdv A outer s H vs Q E hr h => ?_)
  · obtain ⟨a, ns, rfl, _⟩ := h
    rfl
  · obtain ⟨a, ns, rfl, hS, ht, q⟩ := h
    have r3 : Room 3 (A.deeper (envOfC "law" (defScope sLaw) s.heap.objs.size f cdv)) := hr.mono (by decide)
    have r2 : Room 2 (A.deeper (envOfC "law" (defScope sLaw) s.heap.objs.size f cdv)) := hr.mono (by decide)
    have r1 : Room 1 (A.deeper (envOfC "law" (defScope sLaw) s.heap.objs.size f cdv)) := hr.mono (by decide)
    refine ⟨_, pss_cons (ps_set (i := 1) scLaw.nd rfl (.inr rfl) (pe_call GM r3 (by rfl) gM kM bM .nil passL (pa_cons (pv 0) pa_nil)))
      (pss_cons (ps_setLc (i := 2) (own := [("_law_cell", 8)]) (g := gName 8) (tt := tYes) rfl scLaw.nd rfl rfl (sw_true rfl rfl rfl (by decide +kernel)) (pi_list (pe_slice sl_list (pv 0) (po_some pe_int) (po_some pe_int))) (blkOk_by (N := lawN) (sc := defScope sLaw) (by decide +kernel))
        (fun _ _ _ _ _ => pg_name (i := 8) scLaw.nd rfl (Or.inl rfl)) (fun _ _ _ _ _ => pts_nil) (fun _ _ _ _ _ => pe_call GR r1 (by rfl) gR kR bR .nil passL (pa_cons (pv 1) (pa_cons (pv 8) pa_nil))))
      (pss_cons (ps_set (i := 3) scLaw.nd rfl (.inl rfl) pe_str)
      (pss_cons (ps_for (passes_of rfl) rfl (pi_range1 (by rfl) mR (pa_cons (pe_callB call_len_seq (by rfl) mL PySem.boot_len (pa_cons (pv 2) pa_nil)) pa_nil)) (pg_name (i := 4) scLaw.nd rfl (.inl rfl))
        (pss_cut (ps_if (pt_cmpR op_gt (pv 4) pe_int (nomark _)) (pss_one (ps_set (i := 3) scLaw.nd rfl (.inl rfl) (pe_op op_add_str (pv 3) pe_str))) pss_nil)
        (pss_one (ps_set (i := 3) scLaw.nd rfl (.inl rfl) (pe_op op_add_str (pv 3) (pe_call GL r1 (by rfl) gL kL bL .nil passL (pa_cons (pe_ix ix_list (pv 2) (pv 4) (fun _ _ => rfl)) pa_nil)))))))
      (pss_cons (ps_set (i := 5) scLaw.nd rfl (.inl rfl) (pe_callTy call_list_of (by rfl) mT (by decide +kernel) (pa_cons (pv 2) pa_nil)))
      (pss_cons (ps_set (i := 6) scLaw.nd rfl (.inl rfl) (pe_call GW hr (by rfl) gW kW bW .nil passL (pa_cons (pv 5) pa_nil)))
      (pss_cons (ps_if (PW.pt (pw_or (pt_cmpR (op_neD hr.units) (pv 5) (pv 2) (nomark _)) (pw_or (pt_not (pt_val (pe_callB call_isi (by rfl) mI (by decide +kernel) (pa_cons (pv 6) (pa_cons (pe_bltn (v := .ty "str") (by rfl) mS (by decide +kernel) rfl) pa_nil))))) (pw_or1 (pt_cmpR op_ne (pv 6) (pv 3) (nomark _)))))) pss_never pss_nil)
      (pss_cons (ps_set (i := 7) scLaw.nd rfl (.inl rfl) (pe_call GD hr (by rfl) gD kD bD .nil passL (pa_cons (pv 6) pa_nil)))
      (pss_one (ps_ret (pe_and (pe_call GT r2 (by rfl) gT kT bT .nil passL (pa_cons (pv 7) pa_nil)) (pe_one (pe_cmpR (op_eqD hr.units) (pv 7) (pv 2) (nomark _))))))))))))), ?_⟩
    -- the menu, the rows
    refine ⟨_, rfl, a, ns, rfl, hS, fun H1 M ms s1 nM hM hml hmw => ?_⟩
    refine ⟨_, rfl, _, rfl, _, rfl, a, _, rfl, s1.seq hS, fun p np => ⟨p, rfl, ⟨_, .inl (.inl upd_same)⟩, fun D nD => ?_⟩⟩
    have s2 : Same H1 (upd H1 p (.lst (cutV (ns.map V.int) (some 4) (some 34)))) := same_upd np
    refine lc_list (xs := cutV (ns.map V.int) (some 4) (some 34)) (fun i H' => Same (upd H1 p (.lst (cutV (ns.map V.int) (some 4) (some 34)))) H' ∧ ∃ xs rs, H' D = some (.lst xs) ∧ xs.length = i ∧ RowsAt K H' xs rs ∧ ∀ r ∈ rs, RowOk r ∧ r.ws.length ≤ 90)
      ⟨same_upd nD, [], [], upd_same, rfl, ⟨rfl, fun i v e => by cases e⟩, fun r hr => by cases hr⟩ (fun i H' _ hp => hp.1.seq (.inl (.inl upd_same))) (fun i x H' hx hp => ?_) (fun H2 hp => ?_)
    · obtain ⟨sm, xs, rs, hD, hl, hR, hok⟩ := hp
      have hi : i < 30 := Nat.lt_of_lt_of_le (List.getElem?_eq_some_iff.mp hx).1 (cut30 _)
      obtain ⟨c, _, rfl⟩ := List.mem_map.mp (cut_mem (List.mem_of_getElem? hx))
      refine ⟨rfl, yesT ?_⟩
      refine ⟨_, rfl, _, rfl, M, c, ms, rfl, sm.seq (s2.seq (.inl (.inl hM))), hml, hmw, fun H3 v r s3 hv hr hl90 => ?_⟩
      have hD3 := s3 _ _ hD
      refine ⟨_, hD3, ?_, fun b o e => ?_, xs ++ [v], rs ++ [r], upd_same, ?_, ((hR.same s3).snoc hv).set (noTup hD3), fun y hy => ?_⟩
      · rw [hl]
        exact Nat.lt_of_lt_of_le (show i < 1000 by omega) (by decide)
      · rw [upd_ne (ne_of_none e nD)]
        exact s3 b o (sm b o e)
      · rw [List.length_append, hl]
        rfl
      · rcases List.mem_append.mp hy with hy | hy
        · exact hok y hy
        · rw [List.mem_singleton.mp hy]
          exact ⟨hr, hl90⟩
    obtain ⟨sm, xs, rs, hD, hl, hR, hok⟩ := hp
    have hxl : xs.length ≤ 30 := by rw [hl]; exact cut30 _
    have hrl : rs.length ≤ 30 := by rw [← hR.1]; exact hxl
    have hrok : ∀ r ∈ rs, RowOk r := fun r hr => (hok r hr).1
    have s5 : Same H H2 := s1.trans (s2.trans sm)
    -- what is due
    have hD' : SqL K H2 D xs := .inl (.inl hD)
    have en1 : ("\n" : Str).length = 1 := by decide +kernel
    refine ⟨_, rfl, D, _, rfl, .inl hD', _, rfl, by omega, by omega, ?_⟩
    refine for_range (lo := 0) (n := ((xs.length : Nat) : Int).toNat) (fun i σ' H' => Same H2 H' ∧ ∃ y4, σ' = [some (.ref a), some (.ref M), some (.ref D), some (.str (textR (rs.take i))), y4, none, none, none, none]) ⟨Same.refl _, none, ?_⟩ (fun i σ' H' hi hp => ?_) (fun σ' H' hp => ?_)
    · have e0 : textR (rs.take 0) = ("" : Str) := by
        unfold textR
        show Txt.join "\n" [] = _
        rw [join_none]
        decide +kernel
      rw [e0]
      rfl
    · obtain ⟨sm2, y4, rfl⟩ := hp
      have hi : i < xs.length := by omega
      have hx := List.getElem?_eq_getElem hi
      obtain ⟨r, hr1, hr2⟩ := hR.2 i _ hx
      have okr := hok r (List.mem_of_getElem? hr1)
      have tl := text_len (rs := rs.take i) fun r hr => hok r (List.mem_of_mem_take hr)
      rw [List.length_take] at tl
      have ll := lineR_len okr.1
      have zi : (0 + (i : Int)) = ((i : Nat) : Int) := by omega
      refine ⟨fun σ' H3 => H3 = H' ∧ ∃ z : Str, σ' = [some (.ref a), some (.ref M), some (.ref D), some (.str z), some (.int (0 + (i : Int))), none, none, none, none] ∧ z.length ≤ 200000 ∧ z ++ lineR r = textR (rs.take (i + 1)), ?_, fun σ' H3 hM => ?_⟩
      · refine ⟨_, rfl, _, _, rfl, rfl, _, rfl, ite2 (fun e => ?_) (fun e => ?_)⟩
        · have hi0 : i ≠ 0 := by
            have := of_decide_eq_true e
            omega
          refine ⟨_, rfl, _, _, rfl, rfl, small_line (by rw [en1]; omega), rfl, _, rfl, by rw [Str.length_append, en1]; omega, ?_⟩
          unfold textR
          rw [take_snoc hr1, List.map_append, List.map_singleton, join_snoc]
          intro z
          have := congrArg List.length z
          rw [List.length_map, List.length_take, List.length_nil] at this
          have := hR.1
          omega
        · have hi0 : i = 0 := by
            have : ¬ (0 + (i : Int)) > 0 := fun z => e (decide_eq_true z)
            omega
          refine ⟨rfl, _, rfl, by omega, ?_⟩
          subst hi0
          have e0 : textR (rs.take 0) = ("" : Str) := by
            unfold textR
            show Txt.join "\n" [] = _
            rw [join_none]
            decide +kernel
          rw [e0, emp2, take_snoc hr1]
          unfold textR
          show lineR r = Txt.join "\n" [lineR r]
          rw [join_one]
      · obtain ⟨rfl, z, rfl, hzl, hz⟩ := hM
        refine ⟨_, rfl, _, rfl, _, rfl, D, _, _, _, rfl, rfl, sm2.seq hD', by rw [zi]; exact atI_nat hx, _, r, rfl, hr2.same sm2, okr.1, by omega, fun H4 s4 => ?_⟩
        refine ⟨_, _, rfl, rfl, small_line (by omega), sm2.trans s4, some (.int (0 + (i : Int))), ?_⟩
        rw [← hz]
        rfl
    · obtain ⟨sm2, y4, rfl⟩ := hp
      have exl : ((xs.length : Nat) : Int).toNat = rs.length := by
        have := hR.1
        omega
      rw [exl, List.take_of_length_le (Nat.le_refl _)]
      refine ⟨_, rfl, D, _, rfl, .inl (sm2.seq hD'), fun Hd nHd => ?_⟩
      have u1 := same_upd nHd (o := .lst xs)
      have s6 := s5.trans (sm2.trans u1)
      have hR6 := hR.same (sm2.trans u1)
      have t6 := ht.same s6
      have D6 : SqL K (upd H' Hd (.lst xs)) D xs := u1.seq (sm2.seq hD')
      have hHd : SqL K (upd H' Hd (.lst xs)) Hd xs := .inl (.inl upd_same)
      generalize upd H' Hd (.lst xs) = H6 at hR6 t6 D6 hHd ⊢
      have tl := text_len hok
      refine ⟨_, rfl, Hd, xs, rs, rfl, hHd, hR6, fun r hr => ⟨(hok r hr).1, by have := (hok r hr).2; omega⟩, by omega, t6, fun H7 k7 => ?_⟩
      have sh := shaped_rows hrok
      have R7 := hR6.kp t6 k7
      refine ⟨_, rfl, _, rfl, _, _, .lst (k7.seq t6 hHd) (dpRows R7), .lst (k7.seq t6 D6) (dpRows R7), sh, sh, _, rfl, ?_⟩
      rw [SeqAt.eqv_refl _ (SeqAt.canLay_of_shaped sh)]
      refine iteF ⟨_, rfl, .str (textR rs), .ty "str", _, _, true, rfl, .ty _, .base (.str _), kit_ty (by decide +kernel), true, rfl, iteF ?_⟩
      refine ⟨_, rfl, _, rfl, rfl, _, rfl, ?_⟩
      rw [decide_eq_true rfl]
      refine iteF ⟨_, rfl, textR rs, rs, rfl, by omega, rdAll_text hrok, k7.1, fun H8 B ys k8 hB hX => ?_⟩
      refine ⟨_, rfl, B, ys, rs, rfl, .inl (.inl hB), hX, fun r hr => ⟨(hok r hr).1.some, by have := (hok r hr).2; omega⟩, fun H9 s9 => ⟨true, rfl, iteT ?_⟩⟩
      have k9 := k8.trans (Kp.same k8.1 s9)
      refine ⟨_, rfl, _, rfl, _, _, .lst (.inl (.inl (s9 _ _ hB))) (dpRows (hX.same s9)), .lst (k9.seq k7.1 (k7.seq t6 D6)) (dpRows (R7.kp k7.1 k9)), sh, sh, ?_⟩
      rw [SeqAt.eqv_refl _ (SeqAt.canLay_of_shaped sh)]
      exact q H9
end
/-! ### the head: facts by names, the run -/
def dd (x : Str) (i : Nat) : He.DefD := ⟨(x, none), x, x, defArgs (top i), defBody (top i), defScope (top i), [], []⟩
def fn : List He.DefD := [dd "is_sign" 5, dd "is_word" 6, dd "is_number" 11, dd "is_row_of_words" 12, dd "is_row" 13, dd "check_rows" 14, dd "written_row" 19, dd "written" 20, dd "read_number" 21, dd "read_words" 22, dd "read_row" 23, dd "read" 24, dd "_law_cell_at" 26, dd "_law_sign_by" 27, dd "_law_word_by" 28, dd "_law_near" 29, dd "_law_menu" 30, dd "_law_whole" 31, dd "_law_texts" 32, dd "_law_rows_told" 33, dd "_law_any_row" 34, dd "_law_line" 35, dd "law" 36]
def fa : List He.Fa := [.glo "is_sign",
  .glo "is_word",
  .glo "is_number",
  .glo "is_row_of_words",
  .glo "is_row",
  .glo "check_rows",
  .glo "written_row",
  .glo "written",
  .glo "read_number",
  .glo "read_words",
  .glo "read_row",
  .glo "read",
  .glo "_law_cell_at",
  .glo "_law_sign_by",
  .glo "_law_word_by",
  .glo "_law_near",
  .glo "_law_menu",
  .glo "_law_whole",
  .glo "_law_texts",
  .glo "_law_rows_told",
  .glo "_law_any_row",
  .glo "_law_line",
  .glo "law",
  .int "LONGEST" 40,
  .int "LAST_BLOCK" 999999999,
  .int "MOST_FIGURES" 9,
  .free "isinstance",
  .free "str",
  .free "all",
  .free "len",
  .free "bool",
  .free "int",
  .free "tuple",
  .free "enumerate",
  .free "list",
  .free "range",
  .free "reversed",
  .glo "PLAIN_KINDS",
  .glo "BLOCK_KINDS",
  .glo "SIGNS",
  .glo "KINDS",
  .glo "NoRow",
  .exc "NoRow"]
def tf : List He.Defn := [("is_word", none), ("is_row_of_words", none)]
def ts : List He.Tab := [(fun K => He.ga K "SIGNS", ["keep", "cut", "put", "take", "lay"]), (fun K => He.ga K "KINDS", ["=", "-", "+", "<", ">"])]
def kv_SIGNS : List (Str × He.Dv) := [("keep", .str "="), ("cut", .str "-"), ("put", .str "+"), ("take", .str "<"), ("lay", .str ">")]
def kv_KINDS : List (Str × He.Dv) := [("=", .str "keep"), ("-", .str "cut"), ("+", .str "put"), ("<", .str "take"), (">", .str "lay")]
def ex (K : PySem.W.Frag) : Bool := tupB K (He.ga K "PLAIN_KINDS") plainK && tupB K (He.ga K "BLOCK_KINDS") blockK && He.valsB K (He.ga K "SIGNS") kv_SIGNS && He.valsB K (He.ga K "KINDS") kv_KINDS && onlyB K (He.ga K "KINDS") ["=", "-", "+", "<", ">"]
abbrev R : PySem.W.OpenRow := PySem.W.OpenLaw.row PySem.Challenge.rw_redraft_k11_written_and_read
abbrev hk : PySem.W.Hook := He.hookX 4 fa fn ts tf ex
def ob (s : PySem.W.SharedT) : He.AlX := He.obsX 4 fa fn ts tf ex (HandSHeadRun.getT s)
theorem ob_eq (s : PySem.W.SharedT) : ob s = hk.obs s.abs := He.obsX_eq (HandSHeadRun.getT_eq s)
abbrev loose0 : List Str := ["RedraftError", "NoRow", "is_sign", "is_word", "is_number", "is_row_of_words", "is_row", "check_rows", "written_row", "written", "read_number", "read_words", "read_row", "read", "_law_cell_at", "_law_sign_by", "_law_word_by", "_law_near", "_law_menu", "_law_whole", "_law_texts", "_law_rows_told", "_law_any_row", "_law_line", "LONGEST", "LAST_BLOCK", "PLAIN_KINDS", "BLOCK_KINDS", "SIGNS", "KINDS"]
abbrev loose1 : List Str := ["MOST_FIGURES"]
abbrev loose : List Str := loose0 ++ loose1
theorem run (w : World) : HandSHeadRun.RunEq R (PySem.W.view R.prog [36]) hk ob 4000 loose w := by
  revert w
  exact PySem.W.byRow2 "special-get-raises" (fun w => by
    intro os
    kernel_rfl) (fun w => by
    intro os
    kernel_rfl)
theorem facts {w : World} {h : Heap} {K : PySem.W.Frag} {mg : Str → Option Value} {f : Addr} (X : K.In h) (G : h.Ns mainGlobals mg) (hfa : mg ("law" : Str) = some (.ref f)) (c : He.SaysX fa fn ts tf ex w h K) :
    LamX.LawAtS PySem.Challenge.rw_redraft_k11_written_and_read w K (L2.CX PySem.Challenge.rw_redraft_k11_written_and_read.prog w) 9 63 "_law_script" mg f h := by
  have d := c.t.d
  obtain ⟨d_is_sign, F_is_sign⟩ := d.def_ 0 (d := dd "is_sign" 5) rfl
  obtain ⟨d_is_word, F_is_word⟩ := d.def_ 1 (d := dd "is_word" 6) rfl
  obtain ⟨d_is_number, F_is_number⟩ := d.def_ 2 (d := dd "is_number" 11) rfl
  obtain ⟨d_is_row_of_words, F_is_row_of_words⟩ := d.def_ 3 (d := dd "is_row_of_words" 12) rfl
  obtain ⟨d_is_row, F_is_row⟩ := d.def_ 4 (d := dd "is_row" 13) rfl
  obtain ⟨d_check_rows, F_check_rows⟩ := d.def_ 5 (d := dd "check_rows" 14) rfl
  obtain ⟨d_written_row, F_written_row⟩ := d.def_ 6 (d := dd "written_row" 19) rfl
  obtain ⟨d_written, F_written⟩ := d.def_ 7 (d := dd "written" 20) rfl
  obtain ⟨d_read_number, F_read_number⟩ := d.def_ 8 (d := dd "read_number" 21) rfl
  obtain ⟨d_read_words, F_read_words⟩ := d.def_ 9 (d := dd "read_words" 22) rfl
  obtain ⟨d_read_row, F_read_row⟩ := d.def_ 10 (d := dd "read_row" 23) rfl
  obtain ⟨d_read, F_read⟩ := d.def_ 11 (d := dd "read" 24) rfl
  obtain ⟨d__law_cell_at, F__law_cell_at⟩ := d.def_ 12 (d := dd "_law_cell_at" 26) rfl
  obtain ⟨d__law_sign_by, F__law_sign_by⟩ := d.def_ 13 (d := dd "_law_sign_by" 27) rfl
  obtain ⟨d__law_word_by, F__law_word_by⟩ := d.def_ 14 (d := dd "_law_word_by" 28) rfl
  obtain ⟨d__law_near, F__law_near⟩ := d.def_ 15 (d := dd "_law_near" 29) rfl
  obtain ⟨d__law_menu, F__law_menu⟩ := d.def_ 16 (d := dd "_law_menu" 30) rfl
  obtain ⟨d__law_whole, F__law_whole⟩ := d.def_ 17 (d := dd "_law_whole" 31) rfl
  obtain ⟨d__law_texts, F__law_texts⟩ := d.def_ 18 (d := dd "_law_texts" 32) rfl
  obtain ⟨d__law_rows_told, F__law_rows_told⟩ := d.def_ 19 (d := dd "_law_rows_told" 33) rfl
  obtain ⟨d__law_any_row, F__law_any_row⟩ := d.def_ 20 (d := dd "_law_any_row" 34) rfl
  obtain ⟨d__law_line, F__law_line⟩ := d.def_ 21 (d := dd "_law_line" 35) rfl
  obtain ⟨d_law, F_law⟩ := d.def_ 22 (d := dd "law" 36) rfl
  have e := hfa.symm.trans (He.glo_ok X G (d.fact 22 (f := .glo "law") rfl))
  cases e
  have g_is_sign := He.glo_ok X G (d.fact 0 (f := .glo "is_sign") rfl)
  have g_is_word := He.glo_ok X G (d.fact 1 (f := .glo "is_word") rfl)
  have g_is_number := He.glo_ok X G (d.fact 2 (f := .glo "is_number") rfl)
  have g_is_row_of_words := He.glo_ok X G (d.fact 3 (f := .glo "is_row_of_words") rfl)
  have g_is_row := He.glo_ok X G (d.fact 4 (f := .glo "is_row") rfl)
  have g_check_rows := He.glo_ok X G (d.fact 5 (f := .glo "check_rows") rfl)
  have g_written_row := He.glo_ok X G (d.fact 6 (f := .glo "written_row") rfl)
  have g_written := He.glo_ok X G (d.fact 7 (f := .glo "written") rfl)
  have g_read_number := He.glo_ok X G (d.fact 8 (f := .glo "read_number") rfl)
  have g_read_words := He.glo_ok X G (d.fact 9 (f := .glo "read_words") rfl)
  have g_read_row := He.glo_ok X G (d.fact 10 (f := .glo "read_row") rfl)
  have g_read := He.glo_ok X G (d.fact 11 (f := .glo "read") rfl)
  have g__law_cell_at := He.glo_ok X G (d.fact 12 (f := .glo "_law_cell_at") rfl)
  have g__law_sign_by := He.glo_ok X G (d.fact 13 (f := .glo "_law_sign_by") rfl)
  have g__law_word_by := He.glo_ok X G (d.fact 14 (f := .glo "_law_word_by") rfl)
  have g__law_near := He.glo_ok X G (d.fact 15 (f := .glo "_law_near") rfl)
  have g__law_menu := He.glo_ok X G (d.fact 16 (f := .glo "_law_menu") rfl)
  have g__law_whole := He.glo_ok X G (d.fact 17 (f := .glo "_law_whole") rfl)
  have g__law_texts := He.glo_ok X G (d.fact 18 (f := .glo "_law_texts") rfl)
  have g__law_rows_told := He.glo_ok X G (d.fact 19 (f := .glo "_law_rows_told") rfl)
  have g__law_any_row := He.glo_ok X G (d.fact 20 (f := .glo "_law_any_row") rfl)
  have g__law_line := He.glo_ok X G (d.fact 21 (f := .glo "_law_line") rfl)
  obtain ⟨t_LONGEST, m_LONGEST⟩ := He.int_ok X G (d.fact 23 (f := .int "LONGEST" 40) rfl)
  obtain ⟨t_LAST_BLOCK, m_LAST_BLOCK⟩ := He.int_ok X G (d.fact 24 (f := .int "LAST_BLOCK" 999999999) rfl)
  obtain ⟨t_MOST_FIGURES, m_MOST_FIGURES⟩ := He.int_ok X G (d.fact 25 (f := .int "MOST_FIGURES" 9) rfl)
  have m_isinstance := He.free_ok X G (d.fact 26 (f := .free "isinstance") rfl)
  have m_str := He.free_ok X G (d.fact 27 (f := .free "str") rfl)
  have m_all := He.free_ok X G (d.fact 28 (f := .free "all") rfl)
  have m_len := He.free_ok X G (d.fact 29 (f := .free "len") rfl)
  have m_bool := He.free_ok X G (d.fact 30 (f := .free "bool") rfl)
  have m_int := He.free_ok X G (d.fact 31 (f := .free "int") rfl)
  have m_tuple := He.free_ok X G (d.fact 32 (f := .free "tuple") rfl)
  have m_enumerate := He.free_ok X G (d.fact 33 (f := .free "enumerate") rfl)
  have m_list := He.free_ok X G (d.fact 34 (f := .free "list") rfl)
  have m_range := He.free_ok X G (d.fact 35 (f := .free "range") rfl)
  have m_reversed := He.free_ok X G (d.fact 36 (f := .free "reversed") rfl)
  have m_PLAIN_KINDS := He.glo_ok X G (d.fact 37 (f := .glo "PLAIN_KINDS") rfl)
  have m_BLOCK_KINDS := He.glo_ok X G (d.fact 38 (f := .glo "BLOCK_KINDS") rfl)
  have m_SIGNS := He.glo_ok X G (d.fact 39 (f := .glo "SIGNS") rfl)
  have m_KINDS := He.glo_ok X G (d.fact 40 (f := .glo "KINDS") rfl)
  have m_NoRow := He.glo_ok X G (d.fact 41 (f := .glo "NoRow") rfl)
  have X_NoRow : ExcC K mg "NoRow" (He.ga K "NoRow") := by
    obtain ⟨e1, e2, e3, e4⟩ := He.exc_ok (d.fact 42 (f := .exc "NoRow") rfl)
    exact ⟨m_NoRow, e1, e2, e3, e4⟩
  have more := c.more
  unfold ex at more
  simp only [Bool.and_eq_true] at more
  obtain ⟨⟨⟨⟨x_PLAIN_KINDS, x_BLOCK_KINDS⟩, y_SIGNS⟩, y_KINDS⟩, o_KINDS⟩ := more
  have k_PLAIN_KINDS := tupB_ok x_PLAIN_KINDS
  have k_BLOCK_KINDS := tupB_ok x_BLOCK_KINDS
  obtain ⟨es_SIGNS, n_SIGNS, D_SIGNS⟩ := c.t.tab 0 (t := (fun K => He.ga K "SIGNS", ["keep", "cut", "put", "take", "lay"])) rfl
  have k_SIGNS : ∀ q ∈ kv_SIGNS, KDct K w (He.ga K "SIGNS") q.1 (He.Dv.v K q.2) := fun q hq => by
    obtain ⟨u, h1, h2⟩ := He.valsB_ok y_SIGNS hq
    exact ⟨es_SIGNS, n_SIGNS, u, D_SIGNS.at_, D_SIGNS.lit, h1, h2⟩
  obtain ⟨es_KINDS, n_KINDS, D_KINDS⟩ := c.t.tab 1 (t := (fun K => He.ga K "KINDS", ["=", "-", "+", "<", ">"])) rfl
  have k_KINDS : ∀ q ∈ kv_KINDS, KDct K w (He.ga K "KINDS") q.1 (He.Dv.v K q.2) := fun q hq => by
    obtain ⟨u, h1, h2⟩ := He.valsB_ok y_KINDS hq
    exact ⟨es_KINDS, n_KINDS, u, D_KINDS.at_, D_KINDS.lit, h1, h2⟩
  have b_is_sign : Binds K d_is_sign ["sign"] [] := F_is_sign.bindsN fun _ _ _ _ _ _ us hl => match us, hl with | [_], _ => rfl
  have b_is_word : Binds K d_is_word ["word"] [] := F_is_word.bindsN fun _ _ _ _ _ _ us hl => match us, hl with | [_], _ => rfl
  have b_is_number : Binds K d_is_number ["kind", "number"] [] := F_is_number.bindsN fun _ _ _ _ _ _ us hl => match us, hl with | [_, _], _ => rfl
  have b_is_row_of_words : Binds K d_is_row_of_words ["words"] [] := F_is_row_of_words.bindsN fun _ _ _ _ _ _ us hl => match us, hl with | [_], _ => rfl
  have b_is_row : Binds K d_is_row ["row"] [] := F_is_row.bindsN fun _ _ _ _ _ _ us hl => match us, hl with | [_], _ => rfl
  have b_check_rows : Binds K d_check_rows ["rows"] [] := F_check_rows.bindsN fun _ _ _ _ _ _ us hl => match us, hl with | [_], _ => rfl
  have b_written_row : Binds K d_written_row ["row"] [] := F_written_row.bindsN fun _ _ _ _ _ _ us hl => match us, hl with | [_], _ => rfl
  have b_written : Binds K d_written ["rows"] [] := F_written.bindsN fun _ _ _ _ _ _ us hl => match us, hl with | [_], _ => rfl
  have b_read_number : Binds K d_read_number ["figures"] [] := F_read_number.bindsN fun _ _ _ _ _ _ us hl => match us, hl with | [_], _ => rfl
  have b_read_words : Binds K d_read_words ["pieces"] [] := F_read_words.bindsN fun _ _ _ _ _ _ us hl => match us, hl with | [_], _ => rfl
  have b_read_row : Binds K d_read_row ["line"] [] := F_read_row.bindsN fun _ _ _ _ _ _ us hl => match us, hl with | [_], _ => rfl
  have b_read : Binds K d_read ["line"] [] := F_read.bindsN fun _ _ _ _ _ _ us hl => match us, hl with | [_], _ => rfl
  have b__law_cell_at : Binds K d__law_cell_at ["_law_script", "_law_k"] [] := F__law_cell_at.bindsN fun _ _ _ _ _ _ us hl => match us, hl with | [_, _], _ => rfl
  have b__law_sign_by : Binds K d__law_sign_by ["_law_cell"] [] := F__law_sign_by.bindsN fun _ _ _ _ _ _ us hl => match us, hl with | [_], _ => rfl
  have b__law_word_by : Binds K d__law_word_by ["_law_cell"] [] := F__law_word_by.bindsN fun _ _ _ _ _ _ us hl => match us, hl with | [_], _ => rfl
  have b__law_near : Binds K d__law_near ["_law_word", "_law_cell"] [] := F__law_near.bindsN fun _ _ _ _ _ _ us hl => match us, hl with | [_, _], _ => rfl
  have b__law_menu : Binds K d__law_menu ["_law_script"] [] := F__law_menu.bindsN fun _ _ _ _ _ _ us hl => match us, hl with | [_], _ => rfl
  have b__law_whole : Binds K d__law_whole ["_law_found"] [] := F__law_whole.bindsN fun _ _ _ _ _ _ us hl => match us, hl with | [_], _ => rfl
  have b__law_texts : Binds K d__law_texts ["_law_found"] [] := F__law_texts.bindsN fun _ _ _ _ _ _ us hl => match us, hl with | [_], _ => rfl
  have b__law_rows_told : Binds K d__law_rows_told ["_law_found"] [] := F__law_rows_told.bindsN fun _ _ _ _ _ _ us hl => match us, hl with | [_], _ => rfl
  have b__law_any_row : Binds K d__law_any_row ["_law_menu_here", "_law_cell"] [] := F__law_any_row.bindsN fun _ _ _ _ _ _ us hl => match us, hl with | [_, _], _ => rfl
  have b__law_line : Binds K d__law_line ["_law_row"] [] := F__law_line.bindsN fun _ _ _ _ _ _ us hl => match us, hl with | [_], _ => rfl
  have bL := FunD.bindsA (ps := ["_law_script"]) F_law fun _ _ _ _ _ _ us hl => match us, hl with | [_], _ => rfl
  have TT : ∀ q ∈ tf, (He.cT K q).2 ∈ tf.map fun q => (He.cT K q).2 := fun q hq => List.mem_map_of_mem (f := fun q => (He.cT K q).2) hq
  refine ⟨d_law, tf.map (He.cT K), spLaw K (tf.map fun q => (He.cT K q).2), fun p hp => ?_, fun p hp => ?_, fun p hp => ?_, fun s u => bL s [u] rfl, fun H a ns hl _ hT hS => ⟨a, ns, rfl, hS, fun P hP => ?_, fun _ => rfl⟩, fun base KB GB TBs => ?_⟩
  · obtain ⟨q, hq, rfl⟩ := List.mem_map.mp hp
    exact c.empty q hq
  · obtain ⟨q, hq, rfl⟩ := List.mem_map.mp hp
    exact c.out q hq
  · obtain ⟨q, hq, rfl⟩ := List.mem_map.mp hp
    exact PySem.W.codeHd_of_K X (c.hd q hq)
  · obtain ⟨q, hq, rfl⟩ := List.mem_map.mp hP
    exact ⟨#[], hT _ (List.mem_map_of_mem hq), trivial⟩
  · have TB : ∀ q ∈ tf, GxR.TabB base mg (He.codeOf K q) (He.cT K q).2 := fun q hq => by
      have tb := TBs _ (List.mem_map_of_mem (f := He.cT K) hq)
      exact ⟨tb.code, tb.bm, tb.gP⟩
    have q_is_word : (("is_word", none) : He.Defn) ∈ tf := by unfold tf; simp
    have q_is_row_of_words : (("is_row_of_words", none) : He.Defn) ∈ tf := by unfold tf; simp
    have kSI : ∀ k ∈ plainK ++ blockK, KDct K w (He.ga K "SIGNS") k (.str (signK k)) := fun k hk => by
      have key : ∀ k ∈ plainK ++ blockK, (k, He.Dv.str (signK k)) ∈ kv_SIGNS := by
        intro k hk
        have hk : k ∈ (["keep", "cut", "put", "take", "lay"] : List Str) := hk
        unfold kv_SIGNS
        simp only [List.mem_cons, List.not_mem_nil, or_false] at hk
        rcases hk with rfl | rfl | rfl | rfl | rfl
        · exact .head _
        · exact .tail _ (.head _)
        · exact .tail _ (.tail _ (.head _))
        · exact .tail _ (.tail _ (.tail _ (.head _)))
        · exact .tail _ (.tail _ (.tail _ (.tail _ (.head _))))
      exact k_SIGNS _ (key k hk)
    have kKI : KindAt K w (He.ga K "KINDS") := kind_at ⟨es_KINDS, n_KINDS, D_KINDS⟩ o_KINDS fun z k hz => by
      have key : (z, He.Dv.str k) ∈ kv_KINDS := by
        unfold kv_KINDS
        rcases hz with ⟨rfl, rfl⟩ | ⟨rfl, rfl⟩ | ⟨rfl, rfl⟩ | ⟨rfl, rfl⟩ | ⟨rfl, rfl⟩
        · exact .head _
        · exact .tail _ (.head _)
        · exact .tail _ (.tail _ (.head _))
        · exact .tail _ (.tail _ (.tail _ (.head _)))
        · exact .tail _ (.tail _ (.tail _ (.tail _ (.head _))))
      exact k_KINDS _ key
    have GW := ok_is_word (P := PySem.Challenge.rw_redraft_k11_written_and_read.prog) (w := w) (mg := mg) (base := base) F_is_word rfl (TT _ q_is_word) (TB _ q_is_word) F_is_sign b_is_sign g_is_sign m_isinstance m_str m_len m_all m_LONGEST
    have GWX := ok_is_wordX (P := PySem.Challenge.rw_redraft_k11_written_and_read.prog) (w := w) (mg := mg) (base := base) F_is_word rfl (TT _ q_is_word) (TB _ q_is_word) F_is_sign b_is_sign g_is_sign m_isinstance m_str m_len m_all m_LONGEST
    have GRWX := ok_row_wordsX F_is_row_of_words rfl (TT _ q_is_row_of_words) (TB _ q_is_row_of_words) GWX F_is_word.kp b_is_word g_is_word m_isinstance m_tuple m_len m_all
    have GN := ok_is_number (P := PySem.Challenge.rw_redraft_k11_written_and_read.prog) (w := w) (mg := mg) (base := base) F_is_number m_isinstance m_int m_bool m_BLOCK_KINDS k_BLOCK_KINDS m_LAST_BLOCK
    have GRW := ok_row_words F_is_row_of_words rfl (TT _ q_is_row_of_words) (TB _ q_is_row_of_words) GW F_is_word.kp b_is_word g_is_word m_isinstance m_tuple m_len m_all
    have GR := ok_is_row F_is_row GN F_is_number.kp b_is_number g_is_number GRW F_is_row_of_words.kp b_is_row_of_words g_is_row_of_words m_isinstance m_tuple m_len m_PLAIN_KINDS k_PLAIN_KINDS m_BLOCK_KINDS k_BLOCK_KINDS
    have GC := ok_check_rows F_check_rows GR F_is_row.kp b_is_row g_is_row m_isinstance m_list m_enumerate
    have GRN := ok_read_number (P := PySem.Challenge.rw_redraft_k11_written_and_read.prog) (w := w) (mg := mg) (base := base) F_read_number X_NoRow m_len m_int m_MOST_FIGURES
    have GRWd := ok_read_words F_read_words GRWX F_is_row_of_words.kp b_is_row_of_words g_is_row_of_words X_NoRow m_tuple
    have GRR := ok_read_row F_read_row GRN F_read_number.kp b_read_number g_read_number GRWd F_read_words.kp b_read_words g_read_words X_NoRow m_len m_KINDS kKI m_BLOCK_KINDS k_BLOCK_KINDS
    have GCe := ok_cell_at (P := PySem.Challenge.rw_redraft_k11_written_and_read.prog) (w := w) (mg := mg) (base := base) F__law_cell_at m_len
    have GS := ok_sign_by (P := PySem.Challenge.rw_redraft_k11_written_and_read.prog) (w := w) (mg := mg) (base := base) F__law_sign_by
    have GWB := ok_word_by (P := PySem.Challenge.rw_redraft_k11_written_and_read.prog) (w := w) (mg := mg) (base := base) F__law_word_by F__law_sign_by b__law_sign_by g__law_sign_by m_range
    have GNe := ok_near F__law_near GS F__law_sign_by.kp b__law_sign_by g__law_sign_by m_len m_list m_reversed
    have GM := ok_menu F__law_menu GCe F__law_cell_at.kp b__law_cell_at g__law_cell_at GWB F__law_word_by.kp b__law_word_by g__law_word_by GNe F__law_near.kp b__law_near g__law_near m_range
    have GWh := ok_whole (P := PySem.Challenge.rw_redraft_k11_written_and_read.prog) (w := w) (mg := mg) (base := base) F__law_whole m_isinstance m_int m_bool
    have GRT := ok_rows_told F__law_rows_told GWh F__law_whole.kp b__law_whole g__law_whole (ok_texts F__law_texts m_isinstance m_str m_all) F__law_texts.kp b__law_texts g__law_texts m_isinstance m_str m_list m_tuple m_len
    have GAR := ok_any_row (P := PySem.Challenge.rw_redraft_k11_written_and_read.prog) (w := w) (mg := mg) (base := base) F__law_any_row m_tuple m_range
    
    have GWr := ok_written_row (P := PySem.Challenge.rw_redraft_k11_written_and_read.prog) (w := w) (mg := mg) (base := base) F_written_row m_SIGNS kSI m_BLOCK_KINDS k_BLOCK_KINDS m_str
    have GWt := ok_written F_written GC F_check_rows.kp b_check_rows g_check_rows GWr F_written_row.kp b_written_row g_written_row
    have GRd := ok_read F_read GRR F_read_row.kp b_read_row g_read_row m_isinstance m_str
    have GLn := ok_line (P := PySem.Challenge.rw_redraft_k11_written_and_read.prog) (w := w) (mg := mg) (base := base) F__law_line m_str
    exact ok_law F_law GM F__law_menu.kp b__law_menu g__law_menu GAR F__law_any_row.kp b__law_any_row g__law_any_row GLn F__law_line.kp b__law_line g__law_line GWt F_written.kp b_written g_written GRd F_read.kp b_read g_read GRT F__law_rows_told.kp b__law_rows_told g__law_rows_told m_list m_len m_range m_isinstance m_str
end Rd
open PySem PySem.W PySem.Calls PyProof.Rows
set_option maxHeartbeats 0 in
theorem PySem.Challenge.cw_redraft_k11_written_and_read_holds : PySem.Challenge.rw_redraft_k11_written_and_read.Holds := by
  w_on; o_law
  refine HandSHeadRun.head_any (r := OpenLaw.row PySem.Challenge.rw_redraft_k11_written_and_read) (q := view (OpenLaw.row PySem.Challenge.rw_redraft_k11_written_and_read).prog [36]) (H := Rd.hk) (ob := Rd.ob) (M := 4000) (loose := Rd.loose) (d := HandSHeadRun.topDef (OpenLaw.row PySem.Challenge.rw_redraft_k11_written_and_read).prog 36) (kwd := []) Rd.ob_eq
    (by kernel_rfl) (fun s => by kernel_rfl) Rd.run (by kernel_rfl) (by kernel_rfl) (by kernel_rfl) (by rfl) (by first | assumption | decide +kernel) (by decide +kernel) ⟨rfl, rfl, rfl, rfl, rfl, by decide +kernel⟩ ?hw ?hc
  case hw => w_witness2
  case hc =>
    refine LamX.walk_ofTsE (l := PySem.Challenge.rw_redraft_k11_written_and_read) (n := 63) (k := 9) (x := "_law_script") (CX := fun w => L2.CX PySem.Challenge.rw_redraft_k11_written_and_read.prog w) rfl (by decide) (by kernel_rfl) ⟨rfl, by decide, by decide⟩ ?F fun w H s e s' z => ?z
    case z =>
      obtain ⟨_, _, _, _, _, _, _, _, _, _, _, _, z⟩ := z
      exact z
    case F =>
      intro w mg fa h Y G hmg0
      obtain ⟨K, KX, c⟩ := Y
      have hmg : mg ("law" : PySem.Str) = some (.ref fa) := by
        have e : (HandSHeadRun.topDef (OpenLaw.row PySem.Challenge.rw_redraft_k11_written_and_read).prog 36).name = ("law" : PySem.Str) := by kernel_rfl
        rw [← e]
        exact hmg0
      exact ⟨K, KX, Rd.facts KX G hmg c⟩

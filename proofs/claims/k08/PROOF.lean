import PyProof.Rows.All
import Wide.All
import OpenK.AllK
import Wide.FinOn
import HandS.ForMost
import HandS.DictComp
import HandS.SetFor
import HandS.Strs
import PyProof.TypeEq
import HandS.More
import HandS.Style
import HandS.Conv
import HandS.IsInst
import HandS.Zip
import KE.DataMinMax
import HandS.SortKw
import KE.KDictList
import KE.KDictCopyH
import PyProof.P3Eq
import HandS.ForExc
import HandS.ExcIs
import HandS.ExcValue
import HandS.Nested
import HandS.NestedK
import HandS.CallLocal
import HandS.Deep
import HandS.EndTab
import KE.KNestM
import PySem.Challenge.RW_fewladders_k08_whole_small_halls_tried
set_option Elab.async false
set_option maxRecDepth 100000
set_option Elab.async false
set_option maxRecDepth 100000
namespace FR
open PySem PySem.Spec PyProof.Rows L2
/-! ### set(xs), xs a list of ints -/
section
variable {P : Program} {w : World} {A : Around} {E : Value → Shared → Prop} {s : Shared}
abbrev freshSet (w : World) : Obj := { cls := .type "set", dict := none, data := .set #[] 0 (.fresh 0 0 (!w.params.followText "set-order")) }
set_option maxHeartbeats 3200000 in
theorem set_ints {l : Addr} {its : Array Value} {ns : List Int} {Q : Value → Shared → Prop} (free : A.handled = none) (at_l : s.heap.IsList l its) (hint : IntsAre its.toList ns) (few : ns.length + 1 < scanBound)
    (q : ∀ (g : Heap) (tk c : Nat), SetR w g s.heap.objs.size (fun j => decide (j ∈ ns)) c → (∀ b o, s.heap.get? b = some o → g.get? b = some o) → Q (.ref s.heap.objs.size) { s with heap := g, toks := tk }) :
    wpAny (model P w) A (call (.type "set") [.ref l]) Q E s := by
  have size : its.size = ns.length := (Array.length_toList (xs := its)).symm.trans (IntsAre.length hint)
  obtain ⟨c, tl, hmro⟩ := F.called_set.mro
  have f1 := F.called_set.made
  have f2 := F.called_set.sub
  have f3 := F.called_set.notType
  have f4 := F.called_set.canCreate
  have f5 := F.typeCall_set_1 (.ref l)
  refine wpAny_call (codeAny_of_tree ?_)
  show wpAny _ _ (callAny (.type "set") _) _ _ _
  refine wpAny_pure ⟨Code.quiet_builtin _ (by decide +kernel), codeAny_builtin F.entry_type_call ?_⟩
  rw [Around.under_plain (weight_type_call_type "set" [.ref l] []) rfl]
  repeat (any_goals (first | assumption | wp_step))
  -- the empty set
  refine codeAny_mono (code_set_led1 (.ref l) (E := E) (Q₁ := fun v t => v = .ref s.heap.objs.size ∧ t = { s with heap := s.heap.push (freshSet w) }) ⟨rfl, rfl⟩) fun out t made => ?_
  match out, made with
  | .error _, made => exact made
  | .ok (.ret v), made =>
    obtain ⟨e1, e2⟩ := made
    subst e1 e2
    generalize hg : s.heap.push (freshSet w) = g0
    have new : g0.get? s.heap.objs.size = some (freshSet w) := by rw [← hg]; exact Heap.get?_push_size _ rfl
    have old : ∀ b o, s.heap.get? b = some o → g0.get? b = some o := fun b o e => by rw [← hg]; exact Heap.get?_push_of_some _ e
    have gsz : g0.objs.size = s.heap.objs.size + 1 := by rw [← hg]; exact Heap.size_push ..
    have ty : Shared.TypeIs { s with heap := g0 } (.ref s.heap.objs.size) "set" := ⟨_, new, rfl⟩
    have i1 := F.called_set.init.lookup
    have i2 := F.called_set.init.bind (.ref s.heap.objs.size)
    repeat (any_goals (first | assumption | wp_step))
    -- filled
    refine codeAny_mono (codeAny_call_builtin (R := wants (fun v t => v = .none ∧ ∃ g tk c, t = { s with heap := g, toks := tk } ∧ SetR w g s.heap.objs.size (fun j => decide (j ∈ ns)) c ∧ ∀ b o, s.heap.get? b = some o → g.get? b = some o) E)
      F.called_set.init.plain F.entry_set_init (check_set_init_1 ty ?_)) fun out2 t2 full => ?_
    · obtain ⟨⟨oc, od, odat, osl⟩, ho, hc, n0, hd⟩ := at_l
      simp only at hc hd
      subst hc hd
      have ho0 := old _ _ ho
      have hl0 : g0.IsList l its := ⟨_, ho0, rfl, n0, rfl⟩
      have s1 := F.sub_list_set
      have s2 := F.sub_list_frozenset
      have s3 : (Value.type "list" == Value.type "dict") = false := by decide
      unfold Builtin.«set.__init__» noKeywords Builtin.Frozenset.updateFrom
      generalize hPI : pyIter = PI
      wp_walk
      subst hPI
      refine wpAny_pyIter_list hl0 ?_
      refine wpAny_bind (wpAny_runValue ?_)
      have ll : l < s.heap.objs.size := Heap.lt_size ho
      have ne1 : l ≠ g0.objs.size := by rw [gsz]; exact Nat.ne_of_lt (Nat.lt_succ_of_lt ll)
      have ne2 : s.heap.objs.size ∉ [g0.objs.size, l] := by
        rw [gsz]
        simp only [List.mem_cons, List.not_mem_nil, or_false, not_or]
        exact ⟨Nat.ne_of_lt (Nat.lt_succ_self _), Nat.ne_of_gt ll⟩
      refine set_update_ints ((Walks.list (by simp [free]) _ l ne1 its).toS) s.heap.objs.size ne2 ns size few (fun i v hv => ?_) (its.size - 0) 0 _ (by omega) (Nat.zero_le _) ⟨⟨_, Heap.get?_push_size _ rfl, rfl, rfl⟩, hl0.push _⟩
        ⟨0, Nat.le_refl 0, setR_new_at (Heap.get?_push_of_some _ new)⟩ ?_
      · have hv : its[i]? = some v := hv
        have hi : i < ns.length := by rw [← size]; exact (Array.getElem?_eq_some_iff.mp hv).1
        obtain ⟨t, e⟩ := PyProof.Rows.IntsAre.int_at hint i v (by rw [Array.getElem?_toList]; exact hv)
        exact ⟨ns[i], t, List.getElem?_eq_getElem hi, by rw [e, List.getD_eq_getElem?_getD, List.getElem?_eq_getElem hi]; rfl⟩
      · intro t2 c2 mv _ hS
        obtain ⟨g2, gens2, drawn2, toks2, os2⟩ := t2
        obtain rfl : gens2 = s.gens := mv.gens
        obtain rfl : drawn2 = s.drawn := mv.drawn
        obtain rfl : os2 = s.os := mv.os
        show wpAny _ _ _ _ _ _
        refine wpAny_pure ?_
        show wpAny _ _ (ret Value.none) _ _ _
        refine wpAny_pure ⟨rfl, g2, toks2, c2, rfl, hS, fun b o e => ?_⟩
        have lb : b < s.heap.objs.size := Heap.lt_size e
        refine mv.heap b o ?_ (Heap.get?_push_of_some _ (old b o e))
        simp only [List.mem_cons, List.not_mem_nil, or_false, not_or]
        rw [gsz]
        exact ⟨Nat.ne_of_lt lb, Nat.ne_of_lt (Nat.lt_succ_of_lt lb)⟩
    · match out2, full with
      | .error _, full => exact full
      | .ok (.ret _), full =>
        obtain ⟨rfl, g, tk, c2, rfl, hS, k⟩ := full
        repeat (any_goals (first | assumption | wp_step))
        exact q _ _ _ hS k
      | .ok .next, full => exact full.elim
      | .ok .brk, full => exact full.elim
      | .ok .cont, full => exact full.elim
  | .ok .next, made => exact made.elim
  | .ok .brk, made => exact made.elim
  | .ok .cont, made => exact made.elim
end
section
variable {X : Cx}
/-- set(xs): the members, and how many there are -/
def rSetL (w : World) (K : PySem.W.Frag) : List V → Hp → VK → Prop := fun vs H Q => ∃ (a : Addr) (ns : List Int), vs = [V.ref a] ∧ SqL K H a (ns.map V.int) ∧ ns.length ≤ 1000 ∧
  ∀ (p : Addr) (d : List Int), H p = none → d.Nodup → (∀ k, k ∈ d ↔ k ∈ ns) → Q (.ref p) (upd H p (SetO w p (fun j => decide (j ∈ ns)) d.length))
theorem cr_setL (hc : X.calm = true) : CallR X (.type "set") (rSetL X.w X.K) := by
  intro pins s σ H vs us Q I r h
  obtain ⟨a, ns, rfl, hq, hl, q⟩ := h
  obtain ⟨u, rfl, ru⟩ := vals1 r
  cases ru
  obtain ⟨its, rv, pl, hz⟩ := I.list hq
  have hi : IntsAre its.toArray.toList ns := by simpa using rv.ints
  refine set_ints (I.ok.hd hc) pl.isList hi (Nat.lt_of_le_of_lt (Nat.succ_le_succ hl) (by decide)) fun g tk c R k => ?_
  obtain ⟨o, es, ep, t, ho, hx, hd, ge, nd, hm, hb, hf, hn, hr⟩ := id R
  have hn' : (es.toList.map keyOf).length = c := by rw [List.length_map, Array.length_toList, hn]
  have J : Inv X pins σ (upd H s.heap.objs.size (SetO X.w s.heap.objs.size (fun j => decide (j ∈ ns)) c)) { s with heap := g, toks := tk } := I.laid k (Nat.le_refl _) (setO_new R)
  refine ⟨.ref s.heap.objs.size, _, J, rfl, ?_⟩
  rw [← hn']
  exact q _ _ (I.hok.fresh (Nat.le_refl _)) nd fun i => by rw [← hm i]; simp
end
end FR

set_option Elab.async false
set_option maxRecDepth 100000
namespace FR
open PySem PySem.Spec PyProof.Rows L2
/-! ### {k: v for a in xs for b in f(a)}: two clauses -/
abbrev dc2 (kx vx t0 i0 t1 i1 : Expr) (f0 f1 : List Expr) (sc : Scope) (pos : Pos) : Expr := .DictComp kx vx [⟨t0, i0, f0, 0⟩, ⟨t1, i1, f1, 0⟩] sc pos
section
variable {prog : Program} {w : World} {A : Around} {R : Result → Shared → Prop} {s : Shared} {kx vx t0 i0 t1 i1 : Expr} {f0 f1 : List Expr} {sc : Scope} {pos : Pos} {it : Value} {D : Addr} {env : Env}
/-- the tests of a clause, one after another -/
abbrev clauseTests (fs : List Expr) (env : Env) : Sem Bool := forIn fs true fun c r => if r = true then do let ok ← isTrue c env (eval c env); pure (ForInStep.yield ok) else pure (ForInStep.yield r)
/-- one turn of either clause: the item, the store, the tests, then what is to be done -/
theorem turn_of {d : Nat} {tg src : Expr} {fs : List Expr} {fin : Sem PySem.Fin} {n : Nat} {J : Nat → Shared → Prop}
    (eq : compTurn (dc2 kx vx t0 i0 t1 i1 f0 f1 sc pos) d it (.ref D) env = (do
      standAt src.pos
      match ← pyNext it with
      | none => pure (.done .next)
      | some v =>
        letOwnedTupleGo tg it v
        assign tg env v
        let mut ok := true
        for c in fs do
          if ok then ok ← isTrue c env (eval c env)
        if ok then fin else again (.compLoop (dc2 kx vx t0 i0 t1 i1 f0 f1 sc pos) d it (.ref D) env)))
    (step : wpAny (model prog w) A (pyNext it) (fun r s1 => match r with
      | none => R (.ok .next) s1
      | some v => wpAny (model prog w) A (letOwnedTupleGo tg it v) (fun _ s2 => wpAny (model prog w) A (assign tg env v) (fun _ s3 => wpAny (model prog w) A (clauseTests fs env) (fun ok s4 =>
          if ok = true then wpAny (model prog w) A fin (fun f s5 => f = .again (.compLoop (dc2 kx vx t0 i0 t1 i1 f0 f1 sc pos) d it (.ref D) env) ∧ ∃ m, m < n ∧ J m s5) (notedBy (model prog w) A env fun e s' => R (.error e) s') s4 else ∃ m, m < n ∧ J m s4)
        (notedBy (model prog w) A env fun e s' => R (.error e) s') s3) (notedBy (model prog w) A env fun e s' => R (.error e) s') s2) (notedBy (model prog w) A env fun e s' => R (.error e) s') s1) (notedBy (model prog w) A env fun e s' => R (.error e) s') s) :
    wpAny (model prog w) A (compTurn (dc2 kx vx t0 i0 t1 i1 f0 f1 sc pos) d it (.ref D) env) (fun f s' => match f with
      | .done fl => R (.ok fl) s'
      | .again c => c = .compLoop (dc2 kx vx t0 i0 t1 i1 f0 f1 sc pos) d it (.ref D) env ∧ ∃ m, m < n ∧ J m s') (notedBy (model prog w) A env fun e s' => R (.error e) s') s := by
  rw [eq]
  refine wpAny_bind (wpAny_standAt (wpAny_bind (wpAny_mono step (fun r s1 h1 => ?_) fun _ _ z => z)))
  cases r with
  | none => exact wpAny_pure h1
  | some v =>
    refine wpAny_bind (wpAny_mono h1 (fun _ s2 h2 => wpAny_bind (wpAny_mono h2 (fun _ s3 h3 => wpAny_bind (wpAny_mono h3 (fun ok s4 h4 => ?_) fun _ _ z => z)) fun _ _ z => z)) fun _ _ z => z)
    cases ok with
    | false => exact wpAny_pure ⟨rfl, h4⟩
    | true => exact wpAny_mono h4 (fun f s5 ⟨e, h5⟩ => by subst e; exact ⟨rfl, h5⟩) fun _ _ z => z
/-- the loop of a clause -/
theorem loop_of {d : Nat} {tg src : Expr} {fs : List Expr} {fin : Sem PySem.Fin} (J : Nat → Shared → Prop)
    (eq : compTurn (dc2 kx vx t0 i0 t1 i1 f0 f1 sc pos) d it (.ref D) env = (do
      standAt src.pos
      match ← pyNext it with
      | none => pure (.done .next)
      | some v =>
        letOwnedTupleGo tg it v
        assign tg env v
        let mut ok := true
        for c in fs do
          if ok then ok ← isTrue c env (eval c env)
        if ok then fin else again (.compLoop (dc2 kx vx t0 i0 t1 i1 f0 f1 sc pos) d it (.ref D) env)))
    (step : ∀ n s, J n s → wpAny (model prog w) A (pyNext it) (fun r s1 => match r with
      | none => R (.ok .next) s1
      | some v => wpAny (model prog w) A (letOwnedTupleGo tg it v) (fun _ s2 => wpAny (model prog w) A (assign tg env v) (fun _ s3 => wpAny (model prog w) A (clauseTests fs env) (fun ok s4 =>
          if ok = true then wpAny (model prog w) A fin (fun f s5 => f = .again (.compLoop (dc2 kx vx t0 i0 t1 i1 f0 f1 sc pos) d it (.ref D) env) ∧ ∃ m, m < n ∧ J m s5) (fun _ _ => False) s4 else ∃ m, m < n ∧ J m s4)
        (fun _ _ => False) s3) (fun _ _ => False) s2) (fun _ _ => False) s1) (fun _ _ => False) s)
    (n : Nat) (h : J n s) : codeAny (model prog w) A (.compLoop (dc2 kx vx t0 i0 t1 i1 f0 f1 sc pos) d it (.ref D) env) R s := by
  refine codeAny_loop rfl J (fun n s hJ => ?_) n h
  show wpAny _ A ((compTurn (dc2 kx vx t0 i0 t1 i1 f0 f1 sc pos) d it (.ref D) env).onRaise (fun x => do noteFrame x env; theTreesLotGoes x)) _ _ s
  refine wpAny_noted (turn_of eq (wpAny_mono (step n s hJ) (fun r s1 h1 => ?_) fun _ _ z => z.elim))
  cases r with
  | none => exact h1
  | some v =>
    refine wpAny_mono h1 (fun _ s2 h2 => wpAny_mono h2 (fun _ s3 h3 => wpAny_mono h3 (fun ok s4 h4 => ?_) fun _ _ z => z.elim) fun _ _ z => z.elim) fun _ _ z => z.elim
    cases ok with
    | false => exact h4
    | true => exact wpAny_mono h4 (fun _ _ z => z) fun _ _ z => z.elim
/-- the second clause begins -/
theorem second (h0 : codeAny (model prog w) A (.compLoop (dc2 kx vx t0 i0 t1 i1 f0 f1 sc pos) 1 it (.ref D) env) R s)
    (h : wpAny (model prog w) A (pyIter it) (fun j s' => codeAny (model prog w) A (.compLoop (dc2 kx vx t0 i0 t1 i1 f0 f1 sc pos) 1 j (.ref D) env) R s') (fun _ _ => False) s) :
    codeAny (model prog w) A (.compStart (dc2 kx vx t0 i0 t1 i1 f0 f1 sc pos) 1 it (.ref D) env) R s := by
  refine codeAny_of_tree ?_
  show wpAny _ _ ((compStart (dc2 kx vx t0 i0 t1 i1 f0 f1 sc pos) 1 it (.ref D) env).onRaise (fun x => do noteFrame x env; standAt theWindowsPlace)) _ _ s
  refine wpAny_notedAt ?_
  unfold compStart
  show wpAny _ _ (ask >>= _) _ _ s
  refine wpAny_bind (wpAny_askSetting (wpAny_ite ?_))
  split
  · exact wpAny_bind (wpAny_pure (wpAny_pure (And.intro rfl h0)))
  · refine wpAny_bind (wpAny_rule (wpAny_bind (wpAny_standAt (wpAny_bind (wpAny_mono h (fun j s' q => wpAny_pure (And.intro rfl q)) fun _ _ z => z.elim)))))
end
/-- what is known of the slots stays known -/
def Keeps (σ σ' : L2.St) : Prop := σ.length = σ'.length ∧ ∀ (j : Nat) v, σ[j]? = some (some v) → σ'[j]? = some (some v)
theorem keeps_wipe {σ σ2 : L2.St} {vs : List Nat} (e : wipe σ2 vs = wipe σ vs) : Keeps (wipe σ vs) σ2 := by
  rw [← e]
  exact ⟨wipe_length _ _, fun j v h => (wipe_some h).1⟩
/-- a clause's items, one after another: what is done with each reaches the next turn -/
theorem walk_clause {Y : Cx} {pins : List (Addr × Obj)} {kx vx t0 i0 t1 i1 : Expr} {f0 f1 : List Expr} {sc : Scope} {pos : Pos} {D : Addr} {env : Env} {d : Nat} {tg src : Expr} {fs : List Expr} {fin : Sem PySem.Fin} {g : TG} {tt : TT} {it : Addr} {fp : List Addr} {tn : Nat → Heap → Prop} {J : It} {R : Result → Shared → Prop}
    (hc : Y.calm = true) (he : Y.env = env) (pg : PG Y tg g) (pt : PTs Y fs tt) (T : Turn Y.prog Y.w Y.K tg J fp it tn) (hx : Y.xe = fun _ _ => False) (σ : L2.St) (W : Nat → Nat → Hp → Prop) (Qd : Hp → Prop) (Act : (Hp → Prop) → L2.St → Hp → Prop) (Kp : L2.St → Prop) (hKp : ∀ σ2, Kp σ2 → Keeps σ σ2)
    (stat : ∀ H, (∀ b ∈ fp, H b = none) → ∀ b ∈ fp, FpOk Y pins H b)
    (eq : compTurn (dc2 kx vx t0 i0 t1 i1 f0 f1 sc pos) d (.ref it) (.ref D) env = (do
      standAt src.pos
      match ← pyNext (.ref it) with
      | none => pure (.done .next)
      | some v =>
        letOwnedTupleGo tg (.ref it) v
        assign tg env v
        let mut ok := true
        for c in fs do
          if ok then ok ← isTrue c env (eval c env)
        if ok then fin else again (.compLoop (dc2 kx vx t0 i0 t1 i1 f0 f1 sc pos) d (.ref it) (.ref D) env)))
    (turn : ∀ i m H, W i m H → (J.stop i H ∧ Qd H) ∨ (J.go i H ∧ ∃ Nx : Hp → Prop, (∀ H', Nx H' → ∃ m', m' < m ∧ W (i + 1) m' H') ∧ ∀ x H', J.yld i H x H' → g x σ H' fun σ2 H2 => Kp σ2 ∧ tt σ2 H2 fun b H3 => if b = true then Act Nx σ2 H3 else Nx H3))
    (done : ∀ H s, Inv Y pins σ H s → Qd H → R (.ok .next) s)
    (act : ∀ Nx σ2 H3 s pl, Inv Y (pins ++ pl) σ2 H3 s → Kp σ2 → Act Nx σ2 H3 → wpAny (model Y.prog Y.w) Y.A fin (fun f s' => f = .again (.compLoop (dc2 kx vx t0 i0 t1 i1 f0 f1 sc pos) d (.ref it) (.ref D) env) ∧ ∃ σ3 H', Inv Y (pins ++ pl) σ3 H' s' ∧ Keeps σ σ3 ∧ Nx H') (fun _ _ => False) s)
    (m0 : Nat) (H0 : Hp) (s0 : Shared) (I0 : Inv Y pins σ H0 s0) (st0 : tn 0 s0.heap) (n0 : ∀ b ∈ fp, H0 b = none) (w0 : W 0 m0 H0) :
    codeAny (model Y.prog Y.w) Y.A (.compLoop (dc2 kx vx t0 i0 t1 i1 f0 f1 sc pos) d (.ref it) (.ref D) env) R s0 := by
  subst he
  refine loop_of (fun n s => ∃ i H, Inv Y pins σ H s ∧ tn i s.heap ∧ (∀ b ∈ fp, H b = none) ∧ W i n H) eq (fun n s hJ => ?_) m0 ⟨0, H0, I0, st0, n0, w0⟩
  obtain ⟨i, H, I, st, fr, hw⟩ := hJ
  rcases turn i n H hw with ⟨stop, qd⟩ | ⟨gone, Nx, next, each⟩
  · refine thn (T.done Y rfl rfl rfl hc i pins s σ H (fun _ _ => False) I (stat H fr) st stop) fun r s1 ⟨e, I1⟩ => ?_
    subst e
    exact done H s1 I1 qd
  · refine thn (T.item Y rfl rfl rfl hc i pins s σ H (fun _ _ => False) I (stat H fr) st gone) fun r s1 ⟨u, e, q1⟩ => ?_
    subst e
    refine thn q1 fun _ s2 ⟨x, H2, I2, r2, y2, st2, fr2⟩ => ?_
    have I2p := I2.pinned (stat H2 fr2) (T.obj _ _ st2)
    have g1 := pg.run _ s2 σ H2 x u _ I2p r2 (each x H2 y2)
    rw [hx] at g1
    refine thn g1 fun _ s3 ⟨σ3, H3, I3, kp, q3⟩ => ?_
    have g2 := pt.run _ s3 σ3 H3 _ I3 q3
    rw [hx] at g2
    refine thn g2 fun b s4 ⟨H4, I4, q4⟩ => ?_
    have again : ∀ {σ' : L2.St} {H' : Hp} {s' : Shared}, Inv Y (pins ++ pinsAt fp s2.heap) σ' H' s' → Keeps σ σ' → Nx H' → ∃ m, m < n ∧ ∃ i H, Inv Y pins σ H s' ∧ tn i s'.heap ∧ (∀ b ∈ fp, H b = none) ∧ W i m H := fun {σ' H' s'} I' kp' nx => by
      obtain ⟨m', hm, w'⟩ := next H' nx
      have stays : ∀ b ∈ fp, ∀ o, s2.heap.get? b = some o → s'.heap.get? b = some o ∧ H' b = none := fun b hb o e =>
        have z := I'.pin (b, o) (List.mem_append_right _ (List.mem_append_right _ (mem_pinsAt hb e)))
        ⟨z.1, z.2.1⟩
      refine ⟨m', hm, i + 1, H', I'.unpinned.weak kp'.1 kp'.2, T.keep _ _ _ st2 fun b hb o e => (stays b hb o e).1, fun b hb => ?_, w'⟩
      obtain ⟨o, e, _⟩ := T.obj _ _ st2 b hb
      exact (stays b hb o e).2
    cases b with
    | false =>
      simp only [Bool.false_eq_true, if_false] at q4 ⊢
      exact again I4 (hKp _ kp) q4
    | true =>
      simp only [if_true] at q4 ⊢
      exact thn (act Nx σ3 H4 s4 _ I4 kp q4) fun f s5 ⟨e, σ5, H5, I5, k5, n5⟩ => ⟨e, again I5 k5 n5⟩
section
variable {X : Cx}
/-- {k: v for t0 in i0 if .. for t1 in i1 if ..}, keys ints or texts, at the new dict D -/
def tDc2 (wi : TI) (g : TG) (tt : TT) (wi1 : TI) (g1 : TG) (tt1 : TT) (tk tv : TE) (vs vs1 : List Nat) : TE := fun σ H Q => wi σ H fun J H1 => ∀ D, H1 D = none → ∃ W : Nat → Nat → Hp → Prop, (∃ m, W 0 m (upd H1 D (.dK []))) ∧ ∀ i m H, W i m H →
  (J.stop i H ∧ Q (.ref D) H) ∨ (J.go i H ∧ ∃ Nx : Hp → Prop, (∀ H', Nx H' → ∃ m', m' < m ∧ W (i + 1) m' H') ∧ ∀ x H', J.yld i H x H' → g x (wipe σ vs) H' fun σ2 H2 => wipe σ2 vs = wipe σ vs ∧ tt σ2 H2 fun b H3 =>
    if b = true then wi1 σ2 H3 fun J1 H4 => ∃ W1 : Nat → Nat → Hp → Prop, (∃ m, W1 0 m H4) ∧ ∀ j k H, W1 j k H →
      (J1.stop j H ∧ Nx H) ∨ (J1.go j H ∧ ∃ Nx1 : Hp → Prop, (∀ H', Nx1 H' → ∃ k', k' < k ∧ W1 (j + 1) k' H') ∧ ∀ x H', J1.yld j H x H' → g1 x (wipe σ2 vs1) H' fun σ3 H5 => wipe σ3 vs1 = wipe σ2 vs1 ∧ tt1 σ3 H5 fun b H6 =>
        if b = true then tk σ3 H6 fun y H7 => tv σ3 H7 fun z H8 => ∃ kvs k, y = kV k ∧ H8 D = some (.dK kvs) ∧ kvs.length < sizeLine ∧ Nx1 (upd H8 D (.dK (putK kvs k z))) else Nx1 H6)
    else Nx H3)
theorem pe_dc2 {kx vx t0 i0 t1 i1 : Expr} {f0 f1 : List Expr} {scope : Scope} {own : List (Str × Nat)} {vs1 : List Nat} {pos : Pos} {wi wi1 : TI} {g g1 : TG} {tt tt1 : TT} {tk tv : TE} (hc : X.calm = true) (hN : X.N.Nodup) (hi : PI X t0 i0 wi) (ok : BlkOk X.N X.env.scope scope own) (hv : ∀ i ∈ vs1, i ∈ own.map (·.2))
    (hg : ∀ (s : Shared) (H : Hp) (C : Addr) (cl : List (Str × Addr)) (fp : List Addr), PG (X.blk s H scope (compEnvC scope cl C X.env) fp) t0 g) (ht : ∀ (s : Shared) (H : Hp) (C : Addr) (cl : List (Str × Addr)) (fp : List Addr), PTs (X.blk s H scope (compEnvC scope cl C X.env) fp) f0 tt)
    (hi1 : ∀ (s : Shared) (H : Hp) (C : Addr) (cl : List (Str × Addr)) (fp : List Addr), PI (X.blk s H scope (compEnvC scope cl C X.env) fp) t1 i1 wi1)
    (hg1 : ∀ (s : Shared) (H : Hp) (C : Addr) (cl : List (Str × Addr)) (fp : List Addr), PG (X.blk s H scope (compEnvC scope cl C X.env) fp) t1 g1) (ht1 : ∀ (s : Shared) (H : Hp) (C : Addr) (cl : List (Str × Addr)) (fp : List Addr), PTs (X.blk s H scope (compEnvC scope cl C X.env) fp) f1 tt1)
    (hk : ∀ (s : Shared) (H : Hp) (C : Addr) (cl : List (Str × Addr)) (fp : List Addr), PE (X.blk s H scope (compEnvC scope cl C X.env) fp) kx tk)
    (he : ∀ (s : Shared) (H : Hp) (C : Addr) (cl : List (Str × Addr)) (fp : List Addr), PE (X.blk s H scope (compEnvC scope cl C X.env) fp) vx tv)
    (hs : ∀ x, foldedSetIterable i0 X.env x = pure x := by intro _; rfl) (hs1 : ∀ env x, foldedSetIterable i1 env x = pure x := by intro _ _; rfl) :
    PE X (dc2 kx vx t0 i0 t1 i1 f0 f1 scope pos) (tDc2 wi g tt wi1 g1 tt1 tk tv (own.map (·.2)) vs1) := by
  refine ⟨fun pins s σ H Q I h => ?_⟩
  have caught : ∀ y ∈ scope.names, y.2 = .free → ∃ c, X.env.cells.lookup y.1 = some c := fun y hy e => I.ok.has _ (ok.free y hy e)
  rw [arm_eval_DictComp]
  refine wpAny_comprehension_free (use := none) rfl hs (closure_ok caught) ok.kind (fun y hy e => by rw [ok.uniq y hy, e]) (thn (hi.run pins s σ H _ I h) fun xv s1 q1 => thn q1 fun itv s2 q2 => ?_)
  obtain ⟨it, fp, tn, J, H2, e, I2, T, st2, f2, q⟩ := q2
  subst e
  refine wpAny_newObj_type (newEnv_comp ?_)
  generalize hD : s2.heap.objs.size = D
  obtain ⟨W, ⟨m0, w0⟩, turn⟩ := q D (I2.hok.fresh (Nat.le_of_eq hD))
  -- the new dict
  have size2 : ∀ b ∈ fp, b < s2.heap.objs.size := fun b hb => let ⟨_, e, _⟩ := T.obj _ _ st2 b hb; Heap.lt_size e
  generalize hs3 : ({ s2 with heap := s2.heap.push { cls := .type "dict", data := .dict #[] } } : Shared) = s3
  have heap3 : s3.heap = s2.heap.push { cls := .type "dict", data := .dict #[] } := by rw [← hs3]
  have I3 : Inv X pins σ (upd H2 D (.dK [])) s3 := by
    rw [← hs3]
    refine I2.laid (t' := s2.toks) (fun b o e => Heap.get?_push_of_some _ e) (Nat.le_of_eq hD) ?_
    rw [← hD]
    exact dk_empty s2.heap I2.big
  have f3 : ∀ b ∈ fp, FpOk X pins (upd H2 D (.dK [])) b ∧ b < s3.heap.objs.size := fun b hb => by
    have lt := size2 b hb
    refine ⟨⟨?_, (f2 b hb).2⟩, by rw [heap3, Heap.size_push]; exact Nat.lt_succ_of_lt lt⟩
    rw [upd_ne (by rw [← hD]; exact Nat.ne_of_lt lt)]
    exact (f2 b hb).1
  have st3 : tn 0 s3.heap := T.keep _ _ _ st2 fun b _ o e => by rw [heap3]; exact Heap.get?_push_of_some _ e
  have I4 := block_start I3 ok hN f3
  generalize hcl : cellsFrom (s3.heap.objs.size + 1) scope.names (cloFrom X.env.cells scope.names []) = cl at I4
  have pg := hg s3 (upd H2 D (.dK [])) s3.heap.objs.size cl fp
  have pt := ht s3 (upd H2 D (.dK [])) s3.heap.objs.size cl fp
  have pk := hk s3 (upd H2 D (.dK [])) s3.heap.objs.size cl fp
  have pe := he s3 (upd H2 D (.dK [])) s3.heap.objs.size cl fp
  have pi1 := hi1 s3 (upd H2 D (.dK [])) s3.heap.objs.size cl fp
  have pg1 := hg1 s3 (upd H2 D (.dK [])) s3.heap.objs.size cl fp
  have pt1 := ht1 s3 (upd H2 D (.dK [])) s3.heap.objs.size cl fp
  show codeAny _ _ (.compStart (dc2 kx vx t0 i0 t1 i1 f0 f1 scope pos) 0 (.ref it) (.ref D) (compEnvC scope cl s3.heap.objs.size X.env)) (compPost (model X.prog X.w) X.A X.xe none (EP X pins σ Q) (.ref D) s3.heap.objs.size) { s3 with heap := pushCells (s3.heap.push { cls := .type "dict", data := .dict #[] }) scope.names }
  generalize hce : compEnvC scope cl s3.heap.objs.size X.env = ce at I4 pg pt pk pe pi1 pg1 pt1 ⊢
  have cL : ce.locals = s3.heap.objs.size := by rw [← hce]; rfl
  generalize hH3 : upd H2 D (.dK []) = H3 at I3 I4 pg pt pk pe pi1 pg1 pt1 w0 f3
  generalize hs4 : ({ s3 with heap := pushCells (s3.heap.push { cls := .type "dict", data := .dict #[] }) scope.names } : Shared) = s4 at I4 ⊢
  have st4 : tn 0 s4.heap := T.keep _ _ _ st3 fun b _ o e => by rw [← hs4]; exact pushCells_keeps _ _ _ _ (Heap.get?_push_of_some _ e)
  generalize hY : X.blk s3 H3 scope ce fp = Y at I4 pg pt pk pe pi1 pg1 pt1
  have yx : Y.xe = fun _ _ => False := by rw [← hY]
  have yc : Y.calm = true := by rw [← hY]; exact hc
  have ye : Y.env = ce := by rw [← hY]
  have yp : Y.prog = X.prog ∧ Y.w = X.w ∧ Y.K = X.K ∧ Y.A = X.A := by rw [← hY]; exact ⟨rfl, rfl, rfl, rfl⟩
  have no0 : ∀ b ∈ fp, H3 b = none := fun b hb => (f3 b hb).1.1
  have stat : ∀ pl, (∀ b ∈ fp, ∀ p ∈ pl, p.1 ≠ b) → ∀ H, (∀ b ∈ fp, H b = none) → ∀ b ∈ fp, FpOk Y pl H b := fun pl hp H hn b hb => by
    have k := I4.ok.exf b (by rw [← hY]; exact hb)
    have kf := I4.ok.exfs b (by rw [← hY]; exact hb)
    refine ⟨hn b hb, k.1, kf, .inl (by rw [← hY]; exact hb), fun x c e => k.2 x c e, fun p hm => ?_⟩
    rcases List.mem_append.mp hm with z | z
    · rw [← hY] at z; exact nomatch z
    · exact hp b hb p z
  have kept : Keeps (wipe σ (own.map (·.2))) (wipe σ (own.map (·.2))) := ⟨rfl, fun _ _ z => z⟩
  have loop : codeAny (model Y.prog Y.w) Y.A (.compLoop (dc2 kx vx t0 i0 t1 i1 f0 f1 scope pos) 0 (.ref it) (.ref D) ce) (compPost (model X.prog X.w) X.A X.xe none (EP X pins σ Q) (.ref D) s3.heap.objs.size) s4 := by
    refine walk_clause (Y := Y) (pins := []) (src := i0) (fs := f0) (tg := t0) (g := g) (tt := tt) (J := J) (tn := tn) (fp := fp) (d := 0) (fin := do
        let x ← eval i1 ce
        standAt i1.pos
        let x ← foldedSetIterable i1 ce x
        let _ ← runOwn (.compStart (dc2 kx vx t0 i0 t1 i1 f0 f1 scope pos) 1 (← holding [x] (pyIter x)) (.ref D) ce) ce
        again (.compLoop (dc2 kx vx t0 i0 t1 i1 f0 f1 scope pos) 0 (.ref it) (.ref D) ce)) yc ye pg pt (by rw [← hY]; exact T) yx (wipe σ (own.map (·.2))) W (fun H => Q (.ref D) H)
      (fun Nx σ2 H3 => wi1 σ2 H3 fun J1 H4 => ∃ W1 : Nat → Nat → Hp → Prop, (∃ m, W1 0 m H4) ∧ ∀ j k H, W1 j k H →
        (J1.stop j H ∧ Nx H) ∨ (J1.go j H ∧ ∃ Nx1 : Hp → Prop, (∀ H', Nx1 H' → ∃ k', k' < k ∧ W1 (j + 1) k' H') ∧ ∀ x H', J1.yld j H x H' → g1 x (wipe σ2 vs1) H' fun σ3 H5 => wipe σ3 vs1 = wipe σ2 vs1 ∧ tt1 σ3 H5 fun b H6 =>
          if b = true then tk σ3 H6 fun y H7 => tv σ3 H7 fun z H8 => ∃ kvs k, y = kV k ∧ H8 D = some (.dK kvs) ∧ kvs.length < sizeLine ∧ Nx1 (upd H8 D (.dK (putK kvs k z))) else Nx1 H6))
      (fun σ2 => wipe σ2 (own.map (·.2)) = wipe σ (own.map (·.2))) (fun σ2 => keeps_wipe)
      (stat [] fun _ _ _ z => nomatch z) (by rfl) turn ?_ ?_ m0 H3 s4 I4 st4 no0 w0
    · intro H5 s5 I5 qd
      have I5' : Inv (X.blk s3 H3 scope ce fp) [] (wipe σ (own.map (·.2))) H5 s5 := by rw [hY]; exact I5
      have I7 : Inv X pins σ H5 s5 := I3.call' (ch := fp) I5'.os I5'.base I5'.hok I5'.bare fun b hb => ⟨(f3 b hb).1.2.2.2.1, (f3 b hb).1.2.1, (f3 b hb).1.2.2.2.2.1, (f3 b hb).1.2.2.2.2.2⟩
      have free : H5 s3.heap.objs.size = none := by
        have z : H5 ce.locals = none := I5'.free
        rw [cL] at z
        exact z
      obtain ⟨m, names, _⟩ := I5'.loc
      have names : s5.heap.Ns ce.locals m := names
      rw [cL] at names
      obtain ⟨z0, z1, z2, z3, z4, z5⟩ := I3.fpOk (H' := H5) (Nat.le_refl _) free
      exact ⟨m, names, fun h6 sb => ⟨.ref D, H5, I7.turned (t' := s5.toks) (fun b o hb e => (sb.2 b hb).trans e) z0 z1 z3 z4 z5, rfl, qd⟩⟩
    · intro Nx σ8 H9 s9 pl I9 kp q9
      have pi1' := pi1.run _ s9 σ8 H9 _ I9 q9
      rw [yx, ye] at pi1'
      refine wpAny_bind (thn pi1' fun xv s10 h10 => ?_)
      refine wpAny_bind (wpAny_standAt (wpAny_bind (wpAny_of_eq (hs1 ce xv) (wpAny_bind (wpAny_holding (thn h10 fun itv s11 h11 => ?_))))))
      obtain ⟨it1, fp1, tn1, J1, H11, e1, I11, T1, st11, f11, W1, ⟨m1, w1⟩, turn1⟩ := h11
      subst e1
      refine wpAny_bind (wpAny_runOwn ?_)
      rw [Around.mark_none]
      have back : Keeps (wipe σ (own.map (·.2))) (wipe σ8 vs1) := by
        refine ⟨by rw [← kp, wipe_length, wipe_length], fun j v e => ?_⟩
        rw [← kp] at e
        obtain ⟨e1, e2⟩ := wipe_some e
        rw [wipe_out fun z => e2 (hv j z)]
        exact e1
      have loop1 : codeAny (model Y.prog Y.w) Y.A (.compLoop (dc2 kx vx t0 i0 t1 i1 f0 f1 scope pos) 1 (.ref it1) (.ref D) ce) (fun r s' => match r with
          | .ok _ => ∃ σ3 H', Inv Y ([] ++ pl) σ3 H' s' ∧ Keeps (wipe σ (own.map (·.2))) σ3 ∧ Nx H'
          | .error _ => False) s11 := by
        refine walk_clause (Y := Y) (pins := [] ++ pl) (src := i1) (fs := f1) (tg := t1) (g := g1) (tt := tt1) (J := J1) (tn := tn1) (fp := fp1) (d := 1) (fin := (do
            let kv ← eval kx ce
            let vv ← holding [kv] (eval vx ce)
            standAt { kx.pos with endLine := vx.pos.endLine, endCol := vx.pos.endCol }
            holding [kv, vv] (dictSet D kv vv)) >>= fun _ => again (.compLoop (dc2 kx vx t0 i0 t1 i1 f0 f1 scope pos) 1 (.ref it1) (.ref D) ce)) yc ye pg1 pt1 T1 yx (wipe σ8 vs1) W1 Nx
          (fun Nx1 σ3 H6 => tk σ3 H6 fun y H7 => tv σ3 H7 fun z H8 => ∃ kvs k, y = kV k ∧ H8 D = some (.dK kvs) ∧ kvs.length < sizeLine ∧ Nx1 (upd H8 D (.dK (putK kvs k z))))
          (fun σ3 => wipe σ3 vs1 = wipe σ8 vs1) (fun σ3 => keeps_wipe) (fun H hn b hb => ⟨hn b hb, (f11 b hb).2⟩) (by rfl) turn1 ?_ ?_ m1 H11 s11 (I11.weak (wipe_length _ _) fun j v e => (wipe_some e).1) st11 (fun b hb => (f11 b hb).1) w1
        · intro H s I q
          exact ⟨_, H, I, back, q⟩
        · intro Nx1 σ15 H16 s16 pl1 I16 kp1 q16
          have k1 := pk.run _ s16 σ15 H16 _ I16 q16
          rw [yx, ye] at k1
          refine wpAny_bind (wpAny_bind (thn k1 fun kv s17 ⟨yv, H17, I17, r17, q17⟩ => ?_))
          have k2 := pe.run _ s17 σ15 H17 _ I17 q17
          rw [yx, ye] at k2
          refine wpAny_bind (wpAny_holding (thn k2 fun vv s18 ⟨zv, H18, I18, r18, kvs, k, ek, hD18, hz18, nx⟩ => ?_))
          subst ek
          refine wpAny_bind (wpAny_standAt (wpAny_holding ?_))
          exact d_dictSet I18 hD18 hz18 r17 r18 fun s19 I19 => wpAny_pure ⟨rfl, _, _, I19, keeps_wipe kp1, nx⟩
      refine codeAny_mono (second loop1 (T1.self Y.A 0 _ _ _ st11 loop1)) fun r s' hr => ?_
      cases r with
      | ok f =>
        obtain ⟨σ3, H', a, b, c⟩ := hr
        exact wpAny_bind (wpAny_pure (wpAny_pure ⟨rfl, σ3, H', a, b, c⟩))
      | error e => exact hr.elim
  rw [yp.1, yp.2.1, yp.2.2.2] at loop
  exact codeAny_compStart_dict loop (T.self _ 0 _ _ _ st4 loop)
end
end FR

set_option Elab.async false
set_option maxRecDepth 100000
namespace FR
open PySem PySem.Spec PyProof.Rows L2
/-! ### type(x) != T -/
theorem slot_type_ne : Slot "type" (cmpInfo .NotEq).2.1 "object.__ne__" :=
  .of (owner := "object") (n := "__ne__") (by rw [typeLookup_type, builtinLookup_eq_fast]; kernel_rfl) (by decide +kernel) (by decide +kernel) (by decide +kernel)
    (by first | exact .inl (by decide +kernel) | exact .inr (by decide +kernel)) (by rw [isSubtype_type]; kernel_rfl)
theorem slot_type_eq2 : Slot "type" (Str.ofString "__eq__") "object.__eq__" := TypeEq.slot_type_eq
section
variable {prog : Program} {w : World} {A : Around} {E : Value → Shared → Prop} {s : Shared} {Q : Value → Shared → Prop}
theorem ne_ty_same {X : String} (hX : ∀ s' : Shared, s'.TypeIs (.type X) "type") (h : Q (.bool false) s) : wpAny (model prog w) A (compareOp .NotEq (.type X) (.type X)) Q E s := by
  show wpAny _ A (richCompare .NotEq _ _) Q E s
  refine wpAny_richCompare_same (T := "type") (hX s) (hX s) slot_type_ne (wpAny_call_entry slot_type_ne (hX s) F.entry_object_ne ?_ (F.args_object_ne_2 _ _))
  unfold Builtin.«object.__ne__»
  refine wpAny_bind (wpAny_of_eq (a := (Value.type X, [Value.type X])) (by rfl) ?_)
  refine wpAny_bind (wpAny_cRoomFor_or (.inl rfl) ?_)
  refine wpAny_bind (wpAny_callSpecialIfBound?_slot (hX _) slot_type_eq2 (call_gives slot_type_eq2 (hX s) F.entry_object_eq (F.args_object_eq_2 _ _) (TypeEq.object_eq_same rfl (by simp)) ?_))
  refine wpAny_bind (wpAny_truthy_bool ?_)
  exact wpAny_pure ⟨_, rfl, (by intro e; cases e), h⟩
end
def Ty5 (T : String) : Prop := T = "int" ∨ T = "bool" ∨ T = "NoneType" ∨ T = "str" ∨ T = "list" ∨ T = "tuple" ∨ T = "dict"
theorem Ty5.meta {T : String} (h : Ty5 T) (s : Shared) : s.TypeIs (.type T) "type" := by
  rcases h with rfl | rfl | rfl | rfl | rfl | rfl | rfl
  · exact TypeEq.meta_int s
  · exact TypeEq.meta_bool s
  · exact TypeEq.meta_NoneType s
  · exact TypeEq.meta_str s
  · exact TypeEq.meta_list s
  · exact TypeEq.meta_tuple s
  · exact TypeEq.meta_dict s
def rNeTy : R2 := fun x y H Q => ∃ T, x = .ty T ∧ y = .ty T ∧ Ty5 T ∧ Q (.bl false) H
/-- type(x) != T, where it is T -/
theorem op_neTy {X : Cx} : OpR X (compareOp .NotEq) rNeTy := by
  intro pins s σ H x y v u Q I rx ry h
  obtain ⟨T, rfl, rfl, ht, q⟩ := h
  cases rx
  cases ry
  exact ne_ty_same ht.meta ⟨.bl false, H, I, rfl, q⟩
end FR

namespace FL
/-! ### tables -/
abbrev BL := List (Int × List Int)
abbrev MT := List (Int × Int)
section
variable {β : Type}
def ks (l : List (Int × β)) : List Int := l.map (·.1)
def lk : List (Int × β) → Int → Option β
  | [], _ => none
  | p :: r, k => if p.1 = k then some p.2 else lk r k
def pt (l : List (Int × β)) (k : Int) (v : β) : List (Int × β) :=
  if k ∈ ks l then l.map (fun p => if p.1 = k then (p.1, v) else p) else l ++ [(k, v)]
theorem ks_cons (p : Int × β) (r : List (Int × β)) : ks (p :: r) = p.1 :: ks r := rfl
theorem ks_app (a b : List (Int × β)) : ks (a ++ b) = ks a ++ ks b := by simp [ks]
theorem lk_none : ∀ {l : List (Int × β)} {k : Int}, lk l k = none ↔ k ∉ ks l
  | [], k => by simp [lk, ks]
  | p :: r, k => by
    have ih := lk_none (l := r) (k := k)
    simp only [lk, ks_cons, List.mem_cons]
    by_cases e : p.1 = k
    · simp [e]
    · have e' : k ≠ p.1 := fun z => e z.symm
      simp [e, e', ih]
theorem lk_some_ks {l : List (Int × β)} {k : Int} {v : β} (h : lk l k = some v) : k ∈ ks l := by
  by_cases m : k ∈ ks l
  · exact m
  · rw [lk_none.mpr m] at h; cases h
theorem ks_lk {l : List (Int × β)} {k : Int} (h : k ∈ ks l) : ∃ v, lk l k = some v := by
  cases e : lk l k with
  | none => exact absurd h (lk_none.mp e)
  | some v => exact ⟨v, rfl⟩
theorem lk_mem : ∀ {l : List (Int × β)} {k : Int} {v : β}, lk l k = some v → (k, v) ∈ l
  | p :: r, k, v, h => by
    simp only [lk] at h
    by_cases e : p.1 = k
    · rw [if_pos e] at h; cases h; subst e; exact List.mem_cons_self
    · rw [if_neg e] at h; exact List.mem_cons_of_mem _ (lk_mem h)
theorem mem_ks {l : List (Int × β)} {k : Int} {v : β} (h : (k, v) ∈ l) : k ∈ ks l := List.mem_map.mpr ⟨_, h, rfl⟩
theorem mem_lk : ∀ {l : List (Int × β)} {k : Int} {v : β}, (ks l).Nodup → (k, v) ∈ l → lk l k = some v
  | p :: r, k, v, nd, h => by
    rw [ks_cons, List.nodup_cons] at nd
    simp only [lk]
    rcases List.mem_cons.mp h with e | m
    · subst e; simp
    · have hk := mem_ks m
      have e : p.1 ≠ k := fun z => nd.1 (z ▸ hk)
      rw [if_neg e]; exact mem_lk nd.2 m
theorem lk_app {a b : List (Int × β)} {k : Int} : lk (a ++ b) k = (lk a k).or (lk b k) := by
  induction a with
  | nil => simp [lk]
  | cons p r ih =>
    simp only [List.cons_append, lk]
    by_cases e : p.1 = k
    · simp [e]
    · simp [e, ih]
theorem lk_snoc {a : List (Int × β)} {j k : Int} {v : β} (h : j ∉ ks a) : lk (a ++ [(j, v)]) k = if k = j then some v else lk a k := by
  rw [lk_app]
  by_cases e : k = j
  · subst e; rw [lk_none.mpr h]; simp [lk]
  · have e' : ¬ j = k := fun z => e z.symm
    cases q : lk a k <;> simp [lk, e, e']
theorem ks_pt {l : List (Int × β)} {k : Int} {v : β} : ks (pt l k v) = if k ∈ ks l then ks l else ks l ++ [k] := by
  unfold pt
  by_cases h : k ∈ ks l
  · rw [if_pos h, if_pos h]
    unfold ks
    rw [List.map_map]
    apply List.map_congr_left
    intro p _
    show (if p.1 = k then (p.1, v) else p).1 = p.1
    split <;> rfl
  · rw [if_neg h, if_neg h, ks_app]; rfl
theorem lk_map_put {l : List (Int × β)} {j k : Int} {v : β} : lk (l.map (fun p => if p.1 = k then (p.1, v) else p)) j = if j = k ∧ k ∈ ks l then some v else lk l j := by
  induction l with
  | nil => simp [lk, ks]
  | cons p r ih =>
    simp only [List.map_cons, lk, ks_cons, List.mem_cons]
    by_cases e : p.1 = k
    · subst e
      by_cases e2 : p.1 = j
      · subst e2; simp
      · have e2' : ¬ j = p.1 := fun z => e2 z.symm
        simp [e2, e2', ih]
    · rw [if_neg e]
      by_cases e2 : p.1 = j
      · subst e2; simp [e]
      · have e' : ¬ k = p.1 := fun z => e z.symm
        simp [e2, ih, e']
theorem lk_pt {l : List (Int × β)} {j k : Int} {v : β} : lk (pt l k v) j = if j = k then some v else lk l j := by
  unfold pt
  by_cases h : k ∈ ks l
  · rw [if_pos h, lk_map_put]; simp [h]
  · rw [if_neg h, lk_snoc h]
theorem nd_pt {l : List (Int × β)} {k : Int} {v : β} (h : (ks l).Nodup) : (ks (pt l k v)).Nodup := by
  rw [ks_pt]
  by_cases m : k ∈ ks l
  · rw [if_pos m]; exact h
  · rw [if_neg m, List.nodup_append]
    refine ⟨h, by simp, fun a ha b hb => ?_⟩
    have : b = k := by simpa using hb
    subst this
    exact fun z => m (z ▸ ha)
theorem len_pt {l : List (Int × β)} {k : Int} {v : β} : (pt l k v).length = if k ∈ ks l then l.length else l.length + 1 := by
  unfold pt
  by_cases m : k ∈ ks l
  · simp [m]
  · simp [m]
theorem len_ks (l : List (Int × β)) : (ks l).length = l.length := by simp [ks]
end

/-! ### things and what they lie above -/
/-- all that x lies above -/
def gt (B : BL) (x : Int) : List Int := (lk B x).getD []
structure WF (B : BL) : Prop where
  nd : (ks B).Nodup
  lo : ∀ x y, y ∈ gt B x → y < x ∧ y ∈ ks B
  tr : ∀ x y z, y ∈ gt B x → z ∈ gt B y → z ∈ gt B x
theorem gt_ks {B : BL} {x y : Int} (h : y ∈ gt B x) : x ∈ ks B := by
  unfold gt at h
  cases e : lk B x with
  | none => rw [e] at h; simp at h
  | some v => exact lk_some_ks e
theorem gt_mem {B : BL} {x : Int} {l : List Int} (nd : (ks B).Nodup) (h : (x, l) ∈ B) : gt B x = l := by
  unfold gt; rw [mem_lk nd h]; rfl
theorem gt_lk {B : BL} {x : Int} {l : List Int} (h : lk B x = some l) : gt B x = l := by unfold gt; rw [h]; rfl
theorem lk_gt {B : BL} {x : Int} (h : x ∈ ks B) : lk B x = some (gt B x) := by
  obtain ⟨v, e⟩ := ks_lk h
  rw [e, gt_lk e]
/-- what stands right beneath what: M -/
structure MW (B : BL) (M : MT) : Prop where
  nd : (ks M).Nodup
  inj : ∀ x y v, lk M x = some v → lk M y = some v → x = y
  be : ∀ x v, lk M x = some v → v ∈ gt B x
/-- turned round -/
def iv (M : MT) : MT := M.map fun p => (p.2, p.1)
theorem MW.vals {B : BL} {M : MT} (h : MW B M) : (M.map (·.2)).Nodup := by
  have go : ∀ L : MT, (ks L).Nodup → (∀ x y v, (x, v) ∈ L → (y, v) ∈ L → x = y) → (L.map (·.2)).Nodup := by
    intro L
    induction L with
    | nil => intro _ _; simp
    | cons p r ih =>
      intro nd inj
      rw [ks_cons, List.nodup_cons] at nd
      rw [List.map_cons, List.nodup_cons]
      refine ⟨fun m => ?_, ih nd.2 fun x y v a b => inj x y v (List.mem_cons_of_mem _ a) (List.mem_cons_of_mem _ b)⟩
      obtain ⟨q, hq, e⟩ := List.mem_map.mp m
      have e1 : p.1 = q.1 := inj p.1 q.1 p.2 List.mem_cons_self (List.mem_cons_of_mem _ (by rw [← e]; exact hq))
      exact nd.1 (e1 ▸ mem_ks (v := q.2) hq)
  exact go M h.nd fun x y v a b => h.inj x y v (mem_lk h.nd a) (mem_lk h.nd b)
theorem ks_iv (M : MT) : ks (iv M) = M.map (·.2) := by simp [ks, iv, List.map_map, Function.comp_def]
theorem iv_lk {B : BL} {M : MT} (h : MW B M) {x v : Int} : lk (iv M) v = some x ↔ lk M x = some v := by
  constructor
  · intro e
    have m := lk_mem e
    obtain ⟨p, hp, e2⟩ := List.mem_map.mp m
    cases e2
    exact mem_lk h.nd hp
  · intro e
    refine mem_lk (by rw [ks_iv]; exact h.vals) ?_
    exact List.mem_map.mpr ⟨(x, v), lk_mem e, rfl⟩
theorem MW.sub {B : BL} {M : MT} (h : MW B M) {x : Int} (hx : x ∈ ks M) : x ∈ ks B := by
  obtain ⟨v, e⟩ := ks_lk hx
  exact gt_ks (h.be x v e)

/-! ### the search -/
def scan (A : MT) (up : Int) : List Int → MT → List Int → MT × List Int × Option Int
  | [], r, w => (r, w, none)
  | l :: ls, r, w =>
    if l ∈ ks r then scan A up ls r w
    else match lk A l with
      | none => (r ++ [(l, up)], w, some l)
      | some u => scan A up ls (r ++ [(l, up)]) (w ++ [u])
/-- fuel k; none where it does not suffice -/
def loop (B : BL) (A : MT) : Nat → MT → List Int → Option (MT × Option Int)
  | 0, _, _ => none
  | k + 1, r, w => match w.getLast? with
    | none => some (r, none)
    | some up => match scan A up (gt B up) r w.dropLast with
      | (r', _, some l) => some (r', some l)
      | (r', w', none) => loop B A k r' w'
/-- what was reached, in the order in which it was -/
inductive RG (B : BL) (M : MT) : MT → Prop
  | nil : RG B M []
  | snoc {r : MT} {l u : Int} : RG B M r → l ∈ gt B u → l ∉ ks r → (∀ l', lk M u = some l' → l' ∈ ks r) → RG B M (r ++ [(l, u)])
theorem RG.nd {B : BL} {M r : MT} (h : RG B M r) : (ks r).Nodup := by
  induction h with
  | nil => simp [ks]
  | @snoc r l u _ _ hn _ ih =>
    rw [ks_app, List.nodup_append]
    refine ⟨ih, by simp [ks], fun a ha b hb => ?_⟩
    have : b = l := by simpa [ks] using hb
    subst this
    exact fun z => hn (z ▸ ha)
theorem RG.entry {B : BL} {M r : MT} (h : RG B M r) : ∀ {l u : Int}, lk r l = some u → l ∈ gt B u ∧ ∀ l', lk M u = some l' → l' ∈ ks r := by
  induction h with
  | nil => intro l u e; simp [lk] at e
  | @snoc r l u _ hg hn hm ih =>
    intro l2 u2 e
    rw [lk_snoc hn] at e
    by_cases q : l2 = l
    · rw [if_pos q] at e; cases e; subst q
      exact ⟨hg, fun l' e' => by rw [ks_app]; exact List.mem_append_left _ (hm l' e')⟩
    · rw [if_neg q] at e
      obtain ⟨a, b⟩ := ih e
      exact ⟨a, fun l' e' => by rw [ks_app]; exact List.mem_append_left _ (b l' e')⟩
/-- the things from which the search goes on -/
def Up (B : BL) (M r : MT) (u : Int) : Prop := u ∈ ks B ∧ ∀ l, lk M u = some l → l ∈ ks r
/-- between two turns -/
structure SI (B : BL) (M r : MT) (w : List Int) : Prop where
  rg : RG B M r
  ma : ∀ l ∈ ks r, ∃ u, lk M u = some l
  wu : ∀ u ∈ w, Up B M r u
  dn : ∀ u, Up B M r u → u ∈ w ∨ ∀ l ∈ gt B u, l ∈ ks r
theorem Up.mono {B : BL} {M r r' : MT} {u : Int} (h : Up B M r u) (s : ∀ l ∈ ks r, l ∈ ks r') : Up B M r' u := ⟨h.1, fun l e => s l (h.2 l e)⟩
/-- within one thing's row: what is still to be looked at is ls -/
structure SJ (B : BL) (M r : MT) (w : List Int) (up : Int) (ls : List Int) : Prop where
  rg : RG B M r
  ma : ∀ l ∈ ks r, ∃ u, lk M u = some l
  wu : ∀ u ∈ w, Up B M r u
  uu : Up B M r up
  sf : ∀ l ∈ ls, l ∈ gt B up
  dn : ∀ u, Up B M r u → u ∈ w ∨ (∀ l ∈ gt B u, l ∈ ks r) ∨ (u = up ∧ ∀ l ∈ gt B u, l ∈ ks r ∨ l ∈ ls)
theorem scan_ok {B : BL} {M : MT} (hB : WF B) (hM : MW B M) (up : Int) : ∀ (ls : List Int) (r : MT) (w : List Int), SJ B M r w up ls →
    (∀ r' w', scan (iv M) up ls r w = (r', w', none) → SI B M r' w' ∧ w'.length + r.length = w.length + r'.length) ∧
    (∀ r' w' l, scan (iv M) up ls r w = (r', w', some l) → RG B M r' ∧ l ∈ ks r' ∧ ∀ u, lk M u ≠ some l)
  | [], r, w, J => by
    refine ⟨fun r' w' e => ?_, fun r' w' l e => ?_⟩
    · simp only [scan, Prod.mk.injEq, and_true] at e
      obtain ⟨rfl, rfl⟩ := e
      refine ⟨⟨J.rg, J.ma, J.wu, fun u hu => ?_⟩, rfl⟩
      rcases J.dn u hu with a | a | ⟨_, a⟩
      · exact .inl a
      · exact .inr a
      · exact .inr fun l hl => (a l hl).elim id fun z => by simp at z
    · simp [scan] at e
  | l :: ls, r, w, J => by
    simp only [scan]
    by_cases hl : l ∈ ks r
    · rw [if_pos hl]
      refine scan_ok hB hM up ls r w ⟨J.rg, J.ma, J.wu, J.uu, fun x hx => J.sf x (List.mem_cons_of_mem _ hx), fun u hu => ?_⟩
      rcases J.dn u hu with a | a | ⟨e, a⟩
      · exact .inl a
      · exact .inr (.inl a)
      · refine .inr (.inr ⟨e, fun x hx => ?_⟩)
        rcases a x hx with b | b
        · exact .inl b
        · rcases List.mem_cons.mp b with b | b
          · exact .inl (b ▸ hl)
          · exact .inr b
    · rw [if_neg hl]
      have hg : l ∈ gt B up := J.sf l List.mem_cons_self
      have rg' : RG B M (r ++ [(l, up)]) := .snoc J.rg hg hl J.uu.2
      have kr : ∀ x, x ∈ ks (r ++ [(l, up)]) ↔ x ∈ ks r ∨ x = l := fun x => by rw [ks_app]; simp [ks]
      cases e : lk (iv M) l with
      | none =>
        refine ⟨fun r' w' z => by simp at z, fun r' w' l' z => ?_⟩
        simp only [Prod.mk.injEq, Option.some.injEq] at z
        obtain ⟨rfl, _, rfl⟩ := z
        refine ⟨rg', (kr _).mpr (.inr rfl), fun u hu => ?_⟩
        rw [(iv_lk hM).mpr hu] at e; cases e
      | some u =>
        have hu : lk M u = some l := (iv_lk hM).mp e
        have huB : u ∈ ks B := gt_ks (hM.be u l hu)
        have J' : SJ B M (r ++ [(l, up)]) (w ++ [u]) up ls := by
          refine ⟨rg', fun x hx => ?_, fun x hx => ?_, J.uu.mono fun x hx => (kr x).mpr (.inl hx), fun x hx => J.sf x (List.mem_cons_of_mem _ hx), fun x hx => ?_⟩
          · rcases (kr x).mp hx with h | h
            · exact J.ma x h
            · exact ⟨u, h ▸ hu⟩
          · rcases List.mem_append.mp hx with h | h
            · exact (J.wu x h).mono fun y hy => (kr y).mpr (.inl hy)
            · have : x = u := by simpa using h
              subst this
              exact ⟨huB, fun l' e' => by rw [hu] at e'; cases e'; exact (kr _).mpr (.inr rfl)⟩
          · by_cases hxu : x = u
            · exact .inl (by simp [hxu])
            · have old : Up B M r x := ⟨hx.1, fun l' e' => by
                rcases (kr l').mp (hx.2 l' e') with h | h
                · exact h
                · exact absurd (hM.inj x u l (h ▸ e') hu) hxu⟩
              rcases J.dn x old with a | a | ⟨q, a⟩
              · exact .inl (List.mem_append_left _ a)
              · exact .inr (.inl fun y hy => (kr y).mpr (.inl (a y hy)))
              · refine .inr (.inr ⟨q, fun y hy => ?_⟩)
                rcases a y hy with b | b
                · exact .inl ((kr y).mpr (.inl b))
                · rcases List.mem_cons.mp b with b | b
                  · exact .inl ((kr y).mpr (.inr b))
                  · exact .inr b
        have ih := scan_ok hB hM up ls (r ++ [(l, up)]) (w ++ [u]) J'
        refine ⟨fun r' w' z => ?_, ih.2⟩
        obtain ⟨a, b⟩ := ih.1 r' w' z
        refine ⟨a, ?_⟩
        simp only [List.length_append, List.length_singleton] at b
        omega
theorem RG.sub {B : BL} {M r : MT} (hB : WF B) (h : RG B M r) : ∀ l ∈ ks r, l ∈ ks B := fun l hl => by
  obtain ⟨u, e⟩ := ks_lk hl
  exact (hB.lo u l (h.entry e).1).2
theorem RG.len {B : BL} {M r : MT} (hB : WF B) (h : RG B M r) : r.length ≤ B.length := by
  rw [← len_ks r, ← len_ks B]
  exact h.nd.length_le_of_subset fun l hl => h.sub hB l hl
theorem loop_ok {B : BL} {M : MT} (hB : WF B) (hM : MW B M) : ∀ (k : Nat) (r : MT) (w : List Int), SI B M r w → w.length + (B.length - r.length) < k →
    ∃ r' o, loop B (iv M) k r w = some (r', o) ∧ RG B M r' ∧ (∀ l, o = some l → l ∈ ks r' ∧ ∀ u, lk M u ≠ some l) ∧
      (o = none → SI B M r' [])
  | 0, r, w, _, h => absurd h (by omega)
  | k + 1, r, w, S, h => by
    simp only [loop]
    cases e : w.getLast? with
    | none =>
      have : w = [] := by simpa using e
      subst this
      exact ⟨r, none, rfl, S.rg, fun l z => (nomatch z), fun _ => S⟩
    | some up =>
      show ∃ r' o, (match scan (iv M) up (gt B up) r w.dropLast with
        | (r', _, some l) => some (r', some l)
        | (r', w', none) => loop B (iv M) k r' w') = some (r', o) ∧ _
      have hw : w = w.dropLast ++ [up] := by
        obtain ⟨hne, e2⟩ := List.getLast?_eq_some_iff.mp e |> fun ⟨ys, hy⟩ => (⟨by rw [hy]; simp, by rw [hy]; simp⟩ : w ≠ [] ∧ w = w.dropLast ++ [up])
        exact e2
      have hlen : w.length = w.dropLast.length + 1 := by rw [hw]; simp
      have hup : Up B M r up := S.wu up (by rw [hw]; simp)
      have J : SJ B M r w.dropLast up (gt B up) := by
        refine ⟨S.rg, S.ma, fun u hu => S.wu u (by rw [hw]; exact List.mem_append_left _ hu), hup, fun l hl => hl, fun u hu => ?_⟩
        rcases S.dn u hu with a | a
        · rw [hw] at a
          rcases List.mem_append.mp a with a | a
          · exact .inl a
          · have : u = up := by simpa using a
            exact .inr (.inr ⟨this, fun l hl => .inr (this ▸ hl)⟩)
        · exact .inr (.inl a)
      obtain ⟨s1, s2⟩ := scan_ok hB hM up (gt B up) r w.dropLast J
      cases q : scan (iv M) up (gt B up) r w.dropLast with
      | mk r' x =>
        obtain ⟨w', o⟩ := x
        cases o with
        | some l =>
          obtain ⟨a, b, c⟩ := s2 r' w' l q
          exact ⟨r', some l, rfl, a, fun l' z => by cases z; exact ⟨b, c⟩, fun z => by cases z⟩
        | none =>
          obtain ⟨a, b⟩ := s1 r' w' q
          have h1 := a.rg.len hB
          have h2 := S.rg.len hB
          exact loop_ok hB hM k r' w' a (by omega)
/-- what the whole search tells -/
def w0 (sk : List Int) (M : MT) : List Int := sk.filter fun u => decide (u ∉ ks M)
theorem search_ok {B : BL} {M : MT} {sk : List Int} (hB : WF B) (hM : MW B M) (hs : sk.Perm (ks B)) {k : Nat} (hk : B.length + B.length < k) :
    ∃ r o, loop B (iv M) k [] (w0 sk M) = some (r, o) ∧ RG B M r ∧ (∀ l, o = some l → l ∈ ks r ∧ ∀ u, lk M u ≠ some l) ∧ (o = none → SI B M r []) := by
  refine loop_ok hB hM k [] (w0 sk M) ⟨.nil, fun l hl => by simp [ks] at hl, fun u hu => ?_, fun u hu => ?_⟩ ?_
  · obtain ⟨a, b⟩ := List.mem_filter.mp hu
    refine ⟨hs.mem_iff.mp a, fun l e => absurd (lk_some_ks e) (by simpa using b)⟩
  · refine .inl (List.mem_filter.mpr ⟨hs.mem_iff.mpr hu.1, ?_⟩)
    have : lk M u = none := by
      cases e : lk M u with
      | none => rfl
      | some l => have := hu.2 l e; simp [ks] at this
    simpa using lk_none.mp this
  · have h1 : (w0 sk M).length ≤ sk.length := List.length_filter_le _ _
    have h2 : sk.length = B.length := by rw [hs.length_eq, len_ks]
    simp only [List.length_nil]
    omega
/-! ### the row of pairs -/
/-- from the lower thing low back, along what was reached, to a thing that had none right beneath it -/
inductive Ch (M r : MT) : Int → MT → Prop
  | stop {low up : Int} : lk r low = some up → lk M up = none → Ch M r low [(up, low)]
  | step {low up l : Int} {c : MT} : lk r low = some up → lk M up = some l → Ch M r l c → Ch M r low ((up, low) :: c)
theorem Ch.head {M r : MT} {low : Int} {c : MT} (h : Ch M r low c) : ∃ up c', c = (up, low) :: c' ∧ lk r low = some up := by
  cases h with
  | stop a b => exact ⟨_, _, rfl, a⟩
  | step a b c => exact ⟨_, _, rfl, a⟩
theorem Ch.ext {M r : MT} {l u : Int} (hn : l ∉ ks r) {low : Int} {c : MT} (h : Ch M r low c) : Ch M (r ++ [(l, u)]) low c := by
  have q : ∀ {a b : Int}, lk r a = some b → lk (r ++ [(l, u)]) a = some b := fun {a b} e => by
    rw [lk_snoc hn, if_neg (fun (z : a = l) => hn (z ▸ lk_some_ks e))]; exact e
  induction h with
  | stop a b => exact .stop (q a) b
  | step a b _ ih => exact .step (q a) b ih
theorem RG.chain {B : BL} {M r : MT} (h : RG B M r) : ∀ low ∈ ks r, ∃ c, Ch M r low c ∧ (∀ l ∈ c.map (·.2), l ∈ ks r) ∧ (c.map (·.2)).Nodup := by
  induction h with
  | nil => intro low hl; simp [ks] at hl
  | @snoc r l u rg hg hn hm ih =>
    intro low hl
    have kr : ∀ x, x ∈ ks (r ++ [(l, u)]) ↔ x ∈ ks r ∨ x = l := fun x => by rw [ks_app]; simp [ks]
    rcases (kr low).mp hl with h | h
    · obtain ⟨c, h1, h2, h3⟩ := ih low h
      exact ⟨c, h1.ext hn, fun x hx => (kr x).mpr (.inl (h2 x hx)), h3⟩
    · subst h
      have e : lk (r ++ [(low, u)]) low = some u := by rw [lk_snoc hn, if_pos rfl]
      cases q : lk M u with
      | none => exact ⟨[(u, low)], .stop e q, fun x hx => (kr x).mpr (.inr (by simpa using hx)), by simp⟩
      | some l' =>
        obtain ⟨c, h1, h2, h3⟩ := ih l' (hm l' q)
        refine ⟨(u, low) :: c, .step e q (h1.ext hn), fun x hx => ?_, ?_⟩
        · rcases List.mem_cons.mp hx with z | z
          · exact (kr x).mpr (.inr z)
          · exact (kr x).mpr (.inl (h2 x z))
        · rw [List.map_cons, List.nodup_cons]
          exact ⟨fun z => hn (h2 _ z), h3⟩
theorem Ch.uniq {M r : MT} {low : Int} {c d : MT} (h : Ch M r low c) (h' : Ch M r low d) : c = d := by
  induction h generalizing d with
  | stop a b => cases h' with
    | stop a' b' => rw [a] at a'; cases a'; rfl
    | step a' b' _ => rw [a] at a'; cases a'; rw [b] at b'; cases b'
  | step a b _ ih => cases h' with
    | stop a' b' => rw [a] at a'; cases a'; rw [b] at b'; cases b'
    | step a' b' q => rw [a] at a'; cases a'; rw [b] at b'; cases b'; rw [ih q]
/-- an upper thing of the row that had one right beneath it: that one is the next pair's lower thing -/
theorem Ch.next {M r : MT} {low : Int} {c : MT} (h : Ch M r low c) : ∀ u ∈ ks c, ∀ l, lk M u = some l → l ∈ (c.map (·.2)).tail := by
  induction h with
  | stop a b =>
    intro u hu l e
    rw [ks_cons] at hu
    rcases List.mem_cons.mp hu with z | z
    · rw [z, b] at e; cases e
    · simp [ks] at z
  | @step low up l' c a b hc ih =>
    intro u hu l e
    rw [ks_cons] at hu
    simp only [List.map_cons, List.tail_cons]
    rcases List.mem_cons.mp hu with z | z
    · subst z
      rw [b] at e; cases e
      obtain ⟨up', c', rfl, _⟩ := hc.head
      simp
    · exact List.mem_of_mem_tail (ih u z l e)
theorem Ch.last {M r : MT} {low : Int} {c : MT} (h : Ch M r low c) : ∀ l ∈ c.map (·.2), l = low ∨ ∃ u ∈ ks c, lk M u = some l := by
  induction h with
  | stop a b => intro l hl; exact .inl (by simpa using hl)
  | @step low up l' c a b hc ih =>
    intro l hl
    rw [List.map_cons] at hl
    rcases List.mem_cons.mp hl with z | z
    · exact .inl z
    · rcases ih l z with q | ⟨u, hu, q⟩
      · exact .inr ⟨up, by rw [ks_cons]; exact List.mem_cons_self, q ▸ b⟩
      · exact .inr ⟨u, by rw [ks_cons]; exact List.mem_cons_of_mem _ hu, q⟩
theorem Ch.ups {M r : MT} {low : Int} {c : MT} (h : Ch M r low c) (nd : (c.map (·.2)).Nodup) : (ks c).Nodup := by
  induction h with
  | stop a b => simp [ks]
  | @step low up l c a b hc ih =>
    rw [List.map_cons, List.nodup_cons] at nd
    rw [ks_cons, List.nodup_cons]
    refine ⟨fun m => ?_, ih nd.2⟩
    have q := hc.next up m l b
    obtain ⟨up', c', rfl, _⟩ := hc.head
    simp only [List.map_cons, List.tail_cons, List.nodup_cons] at q nd
    exact nd.2.1 q
theorem Ch.entry {M r : MT} {low : Int} {c : MT} (h : Ch M r low c) : ∀ p ∈ c, lk r p.2 = some p.1 := by
  induction h with
  | stop a b =>
    intro p hp
    rcases List.mem_cons.mp hp with z | z
    · subst z; exact a
    · simp at z
  | step a b _ ih =>
    intro p hp
    rcases List.mem_cons.mp hp with z | z
    · subst z; exact a
    · exact ih p z
/-- the row's last upper thing (the first as it is told) alone had none right beneath it -/
theorem Ch.first {M r : MT} {low : Int} {c : MT} (h : Ch M r low c) : ∃ a u l, c = a ++ [(u, l)] ∧ lk M u = none ∧ ∀ p ∈ a, ∃ v, lk M p.1 = some v := by
  induction h with
  | @stop low up a b => exact ⟨[], up, low, rfl, b, fun p hp => by simp at hp⟩
  | @step low up l c a b _ ih =>
    obtain ⟨x, u, l2, rfl, e, k⟩ := ih
    refine ⟨(up, low) :: x, u, l2, rfl, e, fun p hp => ?_⟩
    rcases List.mem_cons.mp hp with z | z
    · subst z; exact ⟨l, b⟩
    · exact k p z
def puts (M : MT) (row : MT) : MT := row.foldl (fun m p => pt m p.1 p.2) M
theorem puts_cons (M : MT) (p : Int × Int) (r : MT) : puts M (p :: r) = puts (pt M p.1 p.2) r := rfl
theorem puts_nd : ∀ (row : MT) {M : MT}, (ks M).Nodup → (ks (puts M row)).Nodup
  | [], _, h => h
  | p :: r, _, h => puts_nd r (nd_pt h)
theorem puts_lk : ∀ (row : MT) {M : MT} {x : Int}, (ks row).Nodup → lk (puts M row) x = if x ∈ ks row then lk row x else lk M x
  | [], M, x, _ => by simp [puts, ks]
  | p :: r, M, x, nd => by
    rw [ks_cons, List.nodup_cons] at nd
    rw [puts_cons, puts_lk r nd.2, lk_pt, ks_cons]
    by_cases e : x = p.1
    · subst e
      rw [if_neg nd.1]; simp [lk]
    · have e' : ¬ p.1 = x := fun z => e z.symm
      simp [lk, e, e']
theorem puts_len_old : ∀ (row : MT) {M : MT}, (∀ p ∈ row, p.1 ∈ ks M) → (puts M row).length = M.length
  | [], _, _ => rfl
  | p :: r, M, h => by
    have h1 : p.1 ∈ ks M := h p List.mem_cons_self
    rw [puts_cons, puts_len_old r (fun q hq => by rw [ks_pt, if_pos h1]; exact h q (List.mem_cons_of_mem _ hq)), len_pt, if_pos h1]
/-- one more stands above another -/
theorem aug {B : BL} {M r : MT} (hM : MW B M) (rg : RG B M r) {low : Int} (hl : low ∈ ks r) (hf : ∀ u, lk M u ≠ some low) {c : MT} (hc : Ch M r low c) :
    MW B (puts M c.reverse) ∧ (puts M c.reverse).length = M.length + 1 ∧ (ks c).Nodup ∧ (c.map (·.2)).Nodup := by
  obtain ⟨c', hc', _, ndl⟩ := rg.chain low hl
  cases hc.uniq hc'
  have ndu := hc.ups ndl
  have ndr : (ks c.reverse).Nodup := by
    have : ks c.reverse = (ks c).reverse := by simp [ks, List.map_reverse]
    rw [this]; exact (List.reverse_perm _).nodup_iff.mpr ndu
  have mr : ∀ x, x ∈ ks c.reverse ↔ x ∈ ks c := fun x => by simp [ks]
  have lr : ∀ x v, lk c.reverse x = some v → (x, v) ∈ c := fun x v e => List.mem_reverse.mp (lk_mem e)
  have vc : ∀ {x v}, (x, v) ∈ c → v ∈ c.map (·.2) := fun {x v} m => List.mem_map.mpr ⟨(x, v), m, rfl⟩
  have injc : ∀ L : MT, (L.map (·.2)).Nodup → ∀ x y v, (x, v) ∈ L → (y, v) ∈ L → x = y := by
    intro L
    induction L with
    | nil => intro _ x y v h; simp at h
    | cons p r ih =>
      intro nd x y v h1 h2
      rw [List.map_cons, List.nodup_cons] at nd
      have out : ∀ {z : Int}, (z, v) ∈ r → p.2 ≠ v := fun {z} m e => nd.1 (List.mem_map.mpr ⟨(z, v), m, e.symm⟩)
      rcases List.mem_cons.mp h1 with a | a <;> rcases List.mem_cons.mp h2 with b | b
      · rw [← a] at b; cases b; rfl
      · rw [← a] at out; exact absurd rfl (out b)
      · rw [← b] at out; exact absurd rfl (out a)
      · exact ih nd.2 x y v a b
  have mix : ∀ x y v, (x, v) ∈ c → y ∉ ks c → lk M y = some v → False := fun x y v m ny e => by
    rcases hc.last v (vc m) with z | ⟨u, hu, z⟩
    · exact hf y (z ▸ e)
    · exact ny (hM.inj y u v e z ▸ hu)
  refine ⟨⟨puts_nd _ hM.nd, fun x y v h1 h2 => ?_, fun x v h => ?_⟩, ?_, ndu, ndl⟩
  · rw [puts_lk _ ndr] at h1 h2
    by_cases a : x ∈ ks c.reverse <;> by_cases b : y ∈ ks c.reverse
    · rw [if_pos a] at h1; rw [if_pos b] at h2
      exact injc c ndl x y v (lr _ _ h1) (lr _ _ h2)
    · rw [if_pos a] at h1; rw [if_neg b] at h2
      exact (mix x y v (lr _ _ h1) (fun z => b ((mr y).mpr z)) h2).elim
    · rw [if_neg a] at h1; rw [if_pos b] at h2
      exact (mix y x v (lr _ _ h2) (fun z => a ((mr x).mpr z)) h1).elim
    · rw [if_neg a] at h1; rw [if_neg b] at h2
      exact hM.inj x y v h1 h2
  · rw [puts_lk _ ndr] at h
    by_cases a : x ∈ ks c.reverse
    · rw [if_pos a] at h
      exact (rg.entry (hc.entry _ (lr _ _ h))).1
    · rw [if_neg a] at h
      exact hM.be x v h
  · obtain ⟨a, u, l, rfl, e, k⟩ := hc.first
    rw [List.reverse_append]
    show (puts M ((u, l) :: a.reverse)).length = _
    have hu : u ∉ ks M := lk_none.mp e
    rw [puts_cons, puts_len_old, len_pt, if_neg hu]
    intro p hp
    obtain ⟨v, e2⟩ := k p (List.mem_reverse.mp hp)
    rw [ks_pt, if_neg hu]
    exact List.mem_append_left _ (lk_some_ks e2)

/-! ### counting -/
theorem same_len {a b : List Int} (ha : a.Nodup) (hb : b.Nodup) (h : ∀ x, x ∈ a ↔ x ∈ b) : a.length = b.length :=
  Nat.le_antisymm (ha.length_le_of_subset fun x hx => (h x).mp hx) (hb.length_le_of_subset fun x hx => (h x).mpr hx)
theorem filter_split (p : Int → Bool) : ∀ l : List Int, (l.filter p).length + (l.filter fun x => !p x).length = l.length
  | [] => rfl
  | a :: r => by
    have ih := filter_split p r
    simp only [List.filter_cons]
    cases p a <;> simp <;> omega
/-- those with none right beneath them -/
theorem bottoms_len {B : BL} {M : MT} (hB : WF B) (hM : MW B M) {sk : List Int} (hs : sk.Perm (ks B)) :
    (sk.filter fun u => decide (u ∉ ks M)).length + M.length = B.length := by
  have nd : sk.Nodup := hs.nodup_iff.mpr hB.nd
  have h1 := filter_split (fun u => decide (u ∈ ks M)) sk
  have h2 : (sk.filter fun u => decide (u ∈ ks M)).length = M.length := by
    rw [← len_ks M]
    refine same_len (nd.sublist List.filter_sublist) hM.nd fun x => ?_
    rw [List.mem_filter]
    exact ⟨fun h => by simpa using h.2, fun h => ⟨hs.mem_iff.mpr (hM.sub h), by simpa using h⟩⟩
  have h3 : sk.length = B.length := by rw [hs.length_eq, len_ks]
  have h4 : (sk.filter fun u => !decide (u ∈ ks M)) = sk.filter fun u => decide (u ∉ ks M) := by
    congr 1; funext u; simp
  rw [h4] at h1
  omega
/-- the free set that the program tells, where the search found nothing -/
def fs0 (sk : List Int) (M r : MT) : List Int := sk.filter fun x => decide (x ∉ ks M) || (match lk M x with | some l => decide (l ∈ ks r) | none => false)
def fs (sk : List Int) (M r : MT) : List Int := (fs0 sk M r).filter fun x => decide (x ∉ ks r)
theorem mem_fs0 {sk : List Int} {M r : MT} {x : Int} : x ∈ fs0 sk M r ↔ x ∈ sk ∧ ∀ l, lk M x = some l → l ∈ ks r := by
  unfold fs0
  rw [List.mem_filter]
  cases e : lk M x with
  | none => simp [lk_none.mp e]
  | some l => simp [lk_some_ks e]
theorem mem_fs {sk : List Int} {M r : MT} {x : Int} : x ∈ fs sk M r ↔ (x ∈ sk ∧ ∀ l, lk M x = some l → l ∈ ks r) ∧ x ∉ ks r := by
  unfold fs
  rw [List.mem_filter, mem_fs0]
  simp
/-- apart, two by two -/
def Apart (B : BL) (x y : Int) : Prop := x ∉ gt B y ∧ y ∉ gt B x
def Free (B : BL) (S : List Int) : Prop := S.Nodup ∧ (∀ x ∈ S, x ∈ ks B) ∧ ∀ x ∈ S, ∀ y ∈ S, y ∉ gt B x
theorem konig {B : BL} {M r : MT} (hB : WF B) (hM : MW B M) {sk : List Int} (hs : sk.Perm (ks B)) (S : SI B M r []) :
    Free B (fs sk M r) ∧ (fs sk M r).length + M.length = B.length := by
  have nd : sk.Nodup := hs.nodup_iff.mpr hB.nd
  have up : ∀ x, x ∈ fs0 sk M r ↔ Up B M r x := fun x => by rw [mem_fs0, hs.mem_iff]; exact Iff.rfl
  have dn : ∀ x, Up B M r x → ∀ l ∈ gt B x, l ∈ ks r := fun x hx => (S.dn x hx).elim (fun z => by simp at z) id
  refine ⟨⟨(nd.sublist List.filter_sublist).sublist List.filter_sublist, fun x hx => hs.mem_iff.mp (mem_fs.mp hx).1.1, fun x hx y hy hg => ?_⟩, ?_⟩
  · have hx' := mem_fs.mp hx
    have hy' := mem_fs.mp hy
    exact hy'.2 (dn x ⟨hs.mem_iff.mp hx'.1.1, hx'.1.2⟩ y hg)
  · have nd0 : (fs0 sk M r).Nodup := nd.sublist List.filter_sublist
    -- |fs0| = those without beneath + those above a reached one
    have a1 := filter_split (fun x => decide (x ∉ ks M)) (fs0 sk M r)
    have a2 : ((fs0 sk M r).filter fun x => decide (x ∉ ks M)).length = (sk.filter fun u => decide (u ∉ ks M)).length := by
      refine same_len (nd0.sublist List.filter_sublist) (nd.sublist List.filter_sublist) fun x => ?_
      rw [List.mem_filter, List.mem_filter, mem_fs0]
      constructor
      · intro h; exact ⟨h.1.1, h.2⟩
      · intro h; exact ⟨⟨h.1, fun l e => absurd (lk_some_ks e) (by simpa using h.2)⟩, h.2⟩
    have a3 : ((fs0 sk M r).filter fun x => !decide (x ∉ ks M)).length = r.length := by
      -- the reached lower things and those above them
      have e : ((fs0 sk M r).filter fun x => !decide (x ∉ ks M)).map (fun x => (lk M x).getD 0) = ((fs0 sk M r).filter fun x => !decide (x ∉ ks M)).map (fun x => (lk M x).getD 0) := rfl
      rw [← len_ks r, ← List.length_map (f := fun x => (lk M x).getD 0)]
      refine same_len ?_ S.rg.nd fun l => ?_
      · rw [List.Nodup, List.pairwise_map]
        have nd1 : ((fs0 sk M r).filter fun x => !decide (x ∉ ks M)).Nodup := nd0.sublist List.filter_sublist
        refine nd1.imp_of_mem fun {x y} hx hy hne e => hne ?_
        have hxM : x ∈ ks M := by simpa using (List.mem_filter.mp hx).2
        have hyM : y ∈ ks M := by simpa using (List.mem_filter.mp hy).2
        obtain ⟨v, ev⟩ := ks_lk hxM
        obtain ⟨u, eu⟩ := ks_lk hyM
        rw [ev, eu] at e
        have e' : v = u := e
        subst e'
        exact hM.inj x y v ev eu
      · rw [List.mem_map]
        constructor
        · rintro ⟨x, hx, rfl⟩
          obtain ⟨h1, h2⟩ := List.mem_filter.mp hx
          have hxM : x ∈ ks M := by simpa using h2
          obtain ⟨v, ev⟩ := ks_lk hxM
          rw [ev]
          exact (mem_fs0.mp h1).2 v ev
        · intro hl
          obtain ⟨u, eu⟩ := S.ma l hl
          refine ⟨u, List.mem_filter.mpr ⟨mem_fs0.mpr ⟨hs.mem_iff.mpr (gt_ks (hM.be u l eu)), fun l' e' => by rw [eu] at e'; cases e'; exact hl⟩, ?_⟩, by rw [eu]; rfl⟩
          simpa using lk_some_ks eu
    -- the reached lower things are of fs0
    have b1 := filter_split (fun x => decide (x ∉ ks r)) (fs0 sk M r)
    have b2 : ((fs0 sk M r).filter fun x => !decide (x ∉ ks r)).length = r.length := by
      rw [← len_ks r]
      refine same_len (nd0.sublist List.filter_sublist) S.rg.nd fun x => ?_
      rw [List.mem_filter, up]
      constructor
      · intro h; simpa using h.2
      · intro h
        refine ⟨?_, by simpa using h⟩
        obtain ⟨u, eu⟩ := ks_lk h
        have he := S.rg.entry eu
        have hu : Up B M r u := ⟨gt_ks he.1, he.2⟩
        refine ⟨(hB.lo u x he.1).2, fun l e => ?_⟩
        exact dn u hu l (hB.tr u x l he.1 (hM.be x l e))
    have c1 := bottoms_len hB hM hs
    have : (fs sk M r).length = ((fs0 sk M r).filter fun x => decide (x ∉ ks r)).length := rfl
    omega

/-! ### ladders -/
/-- a ladder: each right above the one ahead of it, nothing above the last -/
inductive Lad (A : MT) : Int → List Int → Prop
  | last {x : Int} : lk A x = none → Lad A x [x]
  | cons {x y : Int} {l : List Int} : lk A x = some y → Lad A y l → Lad A x (x :: l)
theorem Lad.uniq {A : MT} {x : Int} {a b : List Int} (h : Lad A x a) (h' : Lad A x b) : a = b := by
  induction h generalizing b with
  | last e => cases h' with
    | last _ => rfl
    | cons e' _ => rw [e] at e'; cases e'
  | cons e _ ih => cases h' with
    | last e' => rw [e] at e'; cases e'
    | cons e' q => rw [e] at e'; cases e'; rw [ih q]
theorem Lad.hd {A : MT} {x : Int} {l : List Int} (h : Lad A x l) : ∃ t, l = x :: t := by
  cases h with
  | last _ => exact ⟨[], rfl⟩
  | cons _ _ => exact ⟨_, rfl⟩
/-- things greater than x -/
def more (B : BL) (x : Int) : Nat := ((ks B).filter fun y => decide (x < y)).length
theorem more_lt {B : BL} {x y : Int} (hy : y ∈ ks B) (h : x < y) : more B y < more B x := by
  unfold more
  have go : ∀ l : List Int, y ∈ l → (l.filter fun z => decide (y < z)).length < (l.filter fun z => decide (x < z)).length := by
    intro l
    have le : ∀ l : List Int, (l.filter fun z => decide (y < z)).length ≤ (l.filter fun z => decide (x < z)).length := by
      intro l
      induction l with
      | nil => simp
      | cons a r ih =>
        simp only [List.filter_cons]
        by_cases h1 : y < a
        · have h2 : x < a := by omega
          simp [h1, h2, ih]
        · by_cases h2 : x < a
          · simp [h1, h2]; omega
          · simp [h1, h2, ih]
    induction l with
    | nil => intro h; simp at h
    | cons a r ih =>
      intro hm
      simp only [List.filter_cons]
      rcases List.mem_cons.mp hm with e | e
      · subst e
        have := le r
        simp [h]; omega
      · have := ih e
        by_cases h1 : y < a
        · have h2 : x < a := by omega
          simp [h1, h2]; omega
        · by_cases h2 : x < a
          · simp [h1, h2]; omega
          · simp [h1, h2]; omega
  exact go (ks B) hy
theorem up_of {B : BL} {M : MT} (hB : WF B) (hM : MW B M) {x y : Int} (h : lk (iv M) x = some y) : x ∈ gt B y ∧ x < y ∧ y ∈ ks B ∧ lk M y = some x := by
  have e := (iv_lk hM).mp h
  have g := hM.be y x e
  exact ⟨g, (hB.lo y x g).1, gt_ks g, e⟩
theorem lad_ex {B : BL} {M : MT} (hB : WF B) (hM : MW B M) : ∀ (n : Nat) (x : Int), more B x ≤ n → ∃ l, Lad (iv M) x l
  | 0, x, h => by
    cases e : lk (iv M) x with
    | none => exact ⟨_, .last e⟩
    | some y =>
      obtain ⟨_, b, c, _⟩ := up_of hB hM e
      have := more_lt c b
      omega
  | n + 1, x, h => by
    cases e : lk (iv M) x with
    | none => exact ⟨_, .last e⟩
    | some y =>
      obtain ⟨_, b, c, _⟩ := up_of hB hM e
      have := more_lt c b
      obtain ⟨l, hl⟩ := lad_ex hB hM n y (by omega)
      exact ⟨_, .cons e hl⟩
/-- the ladder from x, reckoned -/
def climb (A : MT) : Nat → Int → List Int
  | 0, x => [x]
  | n + 1, x => x :: (match lk A x with | some y => climb A n y | none => [])
theorem climb_lad {A : MT} {x : Int} {l : List Int} (h : Lad A x l) : ∀ n, l.length ≤ n + 1 → climb A n x = l := by
  induction h with
  | last e => intro n _; cases n <;> simp [climb, e]
  | @cons x y l e hl ih =>
    intro n hn
    cases n with
    | zero =>
      obtain ⟨t, rfl⟩ := hl.hd
      simp at hn
    | succ n =>
      simp only [climb, e]
      rw [ih n (by simpa using hn)]
theorem Lad.mem {B : BL} {M : MT} (hB : WF B) (hM : MW B M) {x : Int} {l : List Int} (h : Lad (iv M) x l) : x ∈ ks B → ∀ y ∈ l, y ∈ ks B ∧ x ≤ y := by
  induction h with
  | last e =>
    intro hx y hy
    rcases List.mem_cons.mp hy with z | z
    · subst z; exact ⟨hx, Int.le_refl _⟩
    · simp at z
  | cons e _ ih =>
    intro hx y hy
    obtain ⟨_, b, c, _⟩ := up_of hB hM e
    rcases List.mem_cons.mp hy with z | z
    · subst z; exact ⟨hx, Int.le_refl _⟩
    · have := ih c y z
      exact ⟨this.1, by omega⟩
/-- rising, each above all ahead of it -/
theorem Lad.rise {B : BL} {M : MT} (hB : WF B) (hM : MW B M) {x : Int} {l : List Int} (h : Lad (iv M) x l) : l.Pairwise fun a b => a ∈ gt B b := by
  have key : ∀ {x : Int} {l : List Int}, Lad (iv M) x l → ∀ y ∈ l, y = x ∨ x ∈ gt B y := by
    intro x l h
    induction h with
    | last e => intro y hy; exact .inl (by simpa using hy)
    | cons e hl ih =>
      intro y hy
      obtain ⟨a, _, _, _⟩ := up_of hB hM e
      rcases List.mem_cons.mp hy with z | z
      · exact .inl z
      · rcases ih y z with q | q
        · exact .inr (q ▸ a)
        · exact .inr (hB.tr y _ _ q a)
  induction h with
  | last e => simp
  | @cons x y l e hl ih =>
    rw [List.pairwise_cons]
    refine ⟨fun z hz => ?_, ih⟩
    obtain ⟨a, _, _, _⟩ := up_of hB hM e
    rcases key hl z hz with q | q
    · exact q ▸ a
    · exact hB.tr z y x q a
theorem Lad.nodup {B : BL} {M : MT} (hB : WF B) (hM : MW B M) {x : Int} {l : List Int} (h : Lad (iv M) x l) : l.Nodup :=
  (h.rise hB hM).imp fun {a b} g e => by
    have := (hB.lo b a g).1
    subst e
    omega
/-- a thing of a ladder is its lowest or stands right above another of it -/
theorem Lad.pred {A : MT} {x : Int} {l : List Int} (h : Lad A x l) : ∀ y ∈ l, y = x ∨ ∃ v ∈ l, lk A v = some y := by
  induction h with
  | last e => intro y hy; exact .inl (by simpa using hy)
  | cons e hl ih =>
    intro z hz
    rcases List.mem_cons.mp hz with q | q
    · exact .inl q
    · rcases ih z q with r | ⟨v, hv, r⟩
      · exact .inr ⟨_, List.mem_cons_self, r ▸ e⟩
      · exact .inr ⟨v, List.mem_cons_of_mem _ hv, r⟩
theorem Lad.succ {A : MT} {x : Int} {l : List Int} (h : Lad A x l) : ∀ v ∈ l, ∀ y, lk A v = some y → y ∈ l := by
  induction h with
  | last e =>
    intro v hv y q
    rcases List.mem_cons.mp hv with z | z
    · subst z; rw [e] at q; cases q
    · simp at z
  | cons e hl ih =>
    intro v hv y q
    rcases List.mem_cons.mp hv with z | z
    · subst z
      rw [e] at q; cases q
      obtain ⟨t, rfl⟩ := hl.hd
      simp
    · exact List.mem_cons_of_mem _ (ih v z y q)
/-- things less than x -/
def less (B : BL) (x : Int) : Nat := ((ks B).filter fun y => decide (y < x)).length
theorem less_lt {B : BL} {x y : Int} (hy : y ∈ ks B) (h : y < x) : less B y < less B x := by
  unfold less
  have le : ∀ l : List Int, (l.filter fun z => decide (z < y)).length ≤ (l.filter fun z => decide (z < x)).length := by
    intro l
    induction l with
    | nil => simp
    | cons a r ih =>
      simp only [List.filter_cons]
      by_cases h1 : a < y
      · have h2 : a < x := by omega
        simp [h1, h2, ih]
      · by_cases h2 : a < x
        · simp [h1, h2]; omega
        · simp [h1, h2, ih]
  have go : ∀ l : List Int, y ∈ l → (l.filter fun z => decide (z < y)).length < (l.filter fun z => decide (z < x)).length := by
    intro l
    induction l with
    | nil => intro h; simp at h
    | cons a r ih =>
      intro hm
      simp only [List.filter_cons]
      rcases List.mem_cons.mp hm with e | e
      · subst e
        have := le r
        simp [h]; omega
      · have := ih e
        by_cases h1 : a < y
        · have h2 : a < x := by omega
          simp [h1, h2]; omega
        · by_cases h2 : a < x
          · simp [h1, h2]; omega
          · simp [h1, h2]; omega
  exact go (ks B) hy
/-- the hall's ladders, told by their lowest things; sk: the things, rising -/
def lads (sk : List Int) (B : BL) (M : MT) : List (List Int) := (sk.filter fun x => decide (x ∉ ks M)).map (climb (iv M) B.length)
theorem Lad.len {B : BL} {M : MT} (hB : WF B) (hM : MW B M) {x : Int} {l : List Int} (h : Lad (iv M) x l) (hx : x ∈ ks B) : l.length ≤ B.length := by
  rw [← len_ks B]
  exact (h.nodup hB hM).length_le_of_subset fun y hy => (h.mem hB hM hx y hy).1
theorem climb_ok {B : BL} {M : MT} (hB : WF B) (hM : MW B M) {x : Int} (hx : x ∈ ks B) : Lad (iv M) x (climb (iv M) B.length x) := by
  obtain ⟨l, h⟩ := lad_ex hB hM _ x (Nat.le_refl _)
  have := h.len hB hM hx
  rw [climb_lad h _ (by omega)]
  exact h
theorem lads_len {B : BL} {M : MT} (hB : WF B) (hM : MW B M) {sk : List Int} (hs : sk.Perm (ks B)) : (lads sk B M).length + M.length = B.length := by
  unfold lads
  rw [List.length_map]
  exact bottoms_len hB hM hs
/-- each thing stands in a ladder -/
theorem lads_all {B : BL} {M : MT} (hB : WF B) (hM : MW B M) {sk : List Int} (hs : sk.Perm (ks B)) : ∀ (n : Nat) (y : Int), less B y ≤ n → y ∈ ks B → ∃ l ∈ lads sk B M, y ∈ l := by
  have base : ∀ y, y ∈ ks B → lk M y = none → ∃ l ∈ lads sk B M, y ∈ l := fun y hy e => by
    refine ⟨climb (iv M) B.length y, List.mem_map.mpr ⟨y, List.mem_filter.mpr ⟨hs.mem_iff.mpr hy, by simpa using lk_none.mp e⟩, rfl⟩, ?_⟩
    obtain ⟨t, h⟩ := (climb_ok hB hM hy).hd
    rw [h]; simp
  intro n
  induction n with
  | zero =>
    intro y hn hy
    cases e : lk M y with
    | none => exact base y hy e
    | some v =>
      have g := hM.be y v e
      have := less_lt (hB.lo y v g).2 (hB.lo y v g).1
      omega
  | succ n ih =>
    intro y hn hy
    cases e : lk M y with
    | none => exact base y hy e
    | some v =>
      have g := hM.be y v e
      obtain ⟨l1, hv⟩ := hB.lo y v g
      have := less_lt hv l1
      obtain ⟨l, hl, hvl⟩ := ih v (by omega) hv
      refine ⟨l, hl, ?_⟩
      obtain ⟨b, hb, rfl⟩ := List.mem_map.mp hl
      have hbB : b ∈ ks B := hs.mem_iff.mp (List.mem_filter.mp hb).1
      exact (climb_ok hB hM hbB).succ v hvl y ((iv_lk hM).mpr e)
/-- and in one alone -/
theorem lads_one {B : BL} {M : MT} (hB : WF B) (hM : MW B M) : ∀ (n : Nat) (a b y : Int) (k l : List Int), less B y ≤ n → a ∈ ks B → b ∈ ks B → lk M a = none → lk M b = none → Lad (iv M) a k → Lad (iv M) b l → y ∈ k → y ∈ l → a = b := by
  intro n
  induction n with
  | zero =>
    intro a b y k l hn ha hb ea eb hk hl yk yl
    rcases hk.pred y yk with q | ⟨v, hv, q⟩
    · subst q
      rcases hl.pred y yl with r | ⟨u, hu, r⟩
      · exact r
      · have := (iv_lk hM).mp r; rw [ea] at this; cases this
    · obtain ⟨_, b1, _, e1⟩ := up_of hB hM q
      have := less_lt (hk.mem hB hM ha v hv).1 b1
      omega
  | succ n ih =>
    intro a b y k l hn ha hb ea eb hk hl yk yl
    rcases hk.pred y yk with q | ⟨v, hv, q⟩
    · subst q
      rcases hl.pred y yl with r | ⟨u, hu, r⟩
      · exact r
      · have := (iv_lk hM).mp r; rw [ea] at this; cases this
    · obtain ⟨_, b1, _, e1⟩ := up_of hB hM q
      rcases hl.pred y yl with r | ⟨u, hu, r⟩
      · subst r; rw [eb] at e1; cases e1
      · have e2 := (iv_lk hM).mp r
        rw [e1] at e2; cases e2
        have := less_lt (hk.mem hB hM ha v hv).1 b1
        exact ih a b v k l (by omega) ha hb ea eb hk hl hv hu
theorem pigeon : ∀ (Ls : List (List Int)) (S : List Int), S.Nodup → (∀ s ∈ S, ∃ L ∈ Ls, s ∈ L) → (∀ L ∈ Ls, ∀ s ∈ S, ∀ t ∈ S, s ∈ L → t ∈ L → s = t) → S.length ≤ Ls.length
  | [], S, _, h, _ => by
    cases S with
    | nil => simp
    | cons a r => obtain ⟨L, hL, _⟩ := h a List.mem_cons_self; simp at hL
  | L :: Ls, S, nd, h, one => by
    have h1 : (S.filter fun x => decide (x ∉ L)).length ≤ Ls.length := by
      refine pigeon Ls _ (nd.sublist List.filter_sublist) (fun s hs => ?_) fun K hK s hs t ht => one K (List.mem_cons_of_mem _ hK) s (List.mem_filter.mp hs).1 t (List.mem_filter.mp ht).1
      obtain ⟨a, b⟩ := List.mem_filter.mp hs
      obtain ⟨K, hK, hsK⟩ := h s a
      rcases List.mem_cons.mp hK with e | e
      · subst e; exact absurd hsK (by simpa using b)
      · exact ⟨K, e, hsK⟩
    have h2 : (S.filter fun x => decide (x ∈ L)).length ≤ 1 := by
      have nd2 : (S.filter fun x => decide (x ∈ L)).Nodup := nd.sublist List.filter_sublist
      match hq : S.filter (fun x => decide (x ∈ L)) with
      | [] => simp
      | [a] => simp
      | a :: b :: r =>
        rw [hq] at nd2
        have ha : a ∈ S.filter fun x => decide (x ∈ L) := by rw [hq]; simp
        have hb : b ∈ S.filter fun x => decide (x ∈ L) := by rw [hq]; simp
        obtain ⟨a1, a2⟩ := List.mem_filter.mp ha
        obtain ⟨b1, b2⟩ := List.mem_filter.mp hb
        have e := one L List.mem_cons_self a a1 b b1 (by simpa using a2) (by simpa using b2)
        subst e
        simp at nd2
    have h3 := filter_split (fun x => decide (x ∈ L)) S
    have h4 : (S.filter fun x => !decide (x ∈ L)) = S.filter fun x => decide (x ∉ L) := by
      congr 1; funext x; simp
    rw [h4] at h3
    simp only [List.length_cons]
    omega
/-- no free set has more things than there are ladders -/
theorem weak {B : BL} {M : MT} (hB : WF B) (hM : MW B M) {S : List Int} (hS : Free B S) : S.length + M.length ≤ B.length := by
  have h := pigeon (lads (ks B) B M) S hS.1 (fun s hs => lads_all hB hM (List.Perm.refl _) _ s (Nat.le_refl _) (hS.2.1 s hs)) fun L hL s hs t ht hsL htL => ?_
  · have := lads_len hB hM (List.Perm.refl (ks B))
    omega
  · obtain ⟨b, hb, rfl⟩ := List.mem_map.mp hL
    have hbB : b ∈ ks B := (List.mem_filter.mp hb).1
    have lad := climb_ok hB hM hbB
    have pw := lad.rise hB hM
    by_cases e : s = t
    · exact e
    · have cmp : s ∈ gt B t ∨ t ∈ gt B s := by
        have : ∀ l : List Int, l.Pairwise (fun a b => a ∈ gt B b) → s ∈ l → t ∈ l → s ∈ gt B t ∨ t ∈ gt B s := by
          intro l
          induction l with
          | nil => intro _ h; simp at h
          | cons a r ih =>
            intro p h1 h2
            rw [List.pairwise_cons] at p
            rcases List.mem_cons.mp h1 with x | x <;> rcases List.mem_cons.mp h2 with y | y
            · exact absurd (x.trans y.symm) e
            · exact .inl (x ▸ p.1 t y)
            · exact .inr (y ▸ p.1 s x)
            · exact ih p.2 x y
        exact this _ pw hsL htL
      rcases cmp with c | c
      · exact (hS.2.2 t ht s hs c).elim
      · exact (hS.2.2 s hs t ht c).elim
end FL
namespace FL
/-! ### the row, as the program goes -/
/-- what is left of the row behind its pair with the upper thing up -/
def Rest (M r : MT) (up : Int) (c : MT) : Prop := (lk M up = none ∧ c = []) ∨ ∃ l, lk M up = some l ∧ Ch M r l c
theorem Ch.split {M r : MT} {low : Int} {c : MT} (h : Ch M r low c) : ∃ up c', c = (up, low) :: c' ∧ lk r low = some up ∧ Rest M r up c' := by
  cases h with
  | stop a b => exact ⟨_, _, rfl, a, .inl ⟨b, rfl⟩⟩
  | step a b c => exact ⟨_, _, rfl, a, .inr ⟨_, b, c⟩⟩
/-- the row, reckoned -/
def chn (M r : MT) : Nat → Int → MT
  | 0, _ => []
  | k + 1, low => match lk r low with
    | none => []
    | some up => (up, low) :: (match lk M up with
      | none => []
      | some l => chn M r k l)
theorem chn_ok {M r : MT} {low : Int} {c : MT} (h : Ch M r low c) : ∀ k, c.length ≤ k → chn M r k low = c := by
  induction h with
  | stop a b =>
    intro k hk
    cases k with
    | zero => simp at hk
    | succ k => simp [chn, a, b]
  | step a b _ ih =>
    intro k hk
    cases k with
    | zero => simp at hk
    | succ k =>
      simp only [chn, a, b]
      rw [ih k (by simpa using hk)]
theorem Ch.len {M r : MT} {low : Int} {c : MT} (h : Ch M r low c) (nd : (c.map (·.2)).Nodup) (rn : (ks r).Nodup) : c.length ≤ r.length := by
  rw [← len_ks r, ← List.length_map (f := (·.2)) (as := c)]
  refine nd.length_le_of_subset fun l hl => ?_
  obtain ⟨p, hp, rfl⟩ := List.mem_map.mp hl
  exact lk_some_ks (h.entry p hp)
/-- one more above another, where that can be: what stands right beneath what, and the row -/
def srch (B : BL) (sk : List Int) (M : MT) : MT × Option Int := (loop B (iv M) (B.length + B.length + 1) [] (w0 sk M)).getD ([], none)
def rowOf (M : MT) : MT × Option Int → MT
  | (r, some l) => (chn M r r.length l).reverse
  | (_, none) => []
def mrow (B : BL) (sk : List Int) (M : MT) : MT := rowOf M (srch B sk M)
def mfew (B : BL) (sk : List Int) (M : MT) : MT := puts M (mrow B sk M)
/-- what a search comes to -/
theorem srch_ok {B : BL} {M : MT} {sk : List Int} (hB : WF B) (hM : MW B M) (hs : sk.Perm (ks B)) :
    loop B (iv M) (B.length + B.length + 1) [] (w0 sk M) = some (srch B sk M) ∧ RG B M (srch B sk M).1 ∧
    (∀ l, (srch B sk M).2 = some l → (l ∈ ks (srch B sk M).1 ∧ ∀ u, lk M u ≠ some l) ∧ Ch M (srch B sk M).1 l (mrow B sk M).reverse ∧ (mrow B sk M).reverse.length ≤ B.length ∧ mrow B sk M ≠ []) ∧
    ((srch B sk M).2 = none → SI B M (srch B sk M).1 [] ∧ mrow B sk M = []) := by
  obtain ⟨r, o, e, rg, h1, h2⟩ := search_ok hB hM hs (Nat.lt_succ_self (B.length + B.length))
  have es : srch B sk M = (r, o) := by unfold srch; rw [e]; rfl
  refine ⟨by rw [e, es], by rw [es]; exact rg, fun l hl => ?_, fun hn => ?_⟩
  · rw [es] at hl ⊢
    have ho : o = some l := hl
    subst ho
    obtain ⟨a, b⟩ := h1 l rfl
    obtain ⟨c, hc, _, nd⟩ := rg.chain l a
    have em : mrow B sk M = c.reverse := by
      unfold mrow
      rw [es]
      show (chn M r r.length l).reverse = _
      rw [chn_ok hc _ (hc.len nd rg.nd)]
    rw [em, List.reverse_reverse]
    refine ⟨⟨a, b⟩, hc, Nat.le_trans (hc.len nd rg.nd) (rg.len hB), ?_⟩
    obtain ⟨up, c', rfl, _⟩ := hc.head
    simp
  · rw [es] at hn ⊢
    have ho : o = none := hn
    subst ho
    exact ⟨h2 rfl, by unfold mrow; rw [es]; rfl⟩
theorem mfew_ok {B : BL} {M : MT} {sk : List Int} (hB : WF B) (hM : MW B M) (hs : sk.Perm (ks B)) :
    MW B (mfew B sk M) ∧ (mfew B sk M).length = M.length + (if mrow B sk M = [] then 0 else 1) := by
  obtain ⟨_, rg, h1, h2⟩ := srch_ok hB hM hs
  cases e : (srch B sk M).2 with
  | none =>
    obtain ⟨_, em⟩ := h2 e
    unfold mfew
    rw [em]
    exact ⟨hM, by simp [puts]⟩
  | some l =>
    obtain ⟨⟨a, b⟩, hc, _, ne⟩ := h1 l e
    have q := aug hM rg a b hc
    rw [List.reverse_reverse] at q
    unfold mfew
    exact ⟨q.1, by rw [q.2.1, if_neg ne]⟩
/-- nothing more can be gained -/
def Best (B : BL) (M : MT) : Prop := ∃ S, Free B S ∧ S.length + M.length = B.length
theorem best_none {B : BL} {M : MT} {sk : List Int} (hB : WF B) (hM : MW B M) (hs : sk.Perm (ks B)) (b : Best B M) : (srch B sk M).2 = none := by
  cases e : (srch B sk M).2 with
  | none => rfl
  | some l =>
    obtain ⟨S, hS, hl⟩ := b
    obtain ⟨_, _, h1, _⟩ := srch_ok hB hM hs
    obtain ⟨_, _, _, ne⟩ := h1 l e
    obtain ⟨m1, m2⟩ := mfew_ok hB hM hs
    have := weak hB m1 hS
    rw [m2, if_neg ne] at this
    omega
theorem none_best {B : BL} {M : MT} {sk : List Int} (hB : WF B) (hM : MW B M) (hs : sk.Perm (ks B)) (e : (srch B sk M).2 = none) : Free B (fs sk M (srch B sk M).1) ∧ (fs sk M (srch B sk M).1).length + M.length = B.length := by
  obtain ⟨_, _, _, h2⟩ := srch_ok hB hM hs
  exact konig hB hM hs (h2 e).1

/-! ### a thing is put in -/
def under (B : BL) (some : List Int) : List Int := (ks B).filter fun x => decide (x ∈ some ∨ ∃ s ∈ some, x ∈ gt B s)
def putB (B : BL) (n : Int) (some : List Int) : BL := B ++ [(n, under B some)]
theorem mem_under {B : BL} {some : List Int} {x : Int} (h : ∀ s ∈ some, s ∈ ks B) (hB : WF B) : x ∈ under B some ↔ x ∈ some ∨ ∃ s ∈ some, x ∈ gt B s := by
  unfold under
  rw [List.mem_filter, decide_eq_true_eq]
  constructor
  · exact fun h => h.2
  · intro q
    refine ⟨?_, q⟩
    rcases q with q | ⟨s, _, q⟩
    · exact h x q
    · exact (hB.lo s x q).2
theorem gt_put {B : BL} {n : Int} {some : List Int} (hn : n ∉ ks B) (x : Int) : gt (putB B n some) x = if x = n then under B some else gt B x := by
  unfold gt putB
  rw [lk_snoc hn]
  split <;> rfl
theorem ks_put (B : BL) (n : Int) (some : List Int) : ks (putB B n some) = ks B ++ [n] := by unfold putB; rw [ks_app]; rfl
theorem len_put (B : BL) (n : Int) (some : List Int) : (putB B n some).length = B.length + 1 := by simp [putB]
theorem wf_put {B : BL} {n : Int} {some : List Int} (hB : WF B) (hn : ∀ k ∈ ks B, k < n) (hs : ∀ s ∈ some, s ∈ ks B) : WF (putB B n some) := by
  have nn : n ∉ ks B := fun m => absurd (hn n m) (by omega)
  have ug : ∀ y, y ∈ under B some → y ∈ ks B := fun y hy => (List.mem_filter.mp hy).1
  refine ⟨?_, fun x y h => ?_, fun x y z h1 h2 => ?_⟩
  · rw [ks_put, List.nodup_append]
    exact ⟨hB.nd, by simp, fun a ha b hb e => by
      have : b = n := by simpa using hb
      rw [this] at e; exact nn (e ▸ ha)⟩
  · rw [gt_put nn] at h
    rw [ks_put]
    by_cases e : x = n
    · rw [if_pos e] at h
      have := ug y h
      exact ⟨by rw [e]; exact hn y this, List.mem_append_left _ this⟩
    · rw [if_neg e] at h
      exact ⟨(hB.lo x y h).1, List.mem_append_left _ (hB.lo x y h).2⟩
  · rw [gt_put nn] at h1 h2 ⊢
    have yB : y ∈ ks B := by
      by_cases e : x = n
      · rw [if_pos e] at h1; exact ug y h1
      · rw [if_neg e] at h1; exact (hB.lo x y h1).2
    have yn : y ≠ n := fun e => nn (e ▸ yB)
    rw [if_neg yn] at h2
    by_cases e : x = n
    · rw [if_pos e] at h1 ⊢
      rw [mem_under hs hB] at h1 ⊢
      rcases h1 with h1 | ⟨s, hs1, h1⟩
      · exact .inr ⟨y, h1, h2⟩
      · exact .inr ⟨s, hs1, hB.tr s y z h1 h2⟩
    · rw [if_neg e] at h1 ⊢
      exact hB.tr x y z h1 h2
theorem mw_put {B : BL} {M : MT} {n : Int} {some : List Int} (hM : MW B M) (nn : n ∉ ks B) : MW (putB B n some) M :=
  ⟨hM.nd, hM.inj, fun x v h => by
    rw [gt_put nn]
    have : x ≠ n := fun e => nn (e ▸ gt_ks (hM.be x v h))
    rw [if_neg this]
    exact hM.be x v h⟩
theorem free_put {B : BL} {n : Int} {some S : List Int} (hB : WF B) (nn : n ∉ ks B) (h : Free B S) : Free (putB B n some) S :=
  ⟨h.1, fun x hx => by rw [ks_put]; exact List.mem_append_left _ (h.2.1 x hx), fun x hx y hy => by
    rw [gt_put nn]
    have : x ≠ n := fun e => nn (e ▸ h.2.1 x hx)
    rw [if_neg this]
    exact h.2.2 x hx y hy⟩
theorem best_put {B : BL} {M : MT} {n : Int} {some sk : List Int} (hB : WF B) (hM : MW B M) (b : Best B M) (hn : ∀ k ∈ ks B, k < n) (hs : ∀ s ∈ some, s ∈ ks B) (hsk : sk.Perm (ks (putB B n some))) :
    Best (putB B n some) (mfew (putB B n some) sk M) := by
  have nn : n ∉ ks B := fun m => absurd (hn n m) (by omega)
  have w1 := wf_put hB hn hs
  have m1 := mw_put (some := some) hM nn
  cases e : (srch (putB B n some) sk M).2 with
  | none =>
    obtain ⟨_, _, _, h2⟩ := srch_ok w1 m1 hsk
    have em : mfew (putB B n some) sk M = M := by unfold mfew; rw [(h2 e).2]; rfl
    rw [em]
    exact ⟨_, none_best w1 m1 hsk e⟩
  | some l =>
    obtain ⟨_, _, h1, _⟩ := srch_ok w1 m1 hsk
    obtain ⟨_, _, _, ne⟩ := h1 l e
    obtain ⟨S, hS, hl⟩ := b
    refine ⟨S, free_put hB nn hS, ?_⟩
    rw [(mfew_ok w1 m1 hsk).2, if_neg ne, len_put]
    omega

/-! ### a thing is taken out -/
def drop1 (x : Int) (l : List Int) : List Int := l.filter fun y => decide (y ≠ x)
def takeB (B : BL) (x : Int) : BL := (B.filter fun p => decide (p.1 ≠ x)).map fun p => (p.1, drop1 x p.2)
theorem ks_take (B : BL) (x : Int) : ks (takeB B x) = drop1 x (ks B) := by
  unfold ks takeB drop1
  rw [List.map_map, List.filter_map]
  rfl
theorem mem_drop1 {x y : Int} {l : List Int} : y ∈ drop1 x l ↔ y ∈ l ∧ y ≠ x := by unfold drop1; rw [List.mem_filter]; simp
theorem lk_take (B : BL) (x y : Int) : lk (takeB B x) y = if y = x then none else (lk B y).map (drop1 x) := by
  induction B with
  | nil => simp [takeB, lk]
  | cons p r ih =>
    have e0 : takeB (p :: r) x = if p.1 = x then takeB r x else (p.1, drop1 x p.2) :: takeB r x := by
      unfold takeB
      by_cases e : p.1 = x <;> simp [e]
    rw [e0]
    by_cases e : p.1 = x
    · rw [if_pos e, ih]
      by_cases q : y = x
      · rw [if_pos q, if_pos q]
      · have : ¬ p.1 = y := fun z => q (z ▸ e)
        rw [if_neg q, if_neg q]
        simp only [lk, if_neg this]
    · rw [if_neg e]
      simp only [lk]
      by_cases q : p.1 = y
      · have : y ≠ x := fun z => e (q.trans z)
        simp [q, this]
      · rw [if_neg q, ih, if_neg q]
theorem gt_take (B : BL) (x y : Int) : gt (takeB B x) y = if y = x then [] else drop1 x (gt B y) := by
  unfold gt
  rw [lk_take]
  by_cases q : y = x
  · simp [q]
  · rw [if_neg q, if_neg q]
    cases lk B y <;> simp [drop1]
theorem drop1_len {x : Int} {l : List Int} (nd : l.Nodup) (h : x ∈ l) : (drop1 x l).length + 1 = l.length := by
  have h1 := filter_split (fun y => decide (y ≠ x)) l
  have h2 : (l.filter fun y => !decide (y ≠ x)).length = [x].length := by
    refine same_len (nd.sublist List.filter_sublist) (by simp) fun y => ?_
    rw [List.mem_filter]
    constructor
    · intro z; simpa using z.2
    · intro z
      have : y = x := by simpa using z
      subst this
      exact ⟨h, by simp⟩
  have h3 : (drop1 x l).length = (l.filter fun y => decide (y ≠ x)).length := rfl
  simp only [List.length_singleton] at h2
  omega
theorem len_take {B : BL} {x : Int} (hB : WF B) (h : x ∈ ks B) : (takeB B x).length + 1 = B.length := by
  rw [← len_ks, ks_take, ← len_ks B]
  exact drop1_len hB.nd h
theorem wf_take {B : BL} (hB : WF B) (x : Int) : WF (takeB B x) := by
  refine ⟨by rw [ks_take]; exact hB.nd.sublist List.filter_sublist, fun a b h => ?_, fun a b c h1 h2 => ?_⟩
  · rw [gt_take] at h
    by_cases e : a = x
    · rw [if_pos e] at h; simp at h
    · rw [if_neg e, mem_drop1] at h
      rw [ks_take, mem_drop1]
      exact ⟨(hB.lo a b h.1).1, (hB.lo a b h.1).2, h.2⟩
  · rw [gt_take] at h1 h2 ⊢
    by_cases e : a = x
    · rw [if_pos e] at h1; simp at h1
    · rw [if_neg e, mem_drop1] at h1 ⊢
      rw [if_neg h1.2, mem_drop1] at h2
      exact ⟨hB.tr a b c h1.1 h2.1, h2.2⟩
/-- the ladder of the gone thing closed up -/
def gap (M : MT) (x : Int) : MT := M.filterMap fun p => if p.1 = x then none else if p.2 ≠ x then some p else (lk M x).map fun v => (p.1, v)
theorem gap_lk {M : MT} (nd : (ks M).Nodup) (x u : Int) : lk (gap M x) u = if u = x then none else match lk M u with
    | none => none
    | some l => if l ≠ x then some l else lk M x := by
  have go : ∀ (o : Option Int) (L : MT), (ks L).Nodup → lk (L.filterMap fun p => if p.1 = x then none else if p.2 ≠ x then some p else o.map fun v => (p.1, v)) u = if u = x then none else match lk L u with
      | none => none
      | some l => if l ≠ x then some l else o := by
    intro o L
    induction L with
    | nil => intro _; simp [lk]
    | cons p r ih =>
      intro nd
      rw [ks_cons, List.nodup_cons] at nd
      have ih := ih nd.2
      by_cases e1 : p.1 = x
      · rw [List.filterMap_cons_none (by simp [e1]), ih]
        by_cases q : u = x
        · rw [if_pos q, if_pos q]
        · have : ¬ p.1 = u := fun z => q (z ▸ e1)
          rw [if_neg q, if_neg q]; simp only [lk, if_neg this]
      · by_cases e2 : p.2 = x
        · cases o with
          | none =>
            rw [List.filterMap_cons_none (by simp [e1, e2]), ih]
            by_cases q : u = x
            · rw [if_pos q, if_pos q]
            · rw [if_neg q, if_neg q]
              by_cases q2 : p.1 = u
              · have : lk r u = none := lk_none.mpr (q2 ▸ nd.1)
                simp [lk, q2, e2, this]
              · simp only [lk, if_neg q2]
          | some v =>
            rw [List.filterMap_cons_some (b := (p.1, v)) (by simp [e1, e2])]
            simp only [lk]
            by_cases q2 : p.1 = u
            · have : u ≠ x := fun z => e1 (q2.trans z)
              simp [q2, this, e2]
            · rw [if_neg q2, if_neg q2, ih]
        · rw [List.filterMap_cons_some (b := p) (by simp [e1, e2])]
          simp only [lk]
          by_cases q2 : p.1 = u
          · have : u ≠ x := fun z => e1 (q2.trans z)
            simp [q2, this, e2]
          · rw [if_neg q2, if_neg q2, ih]
  exact go (lk M x) M nd
theorem gap_ks (M : MT) (x : Int) : (ks (gap M x)).Sublist (ks M) := by
  have go : ∀ (o : Option Int) (L : MT), (ks (L.filterMap fun p => if p.1 = x then none else if p.2 ≠ x then some p else o.map fun v => (p.1, v))).Sublist (ks L) := by
    intro o L
    induction L with
    | nil => simp [ks]
    | cons p r ih =>
      by_cases e1 : p.1 = x
      · rw [List.filterMap_cons_none (by simp [e1])]; exact ih.cons _
      · by_cases e2 : p.2 = x
        · cases o with
          | none => rw [List.filterMap_cons_none (by simp [e1, e2])]; exact ih.cons _
          | some v => rw [List.filterMap_cons_some (b := (p.1, v)) (by simp [e1, e2])]; exact ih.cons_cons _
        · rw [List.filterMap_cons_some (b := p) (by simp [e1, e2])]; exact ih.cons_cons _
  exact go (lk M x) M
theorem gap_len (M : MT) (x : Int) (hM : (ks M).Nodup) (hv : (M.map (·.2)).Nodup) (self : ∀ v, (x, v) ∈ M → v ≠ x) :
    (gap M x).length + (if x ∈ ks M ∨ x ∈ M.map (·.2) then 1 else 0) = M.length := by
  have go : ∀ (o : Option Int) (L : MT), (ks L).Nodup → (L.map (·.2)).Nodup → (∀ v, (x, v) ∈ L → v ≠ x) →
      (L.filterMap fun p => if p.1 = x then none else if p.2 ≠ x then some p else o.map fun v => (p.1, v)).length + (if x ∈ ks L then 1 else 0) + (if x ∈ L.map (·.2) ∧ o = none then 1 else 0) = L.length := by
    intro o L
    induction L with
    | nil => simp [ks]
    | cons p r ih =>
      intro n1 n2 self
      rw [ks_cons, List.nodup_cons] at n1
      rw [List.map_cons, List.nodup_cons] at n2
      have ih := ih n1.2 n2.2 fun v m => self v (List.mem_cons_of_mem _ m)
      rw [ks_cons, List.map_cons]
      by_cases e1 : p.1 = x
      · rw [List.filterMap_cons_none (by simp [e1])]
        have hx : x ∉ ks r := e1 ▸ n1.1
        have h2 : p.2 ≠ x := self p.2 (by rw [← e1]; exact List.mem_cons_self)
        have h2' : x ≠ p.2 := fun z => h2 z.symm
        simp only [hx, if_false, Nat.add_zero] at ih
        simp only [List.mem_cons, e1, true_or, if_true, h2', false_or, List.length_cons]
        omega
      · have e1' : x ≠ p.1 := fun z => e1 z.symm
        by_cases e2 : p.2 = x
        · have hx : x ∉ r.map (·.2) := e2 ▸ n2.1
          simp only [hx, false_and, if_false, Nat.add_zero] at ih
          cases o with
          | none =>
            rw [List.filterMap_cons_none (by simp [e1, e2])]
            simp only [List.mem_cons, e1', false_or, e2, true_or, and_self, if_true, List.length_cons]
            omega
          | some v =>
            rw [List.filterMap_cons_some (b := (p.1, v)) (by simp [e1, e2])]
            simp only [List.mem_cons, e1', false_or, e2, true_or, true_and, List.length_cons, reduceCtorEq, if_false]
            omega
        · have e2' : x ≠ p.2 := fun z => e2 z.symm
          rw [List.filterMap_cons_some (b := p) (by simp [e1, e2])]
          simp only [List.mem_cons, e1', false_or, e2', List.length_cons]
          omega
  have h := go (lk M x) M hM hv self
  have e : (gap M x).length = (M.filterMap fun p => if p.1 = x then none else if p.2 ≠ x then some p else (lk M x).map fun v => (p.1, v)).length := rfl
  rw [e]
  by_cases h1 : x ∈ ks M
  · obtain ⟨v, ev⟩ := ks_lk h1
    rw [ev] at h ⊢
    simp only [h1, true_or, if_true, reduceCtorEq, and_false, if_false] at h ⊢
    omega
  · rw [lk_none.mpr h1] at h ⊢
    simp only [h1, false_or, if_false, and_true] at h ⊢
    omega
theorem mw_gap {B : BL} {M : MT} (hB : WF B) (hM : MW B M) (x : Int) : MW (takeB B x) (gap M x) := by
  have out : ∀ u v, lk (gap M x) u = some v → u ≠ x ∧ ((lk M u = some v ∧ v ≠ x) ∨ (lk M u = some x ∧ lk M x = some v)) := fun u v h => by
    rw [gap_lk hM.nd] at h
    by_cases e : u = x
    · rw [if_pos e] at h; cases h
    · rw [if_neg e] at h
      refine ⟨e, ?_⟩
      cases q : lk M u with
      | none => rw [q] at h; cases h
      | some l =>
        rw [q] at h
        simp only at h
        by_cases e2 : l ≠ x
        · rw [if_pos e2] at h; cases h; exact .inl ⟨rfl, e2⟩
        · rw [if_neg e2] at h
          have : l = x := Decidable.not_not.mp e2
          exact .inr ⟨by rw [this], h⟩
  refine ⟨hM.nd.sublist (gap_ks M x), fun a b v h1 h2 => ?_, fun a v h => ?_⟩
  · obtain ⟨na, h1⟩ := out a v h1
    obtain ⟨nb, h2⟩ := out b v h2
    rcases h1 with ⟨p1, p2⟩ | ⟨p1, p2⟩ <;> rcases h2 with ⟨q1, q2⟩ | ⟨q1, q2⟩
    · exact hM.inj a b v p1 q1
    · exact absurd (hM.inj a x v p1 q2) na
    · exact absurd (hM.inj b x v q1 p2) nb
    · exact hM.inj a b x p1 q1
  · obtain ⟨na, h⟩ := out a v h
    rw [gt_take, if_neg na, mem_drop1]
    rcases h with ⟨p1, p2⟩ | ⟨p1, p2⟩
    · exact ⟨hM.be a v p1, p2⟩
    · have g := hM.be x v p2
      exact ⟨hB.tr a x v (hM.be a x p1) g, fun e => by have := (hB.lo x v g).1; omega⟩
theorem best_take {B : BL} {M : MT} {x : Int} {sk : List Int} (hB : WF B) (hM : MW B M) (b : Best B M) (hx : x ∈ ks B) (hsk : sk.Perm (ks (takeB B x))) :
    Best (takeB B x) (mfew (takeB B x) sk (gap M x)) := by
  have w1 := wf_take hB x
  have m1 := mw_gap hB hM x
  cases e : (srch (takeB B x) sk (gap M x)).2 with
  | none =>
    obtain ⟨_, _, _, h2⟩ := srch_ok w1 m1 hsk
    have em : mfew (takeB B x) sk (gap M x) = gap M x := by unfold mfew; rw [(h2 e).2]; rfl
    rw [em]
    exact ⟨_, none_best w1 m1 hsk e⟩
  | some l =>
    obtain ⟨_, _, h1, _⟩ := srch_ok w1 m1 hsk
    obtain ⟨_, _, _, ne⟩ := h1 l e
    obtain ⟨S, hS, hl⟩ := b
    have hS' : Free (takeB B x) (drop1 x S) := by
      refine ⟨hS.1.sublist List.filter_sublist, fun y hy => ?_, fun y hy z hz => ?_⟩
      · rw [mem_drop1] at hy
        rw [ks_take, mem_drop1]
        exact ⟨hS.2.1 y hy.1, hy.2⟩
      · rw [mem_drop1] at hy hz
        rw [gt_take, if_neg hy.2, mem_drop1]
        exact fun q => hS.2.2 y hy.1 z hz.1 q.1
    obtain ⟨m2, l2⟩ := mfew_ok w1 m1 hsk
    rw [if_neg ne] at l2
    have wk := weak w1 m2 hS'
    have l3 : S.length ≤ (drop1 x S).length + 1 := by
      by_cases m : x ∈ S
      · have := drop1_len hS.1 m; omega
      · have : drop1 x S = S := List.filter_eq_self.mpr fun y hy => by simpa using fun z : y = x => m (z ▸ hy)
        rw [this]; omega
    have l4 := gap_len M x hM.nd hM.vals (fun v m => fun q => by
      have g := hM.be x v (mem_lk hM.nd m)
      have := (hB.lo x v g).1
      omega)
    have l5 := len_take hB hx
    refine ⟨drop1 x S, hS', ?_⟩
    split at l4 <;> omega
/-! ### the hall between two deeds -/
structure HI (n : Int) (B : BL) (M : MT) : Prop where
  wf : WF B
  mw : MW B M
  best : Best B M
  up : (ks B).Pairwise (· < ·)
  lt : ∀ k ∈ ks B, 0 ≤ k ∧ k < n
  nn : 0 ≤ n
  ls : ∀ b ∈ B, b.2.Pairwise (· < ·)
theorem hi_nil : HI 0 [] [] := by
  refine ⟨⟨by simp [ks], fun x y h => by simp [gt, lk] at h, fun x y z h => by simp [gt, lk] at h⟩, ⟨by simp [ks], fun x y v h => by simp [lk] at h, fun x v h => by simp [lk] at h⟩, ⟨[], ⟨by simp, fun x h => by simp at h, fun x h => by simp at h⟩, rfl⟩, by simp [ks], fun k h => by simp [ks] at h, Int.le_refl 0, fun b h => by simp at h⟩
theorem up_put {n : Int} {B : BL} (some : List Int) (h : (ks B).Pairwise (· < ·)) (hn : ∀ k ∈ ks B, k < n) : (ks (putB B n some)).Pairwise (· < ·) := by
  rw [ks_put, List.pairwise_append]
  exact ⟨h, by simp, fun a ha b hb => by
    have : b = n := by simpa using hb
    rw [this]; exact hn a ha⟩
theorem hi_put {n : Int} {B : BL} {M : MT} (h : HI n B M) {some : List Int} (hs : ∀ s ∈ some, s ∈ ks B) : HI (n + 1) (putB B n some) (mfew (putB B n some) (ks (putB B n some)) M) := by
  have hn : ∀ k ∈ ks B, k < n := fun k hk => (h.lt k hk).2
  have nn : n ∉ ks B := fun m => absurd (hn n m) (by omega)
  have w1 := wf_put h.wf hn hs
  have m1 := mw_put (some := some) h.mw nn
  refine ⟨w1, (mfew_ok w1 m1 (List.Perm.refl _)).1, best_put h.wf h.mw h.best hn hs (List.Perm.refl _), up_put some h.up hn, fun k hk => ?_, by have := h.nn; omega, fun b hb => ?_⟩
  · rw [ks_put] at hk
    have := h.nn
    rcases List.mem_append.mp hk with z | z
    · have := h.lt k z; omega
    · have : k = n := by simpa using z
      omega
  · rcases List.mem_append.mp hb with z | z
    · exact h.ls b z
    · have : b = (n, under B some) := by simpa using z
      rw [this]
      exact h.up.sublist List.filter_sublist
theorem hi_take {n : Int} {B : BL} {M : MT} (h : HI n B M) {x : Int} (hx : x ∈ ks B) : HI n (takeB B x) (mfew (takeB B x) (ks (takeB B x)) (gap M x)) := by
  have w1 := wf_take h.wf x
  have m1 := mw_gap h.wf h.mw x
  refine ⟨w1, (mfew_ok w1 m1 (List.Perm.refl _)).1, best_take h.wf h.mw h.best hx (List.Perm.refl _), ?_, fun k hk => ?_, h.nn, fun b hb => ?_⟩
  · rw [ks_take]; exact h.up.sublist List.filter_sublist
  · rw [ks_take, mem_drop1] at hk; exact h.lt k hk.1
  · obtain ⟨p, hp, rfl⟩ := List.mem_map.mp hb
    exact (h.ls p (List.mem_filter.mp hp).1).sublist List.filter_sublist
end FL

set_option Elab.async false
set_option maxRecDepth 100000
namespace FR
open PySem PySem.Spec PyProof.Rows L2 FL
/-! ### what is walked, by its turns -/
section
variable {J : It} {n : Nat} {σ : L2.St}
theorem for_by {g : TG} {tb : TS} {D : Ends} {H : Hp} (Pv : Nat → L2.St → Hp → Prop) (h0 : Pv 0 σ H) (hgo : ∀ i σ H, i < n → Pv i σ H → J.go i H) (hst : ∀ σ H, Pv n σ H → J.stop n H)
    (hs : ∀ i x σ H H', i < n → Pv i σ H → J.yld i H x H' → g x σ H' fun σ2 H2 => tb { D with nx := Pv (i + 1), ct := Pv (i + 1), bk := D.nx } σ2 H2) (hd : ∀ σ H, Pv n σ H → D.nx σ H) :
    ∃ W : Nat → Nat → L2.St → Hp → Prop, (∃ m, W 0 m σ H) ∧ ∀ i m σ H, W i m σ H →
      (J.stop i H ∧ D.nx σ H) ∨ (J.go i H ∧ ∃ N : L2.St → Hp → Prop, (∀ σ' H', N σ' H' → ∃ m', m' < m ∧ W (i + 1) m' σ' H') ∧ ∀ x H', J.yld i H x H' → g x σ H' fun σ2 H2 => tb { D with nx := N, ct := N, bk := D.nx } σ2 H2) := by
  refine ⟨fun i m σ H => m = n - i ∧ i ≤ n ∧ Pv i σ H, ⟨n, by simp, Nat.zero_le _, h0⟩, ?_⟩
  rintro i m σ H ⟨rfl, hi, p⟩
  by_cases lt : i < n
  · exact .inr ⟨hgo i σ H lt p, Pv (i + 1), fun σ' H' p' => ⟨n - (i + 1), by omega, rfl, lt, p'⟩, fun x H' y => hs i x σ H H' lt p y⟩
  · obtain rfl : i = n := by omega
    exact .inl ⟨hst σ H p, hd σ H p⟩
theorem lc_by {g : TG} {tt : TT} {te : TE} {vs : List Nat} {H1 : Hp} {D : Addr} {Qd : Hp → Prop} (Pv : Nat → Hp → Prop) (h0 : Pv 0 (upd H1 D (.lst []))) (hgo : ∀ i H, i < n → Pv i H → J.go i H) (hst : ∀ H, Pv n H → J.stop n H)
    (hs : ∀ i x H H', i < n → Pv i H → J.yld i H x H' → g x (wipe σ vs) H' fun σ2 H2 => wipe σ2 vs = wipe σ vs ∧ tt σ2 H2 fun b H3 => if b = true then te σ2 H3 fun y H4 => ∃ acc, H4 D = some (.lst acc) ∧ acc.length < sizeLine ∧ Pv (i + 1) (upd H4 D (.lst (acc ++ [y]))) else Pv (i + 1) H3)
    (hd : ∀ H, Pv n H → Qd H) :
    ∃ W : Nat → Nat → Hp → Prop, (∃ m, W 0 m (upd H1 D (.lst []))) ∧ ∀ i m H, W i m H →
      (J.stop i H ∧ Qd H) ∨ (J.go i H ∧ ∃ Nx : Hp → Prop, (∀ H', Nx H' → ∃ m', m' < m ∧ W (i + 1) m' H') ∧ ∀ x H', J.yld i H x H' → g x (wipe σ vs) H' fun σ2 H2 => wipe σ2 vs = wipe σ vs ∧ tt σ2 H2 fun b H3 =>
        if b = true then te σ2 H3 fun y H4 => ∃ acc, H4 D = some (.lst acc) ∧ acc.length < sizeLine ∧ Nx (upd H4 D (.lst (acc ++ [y]))) else Nx H3) := by
  refine ⟨fun i m H => m = n - i ∧ i ≤ n ∧ Pv i H, ⟨n, by simp, Nat.zero_le _, h0⟩, ?_⟩
  rintro i m H ⟨rfl, hi, p⟩
  by_cases lt : i < n
  · exact .inr ⟨hgo i H lt p, Pv (i + 1), fun H' p' => ⟨n - (i + 1), by omega, rfl, lt, p'⟩, fun x H' y => hs i x H H' lt p y⟩
  · obtain rfl : i = n := by omega
    exact .inl ⟨hst H p, hd H p⟩
theorem dc_by {g : TG} {tt : TT} {tk tv : TE} {vs : List Nat} {H1 : Hp} {D : Addr} {Qd : Hp → Prop} (Pv : Nat → Hp → Prop) (h0 : Pv 0 (upd H1 D (.dK []))) (hgo : ∀ i H, i < n → Pv i H → J.go i H) (hst : ∀ H, Pv n H → J.stop n H)
    (hs : ∀ i x H H', i < n → Pv i H → J.yld i H x H' → g x (wipe σ vs) H' fun σ2 H2 => wipe σ2 vs = wipe σ vs ∧ tt σ2 H2 fun b H3 =>
      if b = true then tk σ2 H3 fun y H4 => tv σ2 H4 fun z H5 => ∃ kvs k, y = kV k ∧ H5 D = some (.dK kvs) ∧ kvs.length < sizeLine ∧ Pv (i + 1) (upd H5 D (.dK (putK kvs k z))) else Pv (i + 1) H3)
    (hd : ∀ H, Pv n H → Qd H) :
    ∃ W : Nat → Nat → Hp → Prop, (∃ m, W 0 m (upd H1 D (.dK []))) ∧ ∀ i m H, W i m H →
      (J.stop i H ∧ Qd H) ∨ (J.go i H ∧ ∃ Nx : Hp → Prop, (∀ H', Nx H' → ∃ m', m' < m ∧ W (i + 1) m' H') ∧ ∀ x H', J.yld i H x H' → g x (wipe σ vs) H' fun σ2 H2 => wipe σ2 vs = wipe σ vs ∧ tt σ2 H2 fun b H3 =>
        if b = true then tk σ2 H3 fun y H4 => tv σ2 H4 fun z H5 => ∃ kvs k, y = kV k ∧ H5 D = some (.dK kvs) ∧ kvs.length < sizeLine ∧ Nx (upd H5 D (.dK (putK kvs k z))) else Nx H3) := by
  refine ⟨fun i m H => m = n - i ∧ i ≤ n ∧ Pv i H, ⟨n, by simp, Nat.zero_le _, h0⟩, ?_⟩
  rintro i m H ⟨rfl, hi, p⟩
  by_cases lt : i < n
  · exact .inr ⟨hgo i H lt p, Pv (i + 1), fun H' p' => ⟨n - (i + 1), by omega, rfl, lt, p'⟩, fun x H' y => hs i x H H' lt p y⟩
  · obtain rfl : i = n := by omega
    exact .inl ⟨hst H p, hd H p⟩
/-- the inner clause of two -/
theorem in_by {g1 : TG} {tt1 : TT} {tk tv : TE} {vs1 : List Nat} {H4 : Hp} {D : Addr} {Nx : Hp → Prop} (Pv : Nat → Hp → Prop) (h0 : Pv 0 H4) (hgo : ∀ i H, i < n → Pv i H → J.go i H) (hst : ∀ H, Pv n H → J.stop n H)
    (hs : ∀ i x H H', i < n → Pv i H → J.yld i H x H' → g1 x (wipe σ vs1) H' fun σ3 H5 => wipe σ3 vs1 = wipe σ vs1 ∧ tt1 σ3 H5 fun b H6 =>
      if b = true then tk σ3 H6 fun y H7 => tv σ3 H7 fun z H8 => ∃ kvs k, y = kV k ∧ H8 D = some (.dK kvs) ∧ kvs.length < sizeLine ∧ Pv (i + 1) (upd H8 D (.dK (putK kvs k z))) else Pv (i + 1) H6)
    (hd : ∀ H, Pv n H → Nx H) :
    ∃ W1 : Nat → Nat → Hp → Prop, (∃ m, W1 0 m H4) ∧ ∀ j k H, W1 j k H →
      (J.stop j H ∧ Nx H) ∨ (J.go j H ∧ ∃ Nx1 : Hp → Prop, (∀ H', Nx1 H' → ∃ k', k' < k ∧ W1 (j + 1) k' H') ∧ ∀ x H', J.yld j H x H' → g1 x (wipe σ vs1) H' fun σ3 H5 => wipe σ3 vs1 = wipe σ vs1 ∧ tt1 σ3 H5 fun b H6 =>
        if b = true then tk σ3 H6 fun y H7 => tv σ3 H7 fun z H8 => ∃ kvs k, y = kV k ∧ H8 D = some (.dK kvs) ∧ kvs.length < sizeLine ∧ Nx1 (upd H8 D (.dK (putK kvs k z))) else Nx1 H6) := by
  refine ⟨fun i m H => m = n - i ∧ i ≤ n ∧ Pv i H, ⟨n, by simp, Nat.zero_le _, h0⟩, ?_⟩
  rintro i m H ⟨rfl, hi, p⟩
  by_cases lt : i < n
  · exact .inr ⟨hgo i H lt p, Pv (i + 1), fun H' p' => ⟨n - (i + 1), by omega, rfl, lt, p'⟩, fun x H' y => hs i x H H' lt p y⟩
  · obtain rfl : i = n := by omega
    exact .inl ⟨hst H p, hd H p⟩
end
/-! ### tables of ints in a dict -/
def kI (M : MT) : List (Key × V) := M.map fun p => (Sum.inl p.1, V.int p.2)
def kB (ρ : Int → Addr) (B : BL) : List (Key × V) := B.map fun p => (Sum.inl p.1, V.ref (ρ p.1))
theorem valV_kI (k : Int) : ∀ M : MT, valV (kI M) (.inl k : Key) = (lk M k).map V.int
  | [] => rfl
  | p :: r => by
    have ih := valV_kI k r
    show valV ((Sum.inl p.1, V.int p.2) :: kI r) _ = _
    by_cases e : p.1 = k
    · rw [valV_pos (by rw [e])]; simp [lk, e]
    · rw [valV_neg (fun z => e (Sum.inl.inj z)), ih]; simp [lk, e]
theorem valV_kB (ρ : Int → Addr) (k : Int) : ∀ B : BL, valV (kB ρ B) (.inl k : Key) = if k ∈ ks B then some (.ref (ρ k)) else none
  | [] => rfl
  | p :: r => by
    have ih := valV_kB ρ k r
    show valV ((Sum.inl p.1, V.ref (ρ p.1)) :: kB ρ r) _ = _
    by_cases e : p.1 = k
    · rw [valV_pos (by rw [e])]; simp [ks_cons, e]
    · have e' : ¬ k = p.1 := fun z => e z.symm
      rw [valV_neg (fun z => e (Sum.inl.inj z)), ih]; simp [ks_cons, e']
theorem kI_keys (M : MT) : (kI M).map (·.1) = (ks M).map Sum.inl := by simp [kI, ks, List.map_map, Function.comp_def]
theorem kB_keys (ρ : Int → Addr) (B : BL) : (kB ρ B).map (·.1) = (ks B).map Sum.inl := by simp [kB, ks, List.map_map, Function.comp_def]
theorem kI_len (M : MT) : (kI M).length = M.length := by simp [kI]
theorem kB_len (ρ : Int → Addr) (B : BL) : (kB ρ B).length = B.length := by simp [kB]
theorem kI_any (k : Int) (M : MT) : ((kI M).any fun kv => decide (kv.1 = (Sum.inl k : Key))) = true ↔ k ∈ ks M := by
  rw [valV_any, valV_kI]
  cases e : lk M k with
  | none => simp [lk_none.mp e]
  | some v => simp [lk_some_ks e]
theorem putK_kI (M : MT) (k v : Int) : putK (kI M) (.inl k) (.int v) = kI (pt M k v) := by
  unfold putK pt
  by_cases h : k ∈ ks M
  · rw [if_pos ((kI_any k M).mpr h), if_pos h]
    unfold kI
    rw [List.map_map, List.map_map]
    apply List.map_congr_left
    intro p _
    simp only [Function.comp]
    by_cases e : p.1 = k
    · simp [e]
    · have e' : ¬ (Sum.inl p.1 : Key) = Sum.inl k := fun z => e (Sum.inl.inj z)
      simp [e, e']
  · rw [if_neg (fun z => h ((kI_any k M).mp z)), if_neg h]
    simp [kI]
theorem pt_new {β : Type} {l : List (Int × β)} {k : Int} {v : β} (h : k ∉ ks l) : pt l k v = l ++ [(k, v)] := if_neg h
/-! ### sorted -/
def srt (l : List Int) : List Int := l.mergeSort fun a b => decide (a ≤ b)
theorem srt_perm (l : List Int) : (srt l).Perm l := List.mergeSort_perm l _
theorem srt_le (l : List Int) : (srt l).Pairwise (· ≤ ·) := by
  have h := List.pairwise_mergeSort (le := fun a b : Int => decide (a ≤ b)) (fun a b c => by simp only [decide_eq_true_eq]; omega) (fun a b => by simp only [Bool.or_eq_true, decide_eq_true_eq]; omega) l
  exact h.imp fun {a b} e => by simpa using e
theorem srt_uniq {l m : List Int} (h : m.Perm l) (hm : m.Pairwise (· ≤ ·)) : m = srt l :=
  (h.trans (srt_perm l).symm).eq_of_pairwise (fun a b _ _ x y => Int.le_antisymm x y) hm (srt_le l)
theorem srt_of {l : List Int} (h : l.Pairwise (· < ·)) : srt l = l := (srt_uniq (List.Perm.refl l) (h.imp fun {a b} e => Int.le_of_lt e)).symm
/-! ### the heap -/
/-- a dict of lists of ints: things and what they lie above -/
structure BelowAt (H : Hp) (d : Addr) (ρ : Int → Addr) (B : BL) : Prop where
  hd : Rd H d (.dK (kB ρ B))
  ls : ∀ b ∈ B, H (ρ b.1) = some (.lst (b.2.map V.int))
theorem DGet.rd {H : Hp} {a : Addr} {kvs : List (Key × V)} {k : Key} (e : Rd H a (.dK kvs)) : DGet H a (kV k) (valV kvs k) := .inl ⟨kvs, k, e, rfl, rfl⟩
theorem Same.rd {H H' : Hp} (s : Same H H') {a : Addr} {u : HO} (h : Rd H a u) : Rd H' a u := by
  rcases h with h | ⟨o, h⟩
  · exact .inl (s _ _ h)
  · exact .inr ⟨o, s _ _ h⟩
theorem BelowAt.same {H H' : Hp} {d : Addr} {ρ : Int → Addr} {B : BL} (h : BelowAt H d ρ B) (s : Same H H') : BelowAt H' d ρ B := ⟨Same.rd s h.hd, fun b hb => s _ _ (h.ls b hb)⟩
theorem same_new {H : Hp} {p : Addr} {o : HO} (h : H p = none) : Same H (upd H p o) := fun b u e => by rw [upd_ne (ne_of_none e h)]; exact e
/-- what stood ahead of a new object that was made and changed since -/
theorem same_upd {H0 H : Hp} {p : Addr} {o : HO} (s : Same H0 H) (h : H0 p = none) : Same H0 (upd H p o) := fun b u e => by rw [upd_ne (ne_of_none e h)]; exact s b u e
end FR

set_option Elab.async false
set_option maxRecDepth 100000
namespace FR
open PySem PySem.Spec PyProof.Rows L2 FL
section
variable {X : Cx}
theorem sw_dict {kx vx : Expr} {gs : List Comprehension} {scope : Scope} {pos py : Pos} {y : Str} {l : Nat} {env : Env} (fk : env.scope.kind = .function) (lk : env.scope.names.lookup y = some .local) (ll : (py.line == pos.line) = true)
    (no : (scope.names.any fun (n, k) => n == y && (k == .local || k == .cell)) = false) : swapsWith (.DictComp kx vx gs scope pos) (some (.Name y py)) l env = pure true := by
  have h1 : env.kindOf y = some .local := lk
  have h2 : env.blockKind = .function := by unfold Env.blockKind; rw [fk]; rfl
  unfold swapsWith
  simp only [h1, h2, no, Expr.pos, ll]
  rfl
/-- y = {k: v for .. in ..}, y a plain local name -/
theorem ps_setDc {i : Nat} {y : Str} {py : Pos} {kx vx tg iter : Expr} {ifs : List Expr} {scope : Scope} {own : List (Str × Nat)} {pos spos : Pos} {wi : TI} {g : TG} {tt : TT} {tk tv : TE} (hc : X.calm = true) (hN : X.N.Nodup) (at_y : X.N[i]? = some y) (loc : X.env.scope.names.lookup y = some .local)
    (sw : swapsWith (.DictComp kx vx [⟨tg, iter, ifs, 0⟩] scope pos) (some (.Name y py)) spos.line X.env = pure true) (hi : PI X tg iter wi) (ok : BlkOk X.N X.env.scope scope own)
    (hg : ∀ (s : Shared) (H : Hp) (C : Addr) (cl : List (Str × Addr)) (fp : List Addr), PG (X.blk s H scope (compEnvC scope cl C X.env) fp) tg g) (ht : ∀ (s : Shared) (H : Hp) (C : Addr) (cl : List (Str × Addr)) (fp : List Addr), PTs (X.blk s H scope (compEnvC scope cl C X.env) fp) ifs tt)
    (hk : ∀ (s : Shared) (H : Hp) (C : Addr) (cl : List (Str × Addr)) (fp : List Addr), PE (X.blk s H scope (compEnvC scope cl C X.env) fp) kx tk)
    (he : ∀ (s : Shared) (H : Hp) (C : Addr) (cl : List (Str × Addr)) (fp : List Addr), PE (X.blk s H scope (compEnvC scope cl C X.env) fp) vx tv) (hs : ∀ x, foldedSetIterable iter X.env x = pure x := by intro _; rfl) :
    PS X (.Assign [.Name y py] (.DictComp kx vx [⟨tg, iter, ifs, 0⟩] scope pos) spos) (tAsg (tDc wi g tt tk tv (own.map (·.2))) (gName i)) := by
  refine ⟨fun pins s σ H D I h => ?_⟩
  rw [exec_Assign_Name_used _ _ _ _ sw]
  refine wpAny_bind (wpAny_standAt (wpAny_bind ?_))
  show wpAny _ X.A (do let _ ← comprehension (.DictComp kx vx [⟨tg, iter, ifs, 0⟩] scope pos) scope X.env (firstIterPos [⟨tg, iter, ifs, 0⟩] pos) newDict false (eval iter X.env) (some (assign (.Name y py) X.env))) _ _ s
  refine wpAny_bind (thn (dc_core (Qf := fun _ t => SP X pins D .next t) (Q := fun x H1 => gName i x σ H1 D.nx) hc hN I hi ok hg ht hk he hs h fun L C t m H' I' q names fr => ?_) fun _ t q => wpAny_pure (wpAny_pure q))
  show wpAny _ _ (assign (.Name y py) X.env (.ref L)) _ _ _
  obtain ⟨r0, r1, r2, r3, r4, r5⟩ := fr
  refine wpAny_assign_Name (store_ok2 (v := V.ref L) I' hN at_y (.inl loc) rfl (fun t2 I2 ⟨a, sb, ha⟩ => ?_) (.inr loc))
  have apart : C ≠ a := ha.elim (fun z => by rw [z]; exact r1) fun z e => r4 y a z e.symm
  exact ⟨m, names.sameBut sb apart, fun g3 sb3 => ⟨_, H', I2.turned (t' := t2.toks) (fun b o hb e => (sb3.2 b hb).trans e) r0 r1 r3 r4 r5, q⟩⟩
end
/-! ### the turns over a locked dict's pairs -/
/-- a pair's names: k in slot i, v in slot j -/
theorem items_go {d : Addr} {o : Obj} {kvs : List (Key × V)} {i : Nat} {H : Hp} (h : H d = some (.frz o (.dK kvs))) (hi : i < kvs.length) : (Iti d o kvs).go i H := ⟨h, hi⟩
theorem items_stop {d : Addr} {o : Obj} {kvs : List (Key × V)} {H : Hp} (h : H d = some (.frz o (.dK kvs))) : (Iti d o kvs).stop kvs.length H := ⟨h, Nat.le_refl _⟩
theorem list_go {K : PySem.W.Frag} {a : Addr} {xs : List V} {i : Nat} {H : Hp} (h : SqL K H a xs) (hi : i < xs.length) : (Itl K a).go i H := ⟨xs, xs[i], h, by simp [hi]⟩
theorem list_stop {K : PySem.W.Frag} {a : Addr} {xs : List V} {H : Hp} (h : SqL K H a xs) : (Itl K a).stop xs.length H := ⟨xs, h, Nat.le_refl _⟩
theorem list_yld {K : PySem.W.Frag} {a : Addr} {xs : List V} {i : Nat} {H H' : Hp} {x : V} (h : SqL K H a xs) (y : (Itl K a).yld i H x H') : H' = H ∧ xs[i]? = some x := ⟨y.1, y.2 xs h⟩
theorem ints_at {ns : List Int} {i : Nat} {x : V} (h : (ns.map V.int)[i]? = some x) : ∃ n, ns[i]? = some n ∧ x = .int n := by
  rw [List.getElem?_map] at h
  cases e : ns[i]? with
  | none => rw [e] at h; cases h
  | some n => rw [e] at h; exact ⟨n, rfl, (Option.some.inj h).symm⟩
theorem kI_at {M : MT} {i : Nat} {k : Key} {v : V} (h : (kI M)[i]? = some (k, v)) : ∃ a b, M[i]? = some (a, b) ∧ k = .inl a ∧ v = .int b := by
  unfold kI at h
  rw [List.getElem?_map] at h
  cases e : M[i]? with
  | none => rw [e] at h; cases h
  | some p => rw [e] at h; cases h; exact ⟨p.1, p.2, rfl, rfl, rfl⟩
theorem kB_at {ρ : Int → Addr} {B : BL} {i : Nat} {k : Key} {v : V} (h : (kB ρ B)[i]? = some (k, v)) : ∃ a l, B[i]? = some (a, l) ∧ k = .inl a ∧ v = .ref (ρ a) := by
  unfold kB at h
  rw [List.getElem?_map] at h
  cases e : B[i]? with
  | none => rw [e] at h; cases h
  | some p => rw [e] at h; cases h; exact ⟨p.1, p.2, rfl, rfl, rfl⟩
theorem take_snoc {α : Type} {l : List α} {i : Nat} {x : α} (h : l[i]? = some x) : l.take (i + 1) = l.take i ++ [x] := by
  rw [List.take_add_one, h]; rfl
/-- a table all of whose keys differ, written entry by entry -/
theorem pt_take {M : MT} (nd : (ks M).Nodup) {i : Nat} {a b : Int} (h : M[i]? = some (a, b)) : pt (M.take i) a b = M.take (i + 1) := by
  rw [take_snoc h, pt_new]
  intro m
  obtain ⟨p, hp, e⟩ := List.mem_map.mp m
  obtain ⟨j, hj, ej⟩ := List.getElem_of_mem hp
  have hj' : j < i := by rw [List.length_take] at hj; omega
  obtain ⟨hi, ei⟩ := List.getElem?_eq_some_iff.mp h
  have := (List.pairwise_iff_getElem.mp (show (ks M).Pairwise (· ≠ ·) from nd)) j i (by rw [len_ks]; omega) (by rw [len_ks]; exact hi) hj'
  apply this
  simp only [ks, List.getElem_map, ei]
  rw [← e, ← ej, List.getElem_take]
end FR

set_option Elab.async false
set_option maxRecDepth 100000
namespace FR
open PySem PySem.Spec PyProof.Rows L2 FL
/-- a, b as a target, plain local names in slots i and j -/
theorem pg_pair {X : Cx} (i j : Nat) {x y : Str} {px py pos : Pos} {k : Nat} (hc : X.calm = true) (hN : X.N.Nodup) (hi : X.N[i]? = some x) (hj : X.N[j]? = some y) (hx : X.env.scope.names.lookup x = some .local) (hy : X.env.scope.names.lookup y = some .local) :
    PG X (.Tuple [.Name x px, .Name y py] k pos) (gTup X.K 2 (gCons (gName i) (gCons (gName j) gNil))) :=
  pg_tup hc (pgs_cons (pg_name hN hi (.inl hx) (.inr hx)) (pgs_cons (pg_name hN hj (.inl hy) (.inr hy)) pgs_nil))
/-- the outer clause of two -/
theorem out_by {J : It} {n : Nat} {σ : L2.St} {g : TG} {tt : TT} {Act : (Hp → Prop) → L2.St → Hp → Prop} {vs : List Nat} {H1 : Hp} {o : HO} {D : Addr} {Qd : Hp → Prop} (Pv : Nat → Hp → Prop) (h0 : Pv 0 (upd H1 D o)) (hgo : ∀ i H, i < n → Pv i H → J.go i H) (hst : ∀ H, Pv n H → J.stop n H)
    (hs : ∀ i x H H', i < n → Pv i H → J.yld i H x H' → g x (wipe σ vs) H' fun σ2 H2 => wipe σ2 vs = wipe σ vs ∧ tt σ2 H2 fun b H3 => if b = true then Act (Pv (i + 1)) σ2 H3 else Pv (i + 1) H3)
    (hd : ∀ H, Pv n H → Qd H) :
    ∃ W : Nat → Nat → Hp → Prop, (∃ m, W 0 m (upd H1 D o)) ∧ ∀ i m H, W i m H →
      (J.stop i H ∧ Qd H) ∨ (J.go i H ∧ ∃ Nx : Hp → Prop, (∀ H', Nx H' → ∃ m', m' < m ∧ W (i + 1) m' H') ∧ ∀ x H', J.yld i H x H' → g x (wipe σ vs) H' fun σ2 H2 => wipe σ2 vs = wipe σ vs ∧ tt σ2 H2 fun b H3 => if b = true then Act Nx σ2 H3 else Nx H3) := by
  refine ⟨fun i m H => m = n - i ∧ i ≤ n ∧ Pv i H, ⟨n, by simp, Nat.zero_le _, h0⟩, ?_⟩
  rintro i m H ⟨rfl, hi, p⟩
  by_cases lt : i < n
  · exact .inr ⟨hgo i H lt p, Pv (i + 1), fun H' p' => ⟨n - (i + 1), by omega, rfl, lt, p'⟩, fun x H' y => hs i x H H' lt p y⟩
  · obtain rfl : i = n := by omega
    exact .inl ⟨hst H p, hd H p⟩
end FR

set_option Elab.async false
set_option maxRecDepth 100000
namespace FR
open PySem PySem.Spec PyProof.Rows L2 FL
/-- a list of pairs of ints -/
def PairsAt (H : Hp) (p : Addr) (row : MT) : Prop := ∃ ts : List Addr, H p = some (.lst (ts.map V.ref)) ∧ Paired (fun t (pr : Int × Int) => H t = some (.tup [.int pr.1, .int pr.2])) ts row
theorem paired_snoc {α β : Type} {G : α → β → Prop} {as : List α} {bs : List β} {a : α} {b : β} (h : Paired G as bs) (g : G a b) : Paired G (as ++ [a]) (bs ++ [b]) := by
  induction h with
  | nil => exact .cons g .nil
  | cons x _ ih => exact .cons x ih
theorem paired_imp {α β : Type} {G G' : α → β → Prop} {as : List α} {bs : List β} (h : Paired G as bs) (f : ∀ a b, G a b → G' a b) : Paired G' as bs := Paired.mapP h f
theorem paired_imp' {α β : Type} {G G' : α → β → Prop} {as : List α} {bs : List β} (h : Paired G as bs) : (∀ a b, a ∈ as → G a b → G' a b) → Paired G' as bs := by
  induction h with
  | nil => intro _; exact .nil
  | cons x _ ih => intro f; exact .cons (f _ _ List.mem_cons_self x) (ih fun a b m => f a b (List.mem_cons_of_mem _ m))
theorem paired_len {α β : Type} {G : α → β → Prop} {as : List α} {bs : List β} (h : Paired G as bs) : as.length = bs.length := Paired.length h
theorem paired_app {α β : Type} {G : α → β → Prop} {as cs : List α} {bs ds : List β} (h : Paired G as bs) (k : Paired G cs ds) : Paired G (as ++ cs) (bs ++ ds) := by
  induction h with
  | nil => exact k
  | cons x _ ih => exact .cons x ih
theorem paired_rev {α β : Type} {G : α → β → Prop} {as : List α} {bs : List β} (h : Paired G as bs) : Paired G as.reverse bs.reverse := by
  induction h with
  | nil => exact .nil
  | cons x _ ih => rw [List.reverse_cons, List.reverse_cons]; exact paired_snoc ih x
theorem paired_at {α β : Type} {G : α → β → Prop} {as : List α} {bs : List β} (h : Paired G as bs) : ∀ {i : Nat} {a : α}, as[i]? = some a → ∃ b, bs[i]? = some b ∧ G a b := fun {_ _} e => paired_get h e
theorem PairsAt.same {H H' : Hp} {p : Addr} {row : MT} (h : PairsAt H p row) (s : Same H H') : PairsAt H' p row := by
  obtain ⟨ts, a, b⟩ := h
  exact ⟨ts, s _ _ a, paired_imp b fun t pr e => s _ _ e⟩
theorem refs_at {as : List Addr} {i : Nat} {x : V} (h : (as.map V.ref)[i]? = some x) : ∃ a, as[i]? = some a ∧ x = .ref a := by
  rw [List.getElem?_map] at h
  cases e : as[i]? with
  | none => rw [e] at h; cases h
  | some a => rw [e] at h; exact ⟨a, rfl, (Option.some.inj h).symm⟩
end FR

set_option Elab.async false
set_option maxRecDepth 100000
namespace FR
open PySem PySem.Spec PyProof.Rows L2 FL
/-! ### lists of ints compared -/
def dI (ns : List Int) : PyData := .list (ns.map PyData.int)
theorem dpAllI {K : PySem.W.Frag} {H : Hp} : ∀ ns : List Int, DpAll K H (ns.map V.int) (ns.map PyData.int)
  | [] => .nil
  | n :: r => .cons (.int n) (dpAllI r)
theorem dpI {K : PySem.W.Frag} {H : Hp} {a : Addr} {ns : List Int} (h : SqL K H a (ns.map V.int)) : Dp K H (.ref a) (dI ns) := .lst h (dpAllI ns)
theorem layI : ∀ ns : List Int, PyData.canLayAll0 (ns.map PyData.int) = true
  | [] => rfl
  | n :: r => by
    show (PyData.canLay0 (.int n) && PyData.canLayAll0 (r.map PyData.int)) = true
    rw [layI r]; rfl
theorem depI : ∀ ns : List Int, PyData.depthAll (ns.map PyData.int) = 0
  | [] => rfl
  | n :: r => by
    show max (PyData.depth (.int n)) (PyData.depthAll (r.map PyData.int)) = 0
    rw [depI r]; rfl
theorem shI (ns : List Int) : SeqAt.shaped (dI ns) = true := by
  unfold SeqAt.shaped dI
  rw [Bool.and_eq_true]
  refine ⟨layI ns, decide_eq_true ?_⟩
  show PyData.depthAll (ns.map PyData.int) + 1 ≤ 64
  rw [depI]; decide
theorem eqvAllI : ∀ ns ms : List Int, PyData.eqvAll (ns.map PyData.int) (ms.map PyData.int) = decide (ns = ms)
  | [], [] => rfl
  | [], m :: s => rfl
  | n :: r, [] => rfl
  | n :: r, m :: s => by
    show (PyData.eqv (.int n) (.int m) && PyData.eqvAll (r.map PyData.int) (s.map PyData.int)) = _
    rw [eqvAllI r s]
    show ((n == m) && decide (r = s)) = _
    by_cases e : n = m <;> by_cases e2 : r = s <;> simp [e, e2]
theorem eqvI (ns ms : List Int) : PyData.eqv (dI ns) (dI ms) = decide (ns = ms) := eqvAllI ns ms
def rEqI (K : PySem.W.Frag) : R2 := fun x y H Q => ∃ (a b : Addr) (ns ms : List Int), x = .ref a ∧ y = .ref b ∧ SqL K H a (ns.map V.int) ∧ SqL K H b (ms.map V.int) ∧ Q (.bl (decide (ns = ms))) H
def rNeI (K : PySem.W.Frag) : R2 := fun x y H Q => ∃ (a b : Addr) (ns ms : List Int), x = .ref a ∧ y = .ref b ∧ SqL K H a (ns.map V.int) ∧ SqL K H b (ms.map V.int) ∧ Q (.bl (!decide (ns = ms))) H
section
variable {X : Cx}
theorem op_eqI (hu : X.A.units + 64 < cLine) : OpR X (compareOp .Eq) (rEqI X.K) := by
  intro pins s σ H x y v u Q I rx ry h
  obtain ⟨a, b, ns, ms, rfl, rfl, ha, hb, q⟩ := h
  exact op_eqD hu pins s σ H _ _ v u Q I rx ry ⟨dI ns, dI ms, dpI ha, dpI hb, shI ns, shI ms, by rw [eqvI]; exact q⟩
theorem op_neI (hu : X.A.units + 64 < cLine) : OpR X (compareOp .NotEq) (rNeI X.K) := by
  intro pins s σ H x y v u Q I rx ry h
  obtain ⟨a, b, ns, ms, rfl, rfl, ha, hb, q⟩ := h
  exact op_neD hu pins s σ H _ _ v u Q I rx ry ⟨dI ns, dI ms, dpI ha, dpI hb, shI ns, shI ms, by rw [eqvI]; exact q⟩
/-- isinstance(x, T), x of the built-in type T itself -/
def rIsT (K : PySem.W.Frag) : List V → Hp → VK → Prop := fun xs H Q => ∃ (x : V) (T : String), xs = [x, .ty T] ∧ TyX K H x (.type T) ∧ Q (.bl true) H
theorem cr_isT : CallR X (.builtin "isinstance") (rIsT X.K) := by
  intro pins s σ H xs us Q I r h
  obtain ⟨x, T, rfl, t, q⟩ := h
  have e : PySem.W.kitOne X.K (.type T) (.type T) = some true := if_pos (beq_self_eq_true _)
  exact call_isi pins s σ H _ us Q I r ⟨x, .ty T, .type T, .type T, true, rfl, .ty T, t, e, q⟩
/-- isinstance(n, bool), n an int: no -/
def rIsIB : List V → Hp → VK → Prop := fun xs H Q => ∃ (n : Int), xs = [.int n, .ty "bool"] ∧ Q (.bl false) H
theorem cr_isIB : CallR X (.builtin "isinstance") rIsIB := by
  intro pins s σ H xs us Q I r h
  obtain ⟨n, rfl, q⟩ := h
  exact call_isi pins s σ H _ us Q I r ⟨.int n, .ty "bool", .type "int", .type "bool", false, rfl, .ty _, .base (.int n), kit_ty (by decide +kernel), q⟩
end
theorem enum_go {K : PySem.W.Frag} {a : Addr} {xs : List V} {i : Nat} {H : Hp} (h : SqL K H a xs) (hi : i < xs.length) : (Ite K a).go i H := ⟨xs, xs[i], h, by simp [hi]⟩
theorem enum_stop {K : PySem.W.Frag} {a : Addr} {xs : List V} {H : Hp} (h : SqL K H a xs) : (Ite K a).stop xs.length H := ⟨xs, h, Nat.le_refl _⟩
theorem take_cut (xs : List V) (k : Nat) : cutV xs none (some (k : Int)) = xs.take (min k xs.length) := by
  unfold cutV
  rw [HT.sIx_nat, HT.sIx_none, List.drop_zero, Nat.sub_zero]
end FR

set_option Elab.async false
set_option maxRecDepth 100000
namespace FR
open PySem PySem.Spec PyProof.Rows L2 FL
/-- a, b as a target, local names or cells of the def -/
theorem pg_pairC {X : Cx} (i j : Nat) {x y : Str} {px py pos : Pos} {k : Nat} (hc : X.calm = true) (hN : X.N.Nodup) (hi : X.N[i]? = some x) (hj : X.N[j]? = some y) (hx : Loc X.env.scope x) (hy : Loc X.env.scope y) (fx : X.fn x = true ∨ X.env.scope.names.lookup x = some .local) (fy : X.fn y = true ∨ X.env.scope.names.lookup y = some .local) :
    PG X (.Tuple [.Name x px, .Name y py] k pos) (gTup X.K 2 (gCons (gName i) (gCons (gName j) gNil))) :=
  pg_tup hc (pgs_cons (pg_name hN hi hx fx) (pgs_cons (pg_name hN hj hy fy) pgs_nil))
/-- new lists of ints in a new list, none of them there ahead -/
def NewLists (H0 H : Hp) (q : Addr) (Ls : List (List Int)) : Prop := ∃ as : List Addr, H q = some (.lst (as.map V.ref)) ∧ Paired (fun a (l : List Int) => H a = some (.lst (l.map V.int))) as Ls ∧ (q :: as).Nodup ∧ ∀ a ∈ q :: as, H0 a = none
/-- lists of ints in a list -/
def ListsAt (H : Hp) (q : Addr) (Ls : List (List Int)) : Prop := ∃ as : List Addr, H q = some (.lst (as.map V.ref)) ∧ Paired (fun a (l : List Int) => H a = some (.lst (l.map V.int))) as Ls
theorem NewLists.at {H0 H : Hp} {q : Addr} {Ls : List (List Int)} (h : NewLists H0 H q Ls) : ListsAt H q Ls := let ⟨as, a, b, _⟩ := h; ⟨as, a, b⟩
theorem NewLists.same {H0 H H' : Hp} {q : Addr} {Ls : List (List Int)} (h : NewLists H0 H q Ls) (s : Same H H') : NewLists H0 H' q Ls := by
  obtain ⟨as, a, b, c, d⟩ := h
  exact ⟨as, s _ _ a, paired_imp b fun x l e => s _ _ e, c, d⟩
theorem NewLists.old {H0 H1 H : Hp} {q : Addr} {Ls : List (List Int)} (h : NewLists H1 H q Ls) (s : Same H0 H1) : NewLists H0 H q Ls := by
  obtain ⟨as, a, b, c, d⟩ := h
  exact ⟨as, a, b, c, fun x hx => s.free (d x hx)⟩
theorem ListsAt.same {H H' : Hp} {q : Addr} {Ls : List (List Int)} (h : ListsAt H q Ls) (s : Same H H') : ListsAt H' q Ls := by
  obtain ⟨as, a, b⟩ := h
  exact ⟨as, s _ _ a, paired_imp b fun x l e => s _ _ e⟩
end FR

set_option Elab.async false
set_option maxRecDepth 100000
namespace FR
open PySem PySem.Spec PyProof.Rows L2 FL
/-! ### max(ints, default=d) -/
def mx (d : Int) : List Int → Int
  | [] => d
  | x :: r => r.foldl max x
def rMaxD (K : PySem.W.Frag) : List V → List V → Hp → VK → Prop := fun xs zs H Q => ∃ (a : Addr) (ns : List Int) (d : Int), xs = [.ref a] ∧ zs = [.int d] ∧ SqL K H a (ns.map V.int) ∧ Q (.int (mx d ns)) H
theorem alikeI (ns : List Int) : PySem.W.AlikeAll (ns.map PyData.int) := by
  refine ⟨fun x hx y hy => ?_, fun x hx => ?_⟩
  · obtain ⟨n, _, rfl⟩ := List.mem_map.mp hx
    obtain ⟨m, _, rfl⟩ := List.mem_map.mp hy
    rfl
  · obtain ⟨n, _, rfl⟩ := List.mem_map.mp hx
    intro z; cases z
theorem ck_maxD {X : Cx} (hc : X.calm = true) (hu : X.A.units + 64 < cLine) : CallRK X (.builtin "max") ["default"] (rMaxD X.K) := by
  intro pins s σ H xs zs us ws Q I r rz h
  obtain ⟨a, ns, d, rfl, rfl, hs, q⟩ := h
  obtain ⟨its, rv, hl, _⟩ := I.list hs
  rw [Vals.ref1 r]
  obtain ⟨t, rfl⟩ : ∃ t, ws = [Value.int d t] := by
    cases rz with
    | cons r1 r2 =>
      cases r2
      obtain ⟨t, rfl⟩ := r1
      exact ⟨t, rfl⟩
  refine PySem.W.max_list_default (xs := ns.map PyData.int) (I.ok.hd hc) hl.isList (IntsAre.reads _ rv.ints) (alikeI ns) (by rw [depI]; omega) (fun e h' tk hk => ?_) fun y ys i v h' tk bs e hv rd hk => ?_
  · have : ns = [] := by simpa using e
    subst this
    exact ⟨.int d, H, I.kept hk, ⟨_, rfl⟩, q⟩
  · cases ns with
    | nil => cases e
    | cons n r =>
      cases e
      rw [PySem.W.maxD_ints] at rd
      cases rd
      exact ⟨.int _, H, I.kept hk, ⟨_, rfl⟩, q⟩
end FR

set_option Elab.async false
namespace FL
open FR
/-! ### floors -/
theorem foldl_max_ge (r : List Int) : ∀ x : Int, x ≤ r.foldl max x ∧ ∀ y ∈ r, y ≤ r.foldl max x := by
  induction r with
  | nil => intro x; exact ⟨Int.le_refl _, fun y h => by cases h⟩
  | cons a r ih =>
    intro x
    obtain ⟨h1, h2⟩ := ih (max x a)
    refine ⟨Int.le_trans (Int.le_max_left _ _) h1, fun y hy => ?_⟩
    rcases List.mem_cons.mp hy with z | z
    · rw [z]; exact Int.le_trans (Int.le_max_right _ _) h1
    · exact h2 y z
theorem foldl_max_mem (r : List Int) : ∀ x : Int, r.foldl max x ∈ x :: r := by
  induction r with
  | nil => intro x; simp
  | cons a r ih =>
    intro x
    have := ih (max x a)
    rw [List.foldl_cons]
    rcases List.mem_cons.mp this with z | z
    · rw [z]
      by_cases h : x ≤ a
      · rw [Int.max_eq_right h]; simp
      · rw [Int.max_eq_left (by omega)]; simp
    · exact List.mem_cons_of_mem _ (List.mem_cons_of_mem _ z)
theorem mx_ge {d : Int} {l : List Int} : ∀ y ∈ l, y ≤ mx d l := fun y hy => by
  cases l with
  | nil => cases hy
  | cons a r =>
    obtain ⟨h1, h2⟩ := foldl_max_ge r a
    rcases List.mem_cons.mp hy with z | z
    · rw [z]; exact h1
    · exact h2 y z
theorem mx_mem {d : Int} {l : List Int} (h : l ≠ []) : mx d l ∈ l := by
  cases l with
  | nil => exact absurd rfl h
  | cons a r => exact foldl_max_mem r a
theorem mx_nil (d : Int) : mx d [] = d := rfl
theorem mx_le {d : Int} {l : List Int} {k : Int} (hd : d ≤ k) (h : ∀ y ∈ l, y ≤ k) : mx d l ≤ k := by
  cases l with
  | nil => exact hd
  | cons a r => exact h _ (mx_mem (List.cons_ne_nil a r))
theorem mx_snoc {d : Int} {l : List Int} {x : Int} (h : ∀ y ∈ l, d ≤ y) (hx : d ≤ x) : mx d (l ++ [x]) = max (mx d l) x := by
  cases l with
  | nil => show x = max d x; omega
  | cons a r =>
    show (r ++ [x]).foldl max a = max (r.foldl max a) x
    rw [List.foldl_append]; rfl
/-- f tells each thing's floor -/
def Fl (B : BL) (f : Int → Int) : Prop := ∀ x ∈ ks B, f x = 1 + mx (-1) ((gt B x).map f)
theorem Fl.nn {B : BL} {f : Int → Int} (wf : WF B) (h : Fl B f) : ∀ x ∈ ks B, 0 ≤ f x := by
  have : ∀ (n : Nat) (x : Int), less B x ≤ n → x ∈ ks B → 0 ≤ f x := by
    intro n
    induction n with
    | zero =>
      intro x hn hx
      rw [h x hx]
      cases e : gt B x with
      | nil => simp [mx_nil]
      | cons a r =>
        have ha := wf.lo x a (by rw [e]; exact List.mem_cons_self)
        have := less_lt (B := B) ha.2 ha.1
        omega
    | succ n ih =>
      intro x hn hx
      rw [h x hx]
      cases e : gt B x with
      | nil => simp [mx_nil]
      | cons a r =>
        have ha := wf.lo x a (by rw [e]; exact List.mem_cons_self)
        have h1 := less_lt (B := B) ha.2 ha.1
        have h2 := ih a (by omega) ha.2
        have h3 : f a ≤ mx (-1) ((a :: r).map f) := mx_ge _ (List.mem_map.mpr ⟨a, List.mem_cons_self, rfl⟩)
        omega
  exact fun x hx => this (less B x) x (Nat.le_refl _) hx
theorem fl_ex {B : BL} (wf : WF B) (up : (ks B).Pairwise (· < ·)) : ∃ f, Fl B f := by
  have step : ∀ n, ∃ f : Int → Int, ∀ x ∈ (ks B).take n, f x = 1 + mx (-1) ((gt B x).map f) := by
    intro n
    induction n with
    | zero => exact ⟨fun _ => 0, fun x hx => by simp at hx⟩
    | succ n ih =>
      obtain ⟨f, hf⟩ := ih
      cases e : (ks B)[n]? with
      | none =>
        have : (ks B).take (n + 1) = (ks B).take n := by
          rw [List.getElem?_eq_none_iff] at e
          rw [List.take_of_length_le (by omega), List.take_of_length_le e]
        exact ⟨f, by rw [this]; exact hf⟩
      | some x =>
        have cut : (ks B).take (n + 1) = (ks B).take n ++ [x] := by rw [List.take_add_one, e]; rfl
        have lt : ∀ y ∈ (ks B).take n, y < x := fun y hy => by
          have := up.sublist (List.take_sublist (n + 1) (ks B))
          rw [cut, List.pairwise_append] at this
          exact this.2.2 y hy x (by simp)
        refine ⟨fun k => if k = x then 1 + mx (-1) ((gt B x).map f) else f k, fun y hy => ?_⟩
        have same : ∀ z, z ≤ x → (gt B z).map (fun k => if k = x then 1 + mx (-1) ((gt B x).map f) else f k) = (gt B z).map f := fun z hz => by
          apply List.map_congr_left
          intro k hk
          have := (wf.lo z k hk).1
          rw [if_neg (by omega)]
        rw [cut] at hy
        rcases List.mem_append.mp hy with z | z
        · have := lt y z
          rw [same y (by omega)]
          show (if y = x then _ else f y) = _
          rw [if_neg (by omega)]
          exact hf y z
        · obtain rfl : y = x := by simpa using z
          rw [same y (Int.le_refl _)]
          show (if y = y then _ else f y) = _
          rw [if_pos rfl]
  obtain ⟨f, hf⟩ := step (ks B).length
  exact ⟨f, fun x hx => hf x (by rw [List.take_length]; exact hx)⟩
def nf (f : Int → Int) (xs : List Int) : Nat := (mx (-1) (xs.map f) + 1).toNat
def flr (f : Int → Int) (xs : List Int) : List (List Int) := (List.range (nf f xs)).map fun (k : Nat) => xs.filter fun x => decide (f x = (k : Int))
theorem flr_len (f : Int → Int) (xs : List Int) : (flr f xs).length = nf f xs := by simp [flr]
theorem flr_at {f : Int → Int} {xs : List Int} {k : Nat} (h : k < nf f xs) : (flr f xs)[k]? = some (xs.filter fun x => decide (f x = (k : Int))) := by
  simp [flr, h]
theorem lt_nf {f : Int → Int} {xs : List Int} {x : Int} (hx : x ∈ xs) (h0 : 0 ≤ f x) : (f x).toNat < nf f xs := by
  have : f x ≤ mx (-1) (xs.map f) := mx_ge _ (List.mem_map.mpr ⟨x, hx, rfl⟩)
  unfold nf
  omega
theorem nf_snoc {f : Int → Int} {xs : List Int} {x : Int} (h0 : ∀ y ∈ xs, 0 ≤ f y) (hx : 0 ≤ f x) : nf f (xs ++ [x]) = max (nf f xs) ((f x).toNat + 1) := by
  unfold nf
  rw [List.map_append, List.map_singleton, mx_snoc (fun y hy => ?_) (by omega)]
  · have : -1 ≤ mx (-1) (xs.map f) := by
      cases e : xs.map f with
      | nil => exact Int.le_refl _
      | cons a r =>
        have : a ∈ xs.map f := by rw [e]; exact List.mem_cons_self
        obtain ⟨y, hy, rfl⟩ := List.mem_map.mp this
        have := mx_ge (d := -1) _ (show f y ∈ f y :: r from List.mem_cons_self)
        have := h0 y hy
        omega
    omega
  · obtain ⟨z, hz, rfl⟩ := List.mem_map.mp hy
    have := h0 z hz; omega
theorem flr_set {f : Int → Int} {xs : List Int} {x : Int} (h0 : ∀ y ∈ xs, 0 ≤ f y) (hx : 0 ≤ f x) (hn : f x ≤ nf f xs) :
    flr f (xs ++ [x]) = (if f x = nf f xs then flr f xs ++ [[]] else flr f xs).set (f x).toNat ((xs.filter fun y => decide (f y = f x)) ++ [x]) := by
  have e1 := nf_snoc h0 hx
  apply List.ext_getElem?
  intro k
  have fe : ∀ k : Nat, (xs ++ [x]).filter (fun y => decide (f y = (k : Int))) = xs.filter (fun y => decide (f y = (k : Int))) ++ (if f x = (k : Int) then [x] else []) := fun k => by
    rw [List.filter_append]; congr 1
    by_cases c : f x = (k : Int) <;> simp [c]
  by_cases hk : k < nf f (xs ++ [x])
  · rw [flr_at hk, fe]
    by_cases c : k = (f x).toNat
    · have c2 : f x = (k : Int) := by omega
      rw [if_pos c2, ← c, c2, List.getElem?_set_self (by split <;> simp [flr_len] <;> omega)]
    · have c2 : ¬ f x = (k : Int) := by omega
      rw [if_neg c2, List.append_nil, List.getElem?_set_ne (Ne.symm c)]
      have lt : k < nf f xs := by omega
      split
      · rw [List.getElem?_append_left (by rw [flr_len]; exact lt), flr_at lt]
      · rw [flr_at lt]
  · rw [List.getElem?_eq_none (by rw [flr_len]; omega), List.getElem?_eq_none]
    rw [List.length_set]
    split
    · rw [List.length_append, flr_len]; simp only [List.length_singleton]; omega
    · rw [flr_len]; omega
theorem flr_get {f : Int → Int} {xs : List Int} {x : Int} (h0 : ∀ y ∈ xs, 0 ≤ f y) (hx : 0 ≤ f x) (hn : f x ≤ nf f xs) : (if f x = nf f xs then flr f xs ++ [[]] else flr f xs)[(f x).toNat]? = some (xs.filter fun y => decide (f y = f x)) := by
  split
  · rename_i e
    have e2 : (f x).toNat = (flr f xs).length := by rw [flr_len]; omega
    rw [e2, List.getElem?_append_right (Nat.le_refl _), Nat.sub_self]
    have : xs.filter (fun y => decide (f y = f x)) = [] := by
      rw [List.filter_eq_nil_iff]
      intro y hy c
      have := lt_nf hy (h0 y hy)
      have := of_decide_eq_true c
      omega
    rw [this]; rfl
  · rw [flr_at (by omega)]
    congr 2
    funext y
    rw [show (((f x).toNat : Nat) : Int) = f x by omega]
theorem lk_fn {f : Int → Int} : ∀ {xs : List Int} {y : Int}, y ∈ xs → lk (xs.map fun k => (k, f k)) y = some (f y)
  | a :: r, y, h => by
    rw [List.map_cons]
    show (if a = y then some (f a) else lk (r.map fun k => (k, f k)) y) = some (f y)
    by_cases e : a = y
    · rw [if_pos e, e]
    · have hr : y ∈ r := by rcases List.mem_cons.mp h with z | z; exact absurd z.symm e; exact z
      rw [if_neg e]; exact lk_fn hr
theorem ks_fn (f : Int → Int) (xs : List Int) : ks (xs.map fun k => (k, f k)) = xs := by simp [ks, List.map_map, Function.comp_def]
theorem in_take {xs : List Int} (up : xs.Pairwise (· < ·)) {i : Nat} {x y : Int} (hx : xs[i]? = some x) (hy : y ∈ xs) (lt : y < x) : y ∈ xs.take i := by
  obtain ⟨j, hj, rfl⟩ := List.getElem_of_mem hy
  obtain ⟨hi, ei⟩ := List.getElem?_eq_some_iff.mp hx
  have : j < i := by
    by_cases c : j < i
    · exact c
    · by_cases c2 : i = j
      · subst c2; omega
      · have := List.pairwise_iff_getElem.mp up i j hi hj (by omega)
        omega
  rw [List.mem_iff_getElem?]
  exact ⟨j, by rw [List.getElem?_take]; rw [if_pos this]; exact List.getElem?_eq_getElem hj⟩
theorem Fl.step {B : BL} {f : Int → Int} (wf : WF B) (up : (ks B).Pairwise (· < ·)) (h : Fl B f) {i : Nat} {x : Int} (hx : (ks B)[i]? = some x) : f x ≤ nf f ((ks B).take i) := by
  have xB : x ∈ ks B := List.mem_of_getElem? hx
  rw [h x xB]
  have : mx (-1) ((gt B x).map f) ≤ (nf f ((ks B).take i) : Int) - 1 := mx_le (by omega) fun z hz => by
    obtain ⟨y, hy, rfl⟩ := List.mem_map.mp hz
    obtain ⟨l1, l2⟩ := wf.lo x y hy
    have := lt_nf (f := f) (in_take up hx l2 l1) (h.nn wf y l2)
    have := h.nn wf y l2
    omega
  omega
/-- each floor has a thing -/
theorem Fl.down {B : BL} {f : Int → Int} (wf : WF B) (h : Fl B f) : ∀ (n : Nat) (x : Int), less B x ≤ n → x ∈ ks B → ∀ k : Int, 0 ≤ k → k ≤ f x → ∃ y ∈ ks B, f y = k := by
  intro n
  induction n with
  | zero =>
    intro x hn hx k k0 hk
    by_cases e : f x = k
    · exact ⟨x, hx, e⟩
    · have hf := h x hx
      cases e2 : gt B x with
      | nil => rw [e2] at hf; simp [mx_nil] at hf; omega
      | cons a r =>
        have ha := wf.lo x a (by rw [e2]; exact List.mem_cons_self)
        have := less_lt (B := B) ha.2 ha.1
        omega
  | succ n ih =>
    intro x hn hx k k0 hk
    by_cases e : f x = k
    · exact ⟨x, hx, e⟩
    · have hf := h x hx
      by_cases e2 : gt B x = []
      · rw [e2] at hf; simp [mx_nil] at hf; omega
      · have m := mx_mem (d := -1) (l := (gt B x).map f) (by simpa using e2)
        obtain ⟨y, hy, ey⟩ := List.mem_map.mp m
        have hyB := wf.lo x y hy
        have := less_lt (B := B) hyB.2 hyB.1
        exact ih y (by omega) hyB.2 k k0 (by omega)
theorem Fl.full {B : BL} {f : Int → Int} (wf : WF B) (h : Fl B f) {k : Nat} (hk : k < nf f (ks B)) : ∃ y ∈ ks B, f y = (k : Int) := by
  have ne : (ks B).map f ≠ [] := fun e => by unfold nf at hk; rw [e, mx_nil] at hk; simp at hk
  obtain ⟨x, hx, ex⟩ := List.mem_map.mp (mx_mem (d := -1) ne)
  exact h.down wf (less B x) x (Nat.le_refl _) hx k (by omega) (by unfold nf at hk; omega)
/-- a thing of floor k + 1 lies above one of floor k -/
theorem Fl.one {B : BL} {f : Int → Int} (wf : WF B) (h : Fl B f) {x : Int} (hx : x ∈ ks B) {k : Int} (k0 : 0 ≤ k) (e : f x = k + 1) : ∃ y ∈ gt B x, f y = k := by
  have hf := h x hx
  by_cases e2 : gt B x = []
  · rw [e2] at hf; simp [mx_nil] at hf; omega
  · have m := mx_mem (d := -1) (l := (gt B x).map f) (by simpa using e2)
    obtain ⟨y, hy, ey⟩ := List.mem_map.mp m
    exact ⟨y, hy, by omega⟩
theorem Fl.lt {B : BL} {f : Int → Int} (h : Fl B f) {x y : Int} (hx : x ∈ ks B) (hy : y ∈ gt B x) : f y < f x := by
  have := h x hx
  have := mx_ge (d := -1) _ (List.mem_map.mpr ⟨y, hy, rfl⟩ : f y ∈ (gt B x).map f)
  omega
/-- none of the lows on floor k or higher, the thing itself on floor k or higher: it is on floor k -/
theorem Fl.bare {B : BL} {f : Int → Int} (wf : WF B) (h : Fl B f) {x : Int} (hx : x ∈ ks B) {k : Int} (k0 : 0 ≤ k) (hk : k ≤ f x) : (∀ y ∈ gt B x, f y < k) ↔ f x = k := by
  constructor
  · intro a
    by_cases c : f x = k
    · exact c
    · obtain ⟨y, hy, e⟩ := h.one wf hx (k := f x - 1) (by omega) (by omega)
      have := a y hy; omega
  · intro e y hy
    have := h.lt hx hy; omega
/-! ### a longest ladder -/
def lngS (B : BL) (l : List Int) (fl : List Int) : List Int := l ++ [((if l = [] then fl else fl.filter fun x => decide (x ∈ gt B (l.getLastD 0))).headD 0)]
def lngU (B : BL) (f : Int → Int) (i : Nat) : List Int := (((flr f (ks B)).reverse).take i).foldl (lngS B) []
theorem lngU_ok {B : BL} {f : Int → Int} (wf : WF B) (h : Fl B f) : ∀ i, i ≤ nf f (ks B) → (lngU B f i).length = i ∧ (∀ (j : Nat) (x : Int), (lngU B f i)[j]? = some x → x ∈ ks B ∧ f x + (j : Int) + 1 = (nf f (ks B) : Int)) ∧ ∀ (j : Nat) (x y : Int), (lngU B f i)[j]? = some x → (lngU B f i)[j + 1]? = some y → y ∈ gt B x := by
  intro i
  induction i with
  | zero => intro _; exact ⟨rfl, fun j x e => by simp [lngU] at e, fun j x y e => by simp [lngU] at e⟩
  | succ i ih =>
    intro hi
    obtain ⟨h1, h2, h3⟩ := ih (by omega)
    have at_ : ((flr f (ks B)).reverse)[i]? = some ((ks B).filter fun x => decide (f x = ((nf f (ks B) - 1 - i : Nat) : Int))) := by
      rw [List.getElem?_reverse (by rw [flr_len]; omega), flr_len, flr_at (by omega)]
    have st : lngU B f (i + 1) = lngS B (lngU B f i) ((ks B).filter fun x => decide (f x = ((nf f (ks B) - 1 - i : Nat) : Int))) := by
      unfold lngU
      rw [List.take_add_one, at_, Option.toList_some, List.foldl_append]
      rfl
    generalize hl : lngU B f i = l at *
    rw [st]
    obtain ⟨y0, hy0, ey0⟩ := h.full wf (k := nf f (ks B) - 1 - i) (by omega)
    -- the new one
    have new : ∃ z, lngS B l ((ks B).filter fun x => decide (f x = ((nf f (ks B) - 1 - i : Nat) : Int))) = l ++ [z] ∧ z ∈ ks B ∧ f z = ((nf f (ks B) - 1 - i : Nat) : Int) ∧ ∀ x, l.getLast? = some x → z ∈ gt B x := by
      refine ⟨_, rfl, ?_⟩
      by_cases c : l = []
      · rw [if_pos c, c]
        cases e : (ks B).filter (fun x => decide (f x = ((nf f (ks B) - 1 - i : Nat) : Int))) with
        | nil =>
          have : y0 ∈ (ks B).filter (fun x => decide (f x = ((nf f (ks B) - 1 - i : Nat) : Int))) := List.mem_filter.mpr ⟨hy0, decide_eq_true ey0⟩
          rw [e] at this; cases this
        | cons a r =>
          have : a ∈ (ks B).filter (fun x => decide (f x = ((nf f (ks B) - 1 - i : Nat) : Int))) := by rw [e]; exact List.mem_cons_self
          obtain ⟨m1, m2⟩ := List.mem_filter.mp this
          exact ⟨m1, by simpa using m2, fun x q => by simp at q⟩
      · rw [if_neg c]
        have hlast : l.getLast? = some (l.getLastD 0) := by
          rw [List.getLast?_eq_some_getLast c, List.getLastD_eq_getLast?, List.getLast?_eq_some_getLast c]; rfl
        generalize l.getLastD 0 = x at hlast
        have hx : l[i - 1]? = some x := by rw [List.getLast?_eq_getElem?, h1] at hlast; exact hlast
        have ipos : 0 < i := by rw [← h1]; exact List.length_pos_iff.mpr c
        obtain ⟨xB, ex⟩ := h2 _ _ hx
        obtain ⟨y1, hy1, ey1⟩ := h.one wf xB (k := ((nf f (ks B) - 1 - i : Nat) : Int)) (by omega) (by omega)
        cases e : ((ks B).filter (fun x => decide (f x = ((nf f (ks B) - 1 - i : Nat) : Int)))).filter (fun z => decide (z ∈ gt B x)) with
        | nil =>
          have : y1 ∈ ((ks B).filter (fun x => decide (f x = ((nf f (ks B) - 1 - i : Nat) : Int)))).filter (fun z => decide (z ∈ gt B x)) := List.mem_filter.mpr ⟨List.mem_filter.mpr ⟨(wf.lo x y1 hy1).2, decide_eq_true ey1⟩, decide_eq_true hy1⟩
          rw [e] at this; cases this
        | cons a r =>
          have : a ∈ ((ks B).filter (fun x => decide (f x = ((nf f (ks B) - 1 - i : Nat) : Int)))).filter (fun z => decide (z ∈ gt B x)) := by rw [e]; exact List.mem_cons_self
          obtain ⟨m1, m2⟩ := List.mem_filter.mp this
          obtain ⟨m3, m4⟩ := List.mem_filter.mp m1
          exact ⟨m3, by simpa using m4, fun x' q => by rw [hlast] at q; cases q; simpa using m2⟩
    obtain ⟨z, e, zB, ez, zl⟩ := new
    rw [e]
    refine ⟨by rw [List.length_append, h1]; rfl, fun j x q => ?_, fun j x y q1 q2 => ?_⟩
    · by_cases c : j < i
      · rw [List.getElem?_append_left (by omega)] at q; exact h2 j x q
      · rw [List.getElem?_append_right (by omega), h1] at q
        have : j = i := by
          have := (List.getElem?_eq_some_iff.mp q).1
          simp only [List.length_singleton] at this
          omega
        subst this
        simp at q
        subst q
        exact ⟨zB, by omega⟩
    · have lt : j + 1 < i + 1 := by
        have := (List.getElem?_eq_some_iff.mp q2).1
        simp only [List.length_append, h1, List.length_singleton] at this
        exact this
      by_cases c : j + 1 < i
      · rw [List.getElem?_append_left (by omega)] at q1 q2; exact h3 j x y q1 q2
      · have : i = j + 1 := by omega
        rw [List.getElem?_append_left (by omega)] at q1
        rw [List.getElem?_append_right (by omega), h1, this] at q2
        simp at q2
        subst q2
        exact zl x (by rw [List.getLast?_eq_getElem?, h1, this]; exact q1)
def lng (B : BL) (f : Int → Int) : List Int := (lngU B f (nf f (ks B))).reverse
theorem lngU_succ {B : BL} {f : Int → Int} {i : Nat} (hi : i < nf f (ks B)) : lngU B f (i + 1) = lngS B (lngU B f i) ((ks B).filter fun x => decide (f x = ((nf f (ks B) - 1 - i : Nat) : Int))) := by
  have at_ : ((flr f (ks B)).reverse)[i]? = some ((ks B).filter fun x => decide (f x = ((nf f (ks B) - 1 - i : Nat) : Int))) := by
    rw [List.getElem?_reverse (by rw [flr_len]; omega), flr_len, flr_at (by omega)]
  unfold lngU
  rw [List.take_add_one, at_, Option.toList_some, List.foldl_append]
  rfl
theorem snoc_last {l : List Int} (h : l ≠ []) : l = l.dropLast ++ [l.getLastD 0] := by
  rw [List.getLastD_eq_getLast?, List.getLast?_eq_some_getLast h]
  exact (List.dropLast_concat_getLast h).symm
theorem lng_last {B : BL} {f : Int → Int} (wf : WF B) (h : Fl B f) {i : Nat} (hi : i < nf f (ks B)) (ne : lngU B f i ≠ []) : (lngU B f i).getLastD 0 ∈ ks B ∧ f ((lngU B f i).getLastD 0) = ((nf f (ks B) - 1 - i : Nat) : Int) + 1 := by
  obtain ⟨h1, h2, _⟩ := lngU_ok wf h i (by omega)
  have hl : (lngU B f i)[i - 1]? = some ((lngU B f i).getLastD 0) := by
    rw [List.getLastD_eq_getLast?, List.getLast?_eq_getElem?, h1]
    cases e : (lngU B f i)[i - 1]? with
    | some x => rfl
    | none =>
      have := List.length_pos_iff.mpr ne
      rw [List.getElem?_eq_none_iff] at e; omega
  have ipos := List.length_pos_iff.mpr ne
  obtain ⟨a, b⟩ := h2 _ _ hl
  exact ⟨a, by omega⟩
theorem lng_more {B : BL} {f : Int → Int} (wf : WF B) (h : Fl B f) {i : Nat} (hi : i < nf f (ks B)) : ∃ z t, (if lngU B f i = [] then (ks B).filter (fun x => decide (f x = ((nf f (ks B) - 1 - i : Nat) : Int))) else ((ks B).filter (fun x => decide (f x = ((nf f (ks B) - 1 - i : Nat) : Int)))).filter fun x => decide (x ∈ gt B ((lngU B f i).getLastD 0))) = z :: t := by
  split
  · obtain ⟨y0, hy0, ey0⟩ := h.full wf (k := nf f (ks B) - 1 - i) (by omega)
    have : y0 ∈ (ks B).filter (fun x => decide (f x = ((nf f (ks B) - 1 - i : Nat) : Int))) := List.mem_filter.mpr ⟨hy0, decide_eq_true ey0⟩
    cases e : (ks B).filter (fun x => decide (f x = ((nf f (ks B) - 1 - i : Nat) : Int))) with
    | nil => rw [e] at this; cases this
    | cons a r => exact ⟨a, r, rfl⟩
  · rename_i ne
    obtain ⟨xB, ex⟩ := lng_last wf h hi ne
    generalize (lngU B f i).getLastD 0 = x at xB ex
    obtain ⟨y1, hy1, ey1⟩ := h.one wf xB (k := ((nf f (ks B) - 1 - i : Nat) : Int)) (by omega) ex
    have : y1 ∈ ((ks B).filter (fun x => decide (f x = ((nf f (ks B) - 1 - i : Nat) : Int)))).filter (fun z => decide (z ∈ gt B x)) := List.mem_filter.mpr ⟨List.mem_filter.mpr ⟨(wf.lo x y1 hy1).2, decide_eq_true ey1⟩, decide_eq_true hy1⟩
    cases e : ((ks B).filter (fun x => decide (f x = ((nf f (ks B) - 1 - i : Nat) : Int)))).filter (fun z => decide (z ∈ gt B x)) with
    | nil => rw [e] at this; cases this
    | cons a r => exact ⟨a, r, rfl⟩
theorem lng_ok {B : BL} {f : Int → Int} (wf : WF B) (h : Fl B f) : (lng B f).length = nf f (ks B) ∧ (∀ (j : Nat) (x : Int), (lng B f)[j]? = some x → x ∈ ks B ∧ f x = (j : Int)) ∧ ∀ (j : Nat) (x y : Int), (lng B f)[j]? = some x → (lng B f)[j + 1]? = some y → x ∈ gt B y := by
  obtain ⟨h1, h2, h3⟩ := lngU_ok wf h (nf f (ks B)) (Nat.le_refl _)
  have hl : (lng B f).length = nf f (ks B) := by unfold lng; rw [List.length_reverse, h1]
  have at_ : ∀ (j : Nat) (x : Int), (lng B f)[j]? = some x → j < nf f (ks B) ∧ (lngU B f (nf f (ks B)))[nf f (ks B) - 1 - j]? = some x := fun j x e => by
    have lt := (List.getElem?_eq_some_iff.mp e).1
    rw [hl] at lt
    unfold lng at e
    rw [List.getElem?_reverse (by omega), h1] at e
    exact ⟨lt, e⟩
  refine ⟨hl, fun j x e => ?_, fun j x y e1 e2 => ?_⟩
  · obtain ⟨lt, e⟩ := at_ j x e
    obtain ⟨a, b⟩ := h2 _ _ e
    exact ⟨a, by omega⟩
  · obtain ⟨l1, q1⟩ := at_ j x e1
    obtain ⟨l2, q2⟩ := at_ (j + 1) y e2
    refine h3 _ _ _ q2 ?_
    rw [show nf f (ks B) - 1 - (j + 1) + 1 = nf f (ks B) - 1 - j by omega]
    exact q1
end FL

set_option Elab.async false
set_option maxRecDepth 100000
namespace FR
open PySem PySem.Spec PyProof.Rows L2 FL
theorem add_as {i j v : Int} {Q : VK} {H : Hp} (e : i + j = v) (h : Q (.int v) H) : (rI0 fun i j => V.int (i + j)) (.int i) (.int j) H Q := ⟨i, j, rfl, rfl, by show Q (.int (i + j)) H; rw [e]; exact h⟩
/-! ### lists of lists of ints compared -/
def dLL (Ls : List (List Int)) : PyData := .list (Ls.map dI)
theorem dpLLs {K : PySem.W.Frag} {H : Hp} : ∀ {as : List Addr} {Ls : List (List Int)}, Paired (fun a (l : List Int) => H a = some (.lst (l.map V.int))) as Ls → DpAll K H (as.map V.ref) (Ls.map dI)
  | _, _, .nil => .nil
  | _, _, .cons e r => .cons (dpI (SqL.of e)) (dpLLs r)
theorem dpLL {K : PySem.W.Frag} {H : Hp} {q : Addr} {Ls : List (List Int)} (h : ListsAt H q Ls) : Dp K H (.ref q) (dLL Ls) := by
  obtain ⟨as, a, b⟩ := h
  exact .lst (SqL.of a) (dpLLs b)
theorem layLL : ∀ Ls : List (List Int), PyData.canLayAll0 (Ls.map dI) = true
  | [] => rfl
  | l :: r => by
    show (PyData.canLay0 (dI l) && PyData.canLayAll0 (r.map dI)) = true
    rw [layLL r, show PyData.canLay0 (dI l) = true from layI l]; rfl
theorem depLL : ∀ Ls : List (List Int), PyData.depthAll (Ls.map dI) ≤ 1
  | [] => Nat.zero_le _
  | l :: r => by
    show max (PyData.depth (dI l)) (PyData.depthAll (r.map dI)) ≤ 1
    have := depLL r
    have e : PyData.depth (dI l) = 1 := by show PyData.depthAll (l.map PyData.int) + 1 = 1; rw [depI]
    omega
theorem shLL (Ls : List (List Int)) : SeqAt.shaped (dLL Ls) = true := by
  unfold SeqAt.shaped dLL
  rw [Bool.and_eq_true]
  refine ⟨layLL Ls, decide_eq_true ?_⟩
  show PyData.depthAll (Ls.map dI) + 1 ≤ 64
  have := depLL Ls; omega
theorem eqvAllLL : ∀ a b : List (List Int), PyData.eqvAll (a.map dI) (b.map dI) = decide (a = b)
  | [], [] => rfl
  | [], m :: s => rfl
  | n :: r, [] => rfl
  | n :: r, m :: s => by
    show (PyData.eqv (dI n) (dI m) && PyData.eqvAll (r.map dI) (s.map dI)) = _
    rw [eqvAllLL r s, eqvI]
    by_cases e : n = m <;> by_cases e2 : r = s <;> simp [e, e2]
theorem eqvLL (a b : List (List Int)) : PyData.eqv (dLL a) (dLL b) = decide (a = b) := eqvAllLL a b
def rEqLL (_ : PySem.W.Frag) : R2 := fun x y H Q => ∃ (a b : Addr) (Ls Ms : List (List Int)), x = .ref a ∧ y = .ref b ∧ ListsAt H a Ls ∧ ListsAt H b Ms ∧ Q (.bl (decide (Ls = Ms))) H
def rNeLL (_ : PySem.W.Frag) : R2 := fun x y H Q => ∃ (a b : Addr) (Ls Ms : List (List Int)), x = .ref a ∧ y = .ref b ∧ ListsAt H a Ls ∧ ListsAt H b Ms ∧ Q (.bl (!decide (Ls = Ms))) H
section
variable {X : Cx}
theorem op_eqLL (hu : X.A.units + 64 < cLine) : OpR X (compareOp .Eq) (rEqLL X.K) := by
  intro pins s σ H x y v u Q I rx ry h
  obtain ⟨a, b, ns, ms, rfl, rfl, ha, hb, q⟩ := h
  exact op_eqD hu pins s σ H _ _ v u Q I rx ry ⟨dLL ns, dLL ms, dpLL ha, dpLL hb, shLL ns, shLL ms, by rw [eqvLL]; exact q⟩
theorem op_neLL (hu : X.A.units + 64 < cLine) : OpR X (compareOp .NotEq) (rNeLL X.K) := by
  intro pins s σ H x y v u Q I rx ry h
  obtain ⟨a, b, ns, ms, rfl, rfl, ha, hb, q⟩ := h
  exact op_neD hu pins s σ H _ _ v u Q I rx ry ⟨dLL ns, dLL ms, dpLL ha, dpLL hb, shLL ns, shLL ms, by rw [eqvLL]; exact q⟩
end
/-- reversed: walked from the last on -/
theorem rev_go {K : PySem.W.Frag} {a : Addr} {xs : List V} {i : Nat} {H : Hp} (h : SqL K H a xs) (hi : i < xs.length) : (Itv K a xs.length).go i H := ⟨hi, xs, xs[xs.length - 1 - i], h, by rw [List.getElem?_eq_getElem (by omega)]⟩
/-- one of a list of lists changed -/
theorem paired_set {α β : Type} {G G' : α → β → Prop} {as : List α} {bs : List β} {k : Nat} {a : α} {b' : β} (h : Paired G as bs) (nd : as.Nodup) (ha : as[k]? = some a) (g : G' a b') (keep : ∀ c d, c ≠ a → G c d → G' c d) : Paired G' as (bs.set k b') := by
  induction h generalizing k with
  | nil => simp at ha
  | @cons c d as bs gc r ih =>
    obtain ⟨n1, n2⟩ := List.nodup_cons.mp nd
    cases k with
    | zero =>
      have : c = a := by simpa using ha
      subst this
      exact .cons g (paired_imp' r fun x y hx q => keep x y (fun e => n1 (e ▸ hx)) q)
    | succ k =>
      have ha' : as[k]? = some a := by simpa using ha
      exact .cons (keep c d (fun e => n1 (e ▸ List.mem_of_getElem? ha')) gc) (ih n2 ha')
theorem paired_get2 {α β : Type} {G : α → β → Prop} {as : List α} {bs : List β} (h : Paired G as bs) {k : Nat} {b : β} (hb : bs[k]? = some b) : ∃ a, as[k]? = some a ∧ G a b := by
  have lt : k < as.length := by rw [paired_len h]; exact (List.getElem?_eq_some_iff.mp hb).1
  obtain ⟨b2, e, g⟩ := paired_at h (List.getElem?_eq_getElem lt)
  rw [hb] at e; cases e
  exact ⟨_, List.getElem?_eq_getElem lt, g⟩
end FR

set_option Elab.async false
set_option maxRecDepth 100000
namespace FR
open PySem PySem.Spec PyProof.Rows L2 FL
/-! ### list(d.values()) -/
def tLV (td : TE) : TE := fun σ H Q => td σ H fun x H1 => ∃ (a : Addr) (kvs : List (Key × V)), x = .ref a ∧ Rd H1 a (.dK kvs) ∧ ∀ p, H1 p = none → Q (.ref p) (upd H1 p (.lst (kvs.map (·.2))))
theorem vals_at : ∀ {kvs : List (Key × V)} {us : List Value} {vs : List (Key × Value)}, KV kvs vs → us.length = vs.length → (∀ (j : Nat) (v : Value), us[j]? = some v → ∃ k, vs[j]? = some (k, v)) → Vals (kvs.map (·.2)) us
  | [], [], _, .nil, _, _ => .nil
  | [], _ :: _, _, .nil, hl, _ => by simp at hl
  | _ :: _, [], _, .cons _ _, hl, _ => by simp at hl
  | p :: kvs, u :: us, q :: vs, .cons e r, hl, h => by
    obtain ⟨k, e1⟩ := h 0 u rfl
    have e1' : q = (k, u) := Option.some.inj e1
    subst e1'
    rw [List.map_cons]
    exact .cons e.2 (vals_at r (by simpa using hl) fun j v q => h (j + 1) v (by simpa using q))
theorem pe_listVals {X : Cx} {e : Expr} {td : TE} {p apos cpos pos : Pos} (hcalm : X.calm = true) (hg : Gl X "list") (hm : X.mg "list" = none) (hv : bootBuiltins "list" = some (.type "list")) (he : PE X e td)
    (hbase : attributeBase e "values" X.env (eval e X.env) = eval e X.env := by rfl) (hline : (apos.endLine == cpos.line) = true := by rfl) (hn : ("list" : Str) ≠ "__name__" := by decide) (hdb : (("list" : Str) == ("__debug__" : Str)) = false := by decide)
    (hs : starEach [Expr.Call (.Attribute e "values" apos) [] [] cpos] X.env = (false, eval (Expr.Call (.Attribute e "values" apos) [] [] cpos) X.env) :: starEach [] X.env := by rfl) (hpl : (backTo pos (starEach [] X.env)).any (·.1) = false := by rfl) :
    PE X (.Call (.Name "list" p) [.Call (.Attribute e "values" apos) [] [] cpos] [] pos) (tLV td) := by
  refine ⟨fun pins s σ H Q I h => ?_⟩
  refine wpAny_Call_Name_kw (ld_blt I hg hm hv ?_ hn hdb)
  refine PyProof.Rows.callWith_type1 ?_ hs hpl
  rw [hs]
  show wpAny _ _ (spliced [(false, eval (Expr.Call (.Attribute e "values" apos) [] [] cpos) X.env)]) _ _ s
  refine Calls.spliced_cons ?_
  refine wpAny_Call_method (T := "dict") (id := "dict.values") hbase rfl hline F.plainAttrs_dict F.slot_dict_values F.type_dict_values (thn (he.run pins s σ H _ I h) fun u s1 ⟨x, H1, I1, rx, a, kvs, ex, hd, q⟩ => ?_)
  subst ex
  obtain rfl : u = Value.ref a := rx
  obtain ⟨z, lo, vs, rel, dd⟩ := dk_rd I1.hok hd
  obtain ⟨ep, hat⟩ := dd.dictAt
  refine ⟨hat.dictOf.typeIs, hat.dictOf.mapOf.noDict, ?_⟩
  have I2 : Inv X pins σ H1 { s1 with heap := s1.heap.push { cls := .type "dict_values", data := .fields #[.ref a] } } := I1.kept (t' := s1.toks) fun b ob q => Heap.get?_push_of_some _ q
  show wpAny _ _ (callWith cpos (.builtin "dict.values") [.ref a] [] []) _ X.xe s1
  refine method_meetsIn F.slot_dict_values F.entry_dict_values rfl (PySem.evalArgs_none ⟨rfl, hat.dictOf.typeIs, F.args_dict_values_1 _, _, meets_dict_values (mixKind X.prog X.w) a lo, ⟨vs, dd⟩, Calls.spliced_nil ?_⟩)
  refine PySem.W.kdl_call (PySem.W.kdl_values (knd := mixKind X.prog X.w) (kvs := vs) (ep := ep) (d := a)) (I.ok.hd hcalm) ⟨⟨_, Heap.get?_push_size _ rfl, rfl, rfl⟩, hat.push _⟩ (by rw [← Paired.length rel]; exact z) fun h' tk acc c' hk hD hacc => ?_
  have hvl : Vals (kvs.map (·.2)) acc.toList := vals_at rel (by rw [Array.length_toList]; exact hacc.1) fun j v e => hacc.2 j v (by rw [← Array.getElem?_toList]; exact e)
  refine ⟨.ref _, upd H1 _ (.lst (kvs.map (·.2))), I2.laid (t' := tk) hk (Nat.le_refl _)
    (show ObjOk X.prog X.w _ _ _ (.lst (kvs.map (·.2))) from ⟨by rw [List.length_map]; exact z, acc.toList, c', hvl, by rw [Array.toArray_toList]; exact hD⟩), rfl, q _ (I2.hok.fresh (Nat.le_refl _))⟩
end FR

set_option Elab.async false
namespace FL
open FR
/-! ### for each thing the one right above it -/
def Over (A M : MT) : Prop := (ks A).Nodup ∧ ∀ l, lk A l = lk (iv M) l
theorem Over.at {B : BL} {A M : MT} (mw : MW B M) (h : Over A M) {l u : Int} : lk A l = some u ↔ lk M u = some l := by rw [h.2 l]; exact iv_lk mw
theorem over_of {B : BL} {A M : MT} (mw : MW B M) (nd : (ks A).Nodup) (h : ∀ l u, lk A l = some u ↔ lk M u = some l) : Over A M := ⟨nd, fun l => by
  cases e : lk A l with
  | some u => exact ((iv_lk mw).mpr ((h l u).mp e)).symm
  | none =>
    cases e2 : lk (iv M) l with
    | none => rfl
    | some u =>
      have := (h l u).mpr ((iv_lk mw).mp e2)
      rw [e] at this; cases this⟩
theorem Over.len {B : BL} {A M : MT} (hB : WF B) (mw : MW B M) (h : Over A M) : A.length ≤ B.length := by
  rw [← len_ks A, ← len_ks B]
  refine h.1.length_le_of_subset fun l hl => ?_
  obtain ⟨u, e⟩ : ∃ u, lk A l = some u := by
    cases e : lk A l with
    | none => exact absurd hl (lk_none.mp e)
    | some u => exact ⟨u, rfl⟩
  have := (h.at mw).mp e
  exact (hB.lo u l (mw.be u l this)).2
theorem over_vals {A : MT} (nd : (ks A).Nodup) {x : Int} : x ∈ A.map (·.2) ↔ ∃ l, lk A l = some x := by
  constructor
  · intro h
    obtain ⟨p, hp, rfl⟩ := List.mem_map.mp h
    exact ⟨p.1, mem_lk nd hp⟩
  · rintro ⟨l, e⟩
    exact List.mem_map.mpr ⟨(l, x), lk_mem e, rfl⟩
theorem Over.high {B : BL} {A M : MT} (mw : MW B M) (h : Over A M) {x : Int} : x ∈ A.map (·.2) ↔ x ∈ ks M := by
  rw [over_vals h.1]
  constructor
  · rintro ⟨l, e⟩
    exact lk_some_ks ((h.at mw).mp e)
  · intro hx
    cases e : lk M x with
    | none => exact absurd hx (lk_none.mp e)
    | some l => exact ⟨l, (h.at mw).mpr e⟩
/-! the row -/
def cputs (A : MT) (row : MT) : MT := row.foldl (fun m p => pt m p.2 p.1) A
theorem cputs_cons (A : MT) (p : Int × Int) (r : MT) : cputs A (p :: r) = cputs (pt A p.2 p.1) r := rfl
theorem cputs_take {A : MT} {row : MT} {i : Nat} {p : Int × Int} (h : row[i]? = some p) : pt (cputs A (row.take i)) p.2 p.1 = cputs A (row.take (i + 1)) := by
  rw [take_snoc h]; unfold cputs; rw [List.foldl_append]; rfl
theorem cputs_nd : ∀ (row : MT) {A : MT}, (ks A).Nodup → (ks (cputs A row)).Nodup
  | [], _, h => h
  | p :: r, A, h => cputs_nd r (nd_pt h)
theorem cputs_lk : ∀ (row : MT) {A : MT} {l : Int}, (row.map (·.2)).Nodup → lk (cputs A row) l = if l ∈ row.map (·.2) then lk (iv row) l else lk A l
  | [], A, l, _ => by simp [cputs]
  | p :: r, A, l, h => by
    rw [List.map_cons, List.nodup_cons] at h
    rw [cputs_cons, cputs_lk r h.2, lk_pt]
    have e : lk (iv (p :: r)) l = if p.2 = l then some p.1 else lk (iv r) l := rfl
    rw [e, List.map_cons]
    by_cases c : l ∈ r.map (·.2)
    · have : p.2 ≠ l := fun z => h.1 (z ▸ c)
      rw [if_pos c, if_pos (List.mem_cons_of_mem _ c), if_neg this]
    · by_cases c2 : l = p.2
      · rw [if_neg c, if_pos c2, if_pos (by rw [c2]; exact List.mem_cons_self), if_pos c2.symm]
      · rw [if_neg c, if_neg c2, if_neg (fun z => by rcases List.mem_cons.mp z with q | q; exact c2 q; exact c q)]
theorem cputs_not {row A : MT} {l : Int} (nd : (row.map (·.2)).Nodup) (h : l ∉ row.map (·.2)) : lk (cputs A row) l = lk A l := by rw [cputs_lk row nd, if_neg h]
/-- what the law asks of a row -/
structure RowOk (A : MT) (things : List Int) (row : MT) : Prop where
  fst : ∀ u l, row[0]? = some (u, l) → u ∉ A.map (·.2)
  nxt : ∀ i u l u' l', row[i]? = some (u, l) → row[i + 1]? = some (u', l') → lk A l = some u'
  lst : ∀ i u l, row[i]? = some (u, l) → i + 1 = row.length → lk A l = none
  nd : (row.map (·.2)).Nodup
  ups : ∀ p ∈ row, p.1 ∈ things
  lows : ∀ p ∈ row, p.2 ∈ things
theorem Ch.walk {M r : MT} {low : Int} {c : MT} (h : Ch M r low c) : ∀ (j : Nat) (u l u' l' : Int), c[j]? = some (u', l') → c[j + 1]? = some (u, l) → lk M u' = some l := by
  induction h with
  | stop _ _ => intro j u l u' l' _ e2; simp at e2
  | @step low up l0 c e1 e2 h ih =>
    intro j u l u' l' q1 q2
    cases j with
    | zero =>
      have : (up, low) = (u', l') := by simpa using q1
      cases this
      obtain ⟨up2, c', ec, _⟩ := h.head
      rw [ec] at q2
      have : (up2, l0) = (u, l) := by simpa using q2
      cases this
      exact e2
    | succ j => exact ih j u l u' l' (by simpa using q1) (by simpa using q2)
/-- the row of make_fewer is one -/
theorem mrow_ok {B : BL} {M A : MT} {sk : List Int} (hB : WF B) (hM : MW B M) (hs : sk.Perm (ks B)) (ov : Over A M) : RowOk A (ks B) (mrow B sk M) ∧ Over (cputs A (mrow B sk M)) (mfew B sk M) ∧ (mrow B sk M).length ≤ B.length := by
  obtain ⟨lp, rg, hsome, hnone⟩ := srch_ok hB hM hs
  cases e : (srch B sk M).2 with
  | none =>
    obtain ⟨_, em⟩ := hnone e
    unfold mfew
    rw [em]
    exact ⟨⟨fun u l q => by simp at q, fun i u l u' l' q => by simp at q, fun i u l q => by simp at q, by simp, fun p q => by simp at q, fun p q => by simp at q⟩, ov, Nat.zero_le _⟩
  | some low =>
    obtain ⟨⟨lowr, lowf⟩, ch, clen, ne⟩ := hsome low e
    have mw' := (mfew_ok hB hM hs).1
    unfold mfew at mw' ⊢
    generalize hrow : mrow B sk M = row at *
    rw [List.length_reverse] at clen
    -- the chain, its parts
    obtain ⟨c2, hc2, hin, hnd⟩ := rg.chain low lowr
    obtain rfl := hc2.uniq ch
    have nd : (row.map (·.2)).Nodup := by
      rw [List.map_reverse] at hnd
      exact (List.reverse_perm _).nodup_iff.mp hnd
    have upsnd : (ks row).Nodup := by
      have := ch.ups (by rw [List.map_reverse]; exact (List.reverse_perm _).nodup_iff.mpr nd)
      unfold ks at this ⊢
      rw [List.map_reverse] at this
      exact (List.reverse_perm _).nodup_iff.mp this
    have rev : ∀ {i : Nat} {p : Int × Int}, row[i]? = some p → row.reverse[row.length - 1 - i]? = some p := fun {i p} q => by
      have lt := (List.getElem?_eq_some_iff.mp q).1
      rw [List.getElem?_reverse (by omega), show row.length - 1 - (row.length - 1 - i) = i by omega]; exact q
    have pos : 0 < row.length := List.length_pos_iff.mpr ne
    obtain ⟨a, u0, l0, ea, hu0, _⟩ := ch.first
    have first : row[0]? = some (u0, l0) := by
      have : row = (u0, l0) :: a.reverse := by
        have := congrArg List.reverse ea
        rw [List.reverse_reverse] at this
        rw [this]; simp
      rw [this]; rfl
    obtain ⟨up1, c1, eh, _⟩ := ch.head
    have lastp : ∀ i u l, row[i]? = some (u, l) → i + 1 = row.length → l = low := fun i u l q ei => by
      have := rev q
      rw [show row.length - 1 - i = 0 by omega, eh] at this
      have : (up1, low) = (u, l) := by simpa using this
      cases this; rfl
    have nxt : ∀ i u l u' l', row[i]? = some (u, l) → row[i + 1]? = some (u', l') → lk M u' = some l := fun i u l u' l' q1 q2 => by
      have lt := (List.getElem?_eq_some_iff.mp q2).1
      have r1 := rev q1
      have r2 := rev q2
      refine ch.walk (row.length - 1 - (i + 1)) u l u' l' r2 ?_
      rw [show row.length - 1 - (i + 1) + 1 = row.length - 1 - i by omega]; exact r1
    have none_low : lk A low = none := by
      cases q : lk A low with
      | none => rfl
      | some u => exact absurd ((ov.at hM).mp q) (lowf u)
    have inU : ∀ p ∈ row, p.1 ∈ ks B := fun p hp => by
      have := ch.entry p (by simpa using hp)
      exact gt_ks (rg.entry this).1
    have inL : ∀ p ∈ row, p.2 ∈ ks B := fun p hp => by
      have := ch.entry p (by simpa using hp)
      exact (hB.lo _ _ (rg.entry this).1).2
    refine ⟨⟨fun u l q => ?_, fun i u l u' l' q1 q2 => (ov.at hM).mpr (nxt i u l u' l' q1 q2), fun i u l q ei => ?_, nd, inU, inL⟩, ?_, clen⟩
    · rw [first] at q; cases q
      intro z
      exact absurd ((ov.high hM).mp z) (lk_none.mp hu0)
    · rw [lastp i u l q ei]; exact none_low
    · refine over_of mw' (cputs_nd row ov.1) fun l u => ?_
      rw [cputs_lk row nd, puts_lk row upsnd]
      have rowlk : ∀ {u l : Int}, lk row u = some l ↔ (u, l) ∈ row := fun {u l} => ⟨lk_mem, mem_lk upsnd⟩
      have ivlk : ∀ {u l : Int}, lk (iv row) l = some u ↔ (u, l) ∈ row := fun {u l} => by
        constructor
        · intro q
          have := lk_mem q
          obtain ⟨p, hp, ep⟩ := List.mem_map.mp this
          cases ep; exact hp
        · intro q
          exact mem_lk (by rw [ks_iv]; exact nd) (List.mem_map.mpr ⟨(u, l), q, rfl⟩)
      by_cases c : l ∈ row.map (·.2)
      · rw [if_pos c, ivlk]
        constructor
        · intro q
          have um : u ∈ ks row := List.mem_map.mpr ⟨(u, l), q, rfl⟩
          rw [if_pos um]
          exact rowlk.mpr q
        · intro q
          by_cases cu : u ∈ ks row
          · rw [if_pos cu] at q; exact rowlk.mp q
          · rw [if_neg cu] at q
            -- l is the lower of a pair: its old upper is the next pair's
            obtain ⟨p, hp, rfl⟩ := List.mem_map.mp c
            obtain ⟨i, hi, rfl⟩ := List.getElem_of_mem hp
            by_cases ei : i + 1 = row.length
            · have e3 : row[i].2 = low := lastp i row[i].1 row[i].2 (List.getElem?_eq_getElem hi) ei
              rw [e3] at q
              exact absurd q (lowf u)
            · have h2 : row[i + 1]? = some row[i + 1] := List.getElem?_eq_getElem (by omega)
              have e4 : lk M row[i + 1].1 = some row[i].2 := nxt i row[i].1 row[i].2 row[i + 1].1 row[i + 1].2 (List.getElem?_eq_getElem hi) h2
              have eu := hM.inj _ _ _ q e4
              exact absurd (eu ▸ List.mem_map.mpr ⟨row[i + 1], List.getElem_mem _, rfl⟩ : u ∈ ks row) cu
      · rw [if_neg c, ov.at hM]
        by_cases cu : u ∈ ks row
        · rw [if_pos cu]
          constructor
          · intro q
            obtain ⟨p, hp, rfl⟩ := List.mem_map.mp cu
            obtain ⟨i, hi, rfl⟩ := List.getElem_of_mem hp
            cases i with
            | zero =>
              rw [List.getElem?_eq_getElem hi] at first
              have e0 := Option.some.inj first
              rw [e0, hu0] at q; cases q
            | succ i =>
              have h1 : row[i]? = some row[i] := List.getElem?_eq_getElem (by omega)
              have e4 : lk M row[i + 1].1 = some row[i].2 := nxt i row[i].1 row[i].2 row[i + 1].1 row[i + 1].2 h1 (List.getElem?_eq_getElem hi)
              rw [e4] at q
              cases q
              exact absurd (List.mem_map.mpr ⟨row[i], List.getElem_mem _, rfl⟩) c
          · intro q
            exact absurd (List.mem_map.mpr ⟨(u, l), rowlk.mp q, rfl⟩) c
        · rw [if_neg cu]
/-- without one: the gap closed -/
theorem over_gap {B : BL} {A A' M : MT} (hB : WF B) (hM : MW B M) (ov : Over A M) (x : Int) (nd : (ks A').Nodup) (h : ∀ l, lk A' l = if l = x then none else if lk A l = some x then lk A x else lk A l) : Over A' (gap M x) := by
  refine over_of (mw_gap hB hM x) nd fun l u => ?_
  rw [h l, gap_lk hM.nd]
  have irr : ∀ a, lk M a ≠ some a := fun a e => by have := (hB.lo a a (hM.be a a e)).1; omega
  by_cases c1 : l = x
  · subst c1
    simp only [if_true]
    constructor
    · intro q; cases q
    · intro q
      exfalso
      revert q
      split
      · simp
      · cases e : lk M u with
        | none => simp
        | some v =>
          by_cases c2 : v = l
          · subst c2; simp only [ne_eq, not_true_eq_false, if_false]
            intro q; exact irr _ q
          · simp only [ne_eq, c2, not_false_eq_true, if_true]
            intro q; exact c2 (Option.some.inj q)
  · rw [if_neg c1]
    by_cases c2 : lk A l = some x
    · rw [if_pos c2, ov.at hM]
      have ml := (ov.at hM).mp c2
      constructor
      · intro q
        have ux : u ≠ x := fun z => irr x (by rw [z] at q; exact q)
        rw [if_neg ux, q]
        simp [ml]
      · intro q
        by_cases ux : u = x
        · rw [if_pos ux] at q; cases q
        · rw [if_neg ux] at q
          cases e : lk M u with
          | none => rw [e] at q; simp at q
          | some v =>
            rw [e] at q
            by_cases c3 : v = x
            · rw [c3]
            · simp [c3] at q
              subst q
              exact absurd (hM.inj _ _ _ e ml) ux
    · rw [if_neg c2, ov.at hM]
      constructor
      · intro q
        have ux : u ≠ x := fun z => c2 ((ov.at hM).mpr (by rw [← z]; exact q))
        rw [if_neg ux, q]
        simp [c1]
      · intro q
        by_cases ux : u = x
        · rw [if_pos ux] at q; cases q
        · rw [if_neg ux] at q
          cases e : lk M u with
          | none => rw [e] at q; simp at q
          | some v =>
            rw [e] at q
            by_cases c3 : v = x
            · subst c3
              simp at q
              exact absurd ((ov.at hM).mpr q) c2
            · simp [c3] at q
              rw [q]
/-- a thing more: the row begins with it -/
theorem row_new {n : Int} {B : BL} {M : MT} (h : HI n B M) {some' : List Int} (hs : ∀ s ∈ some', s ∈ ks B) {u l : Int} (e : (mrow (putB B n some') (ks (putB B n some')) M)[0]? = some (u, l)) : u = n := by
  have hn : ∀ k ∈ ks B, k < n := fun k hk => (h.lt k hk).2
  have nn : n ∉ ks B := fun m => absurd (hn n m) (by omega)
  have w1 := wf_put h.wf hn hs
  have m1 := mw_put (some := some') h.mw nn
  obtain ⟨mw', ml⟩ := mfew_ok w1 m1 (List.Perm.refl _)
  have lp := srch_ok w1 m1 (List.Perm.refl _)
  apply Classical.byContradiction
  intro ne
  have nemp : mrow (putB B n some') (ks (putB B n some')) M ≠ [] := fun z => by rw [z] at e; simp at e
  rw [if_neg nemp] at ml
  -- all its uppers are old
  have ups : n ∉ ks (mrow (putB B n some') (ks (putB B n some')) M) := fun m => by
    cases es : (srch (putB B n some') (ks (putB B n some')) M).2 with
    | none => exact nemp (lp.2.2.2 es).2
    | some low =>
      obtain ⟨_, ch, _, _⟩ := lp.2.2.1 low es
      obtain ⟨p, hp, ep⟩ := List.mem_map.mp m
      obtain ⟨a, u0, l0, ea, hu0, hall⟩ := ch.first
      have hp2 : p ∈ (mrow (putB B n some') (ks (putB B n some')) M).reverse := by simpa using hp
      rw [ea] at hp2
      rcases List.mem_append.mp hp2 with z | z
      · obtain ⟨v, hv⟩ := hall p z
        rw [ep] at hv
        exact nn (h.mw.sub (lk_some_ks hv))
      · have z2 : p = (u0, l0) := by simpa using z
        have first : (mrow (putB B n some') (ks (putB B n some')) M)[0]? = some (u0, l0) := by
          have := congrArg List.reverse ea
          rw [List.reverse_reverse] at this
          rw [this]; simp
        rw [first] at e
        cases e
        rw [z2] at ep
        exact ne ep
  -- so it would have been in the hall of before
  have mwB : MW B (mfew (putB B n some') (ks (putB B n some')) M) := by
    refine ⟨mw'.nd, fun x y v a b => mw'.inj x y v a b, fun x v q => ?_⟩
    have gx := mw'.be x v q
    have xn : x ≠ n := fun z => by
      rw [z] at q
      unfold mfew at q
      by_cases c : n ∈ ks (mrow (putB B n some') (ks (putB B n some')) M)
      · exact ups c
      · have e2 : lk (puts M (mrow (putB B n some') (ks (putB B n some')) M)) n = lk M n := by
          cases es : (srch (putB B n some') (ks (putB B n some')) M).2 with
          | none => exact absurd (lp.2.2.2 es).2 nemp
          | some low =>
            obtain ⟨⟨lowr, _⟩, ch, _, _⟩ := lp.2.2.1 low es
            obtain ⟨c2, hc2, _, hnd⟩ := lp.2.1.chain low lowr
            obtain rfl := hc2.uniq ch
            have := ch.ups hnd
            rw [puts_lk _ (by unfold ks at this ⊢; rw [List.map_reverse] at this; exact (List.reverse_perm _).nodup_iff.mp this), if_neg c]
        rw [e2] at q
        exact nn (h.mw.sub (lk_some_ks q))
    rw [gt_put nn, if_neg xn] at gx
    exact gx
  obtain ⟨S, hS, lS⟩ := h.best
  have := weak h.wf mwB hS
  omega
end FL

set_option Elab.async false
set_option maxRecDepth 100000
namespace FR
open PySem PySem.Spec PyProof.Rows L2 FL
/-! ### a list of pairs compared with an empty list -/
def dP (p : Int × Int) : PyData := .tuple [.int p.1, .int p.2]
theorem dpPs {K : PySem.W.Frag} {H : Hp} : ∀ {ts : List Addr} {row : MT}, Paired (fun t (pr : Int × Int) => H t = some (.tup [.int pr.1, .int pr.2])) ts row → DpAll K H (ts.map V.ref) (row.map dP)
  | _, _, .nil => .nil
  | _, _, .cons e r => .cons (.tup (SqT.of e) (.cons (.int _) (.cons (.int _) .nil))) (dpPs r)
theorem layPs : ∀ row : MT, PyData.canLayAll0 (row.map dP) = true
  | [] => rfl
  | p :: r => by
    show (PyData.canLay0 (dP p) && PyData.canLayAll0 (r.map dP)) = true
    rw [layPs r]; rfl
theorem depPs : ∀ row : MT, PyData.depthAll (row.map dP) ≤ 1
  | [] => Nat.zero_le _
  | p :: r => by
    show max (PyData.depth (dP p)) (PyData.depthAll (r.map dP)) ≤ 1
    have := depPs r
    have e : PyData.depth (dP p) = 1 := rfl
    omega
theorem shPs (row : MT) : SeqAt.shaped (.list (row.map dP)) = true := by
  unfold SeqAt.shaped
  rw [Bool.and_eq_true]
  refine ⟨layPs row, decide_eq_true ?_⟩
  show PyData.depthAll (row.map dP) + 1 ≤ 64
  have := depPs row; omega
def rNePE (_ : PySem.W.Frag) : R2 := fun x y H Q => ∃ (a b : Addr) (row : MT), x = .ref a ∧ y = .ref b ∧ PairsAt H a row ∧ H b = some (.lst []) ∧ Q (.bl (!decide (row = []))) H
theorem op_nePE {X : Cx} (hu : X.A.units + 64 < cLine) : OpR X (compareOp .NotEq) (rNePE X.K) := by
  intro pins s σ H x y v u Q I rx ry h
  obtain ⟨a, b, row, rfl, rfl, ⟨ts, ha, pr⟩, hb, q⟩ := h
  refine op_neD hu pins s σ H _ _ v u Q I rx ry ⟨.list (row.map dP), dI [], .lst (SqL.of ha) (dpPs pr), dpI (SqL.of (by simpa using hb)), shPs row, shI [], ?_⟩
  have e : PyData.eqv (.list (row.map dP)) (dI []) = decide (row = []) := by
    cases row with
    | nil => rfl
    | cons p r => rfl
  rw [e]; exact q
end FR

set_option Elab.async false
namespace FL
open FR
/-! ### some things alone -/
def subB (B : BL) (xs : List Int) : BL := xs.map fun x => (x, (gt B x).filter fun y => decide (y ∈ xs))
theorem ks_sub (B : BL) (xs : List Int) : ks (subB B xs) = xs := by simp [subB, ks, List.map_map, Function.comp_def]
theorem len_sub (B : BL) (xs : List Int) : (subB B xs).length = xs.length := by simp [subB]
theorem lk_map {α : Type} (f : Int → α) : ∀ (xs : List Int) (x : Int), lk (xs.map fun k => (k, f k)) x = if x ∈ xs then some (f x) else none
  | [], x => by simp [lk]
  | a :: r, x => by
    rw [List.map_cons]
    show (if a = x then some (f a) else lk (r.map fun k => (k, f k)) x) = _
    rw [lk_map f r x]
    by_cases c : a = x
    · subst c; simp
    · have c' : ¬ x = a := fun z => c z.symm
      simp [c, c']
theorem gt_sub {B : BL} {xs : List Int} (x : Int) : gt (subB B xs) x = if x ∈ xs then (gt B x).filter (fun y => decide (y ∈ xs)) else [] := by
  unfold gt subB
  rw [lk_map]
  split <;> rfl
theorem mem_sub {B : BL} {xs : List Int} {x y : Int} : y ∈ gt (subB B xs) x ↔ x ∈ xs ∧ y ∈ xs ∧ y ∈ gt B x := by
  rw [gt_sub]
  by_cases c : x ∈ xs
  · rw [if_pos c, List.mem_filter]
    constructor
    · intro h; exact ⟨c, of_decide_eq_true h.2, h.1⟩
    · intro h; exact ⟨h.2.2, decide_eq_true h.2.1⟩
  · rw [if_neg c]
    constructor
    · intro h; cases h
    · intro h; exact absurd h.1 c
theorem wf_sub {B : BL} (wf : WF B) {xs : List Int} (nd : xs.Nodup) : WF (subB B xs) := by
  refine ⟨by rw [ks_sub]; exact nd, fun x y h => ?_, fun x y z h1 h2 => ?_⟩
  · obtain ⟨_, a, b⟩ := mem_sub.mp h
    exact ⟨(wf.lo x y b).1, by rw [ks_sub]; exact a⟩
  · obtain ⟨a1, _, c1⟩ := mem_sub.mp h1
    obtain ⟨_, b2, c2⟩ := mem_sub.mp h2
    exact mem_sub.mpr ⟨a1, b2, wf.tr x y z c1 c2⟩
theorem free_sub {B : BL} {xs S : List Int} (sub : ∀ x ∈ xs, x ∈ ks B) (h : Free (subB B xs) S) : Free B S := by
  obtain ⟨a, b, c⟩ := h
  rw [ks_sub] at b
  exact ⟨a, fun x hx => sub x (b x hx), fun x hx y hy z => c x hx y hy (mem_sub.mpr ⟨b x hx, b y hy, z⟩)⟩
/-! as few ladders as can be -/
def few (B : BL) (sk : List Int) : Nat → MT → MT
  | 0, M => M
  | k + 1, M => if mrow B sk M = [] then M else few B sk k (mfew B sk M)
theorem mw_len {B : BL} {M : MT} (mw : MW B M) : M.length ≤ B.length := by
  rw [← len_ks M, ← len_ks B]
  exact mw.nd.length_le_of_subset fun x hx => mw.sub hx
theorem few_ok {B : BL} (wf : WF B) {sk : List Int} (hs : sk.Perm (ks B)) : ∀ (k : Nat) (M : MT), MW B M → B.length ≤ M.length + k → MW B (few B sk k M) ∧ mrow B sk (few B sk k M) = []
  | 0, M, mw, h => by
    refine ⟨mw, ?_⟩
    apply Classical.byContradiction
    intro ne
    have ne' : ¬ mrow B sk M = [] := ne
    obtain ⟨mw', l⟩ := mfew_ok wf mw hs
    rw [if_neg ne'] at l
    have := mw_len mw'
    omega
  | k + 1, M, mw, h => by
    show MW B (if mrow B sk M = [] then M else few B sk k (mfew B sk M)) ∧ mrow B sk (if mrow B sk M = [] then M else few B sk k (mfew B sk M)) = []
    by_cases c : mrow B sk M = []
    · rw [if_pos c]; exact ⟨mw, c⟩
    · rw [if_neg c]
      obtain ⟨mw', l⟩ := mfew_ok wf mw hs
      rw [if_neg c] at l
      exact few_ok wf hs k _ mw' (by omega)
theorem mw_nil (B : BL) : MW B [] := ⟨by simp [ks], fun x y v h => by simp [lk] at h, fun x v h => by simp [lk] at h⟩
def fewM (B : BL) : MT := few B (srt (ks B)) B.length []
theorem fewM_ok {B : BL} (wf : WF B) : MW B (fewM B) ∧ mrow B (srt (ks B)) (fewM B) = [] := few_ok wf (srt_perm _) B.length [] (mw_nil B) (by simp)
def freeM (B : BL) : List Int := fs (srt (ks B)) (fewM B) (srch B (srt (ks B)) (fewM B)).1
theorem srt_lt {xs : List Int} (nd : xs.Nodup) : (srt xs).Pairwise (· < ·) := by
  have h := srt_le xs
  have n := (srt_perm xs).nodup_iff.mpr nd
  exact (h.and n).imp fun {a b} z => by have := z.1; have := z.2; omega
theorem freeM_ok {B : BL} (wf : WF B) : Free B (freeM B) ∧ (freeM B).length + (fewM B).length = B.length ∧ (freeM B).Pairwise (· < ·) := by
  obtain ⟨mw, e⟩ := fewM_ok wf
  have e2 : (srch B (srt (ks B)) (fewM B)).2 = none := by
    cases z : (srch B (srt (ks B)) (fewM B)).2 with
    | none => rfl
    | some l => exact absurd e ((srch_ok wf mw (srt_perm _)).2.2.1 l z).2.2.2
  obtain ⟨a, b⟩ := none_best wf mw (srt_perm _) e2
  exact ⟨a, b, ((srt_lt wf.nd).sublist List.filter_sublist).sublist List.filter_sublist⟩
end FL

set_option Elab.async false
set_option maxRecDepth 100000
namespace FR
open PySem PySem.Spec PyProof.Rows L2 FL
def rLo (K : PySem.W.Frag) : List V → Hp → VK → Prop := fun xs H Q => ∃ (p : Addr) (ys : List V), xs = [.ref p] ∧ (SqL K H p ys ∨ SqT K H p ys) ∧ ∀ l, H l = none → Q (.ref l) (upd H l (.lst ys))
theorem cr_lo {X : Cx} : CallR X (.type "list") (rLo X.K) := call_list_of
/-! ### what parted tells, told again -/
/-- a tuple of a list of lists and a list -/
def PartAt (H : Hp) (t : Addr) (Ls : List (List Int)) (l : List Int) : Prop := ∃ q1 q2 : Addr, H t = some (.tup [.ref q1, .ref q2]) ∧ ListsAt H q1 Ls ∧ H q2 = some (.lst (l.map V.int))
theorem PartAt.same {H H' : Hp} {t : Addr} {Ls : List (List Int)} {l : List Int} (h : PartAt H t Ls l) (s : Same H H') : PartAt H' t Ls l := let ⟨q1, q2, a, b, c⟩ := h; ⟨q1, q2, s _ _ a, b.same s, s _ _ c⟩
def dPart (Ls : List (List Int)) (l : List Int) : PyData := .tuple [dLL Ls, dI l]
theorem dpPart {K : PySem.W.Frag} {H : Hp} {t : Addr} {Ls : List (List Int)} {l : List Int} (h : PartAt H t Ls l) : Dp K H (.ref t) (dPart Ls l) := by
  obtain ⟨q1, q2, a, b, c⟩ := h
  exact .tup (SqT.of a) (.cons (dpLL b) (.cons (dpI (SqL.of c)) .nil))
theorem shPart (Ls : List (List Int)) (l : List Int) : SeqAt.shaped (dPart Ls l) = true := by
  unfold SeqAt.shaped dPart
  rw [Bool.and_eq_true]
  constructor
  · show (PyData.canLay0 (dLL Ls) && (PyData.canLay0 (dI l) && true)) = true
    rw [show PyData.canLay0 (dLL Ls) = true from layLL Ls, show PyData.canLay0 (dI l) = true from layI l]; rfl
  · refine decide_eq_true ?_
    show max (PyData.depth (dLL Ls)) (max (PyData.depth (dI l)) 0) + 1 ≤ 64
    have h1 : PyData.depth (dLL Ls) ≤ 2 := by show PyData.depthAll (Ls.map dI) + 1 ≤ 2; have := depLL Ls; omega
    have h2 : PyData.depth (dI l) = 1 := by show PyData.depthAll (l.map PyData.int) + 1 = 1; rw [depI]
    omega
theorem eqvPart (Ls Ms : List (List Int)) (l m : List Int) : PyData.eqv (dPart Ls l) (dPart Ms m) = decide (Ls = Ms ∧ l = m) := by
  show (PyData.eqv (dLL Ls) (dLL Ms) && (PyData.eqv (dI l) (dI m) && true)) = _
  rw [eqvLL, eqvI]
  by_cases a : Ls = Ms <;> by_cases b : l = m <;> simp [a, b]
def rEqPart (_ : PySem.W.Frag) : R2 := fun x y H Q => ∃ (a b : Addr) (Ls Ms : List (List Int)) (l m : List Int), x = .ref a ∧ y = .ref b ∧ PartAt H a Ls l ∧ PartAt H b Ms m ∧ Q (.bl (decide (Ls = Ms ∧ l = m))) H
theorem op_eqPart {X : Cx} (hu : X.A.units + 64 < cLine) : OpR X (compareOp .Eq) (rEqPart X.K) := by
  intro pins s σ H x y v u Q I rx ry h
  obtain ⟨a, b, Ls, Ms, l, m, rfl, rfl, ha, hb, q⟩ := h
  exact op_eqD hu pins s σ H _ _ v u Q I rx ry ⟨dPart Ls l, dPart Ms m, dpPart ha, dpPart hb, shPart Ls l, shPart Ms m, by rw [eqvPart]; exact q⟩
end FR

set_option Elab.async false
namespace FL
open FR
/-! ### who stands where -/
def apartL (B : BL) (x : Int) : List Int := (ks B).filter fun y => decide (x ≠ y ∧ y ∉ gt B x ∧ x ∉ gt B y)
def gre (B : BL) (M : MT) (xs more : List Int) : Option (List Int) :=
  if (srt (freeM (subB B xs) ++ more)).length < (lads (ks B) B M).length then none else some (srt (freeM (subB B xs) ++ more))
def withL (B : BL) (M : MT) (x : Int) : Option (List Int) := gre B M (apartL B x) [x]
def withoutL (B : BL) (M : MT) (x : Int) : Option (List Int) := gre B M (drop1 x (ks B)) []
/-- as many as there are ladders, at most -/
def many (B : BL) (M : MT) : Nat := (lads (ks B) B M).length
theorem many_eq {n : Int} {B : BL} {M : MT} (h : HI n B M) : many B M + M.length = B.length := lads_len h.wf h.mw (List.Perm.refl _)
theorem free_most {n : Int} {B : BL} {M : MT} (h : HI n B M) {S : List Int} (hS : Free B S) : S.length ≤ many B M := by
  have := weak h.wf h.mw hS
  have := many_eq h
  omega
theorem free_perm {B : BL} {S S' : List Int} (p : S'.Perm S) (h : Free B S) : Free B S' :=
  ⟨p.nodup_iff.mpr h.1, fun x hx => h.2.1 x (p.mem_iff.mp hx), fun x hx y hy => h.2.2 x (p.mem_iff.mp hx) y (p.mem_iff.mp hy)⟩
theorem apart_nd {B : BL} (wf : WF B) (x : Int) : (apartL B x).Nodup := wf.nd.sublist List.filter_sublist
theorem mem_apart {B : BL} {x y : Int} : y ∈ apartL B x ↔ y ∈ ks B ∧ x ≠ y ∧ y ∉ gt B x ∧ x ∉ gt B y := by
  unfold apartL; rw [List.mem_filter, decide_eq_true_iff]
theorem with_free {B : BL} (wf : WF B) {x : Int} (hx : x ∈ ks B) : Free B (freeM (subB B (apartL B x)) ++ [x]) := by
  have nd := apart_nd wf x
  obtain ⟨fr, _, _⟩ := freeM_ok (wf_sub wf nd)
  have mem : ∀ y ∈ freeM (subB B (apartL B x)), y ∈ apartL B x := fun y hy => by have := fr.2.1 y hy; rwa [ks_sub] at this
  have frB := free_sub (fun y hy => (mem_apart.mp hy).1) fr
  have irr : x ∉ gt B x := fun m => by have := (wf.lo x x m).1; omega
  refine ⟨List.nodup_append.mpr ⟨frB.1, by simp, fun a ha b hb => ?_⟩, fun y hy => ?_, fun a ha b hb => ?_⟩
  · have : b = x := by simpa using hb
    rw [this]; exact fun z => (mem_apart.mp (mem a ha)).2.1 z.symm
  · rcases List.mem_append.mp hy with z | z
    · exact frB.2.1 y z
    · rw [show y = x by simpa using z]; exact hx
  · rcases List.mem_append.mp ha with z | z <;> rcases List.mem_append.mp hb with w | w
    · exact frB.2.2 a z b w
    · rw [show b = x by simpa using w]; exact (mem_apart.mp (mem a z)).2.2.2
    · rw [show a = x by simpa using z]; exact (mem_apart.mp (mem b w)).2.2.1
    · rw [show a = x by simpa using z, show b = x by simpa using w]; exact irr
theorem without_free {B : BL} (wf : WF B) (x : Int) : Free B (freeM (subB B (drop1 x (ks B))) ++ []) ∧ x ∉ freeM (subB B (drop1 x (ks B))) ++ [] := by
  have nd : (drop1 x (ks B)).Nodup := wf.nd.sublist List.filter_sublist
  obtain ⟨fr, _, _⟩ := freeM_ok (wf_sub wf nd)
  rw [List.append_nil]
  refine ⟨free_sub (fun y hy => (mem_drop1.mp hy).1) fr, fun m => ?_⟩
  have := fr.2.1 x m
  rw [ks_sub] at this
  exact (mem_drop1.mp this).2 rfl
/-- what is told by gre -/
theorem gre_some {n : Int} {B : BL} {M : MT} (h : HI n B M) {xs more S : List Int} (fr : Free B (freeM (subB B xs) ++ more)) (e : gre B M xs more = some S) : Free B S ∧ S.length = many B M ∧ S.Pairwise (· < ·) ∧ S.Perm (freeM (subB B xs) ++ more) := by
  unfold gre at e
  split at e
  · cases e
  · rename_i c
    have e2 := Option.some.inj e
    subst e2
    have p := srt_perm (freeM (subB B xs) ++ more)
    have frS := free_perm p fr
    have := free_most h frS
    exact ⟨frS, by unfold many at this ⊢; omega, srt_lt fr.1, p⟩
theorem gre_none {B : BL} {M : MT} {xs more : List Int} (e : gre B M xs more = none) : (freeM (subB B xs)).length + more.length < many B M := by
  unfold gre at e
  split at e
  · rename_i c
    rw [(srt_perm _).length_eq, List.length_append] at c
    exact c
  · cases e
/-- the ladders of some things alone are as many as the free ones -/
theorem lads_free {B : BL} (wf : WF B) {xs : List Int} (nd : xs.Nodup) : (lads (srt xs) (subB B xs) (fewM (subB B xs))).length = (freeM (subB B xs)).length := by
  have w := wf_sub wf nd (B := B)
  obtain ⟨mw, _⟩ := fewM_ok w
  obtain ⟨_, l, _⟩ := freeM_ok w
  have := lads_len w mw (sk := srt xs) (by rw [ks_sub]; exact srt_perm xs)
  omega
/-- some of the greatest sets has a thing, or has it not -/
theorem one_of {n : Int} {B : BL} {M : MT} (h : HI n B M) {x : Int} (e1 : withL B M x = none) (e2 : withoutL B M x = none) : False := by
  obtain ⟨S, hS, lS⟩ := h.best
  have hm := many_eq h
  have g1 := gre_none e1
  have g2 := gre_none e2
  have wf := h.wf
  by_cases c : x ∈ S
  · have nd := apart_nd wf x
    have w := wf_sub wf nd (B := B)
    obtain ⟨mw, _⟩ := fewM_ok w
    obtain ⟨_, l, _⟩ := freeM_ok w
    have fr : Free (subB B (apartL B x)) (drop1 x S) := by
      refine ⟨hS.1.sublist List.filter_sublist, fun y hy => ?_, fun a ha b hb z => ?_⟩
      · obtain ⟨y1, y2⟩ := mem_drop1.mp hy
        rw [ks_sub]
        exact mem_apart.mpr ⟨hS.2.1 y y1, fun z => y2 z.symm, hS.2.2 x c y y1, hS.2.2 y y1 x c⟩
      · exact hS.2.2 a (mem_drop1.mp ha).1 b (mem_drop1.mp hb).1 (mem_sub.mp z).2.2
    have wk := weak w mw fr
    have dl := drop1_len hS.1 c
    simp only [List.length_singleton] at g1
    omega
  · have nd : (drop1 x (ks B)).Nodup := wf.nd.sublist List.filter_sublist
    have w := wf_sub wf nd (B := B)
    obtain ⟨mw, _⟩ := fewM_ok w
    obtain ⟨_, l, _⟩ := freeM_ok w
    have fr : Free (subB B (drop1 x (ks B))) S := by
      refine ⟨hS.1, fun y hy => ?_, fun a ha b hb z => hS.2.2 a ha b hb (mem_sub.mp z).2.2⟩
      rw [ks_sub]
      exact mem_drop1.mpr ⟨hS.2.1 y hy, fun z => c (z ▸ hy)⟩
    have wk := weak w mw fr
    simp only [List.length_nil] at g2
    omega
end FL

set_option Elab.async false
set_option maxRecDepth 100000
namespace FR
open PySem PySem.Spec PyProof.Rows L2 FL
/-! ### a dict compared with an empty one -/
def rNeDE : R2 := fun x y H Q => ∃ a b ks, x = .ref a ∧ y = .ref b ∧ H a = some (.dK ks) ∧ H b = some (.dK []) ∧ Q (.bl (!decide (ks.length = 0))) H
theorem op_neDE {X : Cx} (hu : X.A.units < cLine) : OpR X (compareOp .NotEq) rNeDE := by
  intro pins s σ H x y v u Q I rx ry h
  obtain ⟨a, b, ks, rfl, rfl, ea, eb, q⟩ := h
  by_cases c : ks = []
  · subst c
    exact op_ne_dictA hu pins s σ H _ _ v u Q I rx ry ⟨a, b, [], [], rfl, rfl, ea, eb, rfl, (fun p hp => (by cases hp)), q⟩
  · obtain rfl : v = Value.ref a := rx
    obtain rfl : u = Value.ref b := ry
    obtain ⟨_, ya, va, ra, da⟩ := (show ObjOk X.prog X.w H s.heap a (.dK ks) from I.hok a _ ea)
    obtain ⟨_, yb, vb, rb, db⟩ := (show ObjOk X.prog X.w H s.heap b (.dK []) from I.hok b _ eb)
    have la : va.length = ks.length := ra.length.symm
    have lb : vb.length = 0 := rb.length.symm
    have pos : 0 < ks.length := List.length_pos_iff.mpr c
    have ne : va.length ≠ vb.length := by omega
    exact PySem.W.keq_ne (knd := mixKind X.prog X.w) (r := true) ya yb da db hu (fun e => absurd e (by omega)) (fin_bl I q (by simp [la, lb, c]))
end FR

set_option Elab.async false
set_option maxRecDepth 100000
namespace FR
open PySem PySem.Spec PyProof.Rows L2 FL
/-! ### trees of lists and tuples: copied, changed -/
mutual
/-- the copy: each tuple a list -/
def cpD : PyData → PyData
  | .list ds => .list (cpAll ds)
  | .tuple ds => .list (cpAll ds)
  | .none => .none
  | .bool b => .bool b
  | .int i => .int i
  | .str s => .str s
  | .dict kvs => .dict kvs
def cpAll : List PyData → List PyData
  | [] => []
  | d :: r => cpD d :: cpAll r
end
mutual
/-- each list within gets one more -/
def spD : PyData → PyData
  | .list ds => .list (spAll ds ++ [.int 77])
  | .tuple ds => .tuple (spAll ds)
  | .none => .none
  | .bool b => .bool b
  | .int i => .int i
  | .str s => .str s
  | .dict kvs => .dict kvs
def spAll : List PyData → List PyData
  | [] => []
  | d :: r => spD d :: spAll r
end
mutual
/-- d stands at v, in the objects as -/
inductive Own (H : Hp) : V → PyData → List Addr → Prop
  | non : Own H .non .none []
  | int (i : Int) : Own H (.int i) (.int i) []
  | str (s : Str) : Own H (.str s) (.str s) []
  | lst {a : Addr} {xs : List V} {ds : List PyData} {as : List Addr} : H a = some (.lst xs) → OwnAll H xs ds as → Own H (.ref a) (.list ds) (a :: as)
  | tup {a : Addr} {xs : List V} {ds : List PyData} {as : List Addr} : H a = some (.tup xs) → OwnAll H xs ds as → Own H (.ref a) (.tuple ds) (a :: as)
inductive OwnAll (H : Hp) : List V → List PyData → List Addr → Prop
  | nil : OwnAll H [] [] []
  | cons {v : V} {vs : List V} {d : PyData} {ds : List PyData} {as bs : List Addr} : Own H v d as → OwnAll H vs ds bs → OwnAll H (v :: vs) (d :: ds) (as ++ bs)
end
mutual
theorem Own.keep {H H' : Hp} : ∀ {v : V} {d : PyData} {as : List Addr}, Own H v d as → (∀ a ∈ as, ∀ o, H a = some o → H' a = some o) → Own H' v d as
  | _, _, _, .non, _ => .non
  | _, _, _, .int i, _ => .int i
  | _, _, _, .str s, _ => .str s
  | _, _, _, .lst e r, k => .lst (k _ List.mem_cons_self _ e) (r.keep fun b hb => k b (List.mem_cons_of_mem _ hb))
  | _, _, _, .tup e r, k => .tup (k _ List.mem_cons_self _ e) (r.keep fun b hb => k b (List.mem_cons_of_mem _ hb))
theorem OwnAll.keep {H H' : Hp} : ∀ {vs : List V} {ds : List PyData} {as : List Addr}, OwnAll H vs ds as → (∀ a ∈ as, ∀ o, H a = some o → H' a = some o) → OwnAll H' vs ds as
  | _, _, _, .nil, _ => .nil
  | _, _, _, .cons e r, k => .cons (e.keep fun b hb => k b (List.mem_append_left _ hb)) (r.keep fun b hb => k b (List.mem_append_right _ hb))
end
mutual
theorem Own.dp {K : PySem.W.Frag} {H : Hp} : ∀ {v : V} {d : PyData} {as : List Addr}, Own H v d as → Dp K H v d
  | _, _, _, .non => .non
  | _, _, _, .int i => .int i
  | _, _, _, .str s => .str s
  | _, _, _, .lst e r => .lst (SqL.of e) r.dp
  | _, _, _, .tup e r => .tup (SqT.of e) r.dp
theorem OwnAll.dp {K : PySem.W.Frag} {H : Hp} : ∀ {vs : List V} {ds : List PyData} {as : List Addr}, OwnAll H vs ds as → DpAll K H vs ds
  | _, _, _, .nil => .nil
  | _, _, _, .cons e r => .cons e.dp r.dp
end
mutual
/-- no list within has more than a hundred -/
def fewD : PyData → Bool
  | .list ds => decide (ds.length ≤ 100) && fewAll ds
  | .tuple ds => decide (ds.length ≤ 100) && fewAll ds
  | _ => true
def fewAll : List PyData → Bool
  | [] => true
  | d :: r => fewD d && fewAll r
end
theorem cpAll_append : ∀ a b : List PyData, cpAll (a ++ b) = cpAll a ++ cpAll b
  | [], _ => rfl
  | d :: r, b => by show cpD d :: cpAll (r ++ b) = cpD d :: (cpAll r ++ cpAll b); rw [cpAll_append r b]
theorem OwnAll.app {H : Hp} : ∀ {vs ws : List V} {ds es : List PyData} {as bs : List Addr}, OwnAll H vs ds as → OwnAll H ws es bs → OwnAll H (vs ++ ws) (ds ++ es) (as ++ bs)
  | _, _, _, _, _, _, .nil, k => k
  | _, _, _, _, _, _, .cons e r, k => by rw [List.append_assoc]; exact .cons e (r.app k)
theorem OwnAll.len {H : Hp} : ∀ {vs : List V} {ds : List PyData} {as : List Addr}, OwnAll H vs ds as → vs.length = ds.length
  | _, _, _, .nil => rfl
  | _, _, _, .cons _ r => by rw [List.length_cons, List.length_cons, r.len]
theorem OwnAll.at {H : Hp} : ∀ {vs : List V} {ds : List PyData} {as : List Addr}, OwnAll H vs ds as → ∀ {i : Nat} {v : V}, vs[i]? = some v → ∃ d bs, ds[i]? = some d ∧ Own H v d bs ∧ ∀ b ∈ bs, b ∈ as
  | _, _, _, .nil, i, v, h => by simp at h
  | _, _, _, .cons (v := v0) (d := d0) (as := as0) e r, i, v, h => by
    cases i with
    | zero =>
      have : v0 = v := by simpa using h
      subst this
      exact ⟨d0, as0, rfl, e, fun b hb => List.mem_append_left _ hb⟩
    | succ i =>
      obtain ⟨d, bs, h1, h2, h3⟩ := r.at (i := i) (v := v) (by simpa using h)
      exact ⟨d, bs, by simpa using h1, h2, fun b hb => List.mem_append_right _ (h3 b hb)⟩
theorem fewAll_at : ∀ {ds : List PyData}, fewAll ds = true → ∀ {i : Nat} {d : PyData}, ds[i]? = some d → fewD d = true
  | [], _, i, d, h => by simp at h
  | x :: r, hf, i, d, h => by
    have hf' : (fewD x && fewAll r) = true := hf
    rw [Bool.and_eq_true] at hf'
    cases i with
    | zero => have : x = d := by simpa using h
              subst this; exact hf'.1
    | succ i => exact fewAll_at hf'.2 (by simpa using h)
theorem depth_at : ∀ {ds : List PyData} {i : Nat} {d : PyData}, ds[i]? = some d → PyData.depth d ≤ PyData.depthAll ds
  | [], i, d, h => by simp at h
  | x :: r, i, d, h => by
    show PyData.depth d ≤ max (PyData.depth x) (PyData.depthAll r)
    cases i with
    | zero => have : x = d := by simpa using h
              subst this; omega
    | succ i => have := depth_at (ds := r) (i := i) (d := d) (by simpa using h); omega
theorem cpAll_len : ∀ ds : List PyData, (cpAll ds).length = ds.length
  | [] => rfl
  | d :: r => by show (cpD d :: cpAll r).length = _; rw [List.length_cons, List.length_cons, cpAll_len r]
mutual
theorem Own.dom {H : Hp} : ∀ {v : V} {d : PyData} {as : List Addr}, Own H v d as → ∀ a ∈ as, ∃ o, H a = some o
  | _, _, _, .non, a, h => by cases h
  | _, _, _, .int _, a, h => by cases h
  | _, _, _, .str _, a, h => by cases h
  | _, _, _, .lst e r, a, h => by
    rcases List.mem_cons.mp h with z | z
    · rw [z]; exact ⟨_, e⟩
    · exact r.dom a z
  | _, _, _, .tup e r, a, h => by
    rcases List.mem_cons.mp h with z | z
    · rw [z]; exact ⟨_, e⟩
    · exact r.dom a z
theorem OwnAll.dom {H : Hp} : ∀ {vs : List V} {ds : List PyData} {as : List Addr}, OwnAll H vs ds as → ∀ a ∈ as, ∃ o, H a = some o
  | _, _, _, .nil, a, h => by cases h
  | _, _, _, .cons e r, a, h => by
    rcases List.mem_append.mp h with z | z
    · exact e.dom a z
    · exact r.dom a z
end
/-- one of a list of trees changed -/
theorem OwnAll.put {H : Hp} : ∀ {vs : List V} {ds : List PyData} {as : List Addr}, OwnAll H vs ds as → as.Nodup → ∀ {i : Nat} {v : V}, vs[i]? = some v → ∃ d bs, ds[i]? = some d ∧ Own H v d bs ∧ bs.Nodup ∧ (∀ b ∈ bs, b ∈ as) ∧
    ∀ (H' : Hp) (d' : PyData), Own H' v d' bs → (∀ b, b ∉ bs → ∀ o, H b = some o → H' b = some o) → OwnAll H' vs (ds.set i d') as
  | _, _, _, .nil, _, i, v, h => by simp at h
  | _, _, _, .cons (v := v0) (vs := vs0) (d := d0) (ds := ds0) (as := as0) (bs := bs0) e r, nd, i, v, h => by
    obtain ⟨n1, n2, n3⟩ := List.nodup_append.mp nd
    cases i with
    | zero =>
      have : v0 = v := by simpa using h
      subst this
      refine ⟨d0, as0, rfl, e, n1, fun b hb => List.mem_append_left _ hb, fun H' d' o k => ?_⟩
      exact .cons o (r.keep fun b hb o q => k b (fun z => n3 b z b hb rfl) o q)
    | succ i =>
      obtain ⟨d, bs, h1, h2, h3, h4, h5⟩ := r.put n2 (i := i) (v := v) (by simpa using h)
      refine ⟨d, bs, by simpa using h1, h2, h3, fun b hb => List.mem_append_right _ (h4 b hb), fun H' d' o k => ?_⟩
      exact .cons (e.keep fun b hb o q => k b (fun z => n3 b hb b (h4 b z) rfl) o q) (h5 H' d' o k)
theorem spAll_append : ∀ a b : List PyData, spAll (a ++ b) = spAll a ++ spAll b
  | [], _ => rfl
  | d :: r, b => by show spD d :: spAll (r ++ b) = spD d :: (spAll r ++ spAll b); rw [spAll_append r b]
theorem spAll_len : ∀ ds : List PyData, (spAll ds).length = ds.length
  | [] => rfl
  | d :: r => by show (spD d :: spAll r).length = _; rw [List.length_cons, List.length_cons, spAll_len r]
/-- the first i changed -/
def spTo (ds : List PyData) (i : Nat) : List PyData := spAll (ds.take i) ++ ds.drop i
theorem spTo_at {ds : List PyData} {i : Nat} (h : i < ds.length) : (spTo ds i)[i]? = ds[i]? := by
  unfold spTo
  have hl : (spAll (ds.take i)).length = i := by rw [spAll_len, List.length_take]; omega
  rw [List.getElem?_append_right (by omega), hl, Nat.sub_self, List.getElem?_drop, Nat.add_zero]
theorem spTo_set {ds : List PyData} {i : Nat} {d : PyData} (h : ds[i]? = some d) : (spTo ds i).set i (spD d) = spTo ds (i + 1) := by
  unfold spTo
  obtain ⟨hi, ei⟩ := List.getElem?_eq_some_iff.mp h
  have hl : (spAll (ds.take i)).length = i := by rw [spAll_len, List.length_take]; omega
  rw [List.take_add_one, h, Option.toList_some, spAll_append, List.drop_eq_getElem_cons hi, ei, List.set_append, if_neg (by omega), hl, Nat.sub_self, List.set_cons_zero]
  show spAll (ds.take i) ++ spD d :: ds.drop (i + 1) = (spAll (ds.take i) ++ spAll [d]) ++ ds.drop (i + 1)
  rw [List.append_assoc]; rfl
end FR

set_option Elab.async false
set_option maxRecDepth 100000
namespace FR
open PySem PySem.Spec PyProof.Rows L2 FL
/-! ### xs[::2] -/
def evens {α : Type} : List α → List α
  | [] => []
  | [a] => [a]
  | a :: _ :: r => a :: evens r
theorem evens_pick {α : Type} : ∀ l : List α, (List.range ((l.length + 1) / 2)).filterMap (fun k => l[2 * k]?) = evens l
  | [] => by simp [evens]
  | [a] => by simp [evens, List.range_succ_eq_map]
  | a :: b :: r => by
    have e : ((a :: b :: r).length + 1) / 2 = (r.length + 1) / 2 + 1 := by simp only [List.length_cons]; omega
    rw [e, List.range_succ_eq_map, List.filterMap_cons, List.filterMap_map]
    show a :: _ = a :: evens r
    rw [← evens_pick r]
    congr 1
theorem evens_map {α β : Type} (f : α → β) : ∀ l : List α, evens (l.map f) = (evens l).map f
  | [] => rfl
  | [a] => rfl
  | a :: b :: r => by show f a :: evens (r.map f) = f a :: (evens r).map f; rw [evens_map f r]
theorem evens_sub {α : Type} : ∀ l : List α, (evens l).Sublist l
  | [] => List.Sublist.slnil
  | [a] => List.Sublist.refl _
  | a :: b :: r => ((evens_sub r).cons b).cons_cons a
theorem vals_ev : ∀ {xs : List V} {us : List Value}, Vals xs us → Vals (evens xs) (evens us)
  | _, _, .nil => .nil
  | _, _, .cons g .nil => .cons g .nil
  | _, _, .cons g (.cons _ r) => .cons g (vals_ev r)
theorem pick2 (items : Array Value) : slicePick items none none (some 2) = (evens items.toList).toArray := by
  have hb : sliceBounds none none (some 2) items.size = (0, (items.size : Int), 2) := rfl
  unfold slicePick
  rw [hb]
  show ((sliceRange 0 (items.size : Int) 2).filterMap (items[·]?)).toArray = _
  have hr : sliceRange 0 (items.size : Int) 2 = (List.range ((items.size + 1) / 2)).map fun k => 2 * k := by
    unfold sliceRange
    have h1 : (2 : Int) > 0 := by decide
    rw [if_pos h1]
    by_cases h : (0 : Int) < (items.size : Int)
    · rw [if_pos h]
      have e : (((items.size : Int) - 0 + 2 - 1) / 2).toNat = (items.size + 1) / 2 := by omega
      show (List.range (((items.size : Int) - 0 + 2 - 1) / 2).toNat).map (fun (k : Nat) => (0 + 2 * (k : Int)).toNat) = _
      rw [e]
      apply List.map_congr_left
      intro k _
      omega
    · have e : items.size = 0 := by omega
      rw [if_neg h, e]; rfl
  rw [hr, List.filterMap_map, ← evens_pick, Array.length_toList]
  have ef : ((fun x : Nat => items[x]?) ∘ fun k => 2 * k) = fun k => items.toList[2 * k]? := by funext k; simp
  rw [ef]
def tEv (K : PySem.W.Frag) (te : TE) : TE := fun σ H Q => te σ H fun x H1 => ∃ a xs, x = .ref a ∧ SqL K H1 a xs ∧ ∀ p, H1 p = none → Q (.ref p) (upd H1 p (.lst (evens xs)))
theorem pe_ev {X : Cx} {e : Expr} {te : TE} {k : Nat} {p1 p3 pos : Pos} (he : PE X e te) : PE X (.Subscript e (.Slice none none (some (.Constant (.int 2) k p1)) p3) pos) (tEv X.K te) := by
  refine ⟨fun pins s σ H Q I h => ?_⟩
  refine Subscript_ (thn (he.run pins s σ H _ I h) fun v s1 ⟨x, H1, I1, r1, q1⟩ => ?_)
  obtain ⟨a, xs, ex, hx, q⟩ := q1
  subst ex
  cases r1
  have hst : PO X (some (.Constant (.int 2) k p1)) (tPart (tC (.int 2))) := po_some pe_int
  refine wpAny_Slice (thn (po_none.run pins s1 σ H1 (fun o H2 => o = none ∧ H2 = H1) I1 ⟨rfl, rfl⟩) fun vl s2 ⟨l, H2, I2, pl, el, e2⟩ => ?_)
  subst el e2
  refine thn (po_none.run pins s2 σ H2 (fun o H3 => o = none ∧ H3 = H2) I2 ⟨rfl, rfl⟩) fun vu s3 ⟨u, H3, I3, pu, eu, e3⟩ => ?_
  subst eu e3
  refine thn (hst.run pins s3 σ H3 (fun o H4 => o = some 2 ∧ H4 = H3) I3 ⟨2, rfl, rfl, rfl⟩) fun vs s4 ⟨o, H4, I4, ps, eo, e4⟩ => ?_
  subst eo e4
  have I5 : Inv X pins σ H4 { s4 with heap := s4.heap.push { cls := .type "slice", data := .fields #[vl, vu, vs] } } := I4.kept (t' := s4.toks) fun b ob q => Heap.get?_push_of_some _ q
  obtain ⟨its, r, ht, hz⟩ := I5.list hx
  have hlen := r.length
  show wpAny (model X.prog X.w) X.A (subscriptTail e (.Slice none none (some (.Constant (.int 2) k p1)) p3) (.ref a) (.ref s4.heap.objs.size)) (EP X pins σ Q) X.xe { s4 with heap := s4.heap.push { cls := .type "slice", data := .fields #[vl, vu, vs] } }
  refine tail_any (ops := [.ref a, .ref s4.heap.objs.size]) ht.isList.typeIs (PySem.slot_list_getitem.lookup) ?_ (by with_unfolding_all rfl)
  refine wpAny_getItem_list_slice ht.isList (Heap.IsSliceOf.new _ vl vu vs) pl pu ps (by decide) ?_ (by rw [List.size_toArray]; omega)
  rw [pick2]
  refine ⟨.ref _, _, I5.laid (t' := s4.toks) (o := .lst (evens xs)) (fun b ob q => Heap.get?_push_of_some _ q) (Nat.le_refl _) ?_, rfl, q _ (I5.hok.fresh (Nat.le_refl _))⟩
  exact ⟨Nat.le_trans (evens_sub xs).length_le hz, _, 0, vals_ev r, Heap.get?_push_size _ rfl⟩
/-! ### new trees -/
/-- a tree that is new behind H0 -/
def NewD (H0 H : Hp) (v : V) (d : PyData) : Prop := ∃ as, Own H v d as ∧ as.Nodup ∧ ∀ a ∈ as, H0 a = none
def NewAll (H0 H : Hp) (vs : List V) (ds : List PyData) : Prop := ∃ as, OwnAll H vs ds as ∧ as.Nodup ∧ ∀ a ∈ as, H0 a = none
theorem NewD.same {H0 H H' : Hp} {v : V} {d : PyData} (h : NewD H0 H v d) (s : Same H H') : NewD H0 H' v d := let ⟨as, o, n, f⟩ := h; ⟨as, o.keep fun a _ ob e => s a ob e, n, f⟩
theorem NewD.old {H0 H1 H : Hp} {v : V} {d : PyData} (h : NewD H1 H v d) (s : Same H0 H1) : NewD H0 H v d := let ⟨as, o, n, f⟩ := h; ⟨as, o, n, fun a ha => s.free (f a ha)⟩
theorem NewAll.nil {H0 H : Hp} : NewAll H0 H [] [] := ⟨[], .nil, List.nodup_nil, fun a h => by cases h⟩
theorem NewAll.cons {H0 H1 H2 : Hp} {v : V} {d : PyData} {vs : List V} {ds : List PyData} (h : NewD H0 H1 v d) (s0 : Same H0 H1) (s : Same H1 H2) (r : NewAll H1 H2 vs ds) : NewAll H0 H2 (v :: vs) (d :: ds) := by
  obtain ⟨as, o, n, f⟩ := h
  obtain ⟨bs, o2, n2, f2⟩ := r
  refine ⟨as ++ bs, .cons (o.keep fun a _ ob e => s a ob e) o2, List.nodup_append.mpr ⟨n, n2, fun a ha b hb z => ?_⟩, fun a ha => ?_⟩
  · subst z
    obtain ⟨ob, e⟩ := o.dom a ha
    rw [f2 a hb] at e; cases e
  · rcases List.mem_append.mp ha with z | z
    · exact f a z
    · exact s0.free (f2 a z)
theorem NewAll.lst {H0 H H' : Hp} {vs : List V} {ds : List PyData} (h : NewAll H0 H vs ds) (s : Same H0 H) {p : Addr} (hp : H p = none) (s' : Same H H') (e : H' p = some (.lst vs)) : NewD H0 H' (.ref p) (.list ds) := by
  obtain ⟨as, o, n, f⟩ := h
  have np : p ∉ as := fun z => by obtain ⟨ob, e⟩ := o.dom p z; rw [hp] at e; cases e
  refine ⟨p :: as, .lst e (o.keep fun a ha ob e => s' _ _ e), List.nodup_cons.mpr ⟨np, n⟩, fun a ha => ?_⟩
  rcases List.mem_cons.mp ha with z | z
  · rw [z]; exact s.free hp
  · exact f a z
theorem NewAll.tup {H0 H H' : Hp} {vs : List V} {ds : List PyData} (h : NewAll H0 H vs ds) (s : Same H0 H) {p : Addr} (hp : H0 p = none) (np : ∀ ob, H p = some ob → False) (s' : Same H H') (e : H' p = some (.tup vs)) : NewD H0 H' (.ref p) (.tuple ds) := by
  obtain ⟨as, o, n, f⟩ := h
  have np : p ∉ as := fun z => by obtain ⟨ob, e⟩ := o.dom p z; exact np ob e
  refine ⟨p :: as, .tup e (o.keep fun a ha ob e => s' _ _ e), List.nodup_cons.mpr ⟨np, n⟩, fun a ha => ?_⟩
  rcases List.mem_cons.mp ha with z | z
  · rw [z]; exact hp
  · exact f a z
theorem ownInts {H : Hp} : ∀ ns : List Int, OwnAll H (ns.map V.int) (ns.map PyData.int) []
  | [] => .nil
  | n :: r => .cons (as := []) (.int n) (ownInts r)
theorem ownI {H : Hp} {a : Addr} {ns : List Int} (h : H a = some (.lst (ns.map V.int))) : Own H (.ref a) (dI ns) [a] := .lst h (ownInts ns)
theorem newI {H0 H : Hp} {a : Addr} {ns : List Int} (h : H a = some (.lst (ns.map V.int))) (n : H0 a = none) : NewD H0 H (.ref a) (dI ns) := ⟨[a], ownI h, by simp, fun b hb => by rw [show b = a by simpa using hb]; exact n⟩
theorem ownLs {H : Hp} : ∀ {as : List Addr} {Ls : List (List Int)}, Paired (fun a (l : List Int) => H a = some (.lst (l.map V.int))) as Ls → OwnAll H (as.map V.ref) (Ls.map dI) as
  | _, _, .nil => .nil
  | _, _, .cons g r => .cons (as := [_]) (ownI g) (ownLs r)
theorem newLL {H0 H : Hp} {q : Addr} {Ls : List (List Int)} (h : NewLists H0 H q Ls) : NewD H0 H (.ref q) (dLL Ls) := by
  obtain ⟨as, e, r, n, f⟩ := h
  exact ⟨q :: as, .lst e (ownLs r), n, f⟩
theorem newPart {H0 H1 H : Hp} {t q1 q2 : Addr} {Ls : List (List Int)} {l : List Int} (s0 : Same H0 H1) (nl : NewLists H0 H1 q1 Ls) (s : Same H1 H) (n2 : H1 q2 = none) (e2 : H q2 = some (.lst (l.map V.int))) (et : H t = some (.tup [.ref q1, .ref q2])) (nt : H1 t = none) : NewD H0 H (.ref t) (dPart Ls l) := by
  obtain ⟨as, o, n, f⟩ := (newLL nl)
  have n1 : q2 ∉ as := fun z => by obtain ⟨ob, e⟩ := o.dom q2 z; rw [n2] at e; cases e
  have n3 : t ∉ as := fun z => by obtain ⟨ob, e⟩ := o.dom t z; rw [nt] at e; cases e
  have n4 : t ≠ q2 := fun z => by rw [z, e2] at et; cases et
  have key : Own H (.ref t) (dPart Ls l) (t :: (as ++ ([q2] ++ []))) := .tup et (.cons (o.keep fun a _ ob e => s a ob e) (.cons (ownI e2) .nil))
  rw [List.append_nil] at key
  refine ⟨_, key, List.nodup_cons.mpr ⟨fun z => ?_, List.nodup_append.mpr ⟨n, by simp, fun a ha b hb z => ?_⟩⟩, fun a ha => ?_⟩
  · rcases List.mem_append.mp z with z | z
    · exact n3 z
    · exact n4 (by simpa using z)
  · rw [show b = q2 by simpa using hb] at z
    exact n1 (z ▸ ha)
  · rcases List.mem_cons.mp ha with z | z
    · rw [z]; exact s0.free nt
    · rcases List.mem_append.mp z with z | z
      · exact f a z
      · rw [show a = q2 by simpa using z]; exact s0.free n2
/-- a list, or None -/
def dO : Option (List Int) → PyData
  | none => .none
  | some S => dI S
mutual
theorem cp_lay : ∀ d : PyData, d.canLay0 = true → (cpD d).canLay0 = true
  | .none, _ => rfl
  | .bool _, _ => rfl
  | .int _, _ => rfl
  | .str _, h => h
  | .list xs, h => cpAll_lay xs h
  | .tuple xs, h => cpAll_lay xs h
  | .dict _, h => nomatch h
theorem cpAll_lay : ∀ ds : List PyData, PyData.canLayAll0 ds = true → PyData.canLayAll0 (cpAll ds) = true
  | [], _ => rfl
  | x :: xs, h => by
    have h' : x.canLay0 = true ∧ PyData.canLayAll0 xs = true := by simpa [PyData.canLayAll0] using h
    show ((cpD x).canLay0 && PyData.canLayAll0 (cpAll xs)) = true
    rw [cp_lay x h'.1, cpAll_lay xs h'.2]; rfl
end
theorem layAll_app : ∀ a b : List PyData, PyData.canLayAll0 (a ++ b) = (PyData.canLayAll0 a && PyData.canLayAll0 b)
  | [], b => by show PyData.canLayAll0 b = (true && _); rw [Bool.true_and]
  | x :: r, b => by show (x.canLay0 && PyData.canLayAll0 (r ++ b)) = ((x.canLay0 && PyData.canLayAll0 r) && _); rw [layAll_app r b, Bool.and_assoc]
mutual
theorem sp_lay : ∀ d : PyData, d.canLay0 = true → (spD d).canLay0 = true
  | .none, _ => rfl
  | .bool _, _ => rfl
  | .int _, _ => rfl
  | .str _, h => h
  | .list xs, h => by show PyData.canLayAll0 (spAll xs ++ [PyData.int 77]) = true; rw [layAll_app, spAll_lay xs h]; rfl
  | .tuple xs, h => spAll_lay xs h
  | .dict _, h => nomatch h
theorem spAll_lay : ∀ ds : List PyData, PyData.canLayAll0 ds = true → PyData.canLayAll0 (spAll ds) = true
  | [], _ => rfl
  | x :: xs, h => by
    have h' : x.canLay0 = true ∧ PyData.canLayAll0 xs = true := by simpa [PyData.canLayAll0] using h
    show ((spD x).canLay0 && PyData.canLayAll0 (spAll xs)) = true
    rw [sp_lay x h'.1, spAll_lay xs h'.2]; rfl
end
mutual
theorem cp_dep : ∀ d : PyData, (cpD d).depth = d.depth
  | .none => rfl
  | .bool _ => rfl
  | .int _ => rfl
  | .str _ => rfl
  | .list xs => by show PyData.depthAll (cpAll xs) + 1 = PyData.depthAll xs + 1; rw [cpAll_dep xs]
  | .tuple xs => by show PyData.depthAll (cpAll xs) + 1 = PyData.depthAll xs + 1; rw [cpAll_dep xs]
  | .dict _ => rfl
theorem cpAll_dep : ∀ ds : List PyData, PyData.depthAll (cpAll ds) = PyData.depthAll ds
  | [] => rfl
  | x :: xs => by show max (cpD x).depth (PyData.depthAll (cpAll xs)) = max x.depth (PyData.depthAll xs); rw [cp_dep x, cpAll_dep xs]
end
theorem depAll_app : ∀ a b : List PyData, PyData.depthAll (a ++ b) = max (PyData.depthAll a) (PyData.depthAll b)
  | [], b => by show PyData.depthAll b = max 0 _; omega
  | x :: r, b => by show max x.depth (PyData.depthAll (r ++ b)) = max (max x.depth (PyData.depthAll r)) _; rw [depAll_app r b]; omega
mutual
theorem sp_dep : ∀ d : PyData, (spD d).depth = d.depth
  | .none => rfl
  | .bool _ => rfl
  | .int _ => rfl
  | .str _ => rfl
  | .list xs => by
    show PyData.depthAll (spAll xs ++ [PyData.int 77]) + 1 = PyData.depthAll xs + 1
    rw [depAll_app, spAll_dep xs]
    show max (PyData.depthAll xs) (max 0 0) + 1 = _
    omega
  | .tuple xs => by show PyData.depthAll (spAll xs) + 1 = PyData.depthAll xs + 1; rw [spAll_dep xs]
  | .dict _ => rfl
theorem spAll_dep : ∀ ds : List PyData, PyData.depthAll (spAll ds) = PyData.depthAll ds
  | [] => rfl
  | x :: xs => by show max (spD x).depth (PyData.depthAll (spAll xs)) = max x.depth (PyData.depthAll xs); rw [sp_dep x, spAll_dep xs]
end
mutual
/-- no list within has more than n -/
def capD (n : Nat) : PyData → Bool
  | .list ds => decide (ds.length ≤ n) && capAll n ds
  | .tuple ds => decide (ds.length ≤ n) && capAll n ds
  | _ => true
def capAll (n : Nat) : List PyData → Bool
  | [] => true
  | d :: r => capD n d && capAll n r
end
mutual
theorem cap_few : ∀ {n : Nat} (d : PyData), n ≤ 100 → capD n d = true → fewD d = true
  | _, .none, _, _ => rfl
  | _, .bool _, _, _ => rfl
  | _, .int _, _, _ => rfl
  | _, .str _, _, _ => rfl
  | _, .dict _, _, _ => rfl
  | n, .list ds, hn, h => by
    have h' : (decide (ds.length ≤ n) && capAll n ds) = true := h
    rw [Bool.and_eq_true] at h'
    show (decide (ds.length ≤ 100) && fewAll ds) = true
    rw [capAll_few ds hn h'.2, decide_eq_true (Nat.le_trans (of_decide_eq_true h'.1) hn)]; rfl
  | n, .tuple ds, hn, h => by
    have h' : (decide (ds.length ≤ n) && capAll n ds) = true := h
    rw [Bool.and_eq_true] at h'
    show (decide (ds.length ≤ 100) && fewAll ds) = true
    rw [capAll_few ds hn h'.2, decide_eq_true (Nat.le_trans (of_decide_eq_true h'.1) hn)]; rfl
theorem capAll_few : ∀ {n : Nat} (ds : List PyData), n ≤ 100 → capAll n ds = true → fewAll ds = true
  | _, [], _, _ => rfl
  | n, x :: xs, hn, h => by
    have h' : (capD n x && capAll n xs) = true := h
    rw [Bool.and_eq_true] at h'
    show (fewD x && fewAll xs) = true
    rw [cap_few x hn h'.1, capAll_few xs hn h'.2]; rfl
end
theorem capAll_app {n : Nat} : ∀ a b : List PyData, capAll n (a ++ b) = (capAll n a && capAll n b)
  | [], b => by show capAll n b = (true && _); rw [Bool.true_and]
  | x :: r, b => by show (capD n x && capAll n (r ++ b)) = ((capD n x && capAll n r) && _); rw [capAll_app r b, Bool.and_assoc]
mutual
theorem sp_cap : ∀ {n : Nat} (d : PyData), capD n d = true → capD (n + 1) (spD d) = true
  | _, .none, _ => rfl
  | _, .bool _, _ => rfl
  | _, .int _, _ => rfl
  | _, .str _, _ => rfl
  | _, .dict _, _ => rfl
  | n, .list ds, h => by
    have h' : (decide (ds.length ≤ n) && capAll n ds) = true := h
    rw [Bool.and_eq_true] at h'
    show (decide ((spAll ds ++ [PyData.int 77]).length ≤ n + 1) && capAll (n + 1) (spAll ds ++ [PyData.int 77])) = true
    have hl := of_decide_eq_true h'.1
    rw [capAll_app, spAll_cap ds h'.2, decide_eq_true (by rw [List.length_append, spAll_len]; show ds.length + 1 ≤ n + 1; omega)]; rfl
  | n, .tuple ds, h => by
    have h' : (decide (ds.length ≤ n) && capAll n ds) = true := h
    rw [Bool.and_eq_true] at h'
    show (decide ((spAll ds).length ≤ n + 1) && capAll (n + 1) (spAll ds)) = true
    have hl := of_decide_eq_true h'.1
    rw [spAll_cap ds h'.2, decide_eq_true (by rw [spAll_len]; omega)]; rfl
theorem spAll_cap : ∀ {n : Nat} (ds : List PyData), capAll n ds = true → capAll (n + 1) (spAll ds) = true
  | _, [], _ => rfl
  | n, x :: xs, h => by
    have h' : (capD n x && capAll n xs) = true := h
    rw [Bool.and_eq_true] at h'
    show (capD (n + 1) (spD x) && capAll (n + 1) (spAll xs)) = true
    rw [sp_cap x h'.1, spAll_cap xs h'.2]; rfl
end
theorem capInts {n : Nat} : ∀ ns : List Int, capAll n (ns.map PyData.int) = true
  | [] => rfl
  | _ :: r => by show (true && capAll n (r.map PyData.int)) = true; rw [capInts r]; rfl
theorem capI {n : Nat} {ns : List Int} (h : ns.length ≤ n) : capD n (dI ns) = true := by
  show (decide ((ns.map PyData.int).length ≤ n) && capAll n (ns.map PyData.int)) = true
  rw [capInts, decide_eq_true (by rw [List.length_map]; exact h)]; rfl
theorem capLs {n : Nat} : ∀ {Ls : List (List Int)}, (∀ l ∈ Ls, l.length ≤ n) → capAll n (Ls.map dI) = true
  | [], _ => rfl
  | l :: r, h => by
    show (capD n (dI l) && capAll n (r.map dI)) = true
    rw [capI (h l List.mem_cons_self), capLs fun m hm => h m (List.mem_cons_of_mem _ hm)]; rfl
theorem capLL {n : Nat} {Ls : List (List Int)} (h0 : Ls.length ≤ n) (h : ∀ l ∈ Ls, l.length ≤ n) : capD n (dLL Ls) = true := by
  show (decide ((Ls.map dI).length ≤ n) && capAll n (Ls.map dI)) = true
  rw [capLs h, decide_eq_true (by rw [List.length_map]; exact h0)]; rfl
/-- trees by places, the one behind the other -/
theorem ownMap {H : Hp} {vv : Nat → V} {W : Nat → PyData} {A : Nat → List Addr} : ∀ ls : List Nat, (∀ w ∈ ls, Own H (vv w) (W w) (A w)) → OwnAll H (ls.map vv) (ls.map W) (ls.flatMap A)
  | [], _ => .nil
  | w :: r, h => .cons (h w List.mem_cons_self) (ownMap r fun x hx => h x (List.mem_cons_of_mem _ hx))
theorem nodupMap {A : Nat → List Addr} (n : ∀ w, (A w).Nodup) (d : ∀ w w', w ≠ w' → ∀ a ∈ A w, a ∉ A w') : ∀ ls : List Nat, ls.Nodup → (ls.flatMap A).Nodup
  | [], _ => List.nodup_nil
  | w :: r, h => by
    obtain ⟨h1, h2⟩ := List.nodup_cons.mp h
    rw [List.flatMap_cons]
    refine List.nodup_append.mpr ⟨n w, nodupMap n d r h2, fun a ha b hb z => ?_⟩
    subst z
    obtain ⟨w', hw', m⟩ := List.mem_flatMap.mp hb
    exact d w w' (fun e => h1 (e ▸ hw')) a ha m
/-- what was asked so far, by its way -/
def FoundAt (H0 H : Hp) (dF : Addr) (W : Nat → PyData) (e5 : Prop) (o : Int) (i : Nat) : Prop := ∃ (kvs : List (Key × V)) (A : Nat → List Addr), H dF = some (.dK kvs) ∧ kvs.length ≤ i ∧
  (∀ w : Nat, w < 6 → (∃ k : Nat, k < i ∧ ((k : Int) + o) % 6 = (w : Int)) → Own H ((valV kvs (.inl (w : Int) : Key)).getD .non) (W w) (A w)) ∧
  (∀ w, (A w).Nodup ∧ ∀ a ∈ A w, H0 a = none ∧ a ≠ dF ∧ ∃ ob, H a = some ob) ∧ (∀ w w', w ≠ w' → ∀ a ∈ A w, a ∉ A w') ∧ (e5 → valV kvs (.inl 5 : Key) = none ∧ A 5 = [])
theorem FoundAt.same {H0 H H' : Hp} {dF : Addr} {W : Nat → PyData} {e5 : Prop} {o : Int} {i : Nat} (h : FoundAt H0 H dF W e5 o i) (s : Same H H') : FoundAt H0 H' dF W e5 o i := by
  obtain ⟨kvs, A, a1, a2, a3, a4, a5, a6⟩ := h
  exact ⟨kvs, A, s _ _ a1, a2, fun w hw k => (a3 w hw k).keep fun a _ ob e => s a ob e, fun w => ⟨(a4 w).1, fun a ha => let ⟨x, y, ob, z⟩ := (a4 w).2 a ha; ⟨x, y, ob, s _ _ z⟩⟩, a5, a6⟩
theorem putK_le (c : List (Key × V)) (k : Key) (x : V) {i : Nat} (h : c.length ≤ i) : (putK c k x).length ≤ i + 1 := by
  unfold putK
  split
  · rw [List.length_map]; omega
  · rw [List.length_append]; show c.length + 1 ≤ i + 1; omega
theorem FoundAt.put {H0 H H1 : Hp} {dF : Addr} {W : Nat → PyData} {e5 : Prop} {o : Int} {i w0 : Nat} {v : V} (h : FoundAt H0 H dF W e5 o i) (s0 : Same H0 H) (s : Same H H1) (nd : NewD H H1 v (W w0)) (hw : ((i : Int) + o) % 6 = (w0 : Int)) (n5 : e5 → w0 ≠ 5) :
    ∃ kvs, H1 dF = some (.dK kvs) ∧ kvs.length ≤ i ∧ FoundAt H0 (upd H1 dF (.dK (putK kvs (.inl (w0 : Int) : Key) v))) dF W e5 o (i + 1) := by
  obtain ⟨kvs, A, a1, a2, a3, a4, a5, a6⟩ := h
  obtain ⟨as, ow, an, af⟩ := nd
  have nF : dF ∉ as := fun z => by rw [af dF z] at a1; cases a1
  refine ⟨kvs, s _ _ a1, a2, putK kvs (.inl (w0 : Int)) v, fun w => if w = w0 then as else A w, upd_same, putK_le kvs _ v a2, fun w hw6 hk => ?_, fun w => ?_, fun w w' ne a ha => ?_, fun he => ?_⟩
  · rw [valV_put]
    by_cases e : w = w0
    · subst e
      simp only [if_true]
      exact ow.keep fun a ha ob q => by rw [upd_ne (fun (z : a = dF) => nF (z ▸ ha))]; exact q
    · have e2 : ¬ ((.inl (w : Int) : Key) = .inl (w0 : Int)) := fun z => e (by have := Sum.inl.inj z; omega)
      simp only [if_neg e, if_neg e2]
      obtain ⟨k, hk1, hk2⟩ := hk
      have : k ≠ i := fun z => e (by rw [z, hw] at hk2; omega)
      exact (a3 w hw6 ⟨k, by omega, hk2⟩).keep fun a ha ob q => by rw [upd_ne ((a4 w).2 a ha).2.1]; exact s _ _ q
  · by_cases e : w = w0
    · simp only [if_pos e]
      refine ⟨an, fun a ha => ?_⟩
      have na : a ≠ dF := fun z => nF (z ▸ ha)
      obtain ⟨ob, q⟩ := ow.dom a ha
      exact ⟨s0.free (af a ha), na, ob, by rw [upd_ne na]; exact q⟩
    · simp only [if_neg e]
      refine ⟨(a4 w).1, fun a ha => ?_⟩
      obtain ⟨x, y, ob, z⟩ := (a4 w).2 a ha
      exact ⟨x, y, ob, by rw [upd_ne y]; exact s _ _ z⟩
  · by_cases e : w = w0
    · have e' : ¬ w' = w0 := fun z => ne (e.trans z.symm)
      simp only [if_pos e] at ha
      simp only [if_neg e']
      intro hb
      obtain ⟨_, _, ob, z⟩ := (a4 w').2 a hb
      rw [af a ha] at z; cases z
    · simp only [if_neg e] at ha
      by_cases e' : w' = w0
      · simp only [if_pos e']
        intro hb
        obtain ⟨_, _, ob, z⟩ := (a4 w).2 a ha
        rw [af a hb] at z; cases z
      · simp only [if_neg e']
        exact a5 w w' ne a ha
  · have e : ¬ (5 = w0) := fun z => n5 he z.symm
    have e2 : ¬ ((.inl 5 : Key) = .inl (w0 : Int)) := fun z => e (by have := Sum.inl.inj z; omega)
    rw [valV_put]
    simp only [if_neg e, if_neg e2]
    exact a6 he
theorem FoundAt.skip {H0 H : Hp} {dF : Addr} {W : Nat → PyData} {e5 : Prop} {o : Int} {i : Nat} (h : FoundAt H0 H dF W e5 o i) (he : e5) (hw : ((i : Int) + o) % 6 = 5) (w5 : W 5 = .none) : FoundAt H0 H dF W e5 o (i + 1) := by
  obtain ⟨kvs, A, a1, a2, a3, a4, a5, a6⟩ := h
  refine ⟨kvs, A, a1, by omega, fun w hw6 ⟨k, hk1, hk2⟩ => ?_, a4, a5, a6⟩
  by_cases e : w = 5
  · subst e
    rw [w5, (a6 he).2, show (((5 : Nat) : Int)) = 5 from rfl, (a6 he).1]
    exact .non
  · have : k ≠ i := fun z => e (by rw [z, hw] at hk2; omega)
    exact a3 w hw6 ⟨k, by omega, hk2⟩
theorem FoundAt.all {H0 H : Hp} {dF : Addr} {W : Nat → PyData} {e5 : Prop} {o : Int} (h : FoundAt H0 H dF W e5 o 6) : ∃ kvs, H dF = some (.dK kvs) ∧ NewAll H0 H ((List.range 6).map fun (w : Nat) => (valV kvs (.inl (w : Int) : Key)).getD .non) ((List.range 6).map W) := by
  obtain ⟨kvs, A, a1, a2, a3, a4, a5, a6⟩ := h
  refine ⟨kvs, a1, _, ownMap _ fun w hw => ?_, nodupMap (fun w => (a4 w).1) a5 _ List.nodup_range, fun a ha => ?_⟩
  · have hw6 := List.mem_range.mp hw
    exact a3 w hw6 ⟨(((w : Int) - o) % 6).toNat, by omega, by omega⟩
  · obtain ⟨w, _, m⟩ := List.mem_flatMap.mp ha
    exact ((a4 w).2 a m).1
end FR

set_option Elab.async false
set_option maxRecDepth 100000
namespace FR
open PySem PySem.Spec PyProof.Rows L2 FL
/-! ### type(x) != T, where it is another -/
theorem slot_type_ne_refl : Slot "type" (cmpInfo .NotEq).2.2 "object.__ne__" :=
  .of (owner := "object") (n := "__ne__") (by rw [typeLookup_type, builtinLookup_eq_fast]; kernel_rfl) (by decide +kernel) (by decide +kernel) (by decide +kernel)
    (by first | exact .inl (by decide +kernel) | exact .inr (by decide +kernel)) (by rw [isSubtype_type]; kernel_rfl)
section
variable {M : Model} {A : Around} {E : Value → Shared → Prop} {s : Shared}
theorem ne_decline {a b : Value} {T id : String} {k : Bool} {Q : Value → Shared → Prop} (ha : ∀ s' : Shared, s'.TypeIs a T) (hb : ∀ s' : Shared, s'.TypeIs b T)
    (h1 : Slot T (cmpInfo .NotEq).2.1 id) (h2 : Slot T (cmpInfo .NotEq).2.2 id) (hv : [a, b].any Value.onHeap = false) (hk : isSame a b = pure k)
    (hc : wpAny M A (call (.builtin id) [a, b]) (fun v s₁ => v = .notImplemented ∧ wpAny M A (call (.builtin id) [b, a]) (fun v s₂ => v = .notImplemented ∧ Q (.bool (!k)) s₂) E s₁) E s) :
    wpAny M A (richCompare .NotEq a b) Q E s := by
  rcases hi : cmpInfo CmpOp.NotEq with ⟨sym, f, r⟩
  rw [hi] at h1 h2
  simp only [richCompare, hi, (ha s).oneThing_none]
  try with_reducible refine wpAny_holding ?_
  refine wpAny_bind (wpAny_cRoomFor_or (.inl hv) ?_)
  refine wpAny_bind (wpAny_typeOf (ha s) (wpAny_bind (wpAny_typeOf (hb s) ?_)))
  simp only [bne_self_eq_false, Bool.false_eq_true, if_false, pure_bind, Bool.not_false, if_true]
  refine wpAny_bind (m := tryCompare a _ b) (wpAny_tryCompare_declines (ha s) h1 (wpAny_mono hc (fun v s₁ h₁ => ⟨h₁.1, ?_⟩) fun _ _ x => x))
  refine wpAny_bind (m := tryCompare b _ a) (wpAny_tryCompare_declines (hb s₁) h2 (wpAny_mono h₁.2 (fun v s₂ h₂ => ⟨h₂.1, ?_⟩) fun _ _ x => x))
  refine wpAny_bind (wpAny_rule (wpAny_bind (wpAny_of_eq hk (wpAny_pure h₂.2))))
end
section
variable {prog : Program} {w : World} {A : Around} {E : Value → Shared → Prop} {s : Shared} {Q : Value → Shared → Prop}
theorem ne_call {X Y : String} (hX : ∀ s' : Shared, s'.TypeIs (.type X) "type") (hY : ∀ s' : Shared, s'.TypeIs (.type Y) "type") (hne : (Value.type X == Value.type Y) = false) {Q : Value → Shared → Prop} {s : Shared} (h : Q .notImplemented s) : wpAny (model prog w) A (call (.builtin "object.__ne__") [.type X, .type Y]) Q E s := by
  refine wpAny_call_entry slot_type_ne (hX s) F.entry_object_ne ?_ (F.args_object_ne_2 _ _)
  unfold Builtin.«object.__ne__»
  refine wpAny_bind (wpAny_of_eq (a := (Value.type X, [Value.type Y])) (by rfl) ?_)
  refine wpAny_bind (wpAny_cRoomFor_or (.inl rfl) ?_)
  refine wpAny_bind (wpAny_callSpecialIfBound?_slot (hX _) slot_type_eq2 (call_gives slot_type_eq2 (hX s) F.entry_object_eq (F.args_object_eq_2 _ _) (TypeEq.object_eq_other rfl hne) ?_))
  exact wpAny_pure ⟨_, rfl, h⟩
theorem ne_ty_other {X Y : String} (hX : ∀ s' : Shared, s'.TypeIs (.type X) "type") (hY : ∀ s' : Shared, s'.TypeIs (.type Y) "type") (hne : (Value.type X == Value.type Y) = false) (h : Q (.bool true) s) : wpAny (model prog w) A (compareOp .NotEq (.type X) (.type Y)) Q E s := by
  have hne' : (Value.type Y == Value.type X) = false := by
    rw [Bool.eq_false_iff] at hne ⊢
    intro e
    exact hne (by rw [beq_iff_eq] at e ⊢; exact e.symm)
  show wpAny _ A (richCompare .NotEq _ _) Q E s
  exact ne_decline (T := "type") (k := false) hX hY slot_type_ne slot_type_ne_refl rfl (by rw [isSame_plain rfl, hne]) (ne_call hX hY hne ⟨rfl, ne_call hY hX hne' ⟨rfl, h⟩⟩)
end
/-- type(x) != T, both ways -/
def rNeTyB : R2 := fun x y H Q => ∃ S T, x = .ty S ∧ y = .ty T ∧ Ty5 S ∧ Ty5 T ∧ Q (.bl (!decide (S = T))) H
theorem op_neTyB {X : Cx} : OpR X (compareOp .NotEq) rNeTyB := by
  intro pins s σ H x y v u Q I rx ry h
  obtain ⟨S, T, rfl, rfl, hs, ht, q⟩ := h
  cases rx
  cases ry
  by_cases e : S = T
  · subst e
    exact ne_ty_same hs.meta ⟨.bl false, H, I, rfl, by simpa using q⟩
  · exact ne_ty_other hs.meta ht.meta (by rw [Bool.eq_false_iff]; intro z; rw [beq_iff_eq] at z; exact e (Value.type.inj z)) ⟨.bl true, H, I, rfl, by simpa [e] using q⟩
/-! ### len(set(xs)), where one comes again -/
theorem dedup_len : ∀ (l acc : List Int), (l.foldl step_dedup acc).length ≤ acc.length + l.length
  | [], acc => by simp
  | x :: r, acc => by
    have ih := dedup_len r (step_dedup acc x)
    have h1 : (step_dedup acc x).length ≤ acc.length + 1 := by unfold step_dedup; split <;> simp
    rw [List.foldl_cons, List.length_cons]; omega
theorem dedup_sub : ∀ (l acc : List Int) (x : Int), x ∈ acc → x ∈ l.foldl step_dedup acc
  | [], _, _, h => h
  | y :: r, acc, x, h => by
    rw [List.foldl_cons]
    refine dedup_sub r _ x ?_
    unfold step_dedup
    split
    · exact h
    · exact List.mem_append_left _ h
theorem dedup_less : ∀ (l acc : List Int), (¬ l.Nodup ∨ ∃ x ∈ l, x ∈ acc) → (l.foldl step_dedup acc).length < acc.length + l.length
  | [], acc, h => by
    rcases h with h | ⟨x, h, _⟩
    · exact absurd List.nodup_nil h
    · cases h
  | y :: r, acc, h => by
    rw [List.foldl_cons, List.length_cons]
    by_cases m : y ∈ acc
    · have e : step_dedup acc y = acc := by unfold step_dedup; simp [m]
      rw [e]
      have := dedup_len r acc
      omega
    · have e : (step_dedup acc y).length = acc.length + 1 := by unfold step_dedup; simp [m]
      have k : ¬ r.Nodup ∨ ∃ x ∈ r, x ∈ step_dedup acc y := by
        have e2 : step_dedup acc y = acc ++ [y] := by unfold step_dedup; simp [m]
        rw [e2]
        rcases h with h | ⟨x, hx, hm⟩
        · by_cases q : y ∈ r
          · exact .inr ⟨y, q, by simp⟩
          · exact .inl fun z => h (List.nodup_cons.mpr ⟨q, z⟩)
        · rcases List.mem_cons.mp hx with z | z
          · exact absurd (z ▸ hm) m
          · exact .inr ⟨x, z, List.mem_append_left _ hm⟩
      have := dedup_less r (step_dedup acc y) k
      omega
def tLenSetR (K : PySem.W.Frag) (ta : TE) : TE := fun σ H Q => ta σ H fun x H1 => ∃ (l : Addr) (ns : List Int), x = .ref l ∧ SqL K H1 l (ns.map V.int) ∧ ¬ ns.Nodup ∧ ns.length ≤ 4000 ∧ ∀ k : Nat, k < ns.length → Q (.int (k : Nat)) H1
theorem pe_lenSetR {X : Cx} {a : Expr} {ta : TE} {p p2 q pos : Pos} (hg : Gl X "len") (hm : X.mg "len" = none) (hg2 : Gl X "set") (hm2 : X.mg "set" = none) (ha : PE X a ta) (hc : X.calm = true := by rfl)
    (na : starEach [a] X.env = (false, eval a X.env) :: starEach [] X.env := by rfl) : PE X (.Call (.Name "len" p) [.Call (.Name "set" p2) [a] [] q] [] pos) (tLenSetR X.K ta) := by
  refine ⟨fun pins s σ H Q I h => ?_⟩
  refine Call_ (ld_blt I hg hm boot_len ?_)
  refine PyProof.Rows.callWith_builtin1 (PyProof.Rows.args_cons ?_ rfl) rfl rfl
  refine Call_ (ld_blt I hg2 hm2 boot_set ?_)
  refine PyProof.Rows.callWith_type1 (PyProof.Rows.args_cons (thn (ha.run pins s σ H _ I h) fun v s1 ⟨x, H1, I1, r1, q1⟩ => PyProof.Rows.args_nil ?_) na) na rfl
  obtain ⟨l, ns, rfl, hq, hnd, hl, q1⟩ := q1
  cases r1
  obtain ⟨its, r, pl, hz⟩ := I1.list hq
  have hlen : its.toArray.size = ns.length := by rw [List.size_toArray, ← r.length, List.length_map]
  refine call_set_list (I1.ok.hd hc) pl.isList (by simpa using RZ.intsAre_vals r) (by rw [hlen]; unfold scanBound; omega) fun h' tk hS hk => ?_
  refine PyProof.Rows.args_nil ?_
  rw [hlen] at hS
  obtain ⟨o, es, ep, t, ho, hex, hd, _, _, _, hf, hn⟩ := hS
  have I2 : Inv X pins σ H1 { s1 with heap := h', toks := tk } := I1.kept fun b o e => hk b o (Heap.lt_size e) e
  have em : (List.range ns.length).map (fun i => ns.getD i 0) = ns := by
    apply List.ext_getElem
    · simp
    · intro i h1 h2
      simp [List.getD_eq_getElem?_getD, List.getElem?_eq_getElem h2]
  have lt : (PyProof.Rows.firstMet (fun i => ns.getD i 0) ns.length).length < ns.length := by
    unfold PyProof.Rows.firstMet
    rw [em]
    have := dedup_less ns [] (.inl hnd)
    simpa using this
  exact call_len_set ho hex hd hf (by rw [hn] <;> omega) ⟨.int (PyProof.Rows.firstMet (fun i => ns.getD i 0) ns.length).length, H1, I2.tok _, ⟨_, by rw [hn]⟩, q1 _ lt⟩
/-! ### o.m(e, ..) within a try -/
def tMethX (C : Addr) (m : Str) (sp : Sp) (E : L2.St → XK) (ta : TE) (t : TA) : TE := fun σ H Q => ta σ H fun x H1 => ∃ a dx fs, x = .ref a ∧ H1 a = some (.ins C dx fs) ∧ fs.lookup m = none ∧ t σ H1 fun vs H2 => sp (x :: vs) H2 Q (E σ)
theorem pe_methX {X : Cx} {CX : CXT} {k : Nat} {C f : Addr} {fd : FuncData} {ps : List Str} {m : Str} {sp : Sp} {E : L2.St → XK} {o e : Expr} {es : List Expr} {ta : TE} {t : TA} {apos pos : Pos} {pl : Sem Bool} (he : PE X o ta) (c : Cls X.K C) (hm : Meth X.K C m f)
    (F : FnOk X.prog X.w X.K X.mg X.base CX k f fd ps sp) (hr : Room k X.A) (hb : Binds X.K fd ps []) (hx : ∀ σ, PassesAt CX X σ (E σ)) (ha : PA X (e :: es) t)
    (hst : starEach (e :: es) X.env = (false, eval e X.env) :: starEach es X.env := by rfl) (hpl : (backTo pos (starEach es X.env)).any (·.1) = false := by rfl)
    (ht : eval (.Call (.Attribute o m apos) (e :: es) [] pos) X.env = (do
      let ov ← eval o X.env
      standAt apos.atName
      let (f, first) ← holding [ov] (getMethod ov m pl)
      callWith pos f first (backTo pos (starEach (e :: es) X.env)) (backToKw pos (keywordEach [] X.env))) := by rfl) :
    PE X (.Call (.Attribute o m apos) (e :: es) [] pos) (tMethX C m sp E ta t) := by
  refine ⟨fun pins s σ H Q I h => ?_⟩
  refine PySem.W.methodCall_KW (pl := pl) (thn (he.run pins s σ H _ I h) fun u s1 ⟨x, H1, I1, rx, a, dx, fs, ex, ea, l, q⟩ => ?_) ht
  subst ex
  obtain rfl : u = Value.ref a := rx
  refine getmeth_ok I1 ea c hm l ?_
  refine PySem.W.callWith_K (first := [.ref a]) (h₀ := X.base) I.ok.mod.kin hm.kp (thn (ha.run pos pins s1 σ H1 _ I1 q) fun us s2 ⟨vs, H2, I2, r, q2⟩ => ⟨I2.kIn, ?_⟩) hst hpl
  exact run_fnS (us := .ref a :: us) (vs := .ref a :: vs) F hr hb (hx σ) I2 (.cons rfl r) q2
/-! ### an exception that is kept behind its suite -/
/-- an exception of the class cls, at a -/
def ExK (cls : Value) (a : Addr) : HO := .ext fun h => ∃ (oe : Obj), h.get? a = some oe ∧ Zc cls none oe ∧ ∃ vs, oe.data = .fields vs
theorem exK_ok {P : Program} {w : World} {H : Hp} {h : Heap} {a : Addr} {cls : Value} {oe : Obj} (e : h.get? a = some oe) (z : Zc cls none oe) (d : ∃ vs, oe.data = .fields vs) : ObjOk P w H h a (ExK cls a) :=
  ⟨⟨oe, e, z, d⟩, ⟨oe, e⟩, fun _ _ ⟨o, q, r⟩ k => ⟨o, k o q, r⟩⟩
theorem inv_track {X : Cx} {pins : List (Addr × Obj)} {σ : L2.St} {H : Hp} {s : Shared} {a : Addr} {oe : Obj} {cls : Value} (I : Inv X ((a, oe) :: pins) σ H s) (z : Zc cls none oe) (d : ∃ vs, oe.data = .fields vs) (new : X.s_0.heap.get? a = none) (hp : ∀ p ∈ X.pn ++ pins, p.1 ≠ a) :
    Inv X pins σ (upd H a (ExK cls a)) s := by
  obtain ⟨e, na, nL, nF, nc⟩ := I.pin (a, oe) (List.mem_append_right _ List.mem_cons_self)
  have ne : ∀ {b o}, X.s_0.heap.get? b = some o → b ≠ a := fun {b o} q z => by rw [z, new] at q; cases q
  refine ⟨I.ok, I.os, I.bare, ⟨I.base.keep, I.base.slot, fun b o q n x => ?_, I.base.there, fun b xs q => ?_, fun b o u q => ?_, fun b ps q => ?_⟩, I.loc, I.cell, ?_, fun x c q => ?_, fun p hpp => ?_, ?_, I.len⟩
  · rw [upd_ne (ne q)]; exact I.base.free b o q n x
  · have := I.base.tups b xs q
    rw [upd_ne (ne_of_none this na)]; exact this
  · have := I.base.frzs b o u q
    rw [upd_ne (ne_of_none this na)]; exact this
  · obtain ⟨more, this⟩ := I.base.tbls b ps q
    exact ⟨more, by rw [upd_ne (ne_of_none this na)]; exact this⟩
  · rw [upd_ne nL.symm]; exact I.free
  · have h1 := I.freeC x c q
    have h2 : c ≠ a := fun z => by
      obtain ⟨v, o, ho, hd⟩ := I.cell x c q
      rw [z, e] at ho; cases ho
      exact nc v hd
    rw [upd_ne h2]; exact h1
  · have hm : p ∈ X.pn ++ ((a, oe) :: pins) := by
      rcases List.mem_append.mp hpp with q | q
      · exact List.mem_append_left _ q
      · exact List.mem_append_right _ (List.mem_cons_of_mem _ q)
    obtain ⟨q1, q2, q3, q4, q5⟩ := I.pin p hm
    exact ⟨q1, by rw [upd_ne (hp p hpp)]; exact q2, q3, q4, q5⟩
  · exact HOk.laidN I.hok (fun _ _ q => q) na (exK_ok e z d)
def wKeep (K : PySem.W.Frag) (c : Value) (i : Nat) (ts : Addr → Value → Option Addr → TS) (Wout : WX) (D : Ends) : WX := fun cls d σ H =>
  ∃ b, PySem.W.exmOne K cls c = some b ∧ (b = true → d = none ∧ ∀ a, H a = none → ts a cls d { nx := fun σ' H' => D.nx (σ'.set i none) (upd H' a (ExK cls a)), rt := fun _ _ => False, bk := fun _ _ => False, ct := fun _ _ => False } (σ.set i (some (.ref a))) H) ∧
    (b = false → Wout cls d σ H)
section
variable {X : Cx} {x n : Str} {c : Value} {i : Nat} {body suite : List Stmt} {b₀ : Stmt} {np pos pos' : Pos} {tb : WX → TS} {ts : Addr → Value → Option Addr → TS} {Wout : WX}
/-- try: body / except x as n: suite, where the exception is told of behind it -/
theorem ps_try_keep (hs : X.stack = X.env :: X.outer) (hf : X.env.frame = some X.env.locals) (hN : X.N.Nodup) (hi : X.N[i]? = some n) (hln : X.env.kindOf n = some .local) (hex : X.ex = []) (hc : Names X x c) (tk : Takes X Wout)
    (hb : ∀ (W : WX) (pn : List (Addr × Obj)) (xe : Value → Shared → Prop), Takes (X.tr pn xe) W → PassesOwn (model X.prog X.w) X.A X.env xe → PSs (X.tr pn xe) body (tb W))
    (hsu : ∀ (a : Addr) (oe : Obj) (cls : Value) (d : Option Addr) (pn : List (Addr × Obj)), Zc cls d oe → (∃ vs, oe.data = .fields vs) → PSs (X.suite a ((a, oe) :: pn)) (b₀ :: suite) (ts a cls d)) :
    PS X (.Try body [.ExceptHandler (some (.Name x np)) (some n) (b₀ :: suite) pos'] [] [] pos) (fun D σ H => tb (wKeep X.K c i ts Wout D) D σ H) := by
  refine ⟨fun pins s σ H D I h => ?_⟩
  have ok := I.ok
  have hfr : X.A.frames = some (X.env :: X.outer) := by rw [ok.frames, hs]
  have hloc : Loc X.env.scope n := .inl hln
  refine wpAny_Try_except ?_
  refine wpAny_mono ((hb (wKeep X.K c i ts Wout D) (X.pn ++ pins) (fun e s₁ => wpAny (model X.prog X.w) X.A (noteFrame e X.env) (fun _ s₂ => wpAny (model X.prog X.w) X.A (setFlight e none) (fun _ s₃ =>
    wpAny (model X.prog X.w) X.A (handleBy e X.env [.ExceptHandler (some (.Name x np)) (some n) (b₀ :: suite) pos']) (SP X pins D) X.xe s₃) X.xe s₂) X.xe s₁) (fun u s' xx => ?_) PassesOwn.looking).run [] s σ H D (I.toTry _) h) (fun f s1 hsp => ?_) (fun e s1 he => he)
  · obtain ⟨a, B, sI, pins', σ', H', cls, d, rfl, J', nb, up, sky, na, os, ag, b, hb1, hyes, hno⟩ := xx
    have J : Inv X pins σ' H' sI := J'.ofTry ok
    have sky' : Sky B (X.env :: X.outer) a (Zc cls d) X.env.locals s'.heap := by rw [← hs]; exact sky
    show wpAny (model X.prog X.w) X.A (noteFrame (.ref a) X.env) _ _ _
    refine Sky.land Zc.steady hfr hf sky' fun h3 fl3 up3 => ?_
    have J3 : Inv X pins σ' H' { s' with heap := h3 } := J.landed nb fl3.1 (up.trans up3) os ag
    obtain ⟨oe3, vs3, he3, hz3, hd3⟩ := fl3.there
    have notFr : ∀ {h : Heap} {o : Obj} {vs : Array Value}, h.FunFrames B (X.env :: X.outer) → h.get? a = some o → o.data = .fields vs → a ∉ frs (X.env :: X.outer) := fun {h o vs} ff e dd hm => by
      obtain ⟨_, o', e', hnf⟩ := ff.mem hm
      rw [e] at e'; cases e'
      exact hnf _ dd
    have nfr := notFr fl3.2.2.1 he3 hd3
    have nL : a ≠ X.env.locals := fun z => nfr (List.mem_filterMap.mpr ⟨X.env, List.mem_cons_self, by rw [hf, z]⟩)
    have nF : a ∉ X.fs := fun hm => by
      obtain ⟨e, he, q⟩ := List.mem_filterMap.mp hm
      exact nfr (List.mem_filterMap.mpr ⟨e, List.mem_cons_of_mem _ he, q⟩)
    have nI : sI.heap.get? a = none := by
      cases q : sI.heap.get? a with
      | none => rfl
      | some o =>
        have z := nb a o q (by rw [hs]; exact nfr)
        rw [fl3.2.1] at z; cases z
    have new : X.s_0.heap.get? a = none := by
      cases q : X.s_0.heap.get? a with
      | none => rfl
      | some o =>
        obtain ⟨o', z⟩ := J.base.there a o q (by rw [hex]; simp)
        rw [nI] at z; cases z
    have hpn : ∀ p ∈ X.pn ++ pins, p.1 ≠ a := fun p hp z => by
      have q := (J.pin p hp).1
      rw [z, nI] at q; cases q
    have S3 := J3.suite he3 hd3 na nL nF
    refine wpAny_handleBy_cons (codeAny_handlers_test ?_) (by intro q; cases q)
    have LT : PySem.W.Looks (model X.prog X.w) h3 (typeOf (.ref a)) cls := fun A Q E s k q => wpAny_typeOf_ref (k _ _ he3) (by rw [hz3.1]; exact q)
    have LM := PySem.W.exm_one (M := model X.prog X.w) (J3.kIn) LT hb1
    have test : ∀ {Q : Value → Shared → Prop} {E : Value → Shared → Prop}, Q c { s' with heap := h3 } → wpAny (model X.prog X.w) (X.A.mark (some (.ref a))) (eval (.Name x np) X.env) Q E { s' with heap := h3 } := fun {Q E} q => by
      obtain ⟨hg, hdbg, hm | ⟨hm, hv, hnn⟩⟩ := hc
      · exact ld_glob (X := X.suite a ((a, oe3) :: (X.pn ++ pins))) S3 hg hm q hdbg
      · exact ld_blt (X := X.suite a ((a, oe3) :: (X.pn ++ pins))) S3 hg hm hv q hnn hdbg
    refine test (LM.here ?_)
    cases b with
    | true =>
      obtain ⟨rfl, hyes⟩ := hyes rfl
      refine codeAny_handlers_suite_as ?_
      refine HandSPX.lands_againZ fl3 fun h4 fl4 up4 => ?_
      have J4 : Inv X pins σ' H' { s' with heap := h4 } := J.landed nb fl4.1 ((up.trans up3).trans up4) os ag
      obtain ⟨oe4, vs4, he4, hz4, hd4⟩ := fl4.there
      have S4 := J4.suite he4 hd4 na nL nF
      refine store_ok (X := X.suite a ((a, oe4) :: (X.pn ++ pins))) (v := .ref a) S4 hN hi hloc rfl (fun s5 S5 => ?_) (.inr hln)
      refine wpAny_mono ((hsu a oe4 cls none (X.pn ++ pins) hz4 ⟨_, hd4⟩).run [] s5 _ H' _ S5 (hyes a na)) (fun f s6 hsp => ?_) (fun _ _ z => False.elim z)
      cases f with
      | next =>
        obtain ⟨σ6, H6, S6, q6⟩ := hsp
        have U : Inv X pins σ6 H6 s6 := S6.unsuite ok
        have U2 : Inv X ((a, oe4) :: pins) σ6 H6 s6 := ⟨U.ok, U.os, U.bare, U.base, U.loc, U.cell, U.free, U.freeC, fun p hp => by
          rcases List.mem_append.mp hp with z | z
          · exact U.pin p (List.mem_append_left _ z)
          · rcases List.mem_cons.mp z with z | z
            · rw [z]; exact S6.pin (a, oe4) (List.mem_append_left _ List.mem_cons_self)
            · exact U.pin p (List.mem_append_right _ z), U.hok, U.len⟩
        exact gone_ok U2 hN hi hln fun s7 J7 => ⟨_, _, inv_track J7 hz4 ⟨_, hd4⟩ new hpn, q6⟩
      | brk =>
        obtain ⟨σ6, H6, S6, q6⟩ := hsp
        exact False.elim q6
      | cont =>
        obtain ⟨σ6, H6, S6, q6⟩ := hsp
        exact False.elim q6
      | ret u =>
        obtain ⟨v6, σ6, H6, S6, r6, q6⟩ := hsp
        exact False.elim q6
    | false =>
      show wpAny _ X.A (handleBy (.ref a) X.env []) _ _ _
      refine wpAny_handleBy_nil ?_
      obtain ⟨k1, k2, k3, oe, vs, T, oT, ts', he, hz, hd, h1, hr⟩ := id fl3
      unfold PySem.passOn
      refine wpAny_bind (wpAny_field he hd h1 ?_)
      rw [if_neg (show ¬ ((Value.ref T == Value.none) = true) from by simp)]
      have fin : wpAny (model X.prog X.w) X.A (setFlight (.ref a) X.env.frame) (fun _ s4 => wpAny (model X.prog X.w) X.A (throw (.ref a) : Sem Flow) (SP X pins D) X.xe s4) X.xe { s' with heap := h3 } := by
        rw [hf]
        refine HandSPX.setFlight_upZ fl3 fun h4 hh4 up4 => wpAny_throw (tk _ _ ?_)
        exact ⟨a, B, sI, pins, σ', H', cls, d, rfl, J, nb, (up.trans up3).trans up4, .inr (.inr (by rw [hs]; exact hh4)), na, os, ag, hno rfl⟩
      first
        | exact wpAny_bind (wpAny_pure (wpAny_bind fin))
        | exact wpAny_bind fin
  · cases f with
    | next =>
      obtain ⟨σ', H', J', q⟩ := hsp
      exact wpAny_execs_nil ⟨σ', H', J'.ofTry ok, q⟩
    | brk =>
      obtain ⟨σ', H', J', q⟩ := hsp
      exact ⟨σ', H', J'.ofTry ok, q⟩
    | cont =>
      obtain ⟨σ', H', J', q⟩ := hsp
      exact ⟨σ', H', J'.ofTry ok, q⟩
    | ret u =>
      obtain ⟨v, σ', H', J', r, q⟩ := hsp
      exact ⟨v, σ', H', J'.ofTry ok, r, q⟩
end
/-- isinstance(e, c), e an exception that is kept -/
def rIsK (K : PySem.W.Frag) : List V → Hp → VK → Prop := fun xs H Q => ∃ (a D : Addr) (c : V) (cv : Value) (b : Bool), xs = [.ref a, c] ∧ H a = some (ExK (.ref D) a) ∧ ExcC K D ∧ (∀ u, RelV c u → u = cv) ∧ PySem.W.kitOne K (.ref D) cv = some b ∧ Q (.bl b) H
theorem call_isK2 {X : Cx} : CallR X (.builtin "isinstance") (rIsK X.K) := by
  intro pins s σ H xs us Q I r h
  obtain ⟨a, D, c, cv, b, rfl, ha, C, hcv, e, q⟩ := h
  cases r with
  | cons rx rr =>
    cases rr with
    | cons rt rr =>
      cases rr
      cases rx
      have ec := hcv _ rt
      subst ec
      obtain ⟨⟨oe, hget, hz, vs, hv⟩, _, _⟩ := I.hok _ _ ha
      have J : PySem.W.InstAt s.heap a oe D none := by
        obtain ⟨oc, od, oda, osl⟩ := oe
        obtain ⟨h1, h2⟩ := hz
        dsimp only at h1 h2 hv
        subst h1 h2 hv
        exact ⟨hget, rfl, rfl, trivial⟩
      exact PySem.W.kia_one (PySem.W.handS_kitx_exc C.hg C.hk C.hs C.hd C.ha C.hn C.ht C.hm) I.kIn J e (fun z => nomatch z) fun tk => ⟨.bl b, H, I.kept (t' := tk) fun _ _ z => z, rfl, q⟩
/-! ### xs.count(y), flat -/
def rCntF (K : PySem.W.Frag) : V → List V → Hp → VK → Prop := fun x xs H Q => ∃ (p : Addr) (ys : List V) (y : V), x = .ref p ∧ xs = [y] ∧ SqL K H p ys ∧ flatV y = true ∧ ys.all flatV = true ∧ Q (.int (ys.countP fun z => eqV z y : Nat)) H
theorem mt_countF {X : Cx} : MtR X "list.count" (rCntF X.K) := by
  intro pins s σ H x xs v us Q I rx rxs h
  obtain ⟨a, ys, y, rfl, rfl, hs, fy, fys, q⟩ := h
  cases rx
  cases rxs with
  | cons ry rt =>
    rename_i uy ut
    cases rt
    obtain ⟨its, rv, ⟨⟨cls, dd, data, sl⟩, n, ho, hc, hdn, hd⟩, hlen⟩ := I.list hs
    simp only at hc hd
    subst hc hd
    refine call_meets PySem.F.slot_list_count ⟨_, ho, rfl⟩ PySem.F.entry_list_count (PySem.F.args_list_count_2 _ _)
      (SeqAt.list_countAt a its.toArray n dd sl uy (eqU y)) ⟨ho, fun u' hu' => mem_eqAt ry fy rv fys u' (by simpa using hu'), ?_⟩
    have ec : its.toArray.toList.countP (eqU y) = ys.countP fun z => eqV z y := by
      have key : ∀ {ys : List V} {us : List Value}, Vals ys us → ys.all flatV = true → us.countP (eqU y) = ys.countP fun z => eqV z y := by
        intro ys us r
        induction r with
        | nil => intro _; rfl
        | cons g _ ih =>
          intro f
          rw [List.all_cons, Bool.and_eq_true] at f
          rw [List.countP_cons, List.countP_cons, ih f.2, eqU_of g f.1]
      exact key rv fys
    refine ⟨.int (ys.countP fun z => eqV z y : Nat), H, I.tok _, ⟨s.toks, ?_⟩, q⟩
    show Value.int ((its.toArray.toList.countP (eqU y) : Nat) : Int) s.toks = Value.int ((ys.countP fun z => eqV z y : Nat) : Int) s.toks
    rw [ec]
end FR

set_option Elab.async false
set_option maxRecDepth 100000
namespace FR
open PySem PySem.Spec PyProof.Rows L2 FL
/-! ### xs + ys, also of a list that is only read -/
def rCatR (K : PySem.W.Frag) : R2 := fun x y H Q => ∃ l b xs zs, x = .ref l ∧ y = .ref b ∧ SqL K H l xs ∧ SqL K H b zs ∧ xs.length + zs.length ≤ sizeLine ∧ ∀ p, H p = none → Q (.ref p) (upd H p (.lst (xs ++ zs)))
theorem op_catR {X : Cx} : OpR X (binaryOp .Add) (rCatR X.K) := by
  intro pins s σ H x y v u Q I rx ry h
  obtain ⟨l, b, xs, zs, rfl, rfl, hx, hz, hsz, q⟩ := h
  cases rx
  cases ry
  obtain ⟨its, r, ⟨⟨cls, dd, data, sl⟩, n, ho, hc, hdn, hd⟩, hlen⟩ := I.list hx
  obtain ⟨its2, r2, ⟨⟨cls2, dd2, data2, sl2⟩, n2, ho2, hc2, hdn2, hd2⟩, hlen2⟩ := I.list hz
  simp only at hc hd hc2 hd2
  subst hc hd hc2 hd2
  have l1 := r.length
  have l2 := r2.length
  refine concat_meets ⟨_, ho, rfl⟩ ⟨_, ho2, rfl⟩ noFill_list_add seq_list_add PySem.F.slot_list_add PySem.F.entry_list_add (PySem.F.args_list_add_2 _ _) (list_addW l b its.toArray its2.toArray n n2 dd dd2 sl sl2 (by rw [List.size_toArray, List.size_toArray]; omega)) ⟨ho, ho2, ?_⟩
  have ea : its.toArray ++ its2.toArray = (its ++ its2).toArray := by simp
  rw [ea]
  exact ⟨.ref _, _, I.lnew (t' := s.toks) (r.append r2) (by rw [List.length_append]; omega), rfl, q _ I.fresh⟩
end FR

set_option Elab.async false
set_option maxRecDepth 100000
namespace FR
open PySem PySem.Spec PyProof.Rows L2 FL
/-! ### a list comprehension whose block knows the state that it starts at
The layer's rule asks the block's tests at every state; here the state is one that the def's own invariant holds of. The words of the layer's rule are called in their order. -/
section
variable {X : Cx}
/-- what a block's part keeps, asked only where the def's frame stands -/
abbrev AtI (X : Cx) (pins : List (Addr × Obj)) (σ : L2.St) (scope : Scope) (R : Cx → Prop) : Prop :=
  ∀ (s : Shared) (H : Hp) (C : Addr) (cl : List (Str × Addr)) (fp : List Addr), Inv X pins σ H s → (∀ b ∈ fp, ∀ x c, X.env.cells.lookup x = some c → c ≠ b) → R (X.blk s H scope (compEnvC scope cl C X.env) fp)
theorem blk_fp {pins : List (Addr × Obj)} {σ : L2.St} {H : Hp} {s : Shared} {scope : Scope} {H0 : Hp} {s0 : Shared} {ce : Env} {fp : List Addr} (I : Inv (X.blk s0 H0 scope ce fp) pins σ H s) (hp : pins = []) (n : ∀ b ∈ fp, H b = none) :
    ∀ b ∈ fp, FpOk (X.blk s0 H0 scope ce fp) pins H b := fun b hb => by
  subst hp
  exact ⟨n b hb, (I.ok.exf b hb).1, I.ok.exfs b hb, .inl hb, fun x c e => (I.ok.exf b hb).2 x c e, fun p hp => by cases hp⟩
theorem lcI_core {pins : List (Addr × Obj)} {s : Shared} {σ : L2.St} {H : Hp} {Q : VK} {elt tg iter : Expr} {ifs : List Expr} {scope : Scope} {own : List (Str × Nat)} {pos pos' : Pos} {wi : TI} {g : TG} {tt : TT} {te : TE} {use : Option (Value → Sem Unit)} {Qf : Value → Shared → Prop}
    (hc : X.calm = true) (hN : X.N.Nodup) (I : Inv X pins σ H s) (hi : PI X tg iter wi) (ok : BlkOk X.N X.env.scope scope own)
    (hg : AtI X pins σ scope fun Y => PG Y tg g) (ht : AtI X pins σ scope fun Y => PTs Y ifs tt) (he : AtI X pins σ scope fun Y => PE Y elt te) (hs : ∀ x, foldedSetIterable iter X.env x = pure x)
    (h : tLc wi g tt te (own.map (·.2)) σ H Q)
    (hR : ∀ D C s' m H', Inv X pins σ H' s' → Q (.ref D) H' → s'.heap.Ns C m → FpOk X pins H' C → compPost (model X.prog X.w) X.A X.xe use Qf (.ref D) C (.ok .next) s') :
    wpAny (model X.prog X.w) X.A (comprehension (.ListComp elt [⟨tg, iter, ifs, 0⟩] scope pos) scope X.env pos' (newList []) false (eval iter X.env) use) Qf X.xe s := by
  have caught : ∀ y ∈ scope.names, y.2 = .free → ∃ c, X.env.cells.lookup y.1 = some c := fun y hy e => (ok.free y hy e).elim (fun k => I.ok.has _ (.inl k)) fun k => I.ok.has _ (.inr k)
  refine wpAny_comprehension_free (use := use) rfl hs (closure_ok caught) ok.kind (fun y hy e => by rw [ok.uniq y hy, e]) ?_
  refine thn (hi.run pins s σ H _ I h) fun _ _ hx => thn hx fun _ sa ⟨it, fp, tn, J, Ha, ei, Ia, T, ta, fa, q⟩ => ?_
  subst ei
  refine wpAny_newObj_type (newEnv_comp ?_) (by show 0 ≤ sizeLine; decide)
  obtain ⟨D, eD⟩ : ∃ D, D = sa.heap.objs.size := ⟨_, rfl⟩
  obtain ⟨W, ⟨m0, w0⟩, turn⟩ := q D (Ia.hok.fresh (Nat.le_of_eq eD.symm))
  -- the list that it makes
  obtain ⟨sb, eb⟩ : ∃ sb : Shared, sb = { sa with heap := sa.heap.push { cls := .type "list", data := .seq ([] : List Value).toArray } } := ⟨_, rfl⟩
  have hb : sb.heap = sa.heap.push { cls := .type "list", data := .seq ([] : List Value).toArray } := by rw [eb]
  have Ib : Inv X pins σ (upd Ha D (.lst [])) sb := by
    rw [eb]
    refine Ia.laid (t' := sa.toks) (fun b o e => Heap.get?_push_of_some _ e) (Nat.le_of_eq eD.symm) ⟨Nat.zero_le _, [], 0, .nil, ?_⟩
    rw [eD]
    exact Heap.get?_push_size _ rfl
  have lt : ∀ b ∈ fp, b < sa.heap.objs.size := fun b hf => let ⟨_, e, _⟩ := T.obj _ _ ta b hf; Heap.lt_size e
  have fb : ∀ b ∈ fp, FpOk X pins (upd Ha D (.lst [])) b ∧ b < sb.heap.objs.size := fun b hf =>
    ⟨⟨by rw [upd_ne (by rw [eD]; exact Nat.ne_of_lt (lt b hf))]; exact (fa b hf).1, (fa b hf).2⟩, by rw [hb, Heap.size_push]; exact Nat.lt_succ_of_lt (lt b hf)⟩
  have tb : tn 0 sb.heap := T.keep _ _ _ ta fun b _ o e => by rw [hb]; exact Heap.get?_push_of_some _ e
  rw [← eD, ← eb]
  generalize upd Ha D (.lst []) = Hb at Ib fb w0
  have nb : ∀ b ∈ fp, Hb b = none := fun b hf => (fb b hf).1.1
  -- the block's frame
  have Ic := block_start Ib ok hN fb
  obtain ⟨ce, ec⟩ : ∃ ce, ce = compEnvC scope (cellsFrom (sb.heap.objs.size + 1) scope.names (cloFrom X.env.cells scope.names [])) sb.heap.objs.size X.env := ⟨_, rfl⟩
  have pg := hg sb Hb sb.heap.objs.size (cellsFrom (sb.heap.objs.size + 1) scope.names (cloFrom X.env.cells scope.names [])) fp Ib fun b hf => (fb b hf).1.2.2.2.2.1
  have pt := ht sb Hb sb.heap.objs.size (cellsFrom (sb.heap.objs.size + 1) scope.names (cloFrom X.env.cells scope.names [])) fp Ib fun b hf => (fb b hf).1.2.2.2.2.1
  have pe := he sb Hb sb.heap.objs.size (cellsFrom (sb.heap.objs.size + 1) scope.names (cloFrom X.env.cells scope.names [])) fp Ib fun b hf => (fb b hf).1.2.2.2.2.1
  rw [← ec] at Ic pg pt pe
  have lc : ce.locals = sb.heap.objs.size := by rw [ec]; rfl
  show codeAny _ _ (.compStart (.ListComp elt [⟨tg, iter, ifs, 0⟩] scope pos) 0 (.ref it) (.ref D) (compEnvC scope (cellsFrom (sb.heap.objs.size + 1) scope.names (cloFrom X.env.cells scope.names [])) sb.heap.objs.size X.env)) (compPost (model X.prog X.w) X.A X.xe use Qf (.ref D) sb.heap.objs.size) { sb with heap := pushCells (sb.heap.push { cls := .type "dict", data := .dict #[] }) scope.names }
  rw [← ec]
  obtain ⟨sc, esc⟩ : ∃ sc : Shared, sc = { sb with heap := pushCells (sb.heap.push { cls := .type "dict", data := .dict #[] }) scope.names } := ⟨_, rfl⟩
  have tc : tn 0 sc.heap := T.keep _ _ _ tb fun b _ o e => by rw [esc]; exact pushCells_keeps _ _ _ _ (Heap.get?_push_of_some _ e)
  rw [← esc] at Ic ⊢
  -- its turns
  have loop : codeAny (model X.prog X.w) X.A (.compLoop (.ListComp elt [⟨tg, iter, ifs, 0⟩] scope pos) 0 (.ref it) (.ref D) ce) (compPost (model X.prog X.w) X.A X.xe use Qf (.ref D) sb.heap.objs.size) sc := by
    refine compLoop_any (fun n t => ∃ i H', Inv (X.blk sb Hb scope ce fp) [] (wipe σ (own.map (·.2))) H' t ∧ tn i t.heap ∧ (∀ b ∈ fp, H' b = none) ∧ W i n H') ?_ m0 ⟨0, Hb, Ic, tc, nb, w0⟩
    rintro n t ⟨i, Ht, It, tt0, nt, wt⟩
    rcases turn i n Ht wt with ⟨stop, last⟩ | ⟨go, Nx, hNx, step⟩
    · refine thnF (T.done (X.blk sb Hb scope ce fp) rfl rfl rfl hc i [] t _ Ht (fun _ _ => False) It (blk_fp It rfl nt) tt0 stop) fun r t' ⟨hr, Ie⟩ => ?_
      subst hr
      have Ix : Inv X pins σ Ht t' := Ib.call' (ch := fp) Ie.os Ie.base Ie.hok Ie.bare fun b hf => let z := (fb b hf).1.2; ⟨z.2.2.1, z.1, z.2.2.2.1, z.2.2.2.2⟩
      have nC : Ht sb.heap.objs.size = none := by rw [← lc]; exact Ie.free
      obtain ⟨m, hn, _⟩ := Ie.loc
      exact hR D sb.heap.objs.size t' m Ht Ix last (by rw [← lc]; exact hn) (Ib.fpOk (Nat.le_refl _) nC)
    · refine thnF (T.item (X.blk sb Hb scope ce fp) rfl rfl rfl hc i [] t _ Ht (fun _ _ => False) It (blk_fp It rfl nt) tt0 go) fun r t1 ⟨u, hr, h1⟩ => ?_
      subst hr
      refine thnF h1 fun _ t2 ⟨x, H2, I2, r2, y2, tn2, n2⟩ => ?_
      refine thnF (pg.run _ t2 _ H2 x u _ (I2.pinned (blk_fp I2 rfl n2) (T.obj _ _ tn2)) r2 (step x H2 y2)) fun _ t3 ⟨σ3, H3, I3, hw, q3⟩ => ?_
      refine thnF (pt.run _ t3 σ3 H3 _ I3 q3) fun b t4 ⟨H4, I4, q4⟩ => ?_
      have again : ∀ {t' : Shared} {H' : Hp}, Inv (X.blk sb Hb scope ce fp) ([] ++ pinsAt fp t2.heap) σ3 H' t' → Nx H' → ∃ m, m < n ∧ ∃ i H', Inv (X.blk sb Hb scope ce fp) [] (wipe σ (own.map (·.2))) H' t' ∧ tn i t'.heap ∧ (∀ b ∈ fp, H' b = none) ∧ W i m H' := fun {t' H'} I' nx => by
        obtain ⟨m', hm, w'⟩ := hNx H' nx
        have still : ∀ b ∈ fp, ∀ o, t2.heap.get? b = some o → t'.heap.get? b = some o ∧ H' b = none := fun b hf o e =>
          let z := I'.pin (b, o) (List.mem_append_right _ (List.mem_append_right _ (mem_pinsAt hf e)))
          ⟨z.1, z.2.1⟩
        refine ⟨m', hm, i + 1, H', (I'.unpinned (pins := [])).weak (by rw [← hw, wipe_length]) (fun j v e => ?_), T.keep _ _ _ tn2 fun b hf o e => (still b hf o e).1, fun b hf => ?_, w'⟩
        · rw [← hw] at e
          exact (wipe_some e).1
        · obtain ⟨o, e, _⟩ := T.obj _ _ tn2 b hf
          exact (still b hf o e).2
      cases b with
      | false => exact again I4 q4
      | true => exact thnF (pe.run _ t4 σ3 H4 _ I4 q4) fun z t5 ⟨yv, H5, I5, r5, acc, eD5, lD5, nx⟩ => app_ok (X := X.blk sb Hb scope ce fp) I5 eD5 lD5 r5 fun t6 I6 => again I6 nx
  exact codeAny_compStart_list loop (T.self X.A 0 _ _ _ tc loop)
/-- y = [..], y a plain local name; the slots may be asked -/
theorem ps_setLcI {i : Nat} {y : Str} {py : Pos} {elt tg iter : Expr} {ifs : List Expr} {scope : Scope} {own : List (Str × Nat)} {pos spos : Pos} {wi : TI} {g : TG} {tt : L2.St → TT} {te : TE} (hc : X.calm = true) (hN : X.N.Nodup) (at_y : X.N[i]? = some y) (loc : X.env.scope.names.lookup y = some .local)
    (sw : swapsWith (.ListComp elt [⟨tg, iter, ifs, 0⟩] scope pos) (some (.Name y py)) spos.line X.env = pure true) (hi : PI X tg iter wi) (ok : BlkOk X.N X.env.scope scope own)
    (hg : ∀ pins σ, AtI X pins σ scope fun Y => PG Y tg g) (ht : ∀ pins σ, AtI X pins σ scope fun Y => PTs Y ifs (tt σ)) (he : ∀ pins σ, AtI X pins σ scope fun Y => PE Y elt te) (hs : ∀ x, foldedSetIterable iter X.env x = pure x := by intro _; rfl) :
    PS X (.Assign [.Name y py] (.ListComp elt [⟨tg, iter, ifs, 0⟩] scope pos) spos) (fun D σ H => tAsg (tLc wi g (tt σ) te (own.map (·.2))) (gName i) D σ H) := by
  refine ⟨fun pins s σ H D I h => ?_⟩
  rw [exec_Assign_Name_used _ _ _ _ sw]
  refine wpAny_bind (wpAny_standAt (wpAny_bind ?_))
  show wpAny _ X.A (do let _ ← comprehension (.ListComp elt [⟨tg, iter, ifs, 0⟩] scope pos) scope X.env (firstIterPos [⟨tg, iter, ifs, 0⟩] pos) (newList []) false (eval iter X.env) (some (assign (.Name y py) X.env))) _ _ s
  refine wpAny_bind (thn (lcI_core (Qf := fun _ t => SP X pins D .next t) (Q := fun x H1 => gName i x σ H1 D.nx) hc hN I hi ok (hg pins σ) (ht pins σ) (he pins σ) hs h fun L C t m H' I' q names fr => ?_) fun _ t q => wpAny_pure (wpAny_pure q))
  show wpAny _ _ (assign (.Name y py) X.env (.ref L)) _ _ _
  obtain ⟨r0, r1, r2, r3, r4, r5⟩ := fr
  refine wpAny_assign_Name (store_ok2 (v := V.ref L) I' hN at_y (.inl loc) rfl (fun t2 I2 ⟨a, sb, ha⟩ => ?_) (.inr loc))
  have apart : C ≠ a := ha.elim (fun z => by rw [z]; exact r1) fun z e => r4 y a z e.symm
  exact ⟨m, names.sameBut sb apart, fun h3 sb3 => ⟨_, H', I2.turned (t' := t2.toks) (fun b o hb e => (sb3.2 b hb).trans e) r0 r1 r3 r4 r5, q⟩⟩
end
end FR

set_option Elab.async false
set_option maxRecDepth 100000
namespace FR
open PySem PySem.Spec PyProof.Rows L2 FL NdefX LamX
/-! ### an object more that stays: the base with it -/
def holeO : Obj := { cls := .none, data := .freed }
def plus (base : Heap) (c : Addr) (o : Obj) : Heap := { base with objs := base.objs ++ (Array.replicate (c - base.objs.size) holeO ++ #[o]) }
section
variable {base : Heap} {c : Nat} {o : Obj}
theorem get_lt {h : Heap} {b : Nat} (e : h.objs.size ≤ b) : h.get? b = none := by
  unfold Heap.get?
  rw [Array.getElem?_eq_none e]
theorem plus_low {b : Nat} (l : b < base.objs.size) : (plus base c o).get? b = base.get? b := by
  unfold Heap.get? plus
  show (match (base.objs ++ _)[b]? with | some ⟨_, _, .freed, _⟩ => none | o => o) = _
  rw [Array.getElem?_append_left l]
  rfl
theorem plus_mid {b : Nat} (l : base.objs.size ≤ b) (l2 : b < c) : (plus base c o).get? b = none := by
  unfold Heap.get? plus
  show (match (base.objs ++ _)[b]? with | some ⟨_, _, .freed, _⟩ => none | o => o) = _
  rw [Array.getElem?_append_right l, Array.getElem?_append_left (by rw [Array.size_replicate]; omega), Array.getElem?_replicate, if_pos (by omega)]
  rfl
theorem plus_size (l : base.objs.size ≤ c) : (plus base c o).objs.size = c + 1 := by
  show (base.objs ++ (Array.replicate (c - base.objs.size) holeO ++ #[o])).size = _
  rw [Array.size_append, Array.size_append, Array.size_replicate]
  show base.objs.size + (c - base.objs.size + 1) = c + 1
  omega
theorem plus_at (l : base.objs.size ≤ c) {v : Option Value} (ho : o.data = .cell v) : (plus base c o).get? c = some o := by
  unfold Heap.get? plus
  show (match (base.objs ++ _)[c]? with | some ⟨_, _, .freed, _⟩ => none | o => o) = _
  rw [Array.getElem?_append_right l, Array.getElem?_append_right (by rw [Array.size_replicate]; omega), Array.size_replicate, Nat.sub_self]
  show (match some o with | some ⟨_, _, .freed, _⟩ => none | o => o) = some o
  obtain ⟨a1, a2, a3, a4⟩ := o
  cases ho
  rfl
theorem plus_keeps : ∀ b u, base.get? b = some u → (plus base c o).get? b = some u := fun b u e => by rw [plus_low (Heap.lt_size e)]; exact e
theorem plus_only (l : base.objs.size ≤ c) {v : Option Value} (ho : o.data = .cell v) {b : Nat} {u : Obj} (e : (plus base c o).get? b = some u) : base.get? b = some u ∨ (b = c ∧ u = o) := by
  by_cases h1 : b < base.objs.size
  · rw [plus_low h1] at e; exact .inl e
  · by_cases h2 : b < c
    · rw [plus_mid (by omega) h2] at e; cases e
    · have h3 : b < c + 1 := by
        have := Heap.lt_size e
        rwa [plus_size l] at this
      have eb : b = c := by omega
      subst eb
      rw [plus_at l ho] at e
      exact .inr ⟨rfl, (Option.some.inj e).symm⟩
theorem mod_plus {K : PySem.W.Frag} {mg : Str → Option Value} (m : Mod K mg base) : Mod K mg (plus base c o) :=
  ⟨m.kin.keeps plus_keeps, m.glob.keeps plus_keeps, let ⟨mb, a, b⟩ := m.blt; ⟨mb, a.keeps plus_keeps, b⟩, m.nolimit.keeps plus_keeps⟩
theorem funs_plus {h : Heap} (l : base.objs.size ≤ c) {v : Option Value} (ho : o.data = .cell v) : ∀ {fr : List Env}, h.FunFrames base fr → c ∉ frs fr → h.FunFrames (plus base c o) fr
  | [], _, _ => trivial
  | e :: r, hf, nc => by
    obtain ⟨a, ⟨L, u, b1, b2, b3, b4⟩, d⟩ := hf
    refine ⟨a, ⟨L, u, b1, ?_, b3, b4⟩, funs_plus l ho d fun z => nc ?_⟩
    · cases q : (plus base c o).get? L with
      | none => rfl
      | some x =>
        rcases plus_only l ho q with z | ⟨z, _⟩
        · rw [b2] at z; cases z
        · exact absurd (List.mem_filterMap.mpr ⟨e, List.mem_cons_self, by rw [b1, z]⟩) nc
    · obtain ⟨e', he, hb⟩ := List.mem_filterMap.mp z
      exact List.mem_filterMap.mpr ⟨e', List.mem_cons_of_mem _ he, hb⟩
theorem env0_plus {P : Program} {w : World} {K : PySem.W.Frag} {mg : Str → Option Value} {A : Around} {outer : List Env} {s : Shared} {H : Hp} (e : Env0 P w K mg base A outer s H) (l : base.objs.size ≤ c) {v : Option Value} (ho : o.data = .cell v) (hs : s.heap.get? c = some o) (hn : H c = none) (nf : c ∉ frs outer) :
    Env0 P w K mg (plus base c o) A outer s H :=
  ⟨e.frames, mod_plus e.mod, fun b u q => by
    rcases plus_only l ho q with z | ⟨z1, z2⟩
    · exact e.bs b u z
    · rw [z1, z2]; exact ⟨hs, hn⟩, by rw [plus_size l]; exact Heap.lt_size hs, funs_plus l ho e.funs nf, e.frf, e.hok, e.bare⟩
end
section
variable {X : Cx} {CX : CXT} {k : Nat} {f : Addr} {fd : FuncData} {ps : List Str} {sp : Sp} {dvs : List V} {ds : List Value} {E : XK} {x : Str} {p pos : Pos} {e : Expr} {es : List Expr} {t : TA} {c : Addr} {o : Obj} {v : Option Value}
/-- an object that every state of the context holds -/
structure Stays (X : Cx) (c : Addr) (o : Obj) : Prop where
  base : X.base.objs.size ≤ c
  at_ : ∀ pins σ H s, Inv X pins σ H s → s.heap.get? c = some o ∧ H c = none
  nf : X.Ok → c ∉ frs X.stack
/-- a def called that is told of an object more that stays -/
theorem pe_callP (F : FnOk X.prog X.w X.K X.mg (plus X.base c o) CX k f fd ps sp) (S : Stays X c o) (ho : o.data = .cell v) (hr : Room k X.A) (hg : Gl X x) (hm : X.mg x = some (.ref f)) (hk : PySem.W.keepIn X.K (.ref f) = true) (hb : Binds X.K fd ps ds) (hd : Vals dvs ds) (hx : Passes CX X E)
    (ha : PA X (e :: es) t) (hdb : (x == ("__debug__" : Str)) = false := by decide) (he : starEach (e :: es) X.env = (false, eval e X.env) :: starEach es X.env := by rfl) (hpl : (backTo pos (starEach es X.env)).any (·.1) = false := by rfl) :
    PE X (.Call (.Name x p) (e :: es) [] pos) (tCall sp dvs E t) := by
  refine ⟨fun pins s σ H Q I h => ?_⟩
  refine wpAny_Call_Name_kw (ld_glob I hg hm ?_ hdb)
  refine PySem.W.callWith_K (h₀ := X.base) I.ok.mod.kin hk (thn (ha.run pos pins s σ H _ I h) fun us s1 ⟨vs, H1, I1, r, q⟩ => ⟨I1.kIn, ?_⟩) he hpl
  have r2 : Vals (vs ++ dvs) (us ++ ds) := r.append hd
  have hl : (us ++ ds).length = ps.length := by rw [← r2.length]; exact F.len _ _ _ _ q
  obtain ⟨g1, g2⟩ := S.at_ _ _ _ _ I1
  refine wpAny_call (codeAny_mono (F.run X.A X.stack s1 H1 ⟨us, []⟩ (us ++ ds) (vs ++ dvs) Q E hr (env0_plus I1.env0 S.base ho g1 g2 (S.nf I1.ok)) (hb s1 us I1.kIn hl) r2 q) fun r s' hq => ?_)
  cases r with
  | error e => exact hx pins σ H1 s1 e s' I1 hq
  | ok fl =>
    cases fl with
    | ret u => exact I1.after hq
    | next => exact False.elim hq
    | brk => exact False.elim hq
    | cont => exact False.elim hq
/-- a made def called that a slot holds, one of several; what it captured stands in every state -/
def tCallF {ι : Type} (mk : ι → NF) (ws : List (Option V)) (i : Nat) (sp : ι → List (Option V) → Sp) (E : XK) (t : TA) : TE := fun σ H Q => ∃ (f : Addr) (q : ι), σ[i]? = some (some (.ref f)) ∧ H f = some (FnO f (mk q)) ∧ t σ H fun vs H1 => H1 f = some (FnO f (mk q)) ∧ H1 (mk q).c = some (CodeO (mk q).c (mk q).qual) ∧ sp q ws vs H1 Q E
theorem pe_callF {ι : Type} {mk : ι → NF} {fr : List Str} {ws : List (Option V)} {spF : ι → List (Option V) → Sp} {i j : Nat} (Fn : ∀ q f, NOk X.prog X.w X.K X.mg X.base CX k f (mk q) ps fr (spF q)) (C : ∀ q pins σ H s, Inv X pins σ H s → CellsAt (mk q).cl fr ws s.heap H) (hr : Room j X.A) (hk : k ≤ j) (hx : Passes CX X E) (hN : X.N[i]? = some x) (hv : Vis X.env.scope x) (ha : PA X (e :: es) t)
    (hd : (x == ("__debug__" : Str)) = false := by decide) (hcd : (x == ("__classdict__" : Str)) = false := by decide)
    (he : starEach (e :: es) X.env = (false, eval e X.env) :: starEach es X.env := by rfl) (hpl : (backTo pos (starEach es X.env)).any (·.1) = false := by rfl) :
    PE X (.Call (.Name x p) (e :: es) [] pos) (tCallF mk ws i spF E t) := by
  refine ⟨fun pins s σ H Q I ⟨f, q, hs, hf, ht⟩ => ?_⟩
  refine wpAny_Call_Name_kw (thn ((pe_var (pos := p) hN hv hd hcd).run pins s σ H (fun v H1 => v = .ref f ∧ H1 = H) I ⟨.ref f, hs, rfl, rfl⟩) fun u s1 ⟨v, H1, I1, r1, q1⟩ => ?_)
  obtain ⟨rfl, rfl⟩ := q1
  cases r1
  refine PySem.W.callWith_F (first := []) (fnAt_of I1 hf) (thn (ha.run pos pins s1 σ _ _ I1 ht) fun us s2 ⟨vs, H2, I2, r, h1, h2, q2⟩ => ⟨fnAt_of I2 h1, ?_⟩) he hpl
  show wpAny _ _ (call (.ref f) us) _ _ _
  refine wpAny_call (codeAny_mono ((Fn q f).run X.A X.stack s2 H2 us vs ws Q E (hr.mono hk) I2.env0 h1 h2 (C _ _ _ _ _ I2) r q2) fun r s' hq => ?_)
  cases r with
  | error e => exact hx pins σ H2 s2 e s' I2 hq
  | ok fl =>
    cases fl with
    | ret u => exact I2.after hq
    | next => exact False.elim hq
    | brk => exact False.elim hq
    | cont => exact False.elim hq
end
/-! ### a cell of the def's own, seen from its blocks and from what they call -/
section
variable {X : Cx} {pins : List (Addr × Obj)} {σ : L2.St} {H : Hp} {s : Shared} {y : Str} {c : Nat} {o : Obj} {v : Option Value}
theorem cell_nf (I : Inv X pins σ H s) (fx : X.fn y = true) (hc : X.env.cells.lookup y = some c) : c ∉ frs X.stack := by
  have no : c ∉ frs X.outer := fun z => by
    obtain ⟨_, u, q, _⟩ := I.ok.funs.mem z
    exact absurd (Heap.lt_size q) (Nat.not_lt.mpr (I.ok.cab y c fx hc))
  rcases I.ok.stk with e | ⟨e, f⟩
  · rw [e]; exact no
  · rw [e]
    intro z
    rcases List.mem_filterMap.mp z with ⟨e', he, hb⟩
    rcases List.mem_cons.mp he with w | w
    · rw [w, f] at hb
      have hb : X.env.locals = c := Option.some.inj hb
      obtain ⟨m, ⟨u, es, ep, q1, q2, _⟩, _⟩ := I.loc
      obtain ⟨v, u2, q3, q4⟩ := I.cell y c hc
      rw [hb, q3] at q1
      cases q1
      rw [q4] at q2
      cases q2
    · exact no (List.mem_filterMap.mpr ⟨e', w, hb⟩)
theorem stays_blk {scope : Scope} {ce : Env} {fp : List Addr} (I : Inv X pins σ H s) (fx : X.fn y = true) (hc : X.env.cells.lookup y = some c) (ho : s.heap.get? c = some o) (hfp : ∀ b ∈ fp, ∀ x c, X.env.cells.lookup x = some c → c ≠ b) : Stays (X.blk s H scope ce fp) c o := by
  have nf := cell_nf I fx hc
  have nx : c ∉ fp := fun z => hfp c z y c hc rfl
  refine ⟨Nat.le_trans I.ok.bsz (I.ok.cab y c fx hc), fun pins' σ' H' s' J => ?_, fun _ => nf⟩
  exact ⟨J.base.keep c o ho (I.freeC y c hc) nf nx, J.base.free c o ho (I.freeC y c hc) nx⟩
theorem cells_base {Z : Cx} {base : Heap} {x : V} {u : Value} (l : base.objs.size ≤ c) (hb : Z.base = plus base c o) (ho : o.data = .cell (some u)) (r : L2.RelV x u) : ∀ pins σ H s, Inv Z pins σ H s → CellsAt [(y, c)] [y] [some x] s.heap H := by
  intro pins σ H s I
  have q : s.heap.get? c = some o ∧ H c = none := I.bs c o (by rw [hb]; exact plus_at l ho)
  have lk : ∀ z b, ([(y, c)] : List (Str × Addr)).lookup z = some b → z = y ∧ b = c := fun z b h => by
    rw [List.lookup_cons] at h
    by_cases e : z = y
    · subst e
      simp at h
      exact ⟨rfl, h.symm⟩
    · have : (z == y) = false := by simpa using e
      rw [this] at h
      cases h
  refine ⟨rfl, fun z b h => ?_, fun z1 z2 b h1 h2 => by rw [(lk _ _ h1).1, (lk _ _ h2).1], fun i z h => ?_⟩
  · obtain ⟨_, rfl⟩ := lk _ _ h
    exact ⟨q.2, _, o, q.1, ho⟩
  · cases i with
    | zero =>
      have e : y = z := Option.some.inj h
      subst e
      refine ⟨c, by simp, fun v hv => ?_⟩
      have e : x = v := by simpa using hv
      subst e
      exact ⟨u, r, o, q.1, ho⟩
    | succ n => cases h
/-- what a cell slot holds, in the heap -/
theorem cell_slot {i : Nat} {x : V} (I : Inv X pins σ H s) (hN : X.N[i]? = some y) (hs : σ[i]? = some (some x)) (hk : X.env.scope.names.lookup y = some .cell) : ∃ (c : Nat) (o : Obj) (u : Value), X.env.cells.lookup y = some c ∧ s.heap.get? c = some o ∧ o.data = .cell (some u) ∧ L2.RelV x u := by
  obtain ⟨m, hn, hl⟩ := I.loc
  obtain ⟨u, r, l⟩ := hl i y x hN hs (.inr (.inl hk))
  rcases l with ⟨z, _⟩ | ⟨_, c, hc, o, ho, hd⟩
  · have z : X.env.scope.names.lookup y = some .local := z
    rw [hk] at z; cases z
  · exact ⟨c, o, u, hc, ho, hd, r⟩
end
end FR

set_option Elab.async false
set_option maxRecDepth 100000
namespace FL
open FR
/-! ### all sets of some things -/
def subs (xs : List Int) : List (List Int) := xs.foldl (fun fs x => fs ++ fs.map (· ++ [x])) [[]]
theorem subs_snoc (xs : List Int) (x : Int) : subs (xs ++ [x]) = subs xs ++ (subs xs).map (· ++ [x]) := by unfold subs; rw [List.foldl_append]; rfl
theorem subs_len : ∀ (n : Nat) (xs : List Int), xs.length = n → (subs xs).length = 2 ^ n
  | 0, xs, h => by
    rw [List.length_eq_zero_iff.mp h]; rfl
  | n + 1, xs, h => by
    have ne : xs ≠ [] := fun z => by rw [z] at h; cases h
    rw [← List.dropLast_concat_getLast ne, subs_snoc, List.length_append, List.length_map, subs_len n xs.dropLast (by rw [List.length_dropLast, h]; rfl)]
    omega
theorem mem_subs : ∀ (n : Nat) (xs l : List Int), xs.length = n → (l ∈ subs xs ↔ l.Sublist xs)
  | 0, xs, l, h => by
    rw [List.length_eq_zero_iff.mp h]
    show l ∈ [[]] ↔ _
    rw [List.mem_singleton, List.sublist_nil]
  | n + 1, xs, l, h => by
    have ne : xs ≠ [] := fun z => by rw [z] at h; cases h
    have ih := fun l => mem_subs n xs.dropLast l (by rw [List.length_dropLast, h]; rfl)
    rw [← List.dropLast_concat_getLast ne, subs_snoc, List.mem_append, ih]
    generalize xs.dropLast = ys at ih
    generalize xs.getLast ne = x
    rw [List.sublist_append_iff]
    constructor
    · rintro (h | h)
      · exact ⟨l, [], by simp, h, List.nil_sublist _⟩
      · obtain ⟨l', h1, rfl⟩ := List.mem_map.mp h
        exact ⟨l', [x], rfl, (ih l').mp h1, List.Sublist.refl _⟩
    · rintro ⟨l1, l2, rfl, h1, h2⟩
      rcases List.sublist_cons_iff.mp h2 with e | ⟨r, e, e2⟩
      · rw [List.sublist_nil.mp e, List.append_nil]; exact .inl h1
      · rw [e, List.sublist_nil.mp e2]; exact .inr (List.mem_map.mpr ⟨l1, (ih l1).mpr h1, rfl⟩)
theorem sub_sorted : ∀ {l xs : List Int}, l.Pairwise (· < ·) → xs.Pairwise (· < ·) → (∀ x ∈ l, x ∈ xs) → l.Sublist xs
  | [], _, _, _, _ => List.nil_sublist _
  | a :: l, [], _, _, h => absurd (h a List.mem_cons_self) (by simp)
  | a :: l, b :: xs, h1, h2, h => by
    obtain ⟨a1, a2⟩ := List.pairwise_cons.mp h1
    obtain ⟨b1, b2⟩ := List.pairwise_cons.mp h2
    by_cases e : a = b
    · subst e
      refine List.Sublist.cons_cons _ (sub_sorted a2 b2 fun x hx => ?_)
      rcases List.mem_cons.mp (h x (List.mem_cons_of_mem _ hx)) with z | z
      · have := a1 x hx; omega
      · exact z
    · have ha : a ∈ xs := (List.mem_cons.mp (h a List.mem_cons_self)).resolve_left e
      refine List.Sublist.cons _ (sub_sorted h1 b2 fun x hx => ?_)
      rcases List.mem_cons.mp (h x hx) with z | z
      · have l1 := b1 a ha
        rcases List.mem_cons.mp hx with w | w
        · omega
        · have := a1 x w; omega
      · exact z
/-! ### apart, in a row -/
def ap (B : BL) (x y : Int) : Bool := decide (x ≠ y ∧ y ∉ gt B x ∧ x ∉ gt B y)
def rel (b : Bool) (B : BL) (x y : Int) : Bool := if b = true then !(ap B x y) else ap B x y
def allR (b : Bool) (B : BL) (l : List Int) : Bool := decide (l.Pairwise fun y x => rel b B x y = true)
theorem free_iff {B : BL} (wf : WF B) {l : List Int} (hl : l.Sublist (ks B)) : Free B l ↔ allR false B l = true := by
  unfold allR
  rw [decide_eq_true_iff]
  have nd := wf.nd.sublist hl
  constructor
  · rintro ⟨h1, h2, h3⟩
    refine h1.imp_of_mem fun {y x} hy hx ne => ?_
    exact decide_eq_true ⟨fun z => ne z.symm, h3 x hx y hy, h3 y hy x hx⟩
  · intro h
    refine ⟨nd, fun x hx => hl.subset hx, fun x hx y hy m => ?_⟩
    obtain ⟨i, hi, ei⟩ := List.getElem_of_mem hx
    obtain ⟨j, hj, ej⟩ := List.getElem_of_mem hy
    rw [List.pairwise_iff_getElem] at h
    have lt := (wf.lo x y m).1
    rcases Nat.lt_trichotomy i j with c | c | c
    · have := of_decide_eq_true (h i j hi hj c)
      rw [ei, ej] at this
      exact this.2.2 m
    · subst c
      rw [ei] at ej; omega
    · have := of_decide_eq_true (h j i hj hi c)
      rw [ei, ej] at this
      exact this.2.1 m
/-- the greatest free sets -/
def greats (B : BL) (m : Nat) : List (List Int) := ((subs (ks B)).filter (allR false B)).filter fun l => decide (l.length = m)
theorem mem_greats {n : Int} {B : BL} {M : MT} (h : HI n B M) {l : List Int} : l ∈ greats B (many B M) ↔ l.Sublist (ks B) ∧ Free B l ∧ l.length = many B M := by
  unfold greats
  rw [List.mem_filter, List.mem_filter, mem_subs _ _ _ rfl, decide_eq_true_iff]
  constructor
  · rintro ⟨⟨a, b⟩, c⟩
    exact ⟨a, (free_iff h.wf a).mpr b, c⟩
  · rintro ⟨a, b, c⟩
    exact ⟨⟨a, (free_iff h.wf a).mp b⟩, c⟩
theorem in_greats {n : Int} {B : BL} {M : MT} (h : HI n B M) {S : List Int} (fr : Free B S) (up : S.Pairwise (· < ·)) (e : S.length = many B M) : S ∈ greats B (many B M) :=
  (mem_greats h).mpr ⟨sub_sorted up h.up fr.2.1, fr, e⟩
theorem sub_free {B : BL} {xs S : List Int} (fr : Free B S) (sub : ∀ x ∈ S, x ∈ xs) : Free (subB B xs) S :=
  ⟨fr.1, fun x hx => by rw [ks_sub]; exact sub x hx, fun x hx y hy m => fr.2.2 x hx y hy (mem_sub.mp m).2.2⟩
theorem sub_most {B : BL} (wf : WF B) {xs S : List Int} (nd : xs.Nodup) (fr : Free B S) (sub : ∀ x ∈ S, x ∈ xs) : S.length ≤ (freeM (subB B xs)).length := by
  have w := wf_sub wf nd (B := B)
  obtain ⟨mw, _⟩ := fewM_ok w
  obtain ⟨_, l, _⟩ := freeM_ok w
  have := weak w mw (sub_free fr sub)
  omega
theorem with_no {n : Int} {B : BL} {M : MT} (h : HI n B M) {x : Int} (e : withL B M x = none) {S : List Int} (fr : Free B S) (len : S.length = many B M) : x ∉ S := fun m => by
  have g := gre_none e
  have nd := apart_nd h.wf x
  have fr2 : Free B (drop1 x S) := ⟨fr.1.sublist List.filter_sublist, fun y hy => fr.2.1 y (mem_drop1.mp hy).1, fun y hy z hz => fr.2.2 y (mem_drop1.mp hy).1 z (mem_drop1.mp hz).1⟩
  have := sub_most h.wf nd fr2 fun y hy => mem_apart.mpr ⟨fr.2.1 y (mem_drop1.mp hy).1, fun z => (mem_drop1.mp hy).2 z.symm, fr.2.2 x m y (mem_drop1.mp hy).1, fr.2.2 y (mem_drop1.mp hy).1 x m⟩
  have l2 : S.length ≤ (drop1 x S).length + 1 := by
    have := fr.1.length_le_of_subset (l₂ := x :: drop1 x S) fun y hy => by
      by_cases z : y = x
      · rw [z]; exact List.mem_cons_self
      · exact List.mem_cons_of_mem _ (mem_drop1.mpr ⟨hy, z⟩)
    exact this
  have g : (freeM (subB B (apartL B x))).length + 1 < many B M := g
  omega
theorem without_no {n : Int} {B : BL} {M : MT} (h : HI n B M) {x : Int} (e : withoutL B M x = none) {S : List Int} (fr : Free B S) (len : S.length = many B M) : x ∈ S := by
  by_cases m : x ∈ S
  · exact m
  · exfalso
    have g : (freeM (subB B (drop1 x (ks B)))).length + 0 < many B M := gre_none e
    have := sub_most h.wf (xs := drop1 x (ks B)) (h.wf.nd.sublist List.filter_sublist) fr fun y hy => mem_drop1.mpr ⟨fr.2.1 y hy, fun z => m (z ▸ hy)⟩
    omega
theorem with_yes {n : Int} {B : BL} {M : MT} (h : HI n B M) {x : Int} (hx : x ∈ ks B) {S : List Int} (e : withL B M x = some S) : S ∈ greats B (many B M) ∧ x ∈ S := by
  obtain ⟨a, b, c, d⟩ := gre_some h (with_free h.wf hx) e
  exact ⟨in_greats h a c b, d.mem_iff.mpr (by simp)⟩
theorem without_yes {n : Int} {B : BL} {M : MT} (h : HI n B M) {x : Int} {S : List Int} (e : withoutL B M x = some S) : S ∈ greats B (many B M) ∧ x ∉ S := by
  obtain ⟨f1, f2⟩ := without_free h.wf x
  obtain ⟨a, b, c, d⟩ := gre_some h f1 e
  exact ⟨in_greats h a c b, fun z => f2 (d.mem_iff.mp z)⟩
/-- how many of the greatest sets have a thing -/
def cnt (G : List (List Int)) (x : Int) : Nat := (G.filter fun l => decide (x ∈ l)).length
theorem cnt_zero {G : List (List Int)} {x : Int} : cnt G x = 0 ↔ ∀ l ∈ G, x ∉ l := by
  unfold cnt
  rw [List.length_eq_zero_iff, List.filter_eq_nil_iff]
  exact ⟨fun h l hl m => h l hl (decide_eq_true m), fun h l hl m => h l hl (of_decide_eq_true m)⟩
theorem cnt_all {G : List (List Int)} {x : Int} : cnt G x = G.length ↔ ∀ l ∈ G, x ∈ l := by
  unfold cnt
  rw [List.length_filter_eq_length_iff]
  exact ⟨fun h l hl => of_decide_eq_true (h l hl), fun h l hl => decide_eq_true (h l hl)⟩
/-! ### the longest -/
theorem row_most {B : BL} {f : Int → Int} (wf : WF B) (hf : Fl B f) {l : List Int} (hl : l.Sublist (ks B)) (hr : allR true B l = true) : l.length ≤ nf f (ks B) := by
  have hr := of_decide_eq_true hr
  have h0 := hf.nn wf
  have nd : (l.map fun x => (f x).toNat).Nodup := by
    rw [List.Nodup, List.pairwise_map]
    refine (List.pairwise_and_iff.mpr ⟨hr, wf.nd.sublist hl⟩).imp_of_mem fun {y x} hy hx h z => ?_
    have c : ap B x y = false := by
      have := h.1
      unfold rel at this
      rw [if_pos rfl, Bool.not_eq_true'] at this
      exact this
    have c := of_decide_eq_false c
    have n1 := h0 x (hl.subset hx)
    have n2 := h0 y (hl.subset hy)
    have ne : ¬ (y ∈ gt B x) ∧ ¬ (x ∈ gt B y) := ⟨fun m => by have := hf.lt (hl.subset hx) m; omega, fun m => by have := hf.lt (hl.subset hy) m; omega⟩
    exact c ⟨fun e => h.2 e.symm, ne⟩
  have := nd.length_le_of_subset (l₂ := List.range (nf f (ks B))) fun k hk => by
    obtain ⟨x, hx, rfl⟩ := List.mem_map.mp hk
    exact List.mem_range.mpr (lt_nf (hl.subset hx) (h0 x (hl.subset hx)))
  rwa [List.length_map, List.length_range] at this
theorem chain_pw {R : Int → Int → Prop} (tr : ∀ a b c, R a b → R b c → R a c) : ∀ {l : List Int}, (∀ (j : Nat) (x y : Int), l[j]? = some x → l[j + 1]? = some y → R x y) → l.Pairwise R
  | [], _ => List.Pairwise.nil
  | [a], _ => by simp
  | a :: b :: l, h => by
    have ih := chain_pw tr (l := b :: l) fun j x y h1 h2 => h (j + 1) x y h1 h2
    have ab := h 0 a b rfl rfl
    refine List.pairwise_cons.mpr ⟨fun x hx => ?_, ih⟩
    rcases List.mem_cons.mp hx with e | e
    · rw [e]; exact ab
    · exact tr _ _ _ ab ((List.pairwise_cons.mp ih).1 x e)
theorem lng_row {B : BL} {f : Int → Int} (wf : WF B) (up : (ks B).Pairwise (· < ·)) (hf : Fl B f) : lng B f ∈ (subs (ks B)).filter (allR true B) ∧ (lng B f).length = nf f (ks B) := by
  obtain ⟨a, b, c⟩ := lng_ok wf hf
  have pw : (lng B f).Pairwise fun x y => x ∈ gt B y := chain_pw (fun x y z h1 h2 => wf.tr z y x h2 h1) c
  refine ⟨List.mem_filter.mpr ⟨(mem_subs _ _ _ rfl).mpr (sub_sorted (pw.imp fun {x y} h => (wf.lo y x h).1) up fun x hx => ?_), decide_eq_true (pw.imp fun {x y} h => ?_)⟩, a⟩
  · obtain ⟨j, hj, e⟩ := List.getElem_of_mem hx
    exact (b j x (by rw [List.getElem?_eq_getElem hj, e])).1
  · unfold rel ap
    rw [if_pos rfl, decide_eq_false (fun z => z.2.1 h)]; rfl
end FL

namespace FP
open PySem L2 FL FR
def top (i : Nat) : Stmt := PySem.Challenge.pw_fewladders_k08_whole_small_halls_tried.main.body.getD i (.Pass ⟨0, 0, 0, 0⟩)
abbrev sAllFloors : Stmt := top 7
abbrev sLongestLadder : Stmt := top 8
abbrev sSearch : Stmt := top 10
abbrev sRowTo : Stmt := top 11
abbrev sMakeFewer : Stmt := top 12
abbrev sFewest : Stmt := top 13
abbrev sCloseGap : Stmt := top 14
abbrev sLadderFrom : Stmt := top 15
abbrev sAllLadders : Stmt := top 16
abbrev sFreeSet : Stmt := top 17
abbrev sInit : Stmt := inClass (top 20) 0
abbrev sPut : Stmt := inClass (top 20) 1
abbrev sTake : Stmt := inClass (top 20) 2
abbrev sThings : Stmt := inClass (top 20) 3
abbrev sLies : Stmt := inClass (top 20) 4
abbrev sLadders : Stmt := inClass (top 20) 5
abbrev sFree : Stmt := inClass (top 20) 6
abbrev sFloors : Stmt := inClass (top 20) 7
abbrev sLongest : Stmt := inClass (top 20) 8
abbrev sParted : Stmt := inClass (top 20) 9
abbrev sWith : Stmt := inClass (top 20) 10
abbrev sWithout : Stmt := inClass (top 20) 11
abbrev sStanding : Stmt := inClass (top 20) 12
abbrev sCheck : Stmt := inClass (top 20) 13
abbrev sCheckSome : Stmt := inClass (top 20) 14
abbrev sAllUnder : Stmt := inClass (top 20) 15
abbrev sApartFrom : Stmt := inClass (top 20) 16
abbrev sPart : Stmt := inClass (top 20) 17
abbrev sGreatest : Stmt := inClass (top 20) 18
abbrev sMixed : Stmt := top 22
abbrev sSome : Stmt := top 23
abbrev sGrown : Stmt := top 24
abbrev sFewer : Stmt := top 25
abbrev sApart : Stmt := top 26
abbrev sIsFree : Stmt := top 27
abbrev sLawSets : Stmt := top 28
abbrev sLawAllBy : Stmt := top 29
abbrev sLaw : Stmt := top 30
end FP
set_option Elab.async false
set_option maxRecDepth 100000
namespace FP
open PySem L2 FL FR
/-! ### search -/
def oV : Option Int → V
  | none => .non
  | some l => .int l
def spSearch : Sp := fun vs H Q _ => ∃ (d1 d2 : Addr) (ρ : Int → Addr) (B : BL) (M : MT) (k : Nat) (r : MT) (o : Option Int), vs = [.ref d1, .ref d2] ∧ BelowAt H d1 ρ B ∧ H d1 = some (.dK (kB ρ B)) ∧ H d2 = some (.dK (kI M)) ∧ WF B ∧ MW B M ∧ B.length ≤ 40 ∧
  loop B (iv M) k [] (w0 (srt (ks B)) M) = some (r, o) ∧
  ∀ (t p : Addr) (H' : Hp), Same H H' → H t = none → H p = none → H' t = some (.tup [.ref p, oV o]) → H' p = some (.dK (kI r)) → Q (.ref t) H'
theorem iv_take (M : MT) (i : Nat) : iv (M.take i) = (iv M).take i := by simp [iv, List.map_take]
section
variable {P : Program} {w : World} {K : PySem.W.Frag} {mg : Str → Option Value} {base : Heap}
theorem scSearch : FnScope ["below", "beneath", "up", "low", "above", "waiting", "reached"] ["below", "beneath"] (defScope sSearch) := ⟨rfl, rfl, rfl, by decide +kernel, rfl, by decide +kernel, by decide +kernel⟩
theorem ok_search {f : Addr} {fd : FuncData} (F : Fun K "search" "search" sSearch f fd) (mSorted : mg "sorted" = none) : FnOk P w K mg base CX0 1 f fd ["below", "beneath"] spSearch := by
  refine F.ok scSearch (fun vs H Q E h => ?_) (fun cdv A outer s H vs Q E hr h => ?_)
  · obtain ⟨d1, d2, _, _, _, _, _, _, rfl, _⟩ := h
    rfl
  · obtain ⟨d1, d2, ρ, B, M, k, r0, o0, rfl, hB, h1, h2, wf, mw, few, hloop, fin⟩ := h
    have hu := hu_of hr
    have lenM : M.length ≤ 40 := by
      rw [← len_ks M]
      exact Nat.le_trans (mw.nd.length_le_of_subset fun x hx => mw.sub hx) (by rw [len_ks]; exact few)
    have ndI : (ks (iv M)).Nodup := by rw [ks_iv]; exact mw.vals
    refine ⟨_, pss_cons (ps_lock (ps_setDc (i := 4) (own := [("up", 2), ("low", 3)]) (g := gTup K 2 (gCons (gName 2) (gCons (gName 3) gNil))) (tt := tYes) rfl scSearch.nd rfl rfl (sw_dict rfl rfl rfl (by decide +kernel)) (pi_items (pv 1)) (blkOk_by (N := ["below", "beneath", "up", "low", "above", "waiting", "reached"]) (sc := defScope sSearch) (by decide +kernel))
        (fun _ _ _ _ _ => pg_pair 2 3 rfl scSearch.nd rfl rfl rfl rfl) (fun _ _ _ _ _ => pts_nil) (fun _ _ _ _ _ => pv 3) (fun _ _ _ _ _ => pv 2)))
      (pss_cons (ps_setLc (i := 5) (own := [("up", 2)]) (g := gName 2) rfl scSearch.nd rfl rfl (sw_true rfl rfl rfl (by decide +kernel)) (pi_list (pe_callB (call_sortedDI rfl) (by rfl) mSorted (by decide +kernel) (pa_cons (pv 0) pa_nil))) (blkOk_by (N := ["below", "beneath", "up", "low", "above", "waiting", "reached"]) (sc := defScope sSearch) (by decide +kernel))
        (fun _ _ _ _ _ => pg_name (i := 2) scSearch.nd rfl (Or.inl rfl)) (fun _ _ _ _ _ => pts_one (pt_cmp (pc_dnotin hu (pv 2) (pv 1)))) (fun _ _ _ _ _ => pv 2))
      (pss_cons (ps_set (i := 6) scSearch.nd rfl (Or.inl rfl) pe_dnewK)
      (pss_cons (ps_while PassesOwn.never (pt_truth (pv 5) (by intro _; rfl))
        (pss_cons (ps_set (i := 2) scSearch.nd rfl (Or.inl rfl) (pe_bm0 PySem.F.plainAttrs_list PySem.F.slot_list_pop PySem.F.type_list_pop mt_pop (pv 5)))
        (pss_one (ps_for PassesOwn.never rfl (pi_list (pe_dget hu (pv 0) (pv 2) (fun _ _ => rfl))) (pg_name (i := 3) scSearch.nd rfl (Or.inl rfl))
          (pss_cons (ps_if (pt_cmp (pc_din hu (pv 3) (pv 6))) (pss_one ps_continue) pss_nil)
          (pss_cons (ps_dput hu (pv 6) (pv 3) (pv 2) rfl)
          (pss_cons (ps_if (pt_cmp (pc_dnotin hu (pv 3) (pv 4))) (pss_one (ps_ret (pe_tup (pa_cons (pv 6) (pa_cons (pv 3) pa_nil))))) pss_nil)
          (pss_one (ps_expr (pe_bm PySem.F.plainAttrs_list PySem.F.slot_list_append PySem.F.type_list_append mt_append (pv 5) (pa_cons (pe_dget hu (pv 4) (pv 3) (fun _ _ => rfl)) pa_nil)))))))))))
      (pss_one (ps_ret (pe_tup (pa_cons (pv 6) (pa_cons pe_non pa_nil)))))))), ?_⟩
    -- above = {low: up for up, low in beneath.items()}
    refine ⟨d2, _, h2, trivial, fun od => ⟨_, rfl, d2, od, _, rfl, upd_same, fun D hD => ?_⟩⟩
    have nD : d2 ≠ D := fun e => by rw [← e, upd_same] at hD; cases hD
    have hD0 : H D = none := by rw [upd_ne nD.symm] at hD; exact hD
    refine dc_by (n := (kI M).length) (fun i H1 => H1 d2 = some (.frz od (.dK (kI M))) ∧ H1 D = some (.dK (kI (iv (M.take i)))) ∧ ∀ b o, b ≠ d2 → H b = some o → H1 b = some o)
      ⟨by rw [upd_ne nD]; exact upd_same, upd_same, fun b o nb e => by rw [upd_ne (ne_of_none e hD0), upd_ne nb]; exact e⟩ (fun i H1 hi p => items_go p.1 hi) (fun H1 p => items_stop p.1) ?_ ?_
    · rintro i x H1 H2 hi ⟨p1, p2, p3⟩ ⟨T, kk, vv, hat, rfl, hT, rfl⟩
      obtain ⟨a, b, hab, rfl, rfl⟩ := kI_at hat
      refine ⟨T, _, rfl, SqT.of upd_same, rfl, _, _, rfl, _, _, rfl, rfl, rfl, ?_⟩
      have nT : D ≠ T := ne_of_none p2 hT
      refine ⟨_, rfl, _, rfl, kI (iv (M.take i)), .inl b, rfl, by rw [upd_ne nT]; exact p2, small1000 (by rw [kI_len, iv, List.length_map, List.length_take]; omega), ?_, ?_, ?_⟩
      · rw [upd_ne nD, upd_ne (ne_of_none p1 hT)]; exact p1
      · have e2 : pt (iv (M.take i)) b a = iv (M.take (i + 1)) := by
          rw [iv_take, iv_take]
          exact pt_take ndI (by rw [iv, List.getElem?_map, hab]; rfl)
        exact upd_same.trans (congrArg (fun z => some (HO.dK z)) ((putK_kI _ _ _).trans (congrArg kI e2)))
      · intro c oc nc e
        rw [upd_ne (ne_of_none e hD0), upd_ne (ne_of_none (p3 c oc nc e) hT)]
        exact p3 c oc nc e
    · rintro H1 ⟨p1, p2, p3⟩
      refine ⟨p1, ?_⟩
      rw [kI_len, List.take_length] at p2
      -- the heap from here on
      generalize hH2 : upd H1 d2 (HO.dK (kI M)) = H2
      have s2 : Same H H2 := fun b o e => by
        rw [← hH2]
        by_cases eb : b = d2
        · rw [eb] at e ⊢; rw [upd_same, ← e, h2]
        · rw [upd_ne eb]; exact p3 b o eb e
      have hA : H2 D = some (.dK (kI (iv M))) := by rw [← hH2, upd_ne nD.symm]; exact p2
      have nDd : D ≠ d1 := fun e => by rw [e, h1] at hD0; cases hD0
      -- waiting = [up for up in sorted(below) if up not in beneath]
      refine ⟨_, rfl, d1, kB ρ B, ks B, rfl, .inl (s2 _ _ h1), kB_keys ρ B, by rw [len_ks]; omega, fun ys p hp hle hpn => ?_⟩
      obtain rfl : ys = srt (ks B) := srt_uniq hp hle
      refine ⟨p, rfl, ⟨_, SqL.of upd_same⟩, fun Wd hWd => ?_⟩
      have nW : Wd ≠ p := fun e => by rw [e, upd_same] at hWd; cases hWd
      have hW2 : H2 Wd = none := by rw [upd_ne nW] at hWd; exact hWd
      refine lc_by (n := ((srt (ks B)).map V.int).length) (fun i H1 => H1 p = some (.lst ((srt (ks B)).map V.int)) ∧ H1 Wd = some (.lst ((w0 ((srt (ks B)).take i) M).map V.int)) ∧ Same H2 H1)
        ⟨by rw [upd_ne nW.symm]; exact upd_same, upd_same, same_upd (same_new hpn) hW2⟩ (fun i H1 hi q => list_go (SqL.of q.1) hi) (fun H1 q => list_stop (SqL.of q.1)) ?_ ?_
      · rintro i x H1 H1' hi ⟨q1, q2, q3⟩ hy
        obtain ⟨rfl, hx⟩ := list_yld (SqL.of q1) hy
        obtain ⟨n, hn, rfl⟩ := ints_at hx
        refine ⟨rfl, _, rfl, _, rfl, d2, _, rfl, DGet.k (k := Sum.inl n) (q3 _ _ (s2 _ _ h2)), _, rfl, ?_⟩
        rw [valV_kI]
        have wt : w0 ((srt (ks B)).take (i + 1)) M = w0 ((srt (ks B)).take i) M ++ w0 [n] M := by
          rw [take_snoc hn]; unfold w0; rw [List.filter_append]
        cases e : lk M n with
        | none =>
          have w1 : w0 [n] M = [n] := by simp [w0, lk_none.mp e]
          refine iteT ⟨_, rfl, _, q2, small1000 ?_, ?_, ?_, ?_⟩
          · rw [List.length_map]
            have : (w0 ((srt (ks B)).take i) M).length ≤ ((srt (ks B)).take i).length := List.length_filter_le _ _
            have l2 : (srt (ks B)).length = B.length := by rw [(srt_perm _).length_eq, len_ks]
            rw [List.length_take] at this
            omega
          · rw [upd_ne nW.symm]; exact q1
          · rw [wt, w1, List.map_append]; exact upd_same
          · exact same_upd q3 hW2
        | some v =>
          have w1 : w0 [n] M = [] := by simp [w0, lk_some_ks e]
          refine iteF ⟨q1, ?_, q3⟩
          rw [wt, w1, List.append_nil]
          exact q2
      · rintro H3 ⟨q1, q2, q3⟩
        rw [List.length_map, List.take_length] at q2
        -- reached = {}
        intro R hR
        have nRD : R ≠ D := fun e => by rw [e, q3 _ _ hA] at hR; cases hR
        have nRW : R ≠ Wd := fun e => by rw [e, q2] at hR; cases hR
        have nDW : D ≠ Wd := fun e => by rw [← e, hA] at hW2; cases hW2
        have s3 : Same H H3 := s2.trans q3
        have hW0 : H Wd = none := s2.free hW2
        have hR0 : H R = none := s3.free hR
        have lsk : (srt (ks B)).length = B.length := by rw [(srt_perm _).length_eq, len_ks]
        -- while waiting
        refine ⟨fun m σ H' => ∃ (u l : Option V) (r : MT) (ws : List Int), σ = [some (.ref d1), some (.ref d2), u, l, some (.ref D), some (.ref Wd), some (.ref R)] ∧ loop B (iv M) m r ws = some (r0, o0) ∧ Same H H' ∧ H' D = some (.dK (kI (iv M))) ∧
          H' Wd = some (.lst (ws.map V.int)) ∧ H' R = some (.dK (kI r)) ∧ (∀ x ∈ ws, x ∈ ks B) ∧ (ks r).Nodup ∧ (∀ x ∈ ks r, x ∈ ks B) ∧ ws.length ≤ B.length + r.length,
          ⟨k, none, none, [], w0 (srt (ks B)) M, rfl, hloop, same_upd s3 hR0, by rw [upd_ne nRD.symm]; exact q3 _ _ hA, by rw [upd_ne nRW.symm]; exact q2, upd_same,
            fun x hx => (srt_perm _).mem_iff.mp (List.mem_filter.mp hx).1, by simp [ks], fun x hx => by simp [ks] at hx, ?_⟩, ?_⟩
        · have : (w0 (srt (ks B)) M).length ≤ (srt (ks B)).length := List.length_filter_le _ _
          simp only [List.length_nil]; omega
        · rintro m σ H4 ⟨u, l, r, ws, rfl, lp, s4, a1, a2, a3, b1, b2, b3, b4⟩
          refine ⟨_, rfl, !(ws.map V.int).isEmpty, .inl ⟨_, SqL.of a2, rfl⟩, ?_⟩
          cases m with
          | zero => simp [loop] at lp
          | succ m =>
            simp only [loop] at lp
            cases e : ws.getLast? with
            | none =>
              have e0 : ws = [] := by simpa using e
              subst e0
              simp only [List.getLast?_nil, Option.some.injEq, Prod.mk.injEq] at lp
              obtain ⟨rfl, rfl⟩ := lp
              refine iteF ⟨_, rfl, by show 2 ≤ sizeLine; decide, fun t ht => ?_⟩
              exact fin t R _ (same_upd s4 (s4.free ht)) (s4.free ht) hR0 upd_same (by rw [upd_ne (ne_of_none a3 ht)]; exact a3)
            | some up =>
              rw [e] at lp
              obtain ⟨wr, rfl⟩ : ∃ wr, ws = wr ++ [up] := List.getLast?_eq_some_iff.mp e
              rw [List.dropLast_concat] at lp
              replace lp : (match scan (iv M) up (gt B up) r wr with
                | (r', _, some l) => some (r', some l)
                | (r', w', none) => loop B (iv M) m r' w') = some (r0, o0) := lp
              have ne0 : (!((wr ++ [up]).map V.int).isEmpty) = true := by simp
              rw [ne0]
              refine iteT ⟨fun σ H' => ∃ (u l : Option V) (r : MT) (ws : List Int), σ = [some (.ref d1), some (.ref d2), u, l, some (.ref D), some (.ref Wd), some (.ref R)] ∧ loop B (iv M) m r ws = some (r0, o0) ∧ Same H H' ∧ H' D = some (.dK (kI (iv M))) ∧
                H' Wd = some (.lst (ws.map V.int)) ∧ H' R = some (.dK (kI r)) ∧ (∀ x ∈ ws, x ∈ ks B) ∧ (ks r).Nodup ∧ (∀ x ∈ ks r, x ∈ ks B) ∧ ws.length ≤ B.length + r.length,
                fun σ' H' q => ⟨m, Nat.lt_succ_self _, q⟩, ?_⟩
              -- up = waiting.pop()
              refine ⟨_, rfl, .inl ⟨rfl, _, SqL.of a2⟩, Wd, _, V.int up, rfl, rfl, a2, by simp, ?_⟩
              have upB : up ∈ ks B := b1 up (by simp)
              have s5 : Same H (upd H4 Wd (.lst (((wr ++ [up]).map V.int).dropLast))) := same_upd s4 hW0
              have a2' : (upd H4 Wd (.lst (((wr ++ [up]).map V.int).dropLast))) Wd = some (.lst (wr.map V.int)) := by
                rw [upd_same, List.map_append]; simp
              generalize hH5 : upd H4 Wd (.lst (((wr ++ [up]).map V.int).dropLast)) = H5 at s5 a2'
              have a1' : H5 D = some (.dK (kI (iv M))) := by rw [← hH5, upd_ne nDW]; exact a1
              have a3' : H5 R = some (.dK (kI r)) := by rw [← hH5, upd_ne nRW]; exact a3
              have inB : (up, gt B up) ∈ B := lk_mem (lk_gt upB)
              have hls : H (ρ up) = some (.lst ((gt B up).map V.int)) := hB.ls _ inB
              -- for low in below[up]
              refine ⟨_, rfl, _, rfl, d1, .ref (ρ up), rfl, (by have z := DGet.k (k := (Sum.inl up : Key)) (s5 _ _ h1); rw [valV_kB, if_pos upB] at z; exact z), ρ up, rfl, ⟨_, SqL.of (s5 _ _ hls)⟩, ?_⟩
              refine for_by (n := ((gt B up).map V.int).length) (fun j σ H' => ∃ (l : Option V) (r1 : MT) (w1 : List Int), σ = [some (.ref d1), some (.ref d2), some (.int up), l, some (.ref D), some (.ref Wd), some (.ref R)] ∧
                  scan (iv M) up ((gt B up).drop j) r1 w1 = scan (iv M) up (gt B up) r wr ∧ Same H H' ∧ H' D = some (.dK (kI (iv M))) ∧ H' Wd = some (.lst (w1.map V.int)) ∧ H' R = some (.dK (kI r1)) ∧
                  (∀ x ∈ w1, x ∈ ks B) ∧ (ks r1).Nodup ∧ (∀ x ∈ ks r1, x ∈ ks B) ∧ w1.length ≤ B.length + r1.length)
                ⟨_, r, wr, rfl, rfl, s5, a1', a2', a3', fun x hx => b1 x (List.mem_append_left _ hx), b2, b3, by simp at b4; omega⟩
                (fun j σ H' hj ⟨_, _, _, _, _, s6, _⟩ => list_go (SqL.of (s6 _ _ hls)) hj) (fun σ H' ⟨_, _, _, _, _, s6, _⟩ => list_stop (SqL.of (s6 _ _ hls))) ?_ ?_
              · rintro j x σ H6 H6' hj ⟨l, r1, w1, rfl, sc, s6, c1, c2, c3, e1, e2, e3, e4⟩ hy
                obtain ⟨rfl, hx⟩ := list_yld (SqL.of (s6 _ _ hls)) hy
                obtain ⟨low, hlow, rfl⟩ := ints_at hx
                have jl : j < (gt B up).length := by rw [List.length_map] at hj; exact hj
                have dr : (gt B up).drop j = low :: (gt B up).drop (j + 1) := by
                  rw [List.drop_eq_getElem_cons jl]
                  congr 1
                  rw [List.getElem?_eq_getElem jl] at hlow
                  exact Option.some.inj hlow
                have lowB : low ∈ ks B := (wf.lo up low (List.mem_of_getElem? hlow)).2
                rw [dr] at sc
                simp only [scan] at sc
                -- if low in reached: continue
                refine ⟨_, rfl, _, rfl, R, _, rfl, DGet.k (k := (Sum.inl low : Key)) c3, _, rfl, ?_⟩
                rw [valV_kI]
                cases q : lk r1 low with
                | some z =>
                  rw [if_pos (lk_some_ks q)] at sc
                  exact iteT ⟨_, r1, w1, rfl, sc, s6, c1, c2, c3, e1, e2, e3, e4⟩
                | none =>
                  have nl : low ∉ ks r1 := lk_none.mp q
                  rw [if_neg nl] at sc
                  have lr1 : r1.length ≤ B.length := by
                    rw [← len_ks r1, ← len_ks B]
                    exact e2.length_le_of_subset fun x hx => e3 x hx
                  -- reached[low] = up
                  refine iteF ⟨_, rfl, _, rfl, _, rfl, R, _, rfl, DPut.k (k := (Sum.inl low : Key)) c3 (small1000 (by rw [kI_len]; omega)), ?_⟩
                  have c3' : (upd H6' R (.dK (putK (kI r1) (Sum.inl low : Key) (.int up)))) R = some (.dK (kI (r1 ++ [(low, up)]))) := by
                    rw [upd_same, putK_kI, pt_new nl]
                  have s7 : Same H (upd H6' R (.dK (putK (kI r1) (Sum.inl low : Key) (.int up)))) := same_upd s6 hR0
                  have c1' : (upd H6' R (.dK (putK (kI r1) (Sum.inl low : Key) (.int up)))) D = some (.dK (kI (iv M))) := by rw [upd_ne nRD.symm]; exact c1
                  have c2' : (upd H6' R (.dK (putK (kI r1) (Sum.inl low : Key) (.int up)))) Wd = some (.lst (w1.map V.int)) := by rw [upd_ne nRW.symm]; exact c2
                  generalize upd H6' R (.dK (putK (kI r1) (Sum.inl low : Key) (.int up))) = H7 at c3' s7 c1' c2' ⊢
                  have ndr : (ks (r1 ++ [(low, up)])).Nodup := by
                    rw [ks_app, List.nodup_append]
                    exact ⟨e2, by simp [ks], fun a ha b hb => by
                      have : b = low := by simpa [ks] using hb
                      rw [this]; exact fun z => nl (z ▸ ha)⟩
                  have sub : ∀ x ∈ ks (r1 ++ [(low, up)]), x ∈ ks B := fun x hx => by
                    rw [ks_app] at hx
                    rcases List.mem_append.mp hx with z | z
                    · exact e3 x z
                    · have : x = low := by simpa [ks] using z
                      rw [this]; exact lowB
                  -- if low not in above: return (reached, low)
                  refine ⟨_, rfl, _, rfl, D, _, rfl, DGet.k (k := (Sum.inl low : Key)) c1', _, rfl, ?_⟩
                  rw [valV_kI]
                  cases q2 : lk (iv M) low with
                  | none =>
                    rw [q2] at sc
                    simp only at sc
                    rw [← sc] at lp
                    simp only [Option.some.injEq, Prod.mk.injEq] at lp
                    obtain ⟨rfl, rfl⟩ := lp
                    refine iteT ⟨_, rfl, _, rfl, by show 2 ≤ sizeLine; decide, fun t ht => ?_⟩
                    exact fin t R _ (same_upd s7 (s7.free ht)) (s7.free ht) hR0 upd_same (by rw [upd_ne (ne_of_none c3' ht)]; exact c3')
                  | some ab =>
                    rw [q2] at sc
                    simp only at sc
                    have abB : ab ∈ ks B := gt_ks (mw.be ab low ((iv_lk mw).mp q2))
                    -- waiting.append(above[low])
                    refine iteF ⟨_, rfl, .inl ⟨rfl, _, SqL.of c2'⟩, _, rfl, _, rfl, D, .int ab, rfl, (by have z := DGet.k (k := (Sum.inl low : Key)) c1'; rw [valV_kI, q2] at z; exact z), Wd, _, _, rfl, rfl, c2', small1000 (by rw [List.length_map]; omega), ?_⟩
                    refine ⟨_, r1 ++ [(low, up)], w1 ++ [ab], rfl, sc, same_upd s7 hW0, by rw [upd_ne nDW]; exact c1', by rw [upd_same, List.map_append]; rfl, by rw [upd_ne nRW]; exact c3', fun x hx => ?_, ndr, sub, by simp; omega⟩
                    rcases List.mem_append.mp hx with z | z
                    · exact e1 x z
                    · have : x = ab := by simpa using z
                      rw [this]; exact abB
              · rintro σ H6 ⟨l, r1, w1, rfl, sc, s6, c1, c2, c3, e1, e2, e3, e4⟩
                rw [List.length_map, List.drop_length] at sc
                simp only [scan] at sc
                rw [← sc] at lp
                exact ⟨_, l, r1, w1, rfl, lp, s6, c1, c2, c3, e1, e2, e3, e4⟩
end
end FP

set_option Elab.async false
set_option maxRecDepth 100000
namespace FP
open PySem L2 FL FR
/-! ### row_to -/
def spRowTo : Sp := fun vs H Q _ => ∃ (low : Int) (dr d2 : Addr) (r M c : MT), vs = [.int low, .ref dr, .ref d2] ∧ H dr = some (.dK (kI r)) ∧ H d2 = some (.dK (kI M)) ∧ Ch M r low c ∧ c.length ≤ 100 ∧
  ∀ (p : Addr) (H' : Hp), Same H H' → H p = none → PairsAt H' p c.reverse → Q (.ref p) H'
section
variable {P : Program} {w : World} {K : PySem.W.Frag} {mg : Str → Option Value} {base : Heap}
theorem scRowTo : FnScope ["last", "reached", "beneath", "up", "row", "low"] ["last", "reached", "beneath"] (defScope sRowTo) := ⟨rfl, rfl, rfl, by decide +kernel, rfl, by decide +kernel, by decide +kernel⟩
theorem ok_rowTo {f : Addr} {fd : FuncData} (F : Fun K "row_to" "row_to" sRowTo f fd) : FnOk P w K mg base CX0 1 f fd ["last", "reached", "beneath"] spRowTo := by
  refine F.ok scRowTo (fun vs H Q E h => ?_) (fun cdv A outer s H vs Q E hr h => ?_)
  · obtain ⟨_, _, _, _, _, _, rfl, _⟩ := h
    rfl
  · obtain ⟨low, dr, d2, r, M, c, rfl, h1, h2, hc, hl, fin⟩ := h
    have hu := hu_of hr
    refine ⟨_, pss_cons (ps_set (i := 3) scRowTo.nd rfl (Or.inl rfl) (pe_dget hu (pv 1) (pv 0) (fun _ _ => rfl)))
      (pss_cons (ps_set (i := 4) scRowTo.nd rfl (Or.inl rfl) (pe_lst (pa_cons (pe_tup (pa_cons (pv 3) (pa_cons (pv 0) pa_nil))) pa_nil)))
      (pss_cons (ps_while PassesOwn.never (pt_cmp (pc_din hu (pv 3) (pv 2)))
        (pss_cons (ps_set (i := 5) scRowTo.nd rfl (Or.inl rfl) (pe_dget hu (pv 2) (pv 3) (fun _ _ => rfl)))
        (pss_cons (ps_set (i := 3) scRowTo.nd rfl (Or.inl rfl) (pe_dget hu (pv 1) (pv 5) (fun _ _ => rfl)))
        (pss_one (ps_expr (pe_bm PySem.F.plainAttrs_list PySem.F.slot_list_append PySem.F.type_list_append mt_append (pv 4) (pa_cons (pe_tup (pa_cons (pv 3) (pa_cons (pv 5) pa_nil))) pa_nil)))))))
      (pss_one (ps_ret (pe_revL (pv 4)))))), ?_⟩
    obtain ⟨up, rest, rfl, e1, hrest⟩ := hc.split
    -- up = reached[last]
    refine ⟨_, rfl, _, rfl, dr, .int up, rfl, (by have z := DGet.k (k := (Sum.inl low : Key)) h1; rw [valV_kI, e1] at z; exact z), ?_⟩
    -- row = [(up, last)]
    refine ⟨_, rfl, _, rfl, by show 2 ≤ sizeLine; decide, fun t0 ht0 => ⟨by show 1 ≤ sizeLine; decide, fun p hp => ?_⟩⟩
    have s1 : Same H (upd (upd H t0 (.tup [.int up, .int low])) p (.lst [.ref t0])) := same_upd (same_new ht0) (by
      have : p ≠ t0 := fun e => by rw [e, upd_same] at hp; cases hp
      rw [upd_ne this] at hp; exact hp)
    have hp0 : H p = none := (same_new ht0).free hp
    have hpt : p ≠ t0 := fun e => by rw [e, upd_same] at hp; cases hp
    refine ⟨fun m σ H' => ∃ (up : Int) (lw : Option V) (a rest : MT) (ts : List Addr), σ = [some (.int low), some (.ref dr), some (.ref d2), some (.int up), some (.ref p), lw] ∧ Same H H' ∧ H' p = some (.lst (ts.map V.ref)) ∧
        Paired (fun t (pr : Int × Int) => H' t = some (.tup [.int pr.1, .int pr.2])) ts a ∧ a.length + rest.length ≤ 100 ∧ m = rest.length ∧ Rest M r up rest ∧ a ++ rest = (_ :: _ : MT),
      ⟨_, up, none, [(up, low)], rest, [t0], rfl, s1, upd_same, .cons (by rw [upd_ne hpt.symm]; exact upd_same) .nil, by simp at hl ⊢; omega, rfl, hrest, rfl⟩, ?_⟩
    rintro m σ H1 ⟨up1, lw, a, rest1, ts, rfl, s2, q1, q2, q3, rfl, q4, q5⟩
    refine ⟨_, rfl, _, rfl, d2, _, rfl, DGet.k (k := (Sum.inl up1 : Key)) (s2 _ _ h2), _, rfl, ?_⟩
    rw [valV_kI]
    rcases q4 with ⟨e2, rfl⟩ | ⟨l, e2, hch⟩
    · rw [e2]
      -- return row[::-1]
      refine iteF ⟨_, rfl, p, _, rfl, SqL.of q1, fun p2 hp2 => ?_⟩
      refine fin p2 _ (same_upd s2 (s2.free hp2)) (s2.free hp2) ?_
      rw [List.append_nil] at q5
      refine ⟨ts.reverse, by rw [upd_same, List.map_reverse], ?_⟩
      have q6 : a = (up, low) :: rest := q5
      rw [← q6]
      exact paired_imp (paired_rev q2) fun t pr e => by rw [upd_ne (ne_of_none e hp2)]; exact e
    · rw [e2]
      obtain ⟨up2, rest2, rfl, e3, hr2⟩ := hch.split
      refine iteT ⟨fun σ H' => ∃ (up : Int) (lw : Option V) (a rest : MT) (ts : List Addr), σ = [some (.int low), some (.ref dr), some (.ref d2), some (.int up), some (.ref p), lw] ∧ Same H H' ∧ H' p = some (.lst (ts.map V.ref)) ∧
        Paired (fun t (pr : Int × Int) => H' t = some (.tup [.int pr.1, .int pr.2])) ts a ∧ a.length + rest.length ≤ 100 ∧ rest2.length = rest.length ∧ Rest M r up rest ∧ a ++ rest = (_ :: _ : MT), fun σ' H' q => ⟨rest2.length, by simp, q⟩, ?_⟩
      refine ⟨_, rfl, _, rfl, d2, .int l, rfl, (by have z := DGet.k (k := (Sum.inl up1 : Key)) (s2 _ _ h2); rw [valV_kI, e2] at z; exact z), ?_⟩
      refine ⟨_, rfl, _, rfl, dr, .int up2, rfl, (by have z := DGet.k (k := (Sum.inl l : Key)) (s2 _ _ h1); rw [valV_kI, e3] at z; exact z), ?_⟩
      refine ⟨_, rfl, .inl ⟨rfl, _, SqL.of q1⟩, _, rfl, _, rfl, by show 2 ≤ sizeLine; decide, fun t ht => ⟨p, _, _, rfl, rfl, by rw [upd_ne (ne_of_none q1 ht)]; exact q1, small1000 ?_, ?_⟩⟩
      · rw [List.length_map, paired_len q2]; omega
      · have np : p ≠ t := ne_of_none q1 ht
        refine ⟨up2, _, a ++ [(up2, l)], rest2, ts ++ [t], rfl, same_upd (same_upd s2 (s2.free ht)) hp0, by rw [upd_same, List.map_append]; rfl, ?_, by simp at q3 ⊢; omega, rfl, hr2, ?_⟩
        · refine paired_snoc (paired_imp q2 fun t2 pr e => ?_) (by rw [upd_ne np.symm]; exact upd_same)
          rw [upd_ne (ne_of e q1 (by intro z; cases z)), upd_ne (ne_of_none e ht)]; exact e
        · rw [← q5, List.append_assoc]; rfl

/-! ### make_fewer -/
def spMakeFewer : Sp := fun vs H Q _ => ∃ (d1 d2 : Addr) (ρ : Int → Addr) (B : BL) (M : MT), vs = [.ref d1, .ref d2] ∧ BelowAt H d1 ρ B ∧ H d1 = some (.dK (kB ρ B)) ∧ H d2 = some (.dK (kI M)) ∧ WF B ∧ MW B M ∧ B.length ≤ 40 ∧
  ∀ (p : Addr) (H' : Hp), (∀ b o, b ≠ d2 → H b = some o → H' b = some o) → H p = none → H' d2 = some (.dK (kI (mfew B (srt (ks B)) M))) → PairsAt H' p (mrow B (srt (ks B)) M) → Q (.ref p) H'
theorem puts_take {M : MT} {row : MT} {i : Nat} {p : Int × Int} (h : row[i]? = some p) : pt (puts M (row.take i)) p.1 p.2 = puts M (row.take (i + 1)) := by
  rw [take_snoc h]; unfold puts; rw [List.foldl_append]; rfl
theorem puts_few (row : MT) : ∀ M : MT, (puts M row).length ≤ M.length + row.length := by
  induction row with
  | nil => intro M; simp [puts]
  | cons p r ih =>
    intro M
    rw [puts_cons]
    have := ih (pt M p.1 p.2)
    rw [len_pt] at this
    simp only [List.length_cons]
    split at this <;> omega
theorem scMakeFewer : FnScope ["below", "beneath", "reached", "last", "row", "up", "low"] ["below", "beneath"] (defScope sMakeFewer) := ⟨rfl, rfl, rfl, by decide +kernel, rfl, by decide +kernel, by decide +kernel⟩
theorem ok_makeFewer {f fS fR : Addr} {fd fdS fdR : FuncData} (F : Fun K "make_fewer" "make_fewer" sMakeFewer f fd) (FS : Fun K "search" "search" sSearch fS fdS) (bS : Binds K fdS ["below", "beneath"] []) (mS : mg "search" = some (.ref fS))
    (FR : Fun K "row_to" "row_to" sRowTo fR fdR) (bR : Binds K fdR ["last", "reached", "beneath"] []) (mR : mg "row_to" = some (.ref fR)) (mSorted : mg "sorted" = none) : FnOk P w K mg base CX0 2 f fd ["below", "beneath"] spMakeFewer := by
  have GS : FnOk P w K mg base CX0 1 fS fdS ["below", "beneath"] spSearch := ok_search FS mSorted
  have GR : FnOk P w K mg base CX0 1 fR fdR ["last", "reached", "beneath"] spRowTo := ok_rowTo FR
  refine F.ok scMakeFewer (fun vs H Q E h => ?_) (fun cdv A outer s H vs Q E hr h => ?_)
  · obtain ⟨_, _, _, _, _, rfl, _⟩ := h
    rfl
  · obtain ⟨d1, d2, ρ, B, M, rfl, hB, h1, h2, wf, mw, few, fin⟩ := h
    have hu := hu_of hr
    have lenM : M.length ≤ 40 := by
      rw [← len_ks M]
      exact Nat.le_trans (mw.nd.length_le_of_subset fun x hx => mw.sub hx) (by rw [len_ks]; exact few)
    obtain ⟨lp, rg, hsome, hnone⟩ := srch_ok wf mw (srt_perm (ks B))
    refine ⟨_, pss_cons (ps_asg (pe_call GS hr rfl mS FS.kp bS .nil pass0 (pa_cons (pv 0) (pa_cons (pv 1) pa_nil))) (pg_pair 2 3 rfl scMakeFewer.nd rfl rfl rfl rfl))
      (pss_cons (ps_if (pt_cmp (pc_isN (pv 3))) (pss_one (ps_ret (pe_lst pa_nil))) pss_nil)
      (pss_cons (ps_set (i := 4) scMakeFewer.nd rfl (Or.inl rfl) (pe_call GR hr rfl mR FR.kp bR .nil pass0 (pa_cons (pv 3) (pa_cons (pv 2) (pa_cons (pv 1) pa_nil)))))
      (pss_cons (ps_for PassesOwn.never rfl (pi_list (pv 4)) (pg_pair 5 6 rfl scMakeFewer.nd rfl rfl rfl rfl) (pss_one (ps_dput hu (pv 1) (pv 5) (pv 6) rfl)))
      (pss_one (ps_ret (pv 4)))))), ?_⟩
    -- reached, last = search(below, beneath)
    refine ⟨_, rfl, _, rfl, d1, d2, ρ, B, M, _, (srch B (srt (ks B)) M).1, (srch B (srt (ks B)) M).2, rfl, hB, h1, h2, wf, mw, few, lp, fun t R H1 s1 ht hR e1 e2 => ?_⟩
    refine ⟨t, _, rfl, SqT.of e1, rfl, _, _, rfl, _, _, rfl, rfl, ?_⟩
    cases e : (srch B (srt (ks B)) M).2 with
    | none =>
      -- if last is None: return []
      refine ⟨_, rfl, _, rfl, ?_⟩
      obtain ⟨_, em⟩ := hnone e
      refine iteT ⟨by show 0 ≤ sizeLine; decide, fun p hp => ?_⟩
      refine fin p _ (fun b o nb hb => same_upd s1 (s1.free hp) b o hb) (s1.free hp) ?_ ⟨[], upd_same, by rw [em]; exact .nil⟩
      rw [upd_ne (ne_of_none (s1 _ _ h2) hp)]
      unfold mfew
      rw [em]
      exact s1 _ _ h2
    | some l =>
      obtain ⟨_, hch, hlen, _⟩ := hsome l e
      refine ⟨_, rfl, _, rfl, ?_⟩
      refine iteF ?_
      -- row = row_to(last, reached, beneath)
      refine ⟨_, rfl, _, rfl, _, rfl, l, R, d2, _, M, (mrow B (srt (ks B)) M).reverse, rfl, e2, s1 _ _ h2, hch, by omega, fun p H2 s2 hp hrow => ?_⟩
      rw [List.reverse_reverse] at hrow
      rw [List.length_reverse] at hlen
      obtain ⟨ts, r1, r2⟩ := hrow
      have hp0 : H p = none := s1.free hp
      have np2 : p ≠ d2 := fun q => by rw [q, h2] at hp0; cases hp0
      -- for up, low in row: beneath[up] = low
      refine ⟨_, rfl, p, rfl, ⟨_, SqL.of r1⟩, ?_⟩
      refine for_by (n := (ts.map V.ref).length) (fun i σ H' => ∃ (u v : Option V), σ = [some (.ref d1), some (.ref d2), some (.ref R), some (.int l), some (.ref p), u, v] ∧ (∀ b o, b ≠ d2 → H2 b = some o → H' b = some o) ∧
          H' d2 = some (.dK (kI (puts M ((mrow B (srt (ks B)) M).take i)))))
        ⟨_, _, rfl, fun b o _ q => q, by simp only [List.take_zero]; exact s2 _ _ (s1 _ _ h2)⟩ (fun i σ H' hi ⟨_, _, _, k1, _⟩ => list_go (SqL.of (k1 _ _ np2 r1)) hi) (fun σ H' ⟨_, _, _, k1, _⟩ => list_stop (SqL.of (k1 _ _ np2 r1))) ?_ ?_
      · rintro i x σ H3 H3' hi ⟨u, v, rfl, k1, k2⟩ hy
        obtain ⟨rfl, hx⟩ := list_yld (SqL.of (k1 _ _ np2 r1)) hy
        obtain ⟨t1, ht1, rfl⟩ := refs_at hx
        obtain ⟨pr, hpr, e3⟩ := paired_at r2 ht1
        have nt2 : t1 ≠ d2 := ne_of e3 (s2 _ _ (s1 _ _ h2)) (by intro z; cases z)
        refine ⟨t1, _, rfl, SqT.of (k1 _ _ nt2 e3), rfl, _, _, rfl, _, _, rfl, rfl, ?_⟩
        refine ⟨_, rfl, _, rfl, _, rfl, d2, _, rfl, DPut.k (k := (Sum.inl pr.1 : Key)) k2 (small1000 ?_), ?_⟩
        · rw [kI_len]
          have := puts_few ((mrow B (srt (ks B)) M).take i) M
          rw [List.length_take] at this
          omega
        · refine ⟨_, _, rfl, fun b o nb q => by rw [upd_ne nb]; exact k1 b o nb q, ?_⟩
          exact upd_same.trans (congrArg (fun z => some (HO.dK z)) ((putK_kI _ _ _).trans (congrArg kI (puts_take hpr))))
      · rintro σ H3 ⟨u, v, rfl, k1, k2⟩
        refine ⟨_, rfl, fin p H3 (fun b o nb q => k1 b o nb (s2 _ _ (s1 _ _ q))) hp0 ?_ ⟨ts, k1 _ _ np2 r1, paired_imp r2 fun t1 pr q => k1 _ _ (ne_of q (s2 _ _ (s1 _ _ h2)) (by intro z; cases z)) q⟩⟩
        rw [List.length_map, paired_len r2, List.take_length] at k2
        exact k2
end
end FP

set_option Elab.async false
set_option maxRecDepth 100000
namespace FP
open PySem L2 FL FR
section
variable {P : Program} {w : World} {K : PySem.W.Frag} {mg : Str → Option Value} {base : Heap}
/-! ### close_gap -/
def spCloseGap : Sp := fun vs H Q _ => ∃ (d2 : Addr) (M : MT) (x : Int), vs = [.ref d2, .int x] ∧ H d2 = some (.dK (kI M)) ∧ (ks M).Nodup ∧ M.length ≤ 40 ∧
  ∀ (p : Addr) (H' : Hp), Same H H' → H p = none → H' p = some (.dK (kI (gap M x))) → Q (.ref p) H'
theorem scCloseGap : FnScope ["beneath", "one", "closed", "up", "low"] ["beneath", "one"] (defScope sCloseGap) := ⟨rfl, rfl, rfl, by decide +kernel, rfl, by decide +kernel, by decide +kernel⟩
/-- the table's first i rows closed up -/
def gapI (M : MT) (x : Int) (i : Nat) : MT := (M.take i).filterMap fun p => if p.1 = x then none else if p.2 ≠ x then some p else (lk M x).map fun v => (p.1, v)
theorem gapI_sub (M : MT) (x : Int) (i : Nat) {k : Int} (h : k ∈ ks (gapI M x i)) : k ∈ ks (M.take i) := by
  obtain ⟨q, hq, rfl⟩ := List.mem_map.mp h
  obtain ⟨p, hp, e⟩ := List.mem_filterMap.mp hq
  by_cases e1 : p.1 = x
  · rw [if_pos e1] at e; cases e
  · rw [if_neg e1] at e
    by_cases e2 : p.2 ≠ x
    · rw [if_pos e2] at e; cases e; exact List.mem_map.mpr ⟨_, hp, rfl⟩
    · rw [if_neg e2] at e
      cases q2 : lk M x with
      | none => rw [q2] at e; cases e
      | some v => rw [q2] at e; cases e; exact List.mem_map.mpr ⟨_, hp, rfl⟩
theorem gapI_len (M : MT) (x : Int) (i : Nat) : (gapI M x i).length ≤ M.length := Nat.le_trans (List.length_filterMap_le _ _) (by rw [List.length_take]; omega)
theorem gapI_new {M : MT} (nd : (ks M).Nodup) (x : Int) {i : Nat} {p : Int × Int} (h : M[i]? = some p) : p.1 ∉ ks (gapI M x i) := fun m => by
  have m := gapI_sub M x i m
  have e := pt_take (a := p.1) (b := p.2) nd h
  rw [take_snoc h] at e
  have l1 := congrArg List.length e
  rw [len_pt, if_pos m] at l1
  simp at l1
theorem gapI_step {M : MT} (x : Int) {i : Nat} {p : Int × Int} (h : M[i]? = some p) : gapI M x (i + 1) = gapI M x i ++ (if p.1 = x then [] else if p.2 ≠ x then [p] else match lk M x with | some v => [(p.1, v)] | none => []) := by
  unfold gapI
  rw [take_snoc h, List.filterMap_append]
  congr 1
  by_cases e1 : p.1 = x
  · simp [e1]
  · by_cases e2 : p.2 = x
    · cases lk M x <;> simp [e1, e2]
    · simp [e1, e2]
theorem ok_closeGap {f : Addr} {fd : FuncData} (F : Fun K "close_gap" "close_gap" sCloseGap f fd) : FnOk P w K mg base CX0 1 f fd ["beneath", "one"] spCloseGap := by
  refine F.ok scCloseGap (fun vs H Q E h => ?_) (fun cdv A outer s H vs Q E hr h => ?_)
  · obtain ⟨_, _, _, rfl, _⟩ := h
    rfl
  · obtain ⟨d2, M, x, rfl, h2, nd, few, fin⟩ := h
    have hu := hu_of hr
    refine ⟨_, pss_cons (ps_set (i := 2) scCloseGap.nd rfl (Or.inl rfl) pe_dnewK)
      (pss_cons (ps_lock (ps_for PassesOwn.never rfl (pi_items (pv 0)) (pg_pair 3 4 rfl scCloseGap.nd rfl rfl rfl rfl)
        (pss_cons (ps_if (pt_cmpR op_eq (pv 3) (pv 1) (nomark _)) (pss_one ps_continue) pss_nil)
        (pss_one (ps_if (pt_cmpR op_ne (pv 4) (pv 1) (nomark _)) (pss_one (ps_dput hu (pv 2) (pv 3) (pv 4) rfl))
          (pss_one (ps_if (pt_cmp (pc_din hu (pv 1) (pv 0))) (pss_one (ps_dput hu (pv 2) (pv 3) (pe_dget hu (pv 0) (pv 1) (fun _ _ => rfl)) rfl)) pss_nil)))))))
      (pss_one (ps_ret (pv 2)))), ?_⟩
    intro D hD
    have nD : d2 ≠ D := ne_of_none h2 hD
    refine ⟨d2, HO.dK (kI M), by rw [upd_ne nD]; exact h2, trivial, fun od => ⟨_, rfl, d2, od, _, rfl, upd_same, ?_⟩⟩
    refine for_by (n := (kI M).length) (fun i σ H1 => ∃ u v : Option V, σ = [some (.ref d2), some (.int x), some (.ref D), u, v] ∧ H1 d2 = some (.frz od (.dK (kI M))) ∧ H1 D = some (.dK (kI (gapI M x i))) ∧ ∀ b o, b ≠ d2 → H b = some o → H1 b = some o)
      ⟨none, none, rfl, upd_same, by rw [upd_ne nD.symm]; exact upd_same, fun b o nb e => by rw [upd_ne nb, upd_ne (ne_of_none e hD)]; exact e⟩ (fun i σ H1 hi ⟨_, _, _, p, _⟩ => items_go p hi) (fun σ H1 ⟨_, _, _, p, _⟩ => items_stop p) ?_ ?_
    · rintro i y σ H1 H2 hi ⟨u, v, rfl, p1, p2, p3⟩ ⟨T, kk, vv, hat, rfl, hT, rfl⟩
      obtain ⟨a, b, hab, rfl, rfl⟩ := kI_at hat
      have nT : D ≠ T := ne_of_none p2 hT
      have nT2 : d2 ≠ T := ne_of_none p1 hT
      have g0 : H1 d2 = some (.frz od (.dK (kI M))) := p1
      have t1 : (upd H1 T (.tup [kV (Sum.inl a), V.int b])) d2 = some (.frz od (.dK (kI M))) := by rw [upd_ne nT2]; exact p1
      have t2 : (upd H1 T (.tup [kV (Sum.inl a), V.int b])) D = some (.dK (kI (gapI M x i))) := by rw [upd_ne nT]; exact p2
      have t3 : ∀ b' o, b' ≠ d2 → H b' = some o → (upd H1 T (.tup [kV (Sum.inl a), V.int b])) b' = some o := fun c o nc e => by
        rw [upd_ne (ne_of_none (p3 c o nc e) hT)]; exact p3 c o nc e
      refine ⟨T, _, rfl, SqT.of upd_same, rfl, _, _, rfl, _, _, rfl, rfl, ?_⟩
      generalize upd H1 T (.tup [kV (Sum.inl a), V.int b]) = H3 at t1 t2 t3 ⊢
      have step := gapI_step x hab
      have put : ∀ z : Int, (upd H3 D (.dK (putK (kI (gapI M x i)) (Sum.inl a : Key) (.int z)))) D = some (.dK (kI (gapI M x i ++ [(a, z)]))) := fun z => by
        rw [upd_same, putK_kI, pt_new (gapI_new nd x hab)]
      have small : (kI (gapI M x i)).length < sizeLine := small1000 (by rw [kI_len]; have := gapI_len M x i; omega)
      have keep : ∀ (o : HO) b' o', b' ≠ d2 → H b' = some o' → (upd H3 D o) b' = some o' := fun o c oc nc e => by rw [upd_ne (ne_of_none e hD)]; exact t3 c oc nc e
      -- if up == one: continue
      refine ⟨_, rfl, _, rfl, rfl, _, rfl, ?_⟩
      refine ite2 (fun c1 => ?_) (fun c1 => ?_)
      · have e1 : a = x := by simpa [kV] using c1
        refine ⟨_, _, rfl, t1, ?_, t3⟩
        rw [step, if_pos e1, List.append_nil]; exact t2
      · have e1 : ¬ a = x := fun z => c1 (by rw [z]; simp [kV])
        rw [if_neg e1] at step
        refine ⟨_, rfl, _, rfl, rfl, _, rfl, ?_⟩
        refine ite2 (fun c2 => ?_) (fun c2 => ?_)
        · have e2 : b ≠ x := fun z => by rw [z] at c2; simp at c2
          rw [if_pos e2] at step
          refine ⟨_, rfl, _, rfl, _, rfl, D, _, rfl, DPut.k (k := (Sum.inl a : Key)) t2 small, ?_⟩
          exact ⟨_, _, rfl, by rw [upd_ne nD]; exact t1, by rw [step]; exact put b, keep _⟩
        · have e2 : b = x := Decidable.not_not.mp fun z => c2 (by simp [z])
          rw [if_neg (by simp [e2])] at step
          refine ⟨_, rfl, _, rfl, d2, _, rfl, DGet.rd (k := (Sum.inl x : Key)) (.inr ⟨od, t1⟩), _, rfl, ?_⟩
          rw [valV_kI]
          cases q : lk M x with
          | none =>
            rw [q] at step
            refine iteF ⟨_, _, rfl, t1, ?_, t3⟩
            rw [step, List.append_nil]; exact t2
          | some v =>
            rw [q] at step
            refine iteT ⟨_, rfl, _, rfl, d2, .int v, rfl, (by have z := DGet.rd (k := (Sum.inl x : Key)) (.inr ⟨od, t1⟩); rw [valV_kI, q] at z; exact z), _, rfl, _, rfl, D, _, rfl, DPut.k (k := (Sum.inl a : Key)) t2 small, ?_⟩
            exact ⟨_, _, rfl, by rw [upd_ne nD]; exact t1, by rw [step]; exact put v, keep _⟩
    · rintro σ H1 ⟨u, v, rfl, p1, p2, p3⟩
      refine ⟨p1, _, rfl, fin D _ (fun b o e => ?_) hD ?_⟩
      · by_cases eb : b = d2
        · rw [eb] at e ⊢; rw [upd_same, ← e, h2]
        · rw [upd_ne eb]; exact p3 b o eb e
      · rw [upd_ne nD.symm]
        rw [kI_len, gapI, List.take_length] at p2
        exact p2
end
end FP

set_option Elab.async false
set_option maxRecDepth 100000
namespace FP
open PySem L2 FL FR
/-! ### a hall in the heap -/
theorem n_gb : ¬ (("_given" : Str) = "_below") := by decide +kernel
theorem n_gn : ¬ (("_given" : Str) = "_beneath") := by decide +kernel
theorem n_bn : ¬ (("_below" : Str) = "_beneath") := by decide +kernel
def hf (n : Int) (d1 d2 : Addr) : List (Str × V) := putF "_beneath" (.ref d2) (putF "_below" (.ref d1) (putF "_given" (.int n) []))
theorem hf_eq (n : Int) (d1 d2 : Addr) : hf n d1 d2 = ([("_given", V.int n), ("_below", V.ref d1), ("_beneath", V.ref d2)] : List (Str × V)) := by
  have e1 : putF "_below" (.ref d1) (putF "_given" (.int n) []) = ([("_given", V.int n), ("_below", V.ref d1)] : List (Str × V)) := by
    show (if ("_given" : Str) = "_below" then [(("_given" : Str), V.ref d1)] else (("_given" : Str), V.int n) :: putF "_below" (V.ref d1) []) = _
    rw [if_neg n_gb]; rfl
  unfold hf
  rw [e1]
  show (if ("_given" : Str) = "_beneath" then _ else (("_given" : Str), V.int n) :: (if ("_below" : Str) = "_beneath" then _ else (("_below" : Str), V.ref d1) :: putF "_beneath" (V.ref d2) [])) = _
  rw [if_neg n_gn, if_neg n_bn]; rfl
theorem hf_len (n : Int) (d1 d2 : Addr) : (hf n d1 d2).length = 3 := by rw [hf_eq]; rfl
theorem hf_n (n : Int) (d1 d2 : Addr) : (hf n d1 d2).lookup ("_beneath" : Str) = some (.ref d2) := by unfold hf; rw [lookup_putF, if_pos rfl]
theorem hf_b (n : Int) (d1 d2 : Addr) : (hf n d1 d2).lookup ("_below" : Str) = some (.ref d1) := by unfold hf; rw [lookup_putF, if_neg n_bn, lookup_putF, if_pos rfl]
theorem hf_g (n : Int) (d1 d2 : Addr) : (hf n d1 d2).lookup ("_given" : Str) = some (.int n) := by unfold hf; rw [lookup_putF, if_neg n_gn, lookup_putF, if_neg n_gb, lookup_putF, if_pos rfl]
theorem hf_no (n : Int) (d1 d2 : Addr) {m : Str} (h1 : ¬ m = "_beneath") (h2 : ¬ m = "_below") (h3 : ¬ m = "_given") : (hf n d1 d2).lookup m = none := by
  unfold hf; rw [lookup_putF, if_neg h1, lookup_putF, if_neg h2, lookup_putF, if_neg h3]; rfl
theorem hf_pg (n m : Int) (d1 d2 : Addr) : putF "_given" (.int m) (hf n d1 d2) = hf m d1 d2 := by
  rw [hf_eq, hf_eq]
  show (if ("_given" : Str) = "_given" then (("_given" : Str), V.int m) :: [(("_below" : Str), V.ref d1), (("_beneath" : Str), V.ref d2)] else _) = _
  rw [if_pos rfl]
theorem hf_pb (n : Int) (d1 d2 e : Addr) : putF "_below" (.ref e) (hf n d1 d2) = hf n e d2 := by
  rw [hf_eq, hf_eq]
  show (if ("_given" : Str) = "_below" then _ else (("_given" : Str), V.int n) :: (if ("_below" : Str) = "_below" then (("_below" : Str), V.ref e) :: [(("_beneath" : Str), V.ref d2)] else _)) = _
  rw [if_neg n_gb, if_pos rfl]
theorem hf_pn (n : Int) (d1 d2 e : Addr) : putF "_beneath" (.ref e) (hf n d1 d2) = hf n d1 e := by
  rw [hf_eq, hf_eq]
  show (if ("_given" : Str) = "_beneath" then _ else (("_given" : Str), V.int n) :: (if ("_below" : Str) = "_beneath" then _ else (("_below" : Str), V.ref d1) :: (if ("_beneath" : Str) = "_beneath" then (("_beneath" : Str), V.ref e) :: [] else _))) = _
  rw [if_neg n_gn, if_neg n_bn, if_pos rfl]
/-- a hall at p, of what stands at F -/
structure HallAt (C : Addr) (H : Hp) (p : Addr) (F : Addr → Prop) (n : Int) (B : BL) (M : MT) : Prop where
  inv : HI n B M
  few : B.length ≤ 24
  ex : ∃ (dx d1 d2 : Addr) (ρ : Int → Addr), H p = some (.ins C dx (hf n d1 d2)) ∧ d1 ≠ d2 ∧ H d1 = some (.dK (kB ρ B)) ∧ H d2 = some (.dK (kI M)) ∧ (∀ b ∈ B, H (ρ b.1) = some (.lst (b.2.map V.int))) ∧ F p ∧ F d1 ∧ F d2 ∧ ∀ b ∈ B, F (ρ b.1)
  dom : ∀ a, F a → ∃ o, H a = some o
theorem HallAt.keep {C : Addr} {H H' : Hp} {p : Addr} {F : Addr → Prop} {n : Int} {B : BL} {M : MT} (h : HallAt C H p F n B M) (k : ∀ b o, F b → H b = some o → H' b = some o) : HallAt C H' p F n B M := by
  obtain ⟨i, fw, ⟨dx, d1, d2, ρ, a1, a2, a3, a4, a5, f1, f2, f3, f4⟩, dm⟩ := h
  exact ⟨i, fw, ⟨dx, d1, d2, ρ, k _ _ f1 a1, a2, k _ _ f2 a3, k _ _ f3 a4, fun b hb => k _ _ (f4 b hb) (a5 b hb), f1, f2, f3, f4⟩, fun a ha => let ⟨o, e⟩ := dm a ha; ⟨o, k _ _ ha e⟩⟩
theorem HallAt.same {C : Addr} {H H' : Hp} {p : Addr} {F : Addr → Prop} {n : Int} {B : BL} {M : MT} (h : HallAt C H p F n B M) (s : Same H H') : HallAt C H' p F n B M := h.keep fun b o _ e => s b o e
theorem HallAt.out {C : Addr} {H : Hp} {p : Addr} {F : Addr → Prop} {n : Int} {B : BL} {M : MT} (h : HallAt C H p F n B M) {a : Addr} (e : H a = none) : ¬ F a := fun f => by
  obtain ⟨o, q⟩ := h.dom a f
  rw [e] at q; cases q
/-- changed at an address that is no part of it -/
theorem HallAt.upd {C : Addr} {H : Hp} {p : Addr} {F : Addr → Prop} {n : Int} {B : BL} {M : MT} (h : HallAt C H p F n B M) {a : Addr} (o : HO) (na : ¬ F a) : HallAt C (upd H a o) p F n B M :=
  h.keep fun b o' f e => by rw [upd_ne (fun (z : b = a) => na (z ▸ f))]; exact e
theorem kB_put {ρ : Int → Addr} {B : BL} {n : Int} {some : List Int} {q : Addr} (nn : n ∉ ks B) : putK (kB ρ B) (Sum.inl n : Key) (.ref q) = kB (fun k => if k = n then q else ρ k) (putB B n some) := by
  rw [putK_new _ (by rw [valV_kB, if_neg nn])]
  unfold kB putB
  rw [List.map_append]
  congr 1
  · apply List.map_congr_left
    intro b hb
    have : b.1 ≠ n := fun e => nn (e ▸ List.mem_map.mpr ⟨b, hb, rfl⟩)
    simp only [if_neg this]
  · simp
theorem inV_ints (x : Int) : ∀ ns : List Int, inV (.int x) (ns.map V.int) = decide (x ∈ ns)
  | [] => by simp [inV]
  | a :: r => by
    have ih := inV_ints x r
    unfold inV at ih ⊢
    rw [List.map_cons, List.any_cons, ih]
    show ((a == x) || decide (x ∈ r)) = decide (x ∈ a :: r)
    by_cases e : a = x
    · subst e; simp
    · have e' : ¬ x = a := fun z => e z.symm
      have : (a == x) = false := by simpa using e
      simp [this, e']
theorem flat_ints (ns : List Int) : (ns.map V.int).all flatV = true := by
  rw [List.all_map]
  exact List.all_eq_true.mpr fun _ _ => rfl
theorem gt_few {n : Int} {B : BL} {M : MT} (h : HI n B M) (x : Int) : (gt B x).length ≤ B.length := by
  by_cases m : x ∈ ks B
  · have e := lk_mem (lk_gt m)
    rw [← len_ks B]
    have nd : (gt B x).Nodup := (h.ls _ e).imp fun {a b} z => Int.ne_of_lt z
    exact nd.length_le_of_subset fun y hy => (h.wf.lo x y hy).2
  · have : gt B x = [] := by unfold gt; rw [lk_none.mpr m]; rfl
    rw [this]; exact Nat.zero_le _
/-- what is asked of the class and the names as the top has made them -/
structure Txt (K : PySem.W.Frag) (mg : Str → Option Value) (C : Addr) : Prop where
  cl : Cls K C
  nG : NoAttr K C "_given"
  nB : NoAttr K C "_below"
  nN : NoAttr K C "_beneath"
  mgC : mg "Hall" = some (.ref C)
  len : mg "len" = none
  sorted : mg "sorted" = none
  type : mg "type" = none
  int : mg "int" = none
  list : mg "list" = none
  set : mg "set" = none
  most : ∃ t, mg "MOST" = some (.int 24 t)
section
variable {P : Program} {w : World} {K : PySem.W.Frag} {mg : Str → Option Value} {base : Heap}
/-! ### __init__ -/
def spInit (C : Addr) : Sp := fun vs H Q _ => ∃ (p dx : Addr), vs = [.ref p] ∧ H p = some (.ins C dx []) ∧ ∀ (F : Addr → Prop) (H' : Hp), HallAt C H' p F 0 [] [] → (∀ b, F b → b = p ∨ H b = none) → (∀ b o, H b = some o → b ≠ p → H' b = some o) → Q .non H'
theorem scInit : FnScope ["self"] ["self"] (defScope sInit) := ⟨rfl, rfl, rfl, by decide +kernel, rfl, by decide +kernel, by decide +kernel⟩
theorem ok_init {f C : Addr} {fd : FuncData} (F : Fun K "__init__" "Hall.__init__" sInit f fd) (T : Txt K mg C) : FnOk P w K mg base CX0 1 f fd ["self"] (spInit C) := by
  refine F.ok scInit (fun vs H Q E h => ?_) (fun cdv A outer s H vs Q E hr h => ?_)
  · obtain ⟨p, dx, rfl, _⟩ := h
    rfl
  · obtain ⟨p, dx, rfl, hp, fin⟩ := h
    refine ⟨_, pss_cons (ps_fld (pv 0) pe_int rfl) (pss_cons (ps_fld (pv 0) pe_dnewK rfl) (pss_one (ps_fld (pv 0) pe_dnewK rfl))), ?_⟩
    refine ⟨_, rfl, p, C, dx, [], rfl, hp, T.cl, T.nG, (by show 0 < 1000; decide), fun d1 hd1 => ?_⟩
    have np1 : p ≠ d1 := ne_of_none upd_same hd1
    refine ⟨_, rfl, p, C, dx, _, rfl, (by rw [upd_ne np1]; exact upd_same), T.cl, T.nB, (by show 1 < 1000; decide), fun d2 hd2 => ?_⟩
    have np2 : p ≠ d2 := ne_of_none upd_same hd2
    have n12 : d1 ≠ d2 := fun e => by rw [← e, upd_ne np1.symm, upd_same] at hd2; cases hd2
    refine ⟨_, rfl, p, C, dx, _, rfl, (by rw [upd_ne np2]; exact upd_same), T.cl, T.nN, (by show 2 < 1000; decide), ?_⟩
    have z1 : H d1 = none := by rw [upd_ne np1.symm] at hd1; exact hd1
    have z2 : H d2 = none := by rw [upd_ne np2.symm, upd_ne n12.symm, upd_ne np2.symm] at hd2; exact hd2
    refine fin (fun a => a = p ∨ a = d1 ∨ a = d2) _ ⟨hi_nil, Nat.zero_le _, ⟨dx, d1, d2, fun _ => 0, upd_same, n12, by rw [upd_ne np1.symm, upd_ne n12, upd_ne np1.symm, upd_same]; rfl, by rw [upd_ne np2.symm, upd_same]; rfl, fun b hb => by simp at hb, .inl rfl, .inr (.inl rfl), .inr (.inr rfl), fun b hb => by simp at hb⟩, ?_⟩ ?_ ?_
    · rintro a (rfl | rfl | rfl)
      · exact ⟨_, upd_same⟩
      · exact ⟨_, by rw [upd_ne np1.symm, upd_ne n12, upd_ne np1.symm, upd_same]⟩
      · exact ⟨_, by rw [upd_ne np2.symm, upd_same]⟩
    · rintro b (rfl | rfl | rfl)
      · exact .inl rfl
      · exact .inr z1
      · exact .inr z2
    · intro b o e nb
      rw [upd_ne nb, upd_ne (ne_of_none e z2), upd_ne nb, upd_ne (ne_of_none e z1), upd_ne nb]; exact e
/-! ### things -/
def spThings (C : Addr) : Sp := fun vs H Q _ => ∃ (p : Addr) (F : Addr → Prop) (n : Int) (B : BL) (M : MT), vs = [.ref p] ∧ HallAt C H p F n B M ∧ ∀ (q : Addr), H q = none → Q (.ref q) (upd H q (.lst ((ks B).map V.int)))
theorem scThings : FnScope ["self"] ["self"] (defScope sThings) := ⟨rfl, rfl, rfl, by decide +kernel, rfl, by decide +kernel, by decide +kernel⟩
theorem ok_things {f C : Addr} {fd : FuncData} (F : Fun K "things" "Hall.things" sThings f fd) (T : Txt K mg C) : FnOk P w K mg base CX0 1 f fd ["self"] (spThings C) := by
  refine F.ok scThings (fun vs H Q E h => ?_) (fun cdv A outer s H vs Q E hr h => ?_)
  · obtain ⟨p, _, _, _, _, rfl, _⟩ := h
    rfl
  · obtain ⟨p, Fp, n, B, M, rfl, hall, fin⟩ := h
    obtain ⟨dx, d1, d2, ρ, a1, a2, a3, a4, a5, f1, f2, f3, f4⟩ := hall.ex
    refine ⟨_, pss_one (ps_ret (pe_callB (call_sortedDI rfl) (by rfl) T.sorted (by decide +kernel) (pa_cons (pe_fld (pv 0) rfl) pa_nil))), ?_⟩
    refine ⟨_, rfl, p, C, dx, _, _, rfl, a1, T.cl, T.nB, hf_b _ _ _, d1, kB ρ B, ks B, rfl, .inl a3, kB_keys ρ B, by rw [len_ks]; have := hall.few; omega, fun ys q hp hle hq => ?_⟩
    obtain rfl : ys = ks B := (srt_uniq hp hle).trans (srt_of hall.inv.up)
    exact fin q hq
/-! ### _check -/
def spCheck (C : Addr) : Sp := fun vs H Q _ => ∃ (p : Addr) (F : Addr → Prop) (n : Int) (B : BL) (M : MT) (x : Int), vs = [.ref p, .int x] ∧ HallAt C H p F n B M ∧ x ∈ ks B ∧ Q .non H
theorem scCheck : FnScope ["self", "one"] ["self", "one"] (defScope sCheck) := ⟨rfl, rfl, rfl, by decide +kernel, rfl, by decide +kernel, by decide +kernel⟩
theorem ok_check {f C : Addr} {fd : FuncData} (F : Fun K "_check" "Hall._check" sCheck f fd) (T : Txt K mg C) : FnOk P w K mg base CX0 1 f fd ["self", "one"] (spCheck C) := by
  refine F.ok scCheck (fun vs H Q E h => ?_) (fun cdv A outer s H vs Q E hr h => ?_)
  · obtain ⟨p, _, _, _, _, _, rfl, _⟩ := h
    rfl
  · obtain ⟨p, Fp, n, B, M, x, rfl, hall, hx, fin⟩ := h
    have hu := hu_of hr
    obtain ⟨dx, d1, d2, ρ, a1, a2, a3, a4, a5, f1, f2, f3, f4⟩ := hall.ex
    refine ⟨_, pss_one (ps_if (pw_or (pt_cmpR op_neTy (pe_callTy call_type1 (by rfl) T.type (by decide +kernel) (pa_cons (pv 1) pa_nil)) (pe_bltn (v := .ty "int") (by rfl) T.int (by decide +kernel) rfl) (nomark _)) (pw_or1 (pt_cmp (pc_dnotin hu (pv 1) (pe_fld (pv 0) rfl))))).pt pss_never pss_nil), ?_⟩
    refine ⟨_, rfl, .int x, "int", rfl, .int x, "int", rfl, rfl, .inl rfl, _, rfl, iteF ?_⟩
    refine ⟨_, rfl, _, rfl, p, C, dx, _, _, rfl, a1, T.cl, T.nB, hf_b _ _ _, d1, _, rfl, DGet.k (k := (Sum.inl x : Key)) a3, _, rfl, ?_⟩
    rw [valV_kB, if_pos hx]
    exact iteF fin
/-! ### _check_some -/
def spCheckSome (C : Addr) : Sp := fun vs H Q _ => ∃ (p h : Addr) (F : Addr → Prop) (n : Int) (B : BL) (M : MT) (xs : List Int), vs = [.ref p, .ref h] ∧ HallAt C H p F n B M ∧ H h = some (.lst (xs.map V.int)) ∧ xs.Nodup ∧ (∀ x ∈ xs, x ∈ ks B) ∧ Q .non H
theorem scCheckSome : FnScope ["self", "some", "one"] ["self", "some"] (defScope sCheckSome) := ⟨rfl, rfl, rfl, by decide +kernel, rfl, by decide +kernel, by decide +kernel⟩
theorem ok_checkSome {f fC C : Addr} {fd fdC : FuncData} (F : Fun K "_check_some" "Hall._check_some" sCheckSome f fd) (T : Txt K mg C) (FC : Fun K "_check" "Hall._check" sCheck fC fdC) (bC : Binds K fdC ["self", "one"] []) (mC : Meth K C "_check" fC) : FnOk P w K mg base CX0 2 f fd ["self", "some"] (spCheckSome C) := by
  have GC : FnOk P w K mg base CX0 1 fC fdC ["self", "one"] (spCheck C) := ok_check FC T
  refine F.ok scCheckSome (fun vs H Q E h => ?_) (fun cdv A outer s H vs Q E hr h => ?_)
  · obtain ⟨p, h, _, _, _, _, _, rfl, _⟩ := h
    rfl
  · obtain ⟨p, h, Fp, n, B, M, xs, rfl, hall, hh, nd, sub, fin⟩ := h
    obtain ⟨dx, d1, d2, ρ, a1, a2, a3, a4, a5, f1, f2, f3, f4⟩ := hall.ex
    have lx : xs.length ≤ 24 := Nat.le_trans (nd.length_le_of_subset fun x hx => sub x hx) (by rw [len_ks]; exact hall.few)
    refine ⟨_, pss_cons (ps_if (pt_cmpR op_neTy (pe_callTy call_type1 (by rfl) T.type (by decide +kernel) (pa_cons (pv 1) pa_nil)) (pe_bltn (v := .ty "list") (by rfl) T.list (by decide +kernel) rfl) (nomark _)) pss_never pss_nil)
      (pss_cons (ps_for PassesOwn.never rfl (pi_list (pv 1)) (pg_name (i := 2) scCheckSome.nd rfl (Or.inl rfl)) (pss_one (ps_expr (pe_meth (pv 0) T.cl mC GC hr bC .nil pass0 (pa_cons (pv 2) pa_nil)))))
      (pss_one (ps_if (pt_cmpR op_lt (RZ.pe_lenSetI (by rfl) T.len (by rfl) T.set (pv 1)) (pe_callB call_len_seq (by rfl) T.len PySem.boot_len (pa_cons (pv 1) pa_nil)) (nomark _)) pss_never pss_nil))), ?_⟩
    refine ⟨_, rfl, .ref h, "list", rfl, .lst (SqL.of hh), "list", rfl, rfl, .inr (.inr (.inr (.inr (.inl rfl)))), _, rfl, iteF ?_⟩
    refine ⟨_, rfl, h, rfl, ⟨_, SqL.of hh⟩, ?_⟩
    refine for_by (n := (xs.map V.int).length) (fun i σ H' => ∃ v, σ = [some (.ref p), some (.ref h), v] ∧ H' = H) ⟨none, rfl, rfl⟩ (fun i σ H' hi ⟨_, _, e⟩ => by rw [e]; exact list_go (SqL.of hh) hi) (fun σ H' ⟨_, _, e⟩ => by rw [e]; exact list_stop (SqL.of hh)) ?_ ?_
    · rintro i y σ H1 H2 hi ⟨v, rfl, rfl⟩ hy
      obtain ⟨rfl, hx⟩ := list_yld (SqL.of hh) hy
      obtain ⟨x, hx2, rfl⟩ := ints_at hx
      exact ⟨_, rfl, p, dx, _, rfl, a1, hf_no _ _ _ (by decide +kernel) (by decide +kernel) (by decide +kernel), _, rfl, p, Fp, n, B, M, x, rfl, hall, sub x (List.mem_of_getElem? hx2), ⟨_, rfl, rfl⟩⟩
    · rintro σ H1 ⟨v, rfl, rfl⟩
      refine ⟨_, rfl, h, xs, rfl, SqL.of hh, nd, by omega, _, rfl, h, _, rfl, .inl (SqL.of hh), _, _, rfl, rfl, _, rfl, ?_⟩
      rw [List.length_map]
      have e : decide ((xs.length : Int) < (xs.length : Int)) = false := by simp
      show if decide ((xs.length : Int) < (xs.length : Int)) = true then _ else _
      rw [e]
      exact iteF fin
end
end FP

set_option Elab.async false
set_option maxRecDepth 100000
namespace FP
open PySem L2 FL FR
section
variable {P : Program} {w : World} {K : PySem.W.Frag} {mg : Str → Option Value} {base : Heap}
/-! ### _all_under -/
def spAllUnder (C : Addr) : Sp := fun vs H Q _ => ∃ (p h : Addr) (F : Addr → Prop) (n : Int) (B : BL) (M : MT) (xs : List Int), vs = [.ref p, .ref h] ∧ HallAt C H p F n B M ∧ H h = some (.lst (xs.map V.int)) ∧ xs.Nodup ∧ (∀ x ∈ xs, x ∈ ks B) ∧
  ∀ (q : Addr) (H' : Hp), Same H H' → H q = none → H' q = some (.lst ((under B xs).map V.int)) → Q (.ref q) H'
theorem scAllUnder : FnScope ["self", "some", "under", "one", "low"] ["self", "some"] (defScope sAllUnder) := ⟨rfl, rfl, rfl, by decide +kernel, rfl, by decide +kernel, by decide +kernel⟩
/-- k lies beneath one of the first i things, or is one of the first j beneath the next -/
def Un (B : BL) (xs : List Int) (i j : Nat) (k : Int) : Prop := (∃ s ∈ xs.take i, k ∈ gt B s) ∨ ∃ s, xs[i]? = some s ∧ k ∈ (gt B s).take j
theorem un_next {B : BL} {xs : List Int} {i : Nat} {s : Int} (h : xs[i]? = some s) (k : Int) : Un B xs i (gt B s).length k ↔ Un B xs (i + 1) 0 k := by
  unfold Un
  rw [take_snoc h, h]
  simp only [List.mem_append, List.mem_singleton, List.take_zero, List.not_mem_nil, and_false, exists_false, or_false]
  constructor
  · rintro (⟨t, ht, hk⟩ | ⟨t, ht, hk⟩)
    · exact ⟨t, .inl ht, hk⟩
    · cases ht; rw [List.take_length] at hk; exact ⟨s, .inr rfl, hk⟩
  · rintro ⟨t, ht | ht, hk⟩
    · exact .inl ⟨t, ht, hk⟩
    · subst ht; exact .inr ⟨t, rfl, by rw [List.take_length]; exact hk⟩
theorem un_step {B : BL} {xs : List Int} {i j : Nat} {s y : Int} (h : xs[i]? = some s) (hy : (gt B s)[j]? = some y) (k : Int) : Un B xs i (j + 1) k ↔ Un B xs i j k ∨ k = y := by
  unfold Un
  rw [h]
  constructor
  · rintro (q | ⟨t, ht, hk⟩)
    · exact .inl (.inl q)
    · cases ht
      rw [take_snoc hy] at hk
      rcases List.mem_append.mp hk with z | z
      · exact .inl (.inr ⟨_, rfl, z⟩)
      · exact .inr (by simpa using z)
  · rintro ((q | ⟨t, ht, hk⟩) | q)
    · exact .inl q
    · cases ht
      exact .inr ⟨_, rfl, by rw [take_snoc hy]; exact List.mem_append_left _ hk⟩
    · exact .inr ⟨_, rfl, by rw [take_snoc hy, q]; simp⟩
theorem ok_allUnder {f fT C : Addr} {fd fdT : FuncData} (F : Fun K "_all_under" "Hall._all_under" sAllUnder f fd) (T : Txt K mg C) (FT : Fun K "things" "Hall.things" sThings fT fdT) (bT : Binds K fdT ["self"] []) (mT : Meth K C "things" fT) : FnOk P w K mg base CX0 2 f fd ["self", "some"] (spAllUnder C) := by
  have GT : FnOk P w K mg base CX0 1 fT fdT ["self"] (spThings C) := ok_things FT T
  refine F.ok scAllUnder (fun vs H Q E h => ?_) (fun cdv A outer s H vs Q E hr h => ?_)
  · obtain ⟨p, h, _, _, _, _, _, rfl, _⟩ := h
    rfl
  · obtain ⟨p, h, Fp, n, B, M, xs, rfl, hall, hh, nd, sub, fin⟩ := h
    have hu := hu_of hr
    obtain ⟨dx, d1, d2, ρ, a1, a2, a3, a4, a5, f1, f2, f3, f4⟩ := hall.ex
    have lx : xs.length ≤ 24 := Nat.le_trans (nd.length_le_of_subset fun x hx => sub x hx) (by rw [len_ks]; exact hall.few)
    have lB := hall.few
    refine ⟨_, pss_cons (ps_set (i := 2) scAllUnder.nd rfl (Or.inr rfl) (pe_dc2 (own := [("one", 3), ("low", 4)]) (vs1 := [4]) (g := gName 3) (g1 := gName 4) (tt := tYes) (tt1 := tYes) (wi1 := iList K (tDGet (tFld K (tVar 0) "_below") (tVar 3))) rfl scAllUnder.nd (pi_list (pv 1))
        (blkOk_by (N := ["self", "some", "under", "one", "low"]) (sc := defScope sAllUnder) (by decide +kernel)) (by decide) (fun _ _ _ _ _ => pg_name (i := 3) scAllUnder.nd rfl (Or.inl rfl)) (fun _ _ _ _ _ => pts_nil)
        (fun _ _ _ _ _ => pi_list (pe_dget hu (pe_fld (pv 0) rfl) (pv 3) (fun _ _ => rfl))) (fun _ _ _ _ _ => pg_name (i := 4) scAllUnder.nd rfl (Or.inl rfl)) (fun _ _ _ _ _ => pts_nil) (fun _ _ _ _ _ => pv 4) (fun _ _ _ _ _ => pe_bl)))
      (pss_one (ps_ret (pe_lc (own := [("one", 3)]) (g := gName 3) (tt := tOr (tTest (tOp (rIn K false) (tVar 3) (tVar 1))) (tB (tDIn (tVar 3) (tVar 2)))) rfl scAllUnder.nd (pi_list (pe_meth0 (pv 0) T.cl mT GT hr bT .nil pass0)) (blkOk_by (N := ["self", "some", "under", "one", "low"]) (sc := defScope sAllUnder) (by decide +kernel))
        (fun _ _ _ _ _ => pg_name (i := 3) scAllUnder.nd rfl (Or.inl rfl)) (fun _ _ _ _ _ => pts_one (pw_or (pt_cmpR op_in_seq (pv 3) (pv 1) (by rfl)) (pw_or1 (pt_cmp (pc_din hu (pv 3) (pv 2))))).pt) (fun _ _ _ _ _ => pv 3)))), ?_⟩
    -- under = {low: True for one in some for low in self._below[one]}
    refine ⟨_, rfl, h, rfl, ⟨_, SqL.of hh⟩, fun D hD => ?_⟩
    refine out_by (n := (xs.map V.int).length) (fun i H1 => Same H H1 ∧ ∃ kvs : List (Key × V), H1 D = some (.dK kvs) ∧ kvs.length ≤ i * 24 ∧ ∀ k : Int, (valV kvs (Sum.inl k : Key)).isSome = true ↔ Un B xs i 0 k)
      ⟨same_new hD, [], upd_same, Nat.zero_le _, fun k => by simp [valV_nil, Un]⟩ (fun i H1 hi q => list_go (SqL.of (q.1 _ _ hh)) hi) (fun H1 q => list_stop (SqL.of (q.1 _ _ hh))) ?_ ?_
    · rintro i x H1 H1' hi ⟨s1, kvs, k1, k2, k3⟩ hy
      obtain ⟨rfl, hx⟩ := list_yld (SqL.of (s1 _ _ hh)) hy
      obtain ⟨one, ho, rfl⟩ := ints_at hx
      have oneB : one ∈ ks B := sub one (List.mem_of_getElem? ho)
      have hls : H (ρ one) = some (.lst ((gt B one).map V.int)) := a5 _ (lk_mem (lk_gt oneB))
      have ii : i < xs.length := by rw [List.length_map] at hi; exact hi
      have lg := Nat.le_trans (gt_few hall.inv one) lB
      refine ⟨rfl, ?_⟩
      refine ⟨_, rfl, p, C, dx, _, _, rfl, s1 _ _ a1, T.cl, T.nB, hf_b _ _ _, _, rfl, d1, .ref (ρ one), rfl, (by have z := DGet.k (k := (Sum.inl one : Key)) (s1 _ _ a3); rw [valV_kB, if_pos oneB] at z; exact z), ρ one, rfl, ⟨_, SqL.of (s1 _ _ hls)⟩, ?_⟩
      refine in_by (n := ((gt B one).map V.int).length) (fun j H2 => Same H H2 ∧ ∃ kvs : List (Key × V), H2 D = some (.dK kvs) ∧ kvs.length ≤ i * 24 + j ∧ ∀ k : Int, (valV kvs (Sum.inl k : Key)).isSome = true ↔ Un B xs i j k)
        ⟨s1, kvs, k1, k2, k3⟩ (fun j H2 hj q => list_go (SqL.of (q.1 _ _ hls)) hj) (fun H2 q => list_stop (SqL.of (q.1 _ _ hls))) ?_ ?_
      · rintro j y H2 H2' hj ⟨s2, kv2, m1, m2, m3⟩ hy2
        obtain ⟨rfl, hx2⟩ := list_yld (SqL.of (s2 _ _ hls)) hy2
        obtain ⟨low, hl, rfl⟩ := ints_at hx2
        have jj : j < (gt B one).length := by rw [List.length_map] at hj; exact hj
        refine ⟨rfl, _, rfl, kv2, .inl low, rfl, m1, small1000 (by omega), same_upd s2 hD, _, upd_same, ?_, fun k => ?_⟩
        · have := length_putK kv2 (Sum.inl low : Key) (.bl true); omega
        · rw [valV_put, un_step ho hl]
          by_cases e : k = low
          · subst e; simp
          · have e' : ¬ (Sum.inl k : Key) = Sum.inl low := fun z => e (Sum.inl.inj z)
            rw [if_neg e', m3 k]; simp [e]
      · rintro H2 ⟨s2, kv2, m1, m2, m3⟩
        rw [List.length_map] at m2 m3
        exact ⟨s2, kv2, m1, by omega, fun k => by rw [m3 k]; exact un_next ho k⟩
    · rintro H1 ⟨s1, kvs, k1, k2, k3⟩
      rw [List.length_map] at k2 k3
      have un : ∀ k : Int, (valV kvs (Sum.inl k : Key)).isSome = true ↔ ∃ s ∈ xs, k ∈ gt B s := fun k => by
        rw [k3 k]
        unfold Un
        rw [List.take_length]
        simp
      -- return [one for one in self.things() if one in some or one in under]
      refine ⟨_, rfl, p, dx, _, rfl, s1 _ _ a1, hf_no _ _ _ (by decide +kernel) (by decide +kernel) (by decide +kernel), p, Fp, n, B, M, rfl, hall.same s1, fun q hq => ⟨q, rfl, ⟨_, SqL.of upd_same⟩, fun L hL => ?_⟩⟩
      have nLq : L ≠ q := fun e => by rw [e, upd_same] at hL; cases hL
      have hL1 : H1 L = none := by rw [upd_ne nLq] at hL; exact hL
      refine lc_by (n := ((ks B).map V.int).length) (fun i H2 => Same H1 H2 ∧ H2 q = some (.lst ((ks B).map V.int)) ∧ H2 L = some (.lst ((((ks B).take i).filter fun x => decide (x ∈ xs ∨ ∃ s ∈ xs, x ∈ gt B s)).map V.int)))
        ⟨same_upd (same_new hq) hL1, by rw [upd_ne nLq.symm]; exact upd_same, upd_same⟩ (fun i H2 hi q2 => list_go (SqL.of q2.2.1) hi) (fun H2 q2 => list_stop (SqL.of q2.2.1)) ?_ ?_
      · rintro i x H2 H2' hi ⟨s2, m1, m2⟩ hy
        obtain ⟨rfl, hx⟩ := list_yld (SqL.of m1) hy
        obtain ⟨one, ho, rfl⟩ := ints_at hx
        have fe : (((ks B).take (i + 1)).filter fun x => decide (x ∈ xs ∨ ∃ s ∈ xs, x ∈ gt B s)) = (((ks B).take i).filter fun x => decide (x ∈ xs ∨ ∃ s ∈ xs, x ∈ gt B s)) ++ (if one ∈ xs ∨ ∃ s ∈ xs, one ∈ gt B s then [one] else []) := by
          rw [take_snoc ho, List.filter_append]
          congr 1
          by_cases c : one ∈ xs ∨ ∃ s ∈ xs, one ∈ gt B s
          · rw [if_pos c]; simp [c]
          · rw [if_neg c]; simp only [List.filter_cons, List.filter_nil]; rw [if_neg (by simpa using c)]
        have small : ((((ks B).take i).filter fun x => decide (x ∈ xs ∨ ∃ s ∈ xs, x ∈ gt B s)).map V.int).length < sizeLine := small1000 (by
          rw [List.length_map]
          have h1 : (((ks B).take i).filter fun x => decide (x ∈ xs ∨ ∃ s ∈ xs, x ∈ gt B s)).length ≤ ((ks B).take i).length := List.length_filter_le _ _
          rw [List.length_take, len_ks] at h1
          omega)
        have tail : (one ∈ xs ∨ ∃ s ∈ xs, one ∈ gt B s) → ∃ acc : List V, H2' L = some (.lst acc) ∧ acc.length < sizeLine ∧ Same H1 (upd H2' L (.lst (acc ++ [.int one]))) ∧ (upd H2' L (.lst (acc ++ [.int one]))) q = some (.lst ((ks B).map V.int)) ∧
            (upd H2' L (.lst (acc ++ [.int one]))) L = some (.lst ((((ks B).take (i + 1)).filter fun x => decide (x ∈ xs ∨ ∃ s ∈ xs, x ∈ gt B s)).map V.int)) := fun c => by
          refine ⟨_, m2, small, same_upd s2 hL1, by rw [upd_ne nLq.symm]; exact m1, ?_⟩
          rw [fe, if_pos c, List.map_append]; exact upd_same
        refine ⟨rfl, _, rfl, _, rfl, h, _, rfl, .inl (SqL.of (s2 _ _ (s1 _ _ hh))), rfl, flat_ints xs, _, rfl, ?_⟩
        show if inV (.int one) (xs.map V.int) = true then _ else _
        rw [inV_ints]
        by_cases c1 : one ∈ xs
        · rw [decide_eq_true c1]
          refine iteT ?_
          obtain ⟨acc, t1, t2, t3, t4, t5⟩ := tail (.inl c1)
          exact ⟨_, rfl, acc, t1, t2, t3, t4, t5⟩
        · rw [decide_eq_false c1]
          refine iteF ⟨_, rfl, _, rfl, D, _, rfl, DGet.k (k := (Sum.inl one : Key)) (s2 _ _ k1), _, rfl, ?_⟩
          by_cases c2 : ∃ s ∈ xs, one ∈ gt B s
          · rw [(un one).mpr c2]
            obtain ⟨acc, t1, t2, t3, t4, t5⟩ := tail (.inr c2)
            exact iteT ⟨_, rfl, acc, t1, t2, t3, t4, t5⟩
          · have : (valV kvs (Sum.inl one : Key)).isSome = false := by
              cases q3 : (valV kvs (Sum.inl one : Key)).isSome with
              | false => rfl
              | true => exact absurd ((un one).mp q3) c2
            rw [this]
            refine iteF ⟨s2, m1, ?_⟩
            rw [fe, if_neg (fun z => z.elim c1 c2), List.append_nil]; exact m2
      · rintro H2 ⟨s2, m1, m2⟩
        rw [List.length_map, List.take_length] at m2
        exact fin L H2 (s1.trans s2) (s1.free hL1) m2
/-! ### put -/
def spPut (C : Addr) : Sp := fun vs H Q _ => ∃ (p h : Addr) (F : Addr → Prop) (n : Int) (B : BL) (M : MT) (xs : List Int), vs = [.ref p, .ref h] ∧ HallAt C H p F n B M ∧ H h = some (.lst (xs.map V.int)) ∧ xs.Nodup ∧ (∀ x ∈ xs, x ∈ ks B) ∧ B.length < 24 ∧
  ∀ (t r : Addr) (F' : Addr → Prop) (H' : Hp), HallAt C H' p F' (n + 1) (putB B n xs) (mfew (putB B n xs) (ks (putB B n xs)) M) → (∀ b o, H b = some o → ¬ F b → H' b = some o) → (∀ b, F' b → F b ∨ H b = none) →
    H t = none → H' t = some (.tup [.int n, .ref r]) → H r = none → PairsAt H' r (mrow (putB B n xs) (ks (putB B n xs)) M) → ¬ F' t → ¬ F' r → Q (.ref t) H'
theorem scPut : FnScope ["self", "some", "number"] ["self", "some"] (defScope sPut) := ⟨rfl, rfl, rfl, by decide +kernel, rfl, by decide +kernel, by decide +kernel⟩
theorem ok_put {f fS fA fM C : Addr} {fd fdS fdA fdM : FuncData} (F : Fun K "put" "Hall.put" sPut f fd) (T : Txt K mg C)
    (GS : FnOk P w K mg base CX0 2 fS fdS ["self", "some"] (spCheckSome C)) (bS : Binds K fdS ["self", "some"] []) (mS : Meth K C "_check_some" fS)
    (GA : FnOk P w K mg base CX0 2 fA fdA ["self", "some"] (spAllUnder C)) (bA : Binds K fdA ["self", "some"] []) (mA : Meth K C "_all_under" fA)
    (GM : FnOk P w K mg base CX0 2 fM fdM ["below", "beneath"] spMakeFewer) (bM : Binds K fdM ["below", "beneath"] []) (mM : mg "make_fewer" = some (.ref fM)) (kM : PySem.W.keepIn K (.ref fM) = true) : FnOk P w K mg base CX0 3 f fd ["self", "some"] (spPut C) := by
  obtain ⟨tk, hmost⟩ := T.most
  refine F.ok scPut (fun vs H Q E h => ?_) (fun cdv A outer s H vs Q E hr h => ?_)
  · obtain ⟨p, h, _, _, _, _, _, rfl, _⟩ := h
    rfl
  · obtain ⟨p, h, Fp, n, B, M, xs, rfl, hall, hh, nd, sub, few, fin⟩ := h
    have hu := hu_of hr
    obtain ⟨dx, d1, d2, ρ, a1, a2, a3, a4, a5, f1, f2, f3, f4⟩ := hall.ex
    have nn : n ∉ ks B := fun m => absurd (hall.inv.lt n m).2 (by omega)
    refine ⟨_, pss_cons (ps_expr (pe_meth (pv 0) T.cl mS GS hr bS .nil pass0 (pa_cons (pv 1) pa_nil)))
      (pss_cons (ps_if (pt_cmpR op_ge (pe_callB call_lenD (by rfl) T.len PySem.boot_len (pa_cons (pe_fld (pv 0) rfl) pa_nil)) (pe_glob (v := .int 24) rfl hmost ⟨_, rfl⟩) (nomark _)) pss_never pss_nil)
      (pss_cons (ps_set (i := 2) scPut.nd rfl (Or.inl rfl) (pe_fld (pv 0) rfl))
      (pss_cons (ps_dput hu (pe_fld (pv 0) rfl) (pv 2) (pe_meth (pv 0) T.cl mA GA hr bA .nil pass0 (pa_cons (pv 1) pa_nil)) rfl)
      (pss_cons (ps_fldaug (pv 0) pe_int in_add)
      (pss_one (ps_ret (pe_tup (pa_cons (pv 2) (pa_cons (pe_call GM hr rfl mM kM bM .nil pass0 (pa_cons (pe_fld (pv 0) rfl) (pa_cons (pe_fld (pv 0) rfl) pa_nil))) pa_nil))))))))), ?_⟩
    have no1 : (hf n d1 d2).lookup ("_check_some" : Str) = none := hf_no _ _ _ (by decide +kernel) (by decide +kernel) (by decide +kernel)
    have no2 : (hf n d1 d2).lookup ("_all_under" : Str) = none := hf_no _ _ _ (by decide +kernel) (by decide +kernel) (by decide +kernel)
    refine ⟨_, rfl, p, dx, _, rfl, a1, no1, _, rfl, p, h, Fp, n, B, M, xs, rfl, hall, hh, nd, sub, ?_⟩
    refine ⟨_, rfl, p, C, dx, _, _, rfl, a1, T.cl, T.nB, hf_b _ _ _, d1, _, rfl, a3, _, _, rfl, rfl, _, rfl, ?_⟩
    have e0 : decide ((24 : Int) ≤ ((kB ρ B).length : Int)) = false := by rw [kB_len]; simp; omega
    show if decide ((24 : Int) ≤ ((kB ρ B).length : Int)) = true then _ else _
    rw [e0]
    refine iteF ?_
    -- number = self._given
    refine ⟨_, rfl, p, C, dx, _, _, rfl, a1, T.cl, T.nG, hf_g _ _ _, ?_⟩
    -- self._below[number] = self._all_under(some)
    refine ⟨_, rfl, p, dx, _, rfl, a1, no2, _, rfl, p, h, Fp, n, B, M, xs, rfl, hall, hh, nd, sub, fun q H1 s1 hq e1 => ?_⟩
    refine ⟨_, rfl, p, C, dx, _, _, rfl, s1 _ _ a1, T.cl, T.nB, hf_b _ _ _, _, rfl, d1, _, rfl, DPut.k (k := (Sum.inl n : Key)) (s1 _ _ a3) (small1000 (by rw [kB_len]; omega)), ?_⟩
    rw [kB_put nn]
    have np1 : p ≠ d1 := ne_of a1 a3 (by intro z; cases z)
    have np2 : p ≠ d2 := ne_of a1 a4 (by intro z; cases z)
    have nq1 : q ≠ d1 := fun e => by rw [e, a3] at hq; cases hq
    have nqp : q ≠ p := fun e => by rw [e, a1] at hq; cases hq
    -- self._given += 1
    refine ⟨_, rfl, p, C, dx, _, _, rfl, by rw [upd_ne np1]; exact s1 _ _ a1, T.cl, T.nG, hf_g _ _ _, _, _, rfl, rfl, dx, _, by rw [upd_ne np1]; exact s1 _ _ a1, by rw [hf_len]; decide, ?_⟩
    rw [hf_pg]
    generalize hρ : (fun k => if k = n then q else ρ k) = ρ'
    have hP : (upd (upd H1 d1 (.dK (kB ρ' (putB B n xs)))) p (.ins C dx (hf (n + 1) d1 d2))) p = some (.ins C dx (hf (n + 1) d1 d2)) := upd_same
    have hD1 : (upd (upd H1 d1 (.dK (kB ρ' (putB B n xs)))) p (.ins C dx (hf (n + 1) d1 d2))) d1 = some (.dK (kB ρ' (putB B n xs))) := by rw [upd_ne np1.symm]; exact upd_same
    have keep : ∀ b o, b ≠ p → b ≠ d1 → H1 b = some o → (upd (upd H1 d1 (.dK (kB ρ' (putB B n xs)))) p (.ins C dx (hf (n + 1) d1 d2))) b = some o := fun b o h1 h2 e => by rw [upd_ne h1, upd_ne h2]; exact e
    generalize upd (upd H1 d1 (.dK (kB ρ' (putB B n xs)))) p (.ins C dx (hf (n + 1) d1 d2)) = H2 at hP hD1 keep ⊢
    have hD2 : H2 d2 = some (.dK (kI M)) := keep _ _ np2.symm a2.symm (s1 _ _ a4)
    have hn : ∀ k ∈ ks B, k < n := fun k hk => (hall.inv.lt k hk).2
    have hi' := hi_put hall.inv sub
    have inB : ∀ b ∈ B, b.1 ≠ n := fun b hb e => nn (e ▸ List.mem_map.mpr ⟨b, hb, rfl⟩)
    have ls' : ∀ b ∈ putB B n xs, H2 (ρ' b.1) = some (.lst (b.2.map V.int)) := fun b hb => by
      rw [← hρ]
      rcases List.mem_append.mp hb with z | z
      · simp only [if_neg (inB b z)]
        have e := s1 _ _ (a5 b z)
        exact keep _ _ (ne_of e (s1 _ _ a1) (by intro z; cases z)) (ne_of e (s1 _ _ a3) (by intro z; cases z)) e
      · have : b = (n, under B xs) := by simpa using z
        rw [this]
        simp only [if_true]
        exact keep _ _ nqp nq1 e1
    have bel : BelowAt H2 d1 ρ' (putB B n xs) := ⟨.inl hD1, ls'⟩
    have su : srt (ks (putB B n xs)) = ks (putB B n xs) := srt_of (up_put xs hall.inv.up hn)
    -- return (number, make_fewer(self._below, self._beneath))
    refine ⟨_, rfl, _, rfl, p, C, dx, _, _, rfl, hP, T.cl, T.nB, hf_b _ _ _, _, rfl, p, C, dx, _, _, rfl, hP, T.cl, T.nN, hf_n _ _ _, d1, d2, ρ', putB B n xs, M, rfl, bel, hD1, hD2, hi'.wf, mw_put hall.inv.mw nn, by rw [len_put]; omega, fun r H3 k3 hr3 hm3 hrow => ?_⟩
    rw [su] at hm3 hrow
    refine ⟨by show 2 ≤ sizeLine; decide, fun t ht => ?_⟩
    have nt2 : t ≠ d2 := fun e => by rw [e, hm3] at ht; cases ht
    have z1 : ∀ b, H2 b = none → H b = none := fun b e => by
      cases q1 : H b with
      | none => rfl
      | some o =>
        by_cases eb : b = p
        · rw [eb, hP] at e; cases e
        · by_cases eb2 : b = d1
          · rw [eb2, hD1] at e; cases e
          · rw [keep b o eb eb2 (s1 _ _ q1)] at e; cases e
    have z2 : ∀ b, H3 b = none → H2 b = none := fun b e => by
      cases q1 : H2 b with
      | none => rfl
      | some o =>
        by_cases eb : b = d2
        · rw [eb, hm3] at e; cases e
        · rw [k3 b o eb q1] at e; cases e
    have n2 : ∀ b ∈ putB B n xs, ρ' b.1 ≠ d2 := fun b hb e => by
      have := ls' b hb
      rw [e, hD2] at this; cases this
    have up3 : ∀ b o, H3 b = some o → (upd H3 t (.tup [.int n, .ref r])) b = some o := fun b o e => by rw [upd_ne (ne_of_none e ht)]; exact e
    refine fin t r (fun a => a = p ∨ a = d1 ∨ a = d2 ∨ ∃ b ∈ putB B n xs, a = ρ' b.1) _ ⟨hi', by rw [len_put]; omega, ⟨dx, d1, d2, ρ', up3 _ _ (k3 _ _ np2 hP), a2, up3 _ _ (k3 _ _ a2 hD1), up3 _ _ hm3, fun b hb => up3 _ _ (k3 _ _ (n2 b hb) (ls' b hb)), .inl rfl, .inr (.inl rfl), .inr (.inr (.inl rfl)), fun b hb => .inr (.inr (.inr ⟨b, hb, rfl⟩))⟩, ?_⟩ ?_ ?_ (z1 _ (z2 _ ht)) upd_same (z1 _ hr3) ?_ ?_ ?_
    · rintro a (rfl | rfl | rfl | ⟨b, hb, rfl⟩)
      · exact ⟨_, up3 _ _ (k3 _ _ np2 hP)⟩
      · exact ⟨_, up3 _ _ (k3 _ _ a2 hD1)⟩
      · exact ⟨_, up3 _ _ hm3⟩
      · exact ⟨_, up3 _ _ (k3 _ _ (n2 b hb) (ls' b hb))⟩
    · intro b o e nf
      refine up3 _ _ (k3 _ _ (fun z => nf (z ▸ f3)) (keep _ _ (fun z => nf (z ▸ f1)) (fun z => nf (z ▸ f2)) (s1 _ _ e)))
    · rintro a (rfl | rfl | rfl | ⟨b, hb, rfl⟩)
      · exact .inl f1
      · exact .inl f2
      · exact .inl f3
      · rw [← hρ]
        rcases List.mem_append.mp hb with z | z
        · simp only [if_neg (inB b z)]; exact .inl (f4 b z)
        · have : b = (n, under B xs) := by simpa using z
          rw [this]
          simp only [if_true]
          exact .inr hq
    · exact PairsAt.same hrow fun b o e => up3 b o e
    · rintro (rfl | rfl | rfl | ⟨b, hb, rfl⟩)
      · rw [k3 _ _ np2 hP] at ht; cases ht
      · rw [k3 _ _ a2 hD1] at ht; cases ht
      · rw [hm3] at ht; cases ht
      · rw [k3 _ _ (n2 b hb) (ls' b hb)] at ht; cases ht
    · rintro (rfl | rfl | rfl | ⟨b, hb, rfl⟩)
      · rw [hP] at hr3; cases hr3
      · rw [hD1] at hr3; cases hr3
      · rw [hD2] at hr3; cases hr3
      · rw [ls' b hb] at hr3; cases hr3
end
end FP

set_option Elab.async false
set_option maxRecDepth 100000
namespace FP
open PySem L2 FL FR
/-- the value that the i-th statement of a def stores; a comprehension's names -/
def nthVal (st : Stmt) (i : Nat) : Expr := match (defBody st).getD i (.Pass ⟨0, 0, 0, 0⟩) with
  | .Assign _ v _ => v
  | _ => .Constant .none 0 ⟨0, 0, 0, 0⟩
def cScope (e : Expr) : Scope := match e with
  | .DictComp _ _ _ s _ => s
  | .ListComp _ _ s _ => s
  | _ => { kind := .function, names := [], isGenerator := false, isCoroutine := false }
theorem kB_take_at {ρ ρ' : Int → Addr} {B : BL} : (∀ b ∈ B, ρ b.1 = ρ' b.1) → kB ρ B = kB ρ' B := fun h => by
  unfold kB
  apply List.map_congr_left
  intro b hb
  rw [h b hb]
/-- the first i rows without x -/
theorem takeB_step {B : BL} {x : Int} {i : Nat} {p : Int × List Int} (h : B[i]? = some p) : takeB (B.take (i + 1)) x = takeB (B.take i) x ++ (if p.1 = x then [] else [(p.1, drop1 x p.2)]) := by
  rw [take_snoc h]
  unfold takeB
  rw [List.filter_append, List.map_append]
  congr 1
  by_cases e : p.1 = x <;> simp [e]
theorem kB_snoc {ρ : Int → Addr} {B : BL} {n : Int} {l : List Int} {q : Addr} (nn : n ∉ ks B) : putK (kB ρ B) (Sum.inl n : Key) (.ref q) = kB (fun k => if k = n then q else ρ k) (B ++ [(n, l)]) := by
  rw [putK_new _ (by rw [valV_kB, if_neg nn])]
  unfold kB
  rw [List.map_append]
  congr 1
  · apply List.map_congr_left
    intro b hb
    have : b.1 ≠ n := fun e => nn (e ▸ List.mem_map.mpr ⟨b, hb, rfl⟩)
    simp only [if_neg this]
  · simp
theorem takeB_new {B : BL} {x : Int} (nd : (ks B).Nodup) {i : Nat} {p : Int × List Int} (h : B[i]? = some p) : p.1 ∉ ks (takeB (B.take i) x) := fun m => by
  rw [ks_take, mem_drop1] at m
  obtain ⟨q, hq, e⟩ := List.mem_map.mp m.1
  obtain ⟨j, hj, ej⟩ := List.getElem_of_mem hq
  have hj' : j < i := by rw [List.length_take] at hj; omega
  obtain ⟨hi, ei⟩ := List.getElem?_eq_some_iff.mp h
  apply (List.pairwise_iff_getElem.mp (show (ks B).Pairwise (· ≠ ·) from nd)) j i (by rw [len_ks]; omega) (by rw [len_ks]; exact hi) hj'
  simp only [ks, List.getElem_map, ei]
  rw [← e, ← ej, List.getElem_take]
theorem drop1_step {x y : Int} {l : List Int} {j : Nat} (h : l[j]? = some y) : drop1 x (l.take (j + 1)) = drop1 x (l.take j) ++ (if y = x then [] else [y]) := by
  rw [take_snoc h]
  unfold drop1
  rw [List.filter_append]
  congr 1
  by_cases e : y = x <;> simp [e]
theorem drop1_le (x : Int) (l : List Int) : (drop1 x l).length ≤ l.length := List.length_filter_le _ _
end FP

set_option Elab.async false
set_option maxRecDepth 100000
namespace FP
open PySem L2 FL FR
section
variable {P : Program} {w : World} {K : PySem.W.Frag} {mg : Str → Option Value} {base : Heap}
def spTake (C : Addr) : Sp := fun vs H Q _ => ∃ (p : Addr) (F : Addr → Prop) (n : Int) (B : BL) (M : MT) (x : Int), vs = [.ref p, .int x] ∧ HallAt C H p F n B M ∧ x ∈ ks B ∧
  ∀ (r : Addr) (F' : Addr → Prop) (H' : Hp), HallAt C H' p F' n (takeB B x) (mfew (takeB B x) (ks (takeB B x)) (gap M x)) → (∀ b o, H b = some o → ¬ F b → H' b = some o) → (∀ b, F' b → F b ∨ H b = none) →
    H r = none → PairsAt H' r (mrow (takeB B x) (ks (takeB B x)) (gap M x)) → ¬ F' r → Q (.ref r) H'
theorem scTake : FnScope ["self", "one", "up", "lows", "low"] ["self", "one"] (defScope sTake) := ⟨rfl, rfl, rfl, by decide +kernel, rfl, by decide +kernel, by decide +kernel⟩
theorem ok_take {f fC fG fM C : Addr} {fd fdC fdG fdM : FuncData} (F : Fun K "take" "Hall.take" sTake f fd) (T : Txt K mg C)
    (GC : FnOk P w K mg base CX0 1 fC fdC ["self", "one"] (spCheck C)) (bC : Binds K fdC ["self", "one"] []) (mC : Meth K C "_check" fC)
    (GG : FnOk P w K mg base CX0 1 fG fdG ["beneath", "one"] spCloseGap) (bG : Binds K fdG ["beneath", "one"] []) (mG : mg "close_gap" = some (.ref fG)) (kG : PySem.W.keepIn K (.ref fG) = true)
    (GM : FnOk P w K mg base CX0 2 fM fdM ["below", "beneath"] spMakeFewer) (bM : Binds K fdM ["below", "beneath"] []) (mM : mg "make_fewer" = some (.ref fM)) (kM : PySem.W.keepIn K (.ref fM) = true) : FnOk P w K mg base CX0 3 f fd ["self", "one"] (spTake C) := by
  refine F.ok scTake (fun vs H Q E h => ?_) (fun cdv A outer s H vs Q E hr h => ?_)
  · obtain ⟨p, _, _, _, _, _, rfl, _⟩ := h
    rfl
  · obtain ⟨p, Fp, n, B, M, x, rfl, hall, hx, fin⟩ := h
    have hu := hu_of hr
    have hr1 : Room 1 _ := hr.mono (by decide)
    obtain ⟨dx, d1, d2, ρ, a1, a2, a3, a4, a5, f1, f2, f3, f4⟩ := hall.ex
    refine ⟨_, pss_cons (ps_expr (pe_meth (pv 0) T.cl mC GC hr1 bC .nil pass0 (pa_cons (pv 1) pa_nil)))
      (pss_cons (ps_fld (pv 0) (pe_lock (pe_dc (own := [("up", 2), ("lows", 3)]) (g := gTup K 2 (gCons (gName 2) (gCons (gName 3) gNil))) (tt := tTest (tOp rNe (tVar 2) (tVar 1))) (tv := tLc (iList K (tVar 3)) (gName 4) (tTest (tOp rNe (tVar 4) (tVar 1))) (tVar 4) [4])
          rfl scTake.nd (pi_items (pe_fld (pv 0) rfl)) (blkOk_by (N := ["self", "one", "up", "lows", "low"]) (sc := defScope sTake) (by decide +kernel)) (fun _ _ _ _ _ => pg_pair 2 3 rfl scTake.nd rfl rfl rfl rfl) (fun _ _ _ _ _ => pts_one (pt_cmpR op_ne (pv 2) (pv 1) (nomark _))) (fun _ _ _ _ _ => pv 2)
          (fun _ _ _ _ _ => pe_lc (own := [("low", 4)]) (g := gName 4) (tt := tTest (tOp rNe (tVar 4) (tVar 1))) (te := tVar 4) rfl scTake.nd (pi_list (pv 3)) (blkOk_by (N := ["self", "one", "up", "lows", "low"]) (sc := relS (cScope (nthVal sTake 1)) (defScope sTake)) (by decide +kernel))
            (fun _ _ _ _ _ => pg_name (i := 4) scTake.nd rfl (Or.inl rfl)) (fun _ _ _ _ _ => pts_one (pt_cmpR op_ne (pv 4) (pv 1) (nomark _))) (fun _ _ _ _ _ => pv 4)))) rfl)
      (pss_cons (ps_fld (pv 0) (pe_call GG hr1 rfl mG kG bG .nil pass0 (pa_cons (pe_fld (pv 0) rfl) (pa_cons (pv 1) pa_nil))) rfl)
      (pss_one (ps_ret (pe_call GM hr rfl mM kM bM .nil pass0 (pa_cons (pe_fld (pv 0) rfl) (pa_cons (pe_fld (pv 0) rfl) pa_nil))))))), ?_⟩
    have no : (hf n d1 d2).lookup ("_check" : Str) = none := hf_no _ _ _ (by decide +kernel) (by decide +kernel) (by decide +kernel)
    have np1 : p ≠ d1 := ne_of a1 a3 (by intro z; cases z)
    have np2 : p ≠ d2 := ne_of a1 a4 (by intro z; cases z)
    refine ⟨_, rfl, p, dx, _, rfl, a1, no, _, rfl, p, Fp, n, B, M, x, rfl, hall, hx, ?_⟩
    -- self._below = {..}
    refine ⟨d1, HO.dK (kB ρ B), a3, trivial, fun od => ⟨_, rfl, p, C, dx, _, _, rfl, by rw [upd_ne np1]; exact a1, T.cl, T.nB, hf_b _ _ _, d1, od, _, rfl, upd_same, fun D hD => ?_⟩⟩
    have nD1 : d1 ≠ D := fun e => by rw [← e, upd_same] at hD; cases hD
    have hD0 : H D = none := by rw [upd_ne nD1.symm] at hD; exact hD
    refine dc_by (n := (kB ρ B).length) (fun i H1 => H1 d1 = some (.frz od (.dK (kB ρ B))) ∧ (∀ b o, b ≠ d1 → H b = some o → H1 b = some o) ∧ ∃ ρ' : Int → Addr, H1 D = some (.dK (kB ρ' (takeB (B.take i) x))) ∧ ∀ b ∈ takeB (B.take i) x, H1 (ρ' b.1) = some (.lst (b.2.map V.int)) ∧ H (ρ' b.1) = none)
      ⟨by rw [upd_ne nD1]; exact upd_same, fun b o nb e => by rw [upd_ne (ne_of_none e hD0), upd_ne nb]; exact e, fun _ => 0, upd_same, fun b hb => by simp [takeB] at hb⟩ (fun i H1 hi q => items_go q.1 hi) (fun H1 q => items_stop q.1) ?_ ?_
    · rintro i y H1 H2 hi ⟨q1, q2, ρ', q3, q4⟩ ⟨Tp, kk, vv, hat, rfl, hT, rfl⟩
      obtain ⟨a, l, hal, rfl, rfl⟩ := kB_at hat
      have inB : (a, l) ∈ B := List.mem_of_getElem? hal
      have ga : gt B a = l := gt_mem hall.inv.wf.nd inB
      have ll : l.length ≤ 24 := by rw [← ga]; exact Nat.le_trans (gt_few hall.inv a) hall.few
      have hla : H (ρ a) = some (.lst (l.map V.int)) := a5 _ inB
      have nla : ρ a ≠ d1 := ne_of hla a3 (by intro z; cases z)
      have nTD : D ≠ Tp := ne_of_none q3 hT
      have t1 : (upd H1 Tp (.tup [kV (Sum.inl a), V.ref (ρ a)])) d1 = some (.frz od (.dK (kB ρ B))) := by rw [upd_ne (ne_of_none q1 hT)]; exact q1
      have t2 : ∀ b o, b ≠ d1 → H b = some o → (upd H1 Tp (.tup [kV (Sum.inl a), V.ref (ρ a)])) b = some o := fun b o nb e => by rw [upd_ne (ne_of_none (q2 b o nb e) hT)]; exact q2 b o nb e
      have t3 : (upd H1 Tp (.tup [kV (Sum.inl a), V.ref (ρ a)])) D = some (.dK (kB ρ' (takeB (B.take i) x))) := by rw [upd_ne nTD]; exact q3
      have t4 : ∀ b ∈ takeB (B.take i) x, (upd H1 Tp (.tup [kV (Sum.inl a), V.ref (ρ a)])) (ρ' b.1) = some (.lst (b.2.map V.int)) ∧ H (ρ' b.1) = none := fun b hb => ⟨by rw [upd_ne (ne_of_none (q4 b hb).1 hT)]; exact (q4 b hb).1, (q4 b hb).2⟩
      refine ⟨Tp, _, rfl, SqT.of upd_same, rfl, _, _, rfl, _, _, rfl, rfl, rfl, ?_⟩
      generalize upd H1 Tp (.tup [kV (Sum.inl a), V.ref (ρ a)]) = H3 at t1 t2 t3 t4 ⊢
      have step := takeB_step (x := x) hal
      refine ⟨_, rfl, _, rfl, rfl, _, rfl, ?_⟩
      refine ite2 (fun c => ?_) (fun c => ?_)
      · have e1 : a ≠ x := fun z => by rw [z] at c; simp [kV] at c
        rw [if_neg e1] at step
        -- [low for low in lows if low != one]
        refine ⟨_, rfl, _, rfl, ρ a, rfl, ⟨_, SqL.of (t2 _ _ nla hla)⟩, fun L hL => ?_⟩
        have hL0 : H L = none := by
          cases z : H L with
          | none => rfl
          | some o =>
            by_cases eb : L = d1
            · rw [eb, t1] at hL; cases hL
            · rw [t2 L o eb z] at hL; cases hL
        have nLD : D ≠ L := ne_of_none t3 hL
        refine lc_by (n := (l.map V.int).length) (fun j H4 => Same H3 H4 ∧ H4 L = some (.lst ((drop1 x (l.take j)).map V.int)))
          ⟨same_new hL, upd_same⟩ (fun j H4 hj q => list_go (SqL.of (q.1 _ _ (t2 _ _ nla hla))) hj) (fun H4 q => list_stop (SqL.of (q.1 _ _ (t2 _ _ nla hla)))) ?_ ?_
        · rintro j z H4 H4' hj ⟨s4, m1⟩ hy
          obtain ⟨rfl, hx2⟩ := list_yld (SqL.of (s4 _ _ (t2 _ _ nla hla))) hy
          obtain ⟨low, hlow, rfl⟩ := ints_at hx2
          have st := drop1_step (x := x) hlow
          refine ⟨rfl, _, rfl, _, rfl, rfl, _, rfl, ?_⟩
          refine ite2 (fun c2 => ?_) (fun c2 => ?_)
          · have e2 : low ≠ x := fun z => by rw [z] at c2; simp at c2
            rw [if_neg e2] at st
            refine ⟨_, rfl, _, m1, small1000 ?_, same_upd s4 hL, ?_⟩
            · rw [List.length_map]
              have := drop1_le x (l.take j)
              rw [List.length_take] at this
              omega
            · rw [st, List.map_append]; exact upd_same
          · have e2 : low = x := Decidable.not_not.mp fun z => c2 (by simp [z])
            rw [if_pos e2] at st
            exact ⟨s4, by rw [st, List.append_nil]; exact m1⟩
        · rintro H4 ⟨s4, m1⟩
          rw [List.length_map, List.take_length] at m1
          have D4 := s4 _ _ t3
          have lt : (takeB (B.take i) x).length ≤ B.length := by
            unfold takeB
            rw [List.length_map]
            refine Nat.le_trans (List.length_filter_le _ _) ?_
            rw [List.length_take]
            omega
          refine ⟨_, .inl a, rfl, D4, small1000 (by rw [kB_len]; have := hall.few; omega), by rw [upd_ne nD1]; exact s4 _ _ t1, fun b o nb e => by rw [upd_ne (ne_of_none e hD0)]; exact s4 _ _ (t2 b o nb e), fun k => if k = a then L else ρ' k, ?_, ?_⟩
          · rw [step, ← kB_snoc (takeB_new hall.inv.wf.nd hal)]; exact upd_same
          · intro b hb
            rw [step] at hb
            rcases List.mem_append.mp hb with z | z
            · have nb : b.1 ≠ a := fun e => takeB_new (x := x) hall.inv.wf.nd hal (e ▸ List.mem_map.mpr ⟨b, z, rfl⟩)
              simp only [if_neg nb]
              have q := t4 b z
              exact ⟨by rw [upd_ne (ne_of (s4 _ _ q.1) D4 (by intro z; cases z))]; exact s4 _ _ q.1, q.2⟩
            · have : b = (a, drop1 x l) := by simpa using z
              rw [this]
              simp only [if_true]
              exact ⟨by rw [upd_ne nLD.symm]; exact m1, hL0⟩
      · have e1 : a = x := by
          have := Decidable.not_not.mp fun z => c (by simpa using z)
          simpa [kV] using this
        rw [if_pos e1, List.append_nil] at step
        exact ⟨t1, t2, ρ', by rw [step]; exact t3, fun b hb => by rw [step] at hb; exact t4 b hb⟩
    · rintro H1 ⟨q1, q2, ρ', q3, q4⟩
      rw [kB_len, List.take_length] at q3 q4
      refine ⟨q1, ?_⟩
      have s2 : Same H (upd H1 d1 (.dK (kB ρ B))) := fun b o e => by
        by_cases eb : b = d1
        · rw [eb] at e ⊢; rw [upd_same, ← e, a3]
        · rw [upd_ne eb]; exact q2 b o eb e
      have hD2 : (upd H1 d1 (.dK (kB ρ B))) D = some (.dK (kB ρ' (takeB B x))) := by rw [upd_ne nD1.symm]; exact q3
      have ls2 : ∀ b ∈ takeB B x, (upd H1 d1 (.dK (kB ρ B))) (ρ' b.1) = some (.lst (b.2.map V.int)) ∧ H (ρ' b.1) = none := fun b hb => by
        obtain ⟨u1, u2⟩ := q4 b hb
        exact ⟨by rw [upd_ne (fun e => by rw [e, a3] at u2; cases u2)]; exact u1, u2⟩
      generalize upd H1 d1 (.dK (kB ρ B)) = H2 at s2 hD2 ls2 ⊢
      have npD : p ≠ D := ne_of (s2 _ _ a1) hD2 (by intro z; cases z)
      refine ⟨_, rfl, p, C, dx, _, rfl, s2 _ _ a1, T.cl, T.nB, by rw [hf_len]; decide, ?_⟩
      rw [hf_pb]
      -- self._beneath = close_gap(self._beneath, one)
      have k3 : ∀ b o, b ≠ p → H2 b = some o → (upd H2 p (.ins C dx (hf n D d2))) b = some o := fun b o nb e => by rw [upd_ne nb]; exact e
      have p3 : (upd H2 p (.ins C dx (hf n D d2))) p = some (.ins C dx (hf n D d2)) := upd_same
      generalize upd H2 p (.ins C dx (hf n D d2)) = H3 at k3 p3 ⊢
      have lenM : M.length ≤ 24 := by
        rw [← len_ks M]
        exact Nat.le_trans (hall.inv.mw.nd.length_le_of_subset fun y hy => hall.inv.mw.sub hy) (by rw [len_ks]; exact hall.few)
      refine ⟨_, rfl, p, C, dx, _, _, rfl, p3, T.cl, T.nN, hf_n _ _ _, _, rfl, d2, M, x, rfl, k3 _ _ np2.symm (s2 _ _ a4), hall.inv.mw.nd, by omega, fun g H4 s4 hg eg => ?_⟩
      refine ⟨_, rfl, p, C, dx, _, rfl, s4 _ _ p3, T.cl, T.nN, by rw [hf_len]; decide, ?_⟩
      rw [hf_pn]
      have npg : p ≠ g := ne_of_none p3 hg
      have nDg : D ≠ g := ne_of_none (k3 _ _ npD.symm hD2) hg
      have k5 : ∀ b o, b ≠ p → H4 b = some o → (upd H4 p (.ins C dx (hf n D g))) b = some o := fun b o nb e => by rw [upd_ne nb]; exact e
      have p5 : (upd H4 p (.ins C dx (hf n D g))) p = some (.ins C dx (hf n D g)) := upd_same
      generalize upd H4 p (.ins C dx (hf n D g)) = H5 at k5 p5 ⊢
      have hg0 : H g = none := by
        cases z : H g with
        | none => rfl
        | some o => rw [k3 _ _ npg.symm (s2 _ _ z)] at hg; cases hg
      have D5 : H5 D = some (.dK (kB ρ' (takeB B x))) := k5 _ _ npD.symm (s4 _ _ (k3 _ _ npD.symm hD2))
      have g5 : H5 g = some (.dK (kI (gap M x))) := k5 _ _ npg.symm eg
      have np : ∀ b ∈ takeB B x, ρ' b.1 ≠ p := fun b hb e => by have := (ls2 b hb).2; rw [e, a1] at this; cases this
      have ls5 : ∀ b ∈ takeB B x, H5 (ρ' b.1) = some (.lst (b.2.map V.int)) := fun b hb => k5 _ _ (np b hb) (s4 _ _ (k3 _ _ (np b hb) (ls2 b hb).1))
      have hi' := hi_take hall.inv hx
      have su : srt (ks (takeB B x)) = ks (takeB B x) := srt_of hi'.up
      have lt : (takeB B x).length + 1 = B.length := len_take hall.inv.wf hx
      -- return make_fewer(self._below, self._beneath)
      refine ⟨_, rfl, p, C, dx, _, _, rfl, p5, T.cl, T.nB, hf_b _ _ _, _, rfl, p, C, dx, _, _, rfl, p5, T.cl, T.nN, hf_n _ _ _, D, g, ρ', takeB B x, gap M x, rfl, ⟨.inl D5, ls5⟩, D5, g5, hi'.wf, mw_gap hall.inv.wf hall.inv.mw x, by have := hall.few; omega, fun r H6 k6 hr6 hm6 hrow => ?_⟩
      rw [su] at hm6 hrow
      have ng : ∀ b ∈ takeB B x, ρ' b.1 ≠ g := fun b hb e => by have := ls5 b hb; rw [e, g5] at this; cases this
      have z5 : H r = none := by
        cases z : H r with
        | none => rfl
        | some o =>
          by_cases eb : r = p
          · rw [eb, p5] at hr6; cases hr6
          · rw [k5 _ _ eb (s4 _ _ (k3 _ _ eb (s2 _ _ z)))] at hr6; cases hr6
      refine fin r (fun a => a = p ∨ a = D ∨ a = g ∨ ∃ b ∈ takeB B x, a = ρ' b.1) H6 ⟨hi', by have := hall.few; omega, ⟨dx, D, g, ρ', k6 _ _ npg p5, nDg, k6 _ _ nDg D5, hm6, fun b hb => k6 _ _ (ng b hb) (ls5 b hb), .inl rfl, .inr (.inl rfl), .inr (.inr (.inl rfl)), fun b hb => .inr (.inr (.inr ⟨b, hb, rfl⟩))⟩, ?_⟩ ?_ ?_ z5 hrow ?_
      · rintro a (rfl | rfl | rfl | ⟨b, hb, rfl⟩)
        · exact ⟨_, k6 _ _ npg p5⟩
        · exact ⟨_, k6 _ _ nDg D5⟩
        · exact ⟨_, hm6⟩
        · exact ⟨_, k6 _ _ (ng b hb) (ls5 b hb)⟩
      · intro b o e nf
        have nb : b ≠ p := fun z => nf (z ▸ f1)
        exact k6 _ _ (fun z => by rw [z, hg0] at e; cases e) (k5 _ _ nb (s4 _ _ (k3 _ _ nb (s2 _ _ e))))
      · rintro a (rfl | rfl | rfl | ⟨b, hb, rfl⟩)
        · exact .inl f1
        · exact .inr hD0
        · exact .inr hg0
        · exact .inr (ls2 b hb).2
      · rintro (rfl | rfl | rfl | ⟨b, hb, rfl⟩)
        · rw [p5] at hr6; cases hr6
        · rw [D5] at hr6; cases hr6
        · rw [g5] at hr6; cases hr6
        · rw [ls5 b hb] at hr6; cases hr6
end
end FP

set_option Elab.async false
set_option maxRecDepth 100000
namespace FP
open PySem L2 FL FR
/-! ### the law's own defs -/
def mixed (c k : Int) : Int := (c % 2147483647 * 48271 + 7919 * k * k + 31) % 1000003
section
variable {P : Program} {w : World} {K : PySem.W.Frag} {mg : Str → Option Value} {base : Heap}
def spMixed : Sp := fun vs H Q _ => ∃ c k : Int, vs = [.int c, .int k] ∧ 0 ≤ k ∧ k ≤ 100000 ∧ Q (.int (mixed c k)) H
theorem scMixed : FnScope ["_law_cell", "_law_k"] ["_law_cell", "_law_k"] (defScope sMixed) := ⟨rfl, rfl, rfl, by decide +kernel, rfl, by decide +kernel, by decide +kernel⟩
theorem ok_mixed {f : Addr} {fd : FuncData} (F : Fun K "_law_mixed" "_law_mixed" sMixed f fd) : FnOk P w K mg base CX0 1 f fd ["_law_cell", "_law_k"] spMixed := by
  refine F.ok scMixed (fun vs H Q E h => ?_) (fun cdv A outer s H vs Q E hr h => ?_)
  · obtain ⟨c, k, rfl, _⟩ := h
    rfl
  · obtain ⟨c, k, rfl, h0, h1, fin⟩ := h
    refine ⟨_, pss_one (ps_ret (pe_op op_mod (pe_op op_add (pe_op op_add (pe_op op_mul (pe_op op_mod (pv 0) pe_int) pe_int) (pe_op op_mul (pe_op op_mul pe_int (pv 1)) (pv 1))) pe_int) pe_int)), ?_⟩
    refine ⟨_, rfl, _, _, rfl, rfl, (by show (0 : Int) < 2147483647; decide), _, _, rfl, rfl, .inr ⟨by decide, by decide⟩, _, rfl, _, _, rfl, rfl, .inl ⟨by decide, by decide⟩, _, rfl, _, _, rfl, rfl, .inr ⟨by omega, by omega⟩, _, _, rfl, rfl, _, _, rfl, rfl, _, _, rfl, rfl, (by show (0 : Int) < 1000003; decide), fin⟩
/-! some of the things -/
def spSome : Sp := fun vs H Q _ => ∃ (a : Addr) (c : Int) (ts : List Int), vs = [.ref a, .int c] ∧ H a = some (.lst (ts.map V.int)) ∧ ts.length ≤ 100 ∧
  ∀ (q : Addr) (xs : List Int) (H' : Hp), Same H H' → H q = none → H' q = some (.lst (xs.map V.int)) → (ts.Nodup → xs.Nodup) → (∀ x ∈ xs, x ∈ ts) → Q (.ref q) H'
theorem scSome : FnScope ["_law_things", "_law_cell", "_law_part", "_law_some_here", "_law_k", "_law_one"] ["_law_things", "_law_cell"] (defScope sSome) := ⟨rfl, rfl, rfl, by decide +kernel, rfl, by decide +kernel, by decide +kernel⟩
theorem ok_some {f fM : Addr} {fd fdM : FuncData} (F : Fun K "_law_some" "_law_some" sSome f fd) (FM : Fun K "_law_mixed" "_law_mixed" sMixed fM fdM) (bM : Binds K fdM ["_law_cell", "_law_k"] []) (mM : mg "_law_mixed" = some (.ref fM)) (mE : mg "enumerate" = none) : FnOk P w K mg base CX0 2 f fd ["_law_things", "_law_cell"] spSome := by
  have GM : FnOk P w K mg base CX0 1 fM fdM ["_law_cell", "_law_k"] spMixed := ok_mixed FM
  refine F.ok scSome (fun vs H Q E h => ?_) (fun cdv A outer s H vs Q E hr h => ?_)
  · obtain ⟨_, _, _, rfl, _⟩ := h
    rfl
  · obtain ⟨a, c, ts, rfl, ha, hl, fin⟩ := h
    refine ⟨_, pss_cons (ps_set (i := 2) scSome.nd rfl (Or.inr rfl) (pe_op op_add pe_int (pe_op op_mod (pv 1) pe_int)))
      (pss_cons (ps_setLc (i := 3) (own := [("_law_k", 4), ("_law_one", 5)]) (g := gTup K 2 (gCons (gName 4) (gCons (gName 5) gNil))) (tt := tTest (tOp rEq (tOp (rI (fun _ j => 0 < j) fun i j => .int (i % j)) (tOp (rI CDiv fun i j => .int (i / j)) (tCall spMixed [] E0 (tCons (tVar 1) (tCons (tVar 4) tNil))) (tC (.int 7))) (tVar 2)) (tC (.int 0)))) rfl scSome.nd rfl rfl (sw_true rfl rfl rfl (by decide +kernel)) (pi_enum (by rfl) mE (pa_cons (pv 0) pa_nil))
          (blkOk_by (N := ["_law_things", "_law_cell", "_law_part", "_law_some_here", "_law_k", "_law_one"]) (sc := defScope sSome) (by decide +kernel)) (fun _ _ _ _ _ => pg_pair 4 5 rfl scSome.nd rfl rfl rfl rfl)
          (fun _ _ _ _ _ => pts_one (pt_cmpR op_eq (pe_op op_mod (pe_op op_fdiv (pe_call GM hr rfl mM FM.kp bM .nil pass0 (pa_cons (pv 1) (pa_cons (pv 4) pa_nil))) pe_int) (pv 2)) pe_int (nomark _))) (fun _ _ _ _ _ => pv 5))
      (pss_cons (ps_if (pt_cmpR op_eq (pe_op op_mod (pe_op op_fdiv (pe_call GM hr rfl mM FM.kp bM .nil pass0 (pa_cons (pv 1) (pa_cons pe_int pa_nil))) pe_int) pe_int) pe_int (nomark _)) (pss_one (ps_set (i := 3) scSome.nd rfl (Or.inl rfl) (pe_revL (pv 3)))) pss_nil)
      (pss_one (ps_ret (pv 3))))), ?_⟩
    have pos5 : (0 : Int) < 2 + c % 5 := by omega
    refine ⟨_, rfl, _, _, rfl, rfl, (by show (0 : Int) < 5; decide), _, _, rfl, rfl, ?_⟩
    refine ⟨_, rfl, a, _, rfl, SqL.of ha, fun L hL => ?_⟩
    refine lc_by (n := (ts.map V.int).length) (fun i H1 => Same H H1 ∧ ∃ xs : List Int, H1 L = some (.lst (xs.map V.int)) ∧ xs.Sublist (ts.take i)) ⟨same_new hL, [], upd_same, List.nil_sublist _⟩
      (fun i H1 hi q => enum_go (SqL.of (q.1 _ _ ha)) hi) (fun H1 q => enum_stop (SqL.of (q.1 _ _ ha))) ?_ ?_
    · rintro i y H1 H2 hi ⟨s1, xs, m1, m2⟩ ⟨Tp, x, rfl, hT, rfl, hx⟩
      obtain ⟨one, ho, rfl⟩ := ints_at (hx _ (SqL.of (s1 _ _ ha)))
      have ii : i < ts.length := by rw [List.length_map] at hi; exact hi
      have s2 : Same H (upd H1 Tp (.tup [.int (i : Nat), V.int one])) := same_upd s1 (s1.free hT)
      have n1 : (upd H1 Tp (.tup [.int (i : Nat), V.int one])) L = some (.lst (xs.map V.int)) := by rw [upd_ne (ne_of_none m1 hT)]; exact m1
      refine ⟨Tp, _, rfl, SqT.of upd_same, rfl, _, _, rfl, _, _, rfl, rfl, rfl, ?_⟩
      generalize upd H1 Tp (.tup [.int (i : Nat), V.int one]) = H2 at s2 n1 ⊢
      have sub : xs.Sublist (ts.take (i + 1)) := by rw [take_snoc ho]; exact m2.trans (List.sublist_append_left _ _)
      refine ⟨_, rfl, _, rfl, c, _, rfl, by omega, by omega, _, _, rfl, rfl, ⟨by decide, by decide⟩, _, rfl, _, _, rfl, rfl, pos5, rfl, _, rfl, ?_⟩
      refine ite2 (fun _ => ?_) (fun _ => ⟨s2, xs, n1, sub⟩)
      refine ⟨_, rfl, _, n1, small1000 ?_, same_upd s2 hL, xs ++ [one], by rw [List.map_append]; exact upd_same, ?_⟩
      · rw [List.length_map]
        have := m2.length_le
        rw [List.length_take] at this
        omega
      · rw [take_snoc ho]; exact m2.append (List.Sublist.refl _)
    · rintro H1 ⟨s1, xs, m1, m2⟩
      rw [List.length_map, List.take_length] at m2
      refine ⟨_, rfl, c, 99, rfl, by decide, by decide, _, _, rfl, rfl, ⟨by decide, by decide⟩, _, _, rfl, rfl, (by show (0 : Int) < 2; decide), rfl, _, rfl, ?_⟩
      refine ite2 (fun _ => ?_) (fun _ => ?_)
      · refine ⟨_, rfl, L, _, rfl, SqL.of m1, fun q hq => ?_⟩
        refine ⟨_, rfl, fin q xs.reverse _ (same_upd s1 (s1.free hq)) (s1.free hq) (by rw [List.map_reverse]; exact upd_same) (fun nd => ?_) (fun x hx => m2.subset (List.mem_reverse.mp hx))⟩
        exact (List.reverse_perm xs).nodup_iff.mpr (nd.sublist m2)
      · exact ⟨_, rfl, fin L xs H1 s1 hL m1 (fun nd => nd.sublist m2) fun x hx => m2.subset hx⟩
/-! below: a thing more -/
def spGrown : Sp := fun vs H Q _ => ∃ (dl h : Addr) (ρ : Int → Addr) (B : BL) (one : Int) (xs : List Int), vs = [.ref dl, .int one, .ref h] ∧ H dl = some (.dK (kB ρ B)) ∧ (∀ b ∈ B, H (ρ b.1) = some (.lst (b.2.map V.int))) ∧ H h = some (.lst (xs.map V.int)) ∧ WF B ∧
  (ks B).Pairwise (· < ·) ∧ (∀ b ∈ B, b.2.Pairwise (· < ·)) ∧ one ∉ ks B ∧ (∀ x ∈ xs, x ∈ ks B) ∧ xs.Nodup ∧ B.length ≤ 24 ∧
  ∀ (ρ' : Int → Addr) (H' : Hp), H' dl = some (.dK (kB ρ' (putB B one xs))) → (∀ b ∈ putB B one xs, H' (ρ' b.1) = some (.lst (b.2.map V.int)) ∧ ((∃ b0 ∈ B, ρ' b.1 = ρ b0.1) ∨ H (ρ' b.1) = none)) → (∀ b o, b ≠ dl → H b = some o → H' b = some o) → Q .non H'
theorem lists_few {B : BL} (wf : WF B) (ls : ∀ b ∈ B, b.2.Pairwise (· < ·)) (x : Int) : (gt B x).length ≤ B.length := by
  by_cases m : x ∈ ks B
  · have e := lk_mem (lk_gt m)
    rw [← len_ks B]
    have nd : (gt B x).Nodup := (ls _ e).imp fun {a b} z => Int.ne_of_lt z
    exact nd.length_le_of_subset fun y hy => (wf.lo x y hy).2
  · have : gt B x = [] := by unfold gt; rw [lk_none.mpr m]; rfl
    rw [this]; exact Nat.zero_le _
theorem scGrown : FnScope ["_law_below", "_law_one", "_law_some_here", "_law_found", "_law_other"] ["_law_below", "_law_one", "_law_some_here"] (defScope sGrown) := ⟨rfl, rfl, rfl, by decide +kernel, rfl, by decide +kernel, by decide +kernel⟩
theorem ok_grown {f : Addr} {fd : FuncData} (F : Fun K "_law_grown" "_law_grown" sGrown f fd) (mL : mg "list" = none) (mS : mg "sorted" = none) (mSet : mg "set" = none) : FnOk P w K mg base CX0 1 f fd ["_law_below", "_law_one", "_law_some_here"] spGrown := by
  refine F.ok scGrown (fun vs H Q E h => ?_) (fun cdv A outer s H vs Q E hr h => ?_)
  · obtain ⟨_, _, _, _, _, _, rfl, _⟩ := h
    rfl
  · obtain ⟨dl, h, ρ, B, one, xs, rfl, hd, hls, hh, wf, up, ls, nn, sub, nd, few, fin⟩ := h
    have hu := hu_of hr
    have lx : xs.length ≤ 24 := Nat.le_trans (nd.length_le_of_subset fun x hx => sub x hx) (by rw [len_ks]; exact few)
    refine ⟨_, pss_cons (ps_set (i := 3) scGrown.nd rfl (Or.inl rfl) (pe_callTy call_list_of (by rfl) mL (by decide +kernel) (pa_cons (pv 2) pa_nil)))
      (pss_cons (ps_for PassesOwn.never rfl (pi_list (pv 2)) (pg_name (i := 4) scGrown.nd rfl (Or.inl rfl)) (pss_one (ps_expr (pe_bm PySem.F.plainAttrs_list PySem.F.slot_list_extend PySem.F.type_list_extend mt_extend (pv 3) (pa_cons (pe_dget hu (pv 0) (pv 4) (fun _ _ => rfl)) pa_nil)))))
      (pss_one (ps_dput hu (pv 0) (pv 1) (pe_callB (cr_sortedSet rfl) (by rfl) mS (by decide +kernel) (pa_cons (pe_callTy (cr_setL rfl) (by rfl) mSet (by decide +kernel) (pa_cons (pv 3) pa_nil)) pa_nil)) rfl))), ?_⟩
    refine ⟨_, rfl, h, _, rfl, .inl (SqL.of hh), fun L hL => ?_⟩
    have s1 : Same H (upd H L (.lst (xs.map V.int))) := same_new hL
    refine ⟨_, rfl, h, rfl, ⟨_, SqL.of (s1 _ _ hh)⟩, ?_⟩
    refine for_by (n := (xs.map V.int).length) (fun i σ H1 => ∃ v fs, σ = [some (.ref dl), some (.int one), some (.ref h), some (.ref L), v] ∧ Same H H1 ∧ H1 L = some (.lst (fs.map V.int)) ∧ fs.length ≤ 24 + i * 24 ∧ ∀ k : Int, k ∈ fs ↔ k ∈ xs ∨ ∃ s ∈ xs.take i, k ∈ gt B s)
      ⟨none, xs, rfl, s1, upd_same, by omega, fun k => by simp⟩ (fun i σ H1 hi ⟨_, _, _, q, _⟩ => list_go (SqL.of (q _ _ hh)) hi) (fun σ H1 ⟨_, _, _, q, _⟩ => list_stop (SqL.of (q _ _ hh))) ?_ ?_
    · rintro i y σ H1 H1' hi ⟨v, fs, rfl, s2, m1, m2, m3⟩ hy
      obtain ⟨rfl, hx⟩ := list_yld (SqL.of (s2 _ _ hh)) hy
      obtain ⟨x, hx2, rfl⟩ := ints_at hx
      have xB : x ∈ ks B := sub x (List.mem_of_getElem? hx2)
      have inB : (x, gt B x) ∈ B := lk_mem (lk_gt xB)
      have lg : (gt B x).length ≤ 24 := Nat.le_trans (lists_few wf ls x) few
      have hi2 : i < xs.length := by rw [List.length_map] at hi; exact hi
      refine ⟨_, rfl, .inl ⟨rfl, _, SqL.of m1⟩, _, rfl, _, rfl, dl, .ref (ρ x), rfl, (by have z := DGet.k (k := (Sum.inl x : Key)) (s2 _ _ hd); rw [valV_kB, if_pos xB] at z; exact z), L, ρ x, _, _, rfl, rfl, m1, s2 _ _ (hls _ inB), ?_, ?_⟩
      · rw [List.length_map, List.length_map]
        exact Nat.le_of_lt (small1000 (by show fs.length + (gt B x).length ≤ 1000; omega))
      · refine ⟨_, fs ++ gt B x, rfl, same_upd s2 hL, by rw [List.map_append]; exact upd_same, by rw [List.length_append]; omega, fun k => ?_⟩
        rw [List.mem_append, m3 k, take_snoc hx2]
        simp only [List.mem_append, List.mem_singleton]
        constructor
        · rintro ((q | ⟨s, hs, q⟩) | q)
          · exact .inl q
          · exact .inr ⟨s, .inl hs, q⟩
          · exact .inr ⟨x, .inr rfl, q⟩
        · rintro (q | ⟨s, hs | hs, q⟩)
          · exact .inl (.inl q)
          · exact .inl (.inr ⟨s, hs, q⟩)
          · subst hs; exact .inr q
    · rintro σ H1 ⟨v, fs, rfl, s2, m1, m2, m3⟩
      rw [List.length_map] at m2 m3
      rw [List.take_length] at m3
      have un : ∀ k : Int, k ∈ fs ↔ k ∈ under B xs := fun k => by rw [m3 k, mem_under sub wf]
      have ulen : (under B xs).length ≤ 24 := Nat.le_trans (List.length_filter_le _ _) (by rw [len_ks]; exact few)
      -- below[one] = sorted(set(found))
      refine ⟨_, rfl, L, fs, rfl, SqL.of m1, by omega, fun p d hp dnd dm => ?_⟩
      have dlen : d.length ≤ 24 := Nat.le_trans (dnd.length_le_of_subset fun k hk => (un k).mp ((dm k).mp hk)) ulen
      refine ⟨p, _, _, rfl, upd_same, by omega, fun ns q hup hmem _ hq => ?_⟩
      have e : ns = under B xs := by
        have e1 : ns.Perm (under B xs) := (List.perm_ext_iff_of_nodup (hup.imp fun {a b} z => Int.ne_of_lt z) ((up.sublist List.filter_sublist).imp fun {a b} z => Int.ne_of_lt z)).mpr fun k => (hmem k).trans ((decide_eq_true_iff).trans (un k))
        exact e1.eq_of_pairwise (fun a b _ _ x y => by omega) hup (up.sublist List.filter_sublist)
      subst e
      have s3 : Same H (upd (upd H1 p (SetO w p (fun j => decide (j ∈ fs)) d.length)) q (.lst ((under B xs).map V.int))) := same_upd (same_upd s2 (s2.free hp)) ((same_upd s2 (s2.free hp)).free hq)
      have hq0 : H q = none := (same_upd s2 (s2.free hp)).free hq
      have eq : (upd (upd H1 p (SetO w p (fun j => decide (j ∈ fs)) d.length)) q (.lst ((under B xs).map V.int))) q = some (.lst ((under B xs).map V.int)) := upd_same
      have nq : q ≠ dl := fun z => by rw [z, hd] at hq0; cases hq0
      refine ⟨_, rfl, _, rfl, dl, _, rfl, DPut.k (k := (Sum.inl one : Key)) (s3 _ _ hd) (small1000 (by rw [kB_len]; omega)), ?_⟩
      rw [kB_put nn]
      refine fin (fun k => if k = one then q else ρ k) _ upd_same (fun b hb => ?_) fun b o nb e => by rw [upd_ne nb]; exact s3 _ _ e
      rcases List.mem_append.mp hb with z | z
      · have nb : b.1 ≠ one := fun e => nn (e ▸ List.mem_map.mpr ⟨b, z, rfl⟩)
        simp only [if_neg nb]
        exact ⟨by rw [upd_ne (ne_of (hls b z) hd (by intro z; cases z))]; exact s3 _ _ (hls b z), .inl ⟨b, z, rfl⟩⟩
      · have : b = (one, under B xs) := by simpa using z
        rw [this]
        simp only [if_true]
        exact ⟨by rw [upd_ne nq]; exact eq, .inr hq0⟩
/-! below: a thing fewer -/
def kK (ρ : Int → Addr) (l : List Int) : List (Key × V) := l.map fun k => (Sum.inl k, V.ref (ρ k))
theorem kB_kK (ρ : Int → Addr) (B : BL) : kB ρ B = kK ρ (ks B) := by simp [kB, kK, ks, List.map_map, Function.comp_def]
theorem kK_val (ρ : Int → Addr) (k : Int) (l : List Int) : valV (kK ρ l) (.inl k : Key) = if k ∈ l then some (.ref (ρ k)) else none := by
  have h := valV_kB ρ k (l.map fun z => (z, []))
  have e : ks (l.map fun z => ((z, []) : Int × List Int)) = l := by simp [ks, List.map_map, Function.comp_def]
  rw [kB_kK, e] at h
  exact h
theorem kK_put {ρ : Int → Addr} {l : List Int} {k : Int} {q : Addr} (h : k ∈ l) : putK (kK ρ l) (Sum.inl k : Key) (.ref q) = kK (fun z => if z = k then q else ρ z) l := by
  unfold putK
  rw [if_pos (by rw [valV_any, kK_val, if_pos h]; rfl)]
  unfold kK
  rw [List.map_map]
  apply List.map_congr_left
  intro z _
  simp only [Function.comp]
  by_cases e : z = k
  · subst e; simp
  · have e' : ¬ (Sum.inl z : Key) = Sum.inl k := fun y => e (Sum.inl.inj y)
    simp [e, e']
theorem kB_drop (ρ : Int → Addr) (B : BL) (x : Int) : dropK (kB ρ B) (Sum.inl x : Key) = kK ρ (drop1 x (ks B)) := by
  rw [kB_kK]
  unfold dropK kK drop1
  rw [List.filter_map]
  congr 1
  apply List.filter_congr
  intro z _
  by_cases e : z = x
  · subst e; simp
  · have e' : ¬ (Sum.inl z : Key) = Sum.inl x := fun y => e (Sum.inl.inj y)
    simp [e, e']
def spFewer : Sp := fun vs H Q _ => ∃ (dl : Addr) (ρ : Int → Addr) (B : BL) (x : Int), vs = [.ref dl, .int x] ∧ H dl = some (.dK (kB ρ B)) ∧ (∀ b ∈ B, H (ρ b.1) = some (.lst (b.2.map V.int))) ∧ WF B ∧ (∀ b ∈ B, b.2.Pairwise (· < ·)) ∧ x ∈ ks B ∧ B.length ≤ 24 ∧
  ∀ (ρ' : Int → Addr) (H' : Hp), H' dl = some (.dK (kB ρ' (takeB B x))) → (∀ b ∈ takeB B x, H' (ρ' b.1) = some (.lst (b.2.map V.int)) ∧ H (ρ' b.1) = none) → (∀ b o, b ≠ dl → H b = some o → H' b = some o) → Q .non H'
theorem scFewer : FnScope ["_law_below", "_law_one", "_law_other", "_law_low"] ["_law_below", "_law_one"] (defScope sFewer) := ⟨rfl, rfl, rfl, by decide +kernel, rfl, by decide +kernel, by decide +kernel⟩
theorem ok_fewer {f : Addr} {fd : FuncData} (F : Fun K "_law_fewer" "_law_fewer" sFewer f fd) (mL : mg "list" = none) : FnOk P w K mg base CX0 1 f fd ["_law_below", "_law_one"] spFewer := by
  refine F.ok scFewer (fun vs H Q E h => ?_) (fun cdv A outer s H vs Q E hr h => ?_)
  · obtain ⟨_, _, _, _, rfl, _⟩ := h
    rfl
  · obtain ⟨dl, ρ, B, x, rfl, hd, hls, wf, ls, hx, few, fin⟩ := h
    have hu := hu_of hr
    refine ⟨_, pss_cons (ps_expr (pe_dpop1 (pv 0) (pv 1) ⟨rfl, rfl, rfl, rfl⟩))
      (pss_one (ps_for PassesOwn.never rfl (pi_list (pe_callTy (call_listD rfl) (by rfl) mL (by decide +kernel) (pa_cons (pv 0) pa_nil))) (pg_name (i := 2) scFewer.nd rfl (Or.inl rfl))
        (pss_one (ps_dput hu (pv 0) (pv 2) (pe_lc (own := [("_law_low", 3)]) (g := gName 3) (tt := tTest (tOp rNe (tVar 3) (tVar 1))) rfl scFewer.nd (pi_list (pe_dget hu (pv 0) (pv 2) (fun _ _ => rfl))) (blkOk_by (N := ["_law_below", "_law_one", "_law_other", "_law_low"]) (sc := defScope sFewer) (by decide +kernel))
          (fun _ _ _ _ _ => pg_name (i := 3) scFewer.nd rfl (Or.inl rfl)) (fun _ _ _ _ _ => pts_one (pt_cmpR op_ne (pv 3) (pv 1) (nomark _))) (fun _ _ _ _ _ => pv 3)) rfl)))), ?_⟩
    have hv : valV (kB ρ B) (Sum.inl x : Key) = some (.ref (ρ x)) := by rw [valV_kB, if_pos hx]
    refine ⟨_, rfl, dl, rfl, .inl ⟨_, .inl hd⟩, _, rfl, kB ρ B, .inl x, _, hd, rfl, hv, ?_⟩
    rw [kB_drop]
    have d1 : (upd H dl (.dK (kK ρ (drop1 x (ks B))))) dl = some (.dK (kK ρ (drop1 x (ks B)))) := upd_same
    have k1 : ∀ b o, b ≠ dl → H b = some o → (upd H dl (.dK (kK ρ (drop1 x (ks B))))) b = some o := fun b o nb e => by rw [upd_ne nb]; exact e
    generalize upd H dl (.dK (kK ρ (drop1 x (ks B)))) = H1 at d1 k1 ⊢
    have keys : (kK ρ (drop1 x (ks B))).map (fun kv => kV kv.1) = (drop1 x (ks B)).map V.int := by simp [kK, List.map_map, Function.comp_def, kV]
    refine ⟨_, rfl, dl, _, rfl, .inl d1, fun p hp => ⟨p, rfl, ⟨_, SqL.of upd_same⟩, ?_⟩⟩
    rw [keys]
    have z1 : ∀ b, H1 b = none → H b = none := fun b e => by
      cases q : H b with
      | none => rfl
      | some o =>
        by_cases eb : b = dl
        · rw [eb, d1] at e; cases e
        · rw [k1 b o eb q] at e; cases e
    have npd : p ≠ dl := fun e => by rw [e, d1] at hp; cases hp
    have in1 : ∀ {k : Int}, k ∈ drop1 x (ks B) → k ∈ ks B ∧ k ≠ x := fun h => mem_drop1.mp h
    have nlp : ∀ k ∈ ks B, ρ k ≠ dl := fun k hk e => by
      have := hls _ (lk_mem (lk_gt hk))
      rw [e, hd] at this; cases this
    refine for_by (n := ((drop1 x (ks B)).map V.int).length) (fun i σ H2 => ∃ (v : Option V) (ρ' : Int → Addr), σ = [some (.ref dl), some (.int x), v, none] ∧ H2 p = some (.lst ((drop1 x (ks B)).map V.int)) ∧ H2 dl = some (.dK (kK ρ' (drop1 x (ks B)))) ∧
        (∀ b o, b ≠ dl → H b = some o → H2 b = some o) ∧ (∀ k ∈ (drop1 x (ks B)).take i, H2 (ρ' k) = some (.lst ((drop1 x (gt B k)).map V.int)) ∧ H (ρ' k) = none) ∧ ∀ k ∈ (drop1 x (ks B)).drop i, ρ' k = ρ k)
      ⟨none, ρ, rfl, upd_same, by rw [upd_ne npd.symm]; exact d1, fun b o nb e => by rw [upd_ne (ne_of_none (k1 b o nb e) hp)]; exact k1 b o nb e, fun k hk => by simp at hk, fun k _ => rfl⟩
      (fun i σ H2 hi ⟨_, _, _, q, _⟩ => list_go (SqL.of q) hi) (fun σ H2 ⟨_, _, _, q, _⟩ => list_stop (SqL.of q)) ?_ ?_
    · rintro i y σ H2 H2' hi ⟨v, ρ', rfl, q1, q2, q3, q4, q5⟩ hy
      obtain ⟨rfl, hx2⟩ := list_yld (SqL.of q1) hy
      obtain ⟨k, hk, rfl⟩ := ints_at hx2
      have ki : i < (drop1 x (ks B)).length := by rw [List.length_map] at hi; exact hi
      have kd : k ∈ drop1 x (ks B) := List.mem_of_getElem? hk
      have dr : (drop1 x (ks B)).drop i = k :: (drop1 x (ks B)).drop (i + 1) := by
        rw [List.drop_eq_getElem_cons ki]
        congr 1
        rw [List.getElem?_eq_getElem ki] at hk
        exact Option.some.inj hk
      have nd1 : (drop1 x (ks B)).Nodup := wf.nd.sublist List.filter_sublist
      have e1 : ρ' k = ρ k := q5 k (by rw [dr]; exact List.mem_cons_self)
      have kB1 := (in1 kd).1
      have hls1 : H2' (ρ k) = some (.lst ((gt B k).map V.int)) := q3 _ _ (nlp k kB1) (hls _ (lk_mem (lk_gt kB1)))
      have lg : (gt B k).length ≤ 24 := Nat.le_trans (lists_few wf ls k) few
      refine ⟨_, rfl, _, rfl, dl, .ref (ρ k), rfl, (by have z := DGet.k (k := (Sum.inl k : Key)) q2; rw [kK_val, if_pos kd, e1] at z; exact z), ρ k, rfl, ⟨_, SqL.of hls1⟩, fun L hL => ?_⟩
      have nLd : L ≠ dl := fun e => by rw [e, q2] at hL; cases hL
      have nLp : L ≠ p := fun e => by rw [e, q1] at hL; cases hL
      have hL0 : H L = none := by
        cases z : H L with
        | none => rfl
        | some o => rw [q3 L o nLd z] at hL; cases hL
      refine lc_by (n := ((gt B k).map V.int).length) (fun j H3 => Same H2' H3 ∧ H3 L = some (.lst ((drop1 x ((gt B k).take j)).map V.int))) ⟨same_new hL, upd_same⟩
        (fun j H3 hj q => list_go (SqL.of (q.1 _ _ hls1)) hj) (fun H3 q => list_stop (SqL.of (q.1 _ _ hls1))) ?_ ?_
      · rintro j z H3 H3' hj ⟨s3, m1⟩ hy2
        obtain ⟨rfl, hx3⟩ := list_yld (SqL.of (s3 _ _ hls1)) hy2
        obtain ⟨low, hlow, rfl⟩ := ints_at hx3
        have st := drop1_step (x := x) hlow
        refine ⟨rfl, _, rfl, _, rfl, rfl, _, rfl, ?_⟩
        refine ite2 (fun c2 => ?_) (fun c2 => ?_)
        · have e2 : low ≠ x := fun z => by rw [z] at c2; simp at c2
          rw [if_neg e2] at st
          refine ⟨_, rfl, _, m1, small1000 ?_, same_upd s3 hL, ?_⟩
          · rw [List.length_map]
            have := drop1_le x ((gt B k).take j)
            rw [List.length_take] at this
            omega
          · rw [st, List.map_append]; exact upd_same
        · have e2 : low = x := Decidable.not_not.mp fun z => c2 (by simp [z])
          rw [if_pos e2] at st
          exact ⟨s3, by rw [st, List.append_nil]; exact m1⟩
      · rintro H3 ⟨s3, m1⟩
        rw [List.length_map, List.take_length] at m1
        have ld : (drop1 x (ks B)).length ≤ 24 := Nat.le_trans (drop1_le _ _) (by rw [len_ks]; exact few)
        refine ⟨_, rfl, _, rfl, dl, _, rfl, DPut.k (k := (Sum.inl k : Key)) (s3 _ _ q2) (small1000 (by unfold kK; rw [List.length_map]; omega)), ?_⟩
        rw [kK_put kd]
        refine ⟨_, fun z => if z = k then L else ρ' z, rfl, by rw [upd_ne npd]; exact s3 _ _ q1, upd_same, fun b o nb e => by rw [upd_ne nb]; exact s3 _ _ (q3 b o nb e), fun k2 hk2 => ?_, fun k2 hk2 => ?_⟩
        · rw [take_snoc hk] at hk2
          by_cases e2 : k2 = k
          · subst e2
            simp only [if_true]
            exact ⟨by rw [upd_ne nLd]; exact m1, hL0⟩
          · simp only [if_neg e2]
            rcases List.mem_append.mp hk2 with z | z
            · obtain ⟨u1, u2⟩ := q4 k2 z
              exact ⟨by rw [upd_ne (fun e => by rw [e, hd] at u2; cases u2)]; exact s3 _ _ u1, u2⟩
            · exact absurd (by simpa using z) e2
        · have e2 : k2 ≠ k := fun e => by
            rw [e] at hk2
            have nd2 := nd1.sublist (List.drop_sublist i _)
            rw [dr, List.nodup_cons] at nd2
            exact nd2.1 hk2
          simp only [if_neg e2]
          exact q5 k2 (by rw [dr]; exact List.mem_cons_of_mem _ hk2)
    · rintro σ H2 ⟨v, ρ', rfl, q1, q2, q3, q4, q5⟩
      rw [List.length_map, List.take_length] at q4
      refine fin ρ' H2 (by rw [kB_kK, ks_take]; exact q2) (fun b hb => ?_) q3
      have hk : b.1 ∈ drop1 x (ks B) := by rw [← ks_take]; exact List.mem_map.mpr ⟨b, hb, rfl⟩
      have e : b.2 = drop1 x (gt B b.1) := by
        obtain ⟨p0, hp0, rfl⟩ := List.mem_map.mp hb
        have := (List.mem_filter.mp hp0).1
        show drop1 x p0.2 = drop1 x (gt B p0.1)
        rw [gt_mem wf.nd this]
      rw [e]
      exact q4 b.1 hk
end
end FP

set_option Elab.async false
set_option maxRecDepth 100000
namespace FP
open PySem L2 FL FR
/-! ### readings of one's own for a test, a block -/
theorem ptWeak {X : Cx} {c : Expr} {t t' : TT} (h : PT X c t) (w : ∀ σ H Q, t' σ H Q → t σ H Q) : PT X c t' := ⟨fun pins s σ H Q I q => h.run pins s σ H Q I (w σ H Q q)⟩
theorem psWeak {X : Cx} {st : Stmt} {t t' : TS} (h : PS X st t) (w : ∀ D σ H, t' D σ H → t D σ H) : PS X st t' := ⟨fun pins s σ H D I q => h.run pins s σ H D I (w D σ H q)⟩
theorem pssWeak {X : Cx} {st : List Stmt} {t t' : TS} (h : PSs X st t) (w : ∀ D σ H, t' D σ H → t D σ H) : PSs X st t' := ⟨fun pins s σ H D I q => h.run pins s σ H D I (w D σ H q)⟩
/-- the law's own table of what lies beneath what -/
structure LawAt (H : Hp) (F : Addr → Prop) (dl : Addr) (B : BL) : Prop where
  out : ¬ F dl
  ex : ∃ ρ : Int → Addr, H dl = some (.dK (kB ρ B)) ∧ ∀ b ∈ B, H (ρ b.1) = some (.lst (b.2.map V.int)) ∧ ¬ F (ρ b.1)
theorem LawAt.same {H H' : Hp} {F : Addr → Prop} {dl : Addr} {B : BL} (h : LawAt H F dl B) (s : Same H H') : LawAt H' F dl B := by
  obtain ⟨o, ρ, a, b⟩ := h
  exact ⟨o, ρ, s _ _ a, fun x hx => ⟨s _ _ (b x hx).1, (b x hx).2⟩⟩
/-- what a deed of the hall leaves -/
structure Deed (H H' : Hp) (F F' : Addr → Prop) : Prop where
  keep : ∀ b o, H b = some o → ¬ F b → H' b = some o
  grow : ∀ b, F' b → F b ∨ H b = none
theorem Deed.out {H H' : Hp} {F F' : Addr → Prop} (d : Deed H H' F F') {b : Addr} {o : HO} (e : H b = some o) (nf : ¬ F b) : ¬ F' b := fun z => by
  rcases d.grow b z with q | q
  · exact nf q
  · rw [e] at q; cases q
theorem LawAt.deed {H H' : Hp} {F F' : Addr → Prop} {dl : Addr} {B : BL} (h : LawAt H F dl B) (d : Deed H H' F F') : LawAt H' F' dl B := by
  obtain ⟨o, ρ, a, b⟩ := h
  exact ⟨d.out a o, ρ, d.keep _ _ a o, fun x hx => ⟨d.keep _ _ (b x hx).1 (b x hx).2, d.out (b x hx).1 (b x hx).2⟩⟩
/-- the law's table changed, the hall not -/
theorem HallAt.table {C : Addr} {H H' : Hp} {p : Addr} {F : Addr → Prop} {n : Int} {B : BL} {M : MT} {dl : Addr} (h : HallAt C H p F n B M) (nf : ¬ F dl) (k : ∀ b o, b ≠ dl → H b = some o → H' b = some o) : HallAt C H' p F n B M :=
  h.keep fun b o f e => k b o (fun z => nf (z ▸ f)) e
def spLaw (K : PySem.W.Frag) : Sp := fun vs H Q _ => ∃ (a : Addr) (ns : List Int), vs = [.ref a] ∧ SqL K H a (ns.map V.int) ∧ ns.length ≤ 63 ∧ ∀ H', Q (.bl true) H'
theorem ints_cut (ns : List Int) (k : Nat) : cutV (ns.map V.int) none (some (k : Int)) = (ns.take (min k ns.length)).map V.int := by
  rw [take_cut, List.length_map, List.map_take]
/-- many things, or some and the cell says so -/
def tMany (K : PySem.W.Frag) (i j : Nat) : TT := fun σ H Q => ∃ (a : Addr) (ts : List Int) (c : Int), σ[i]? = some (some (.ref a)) ∧ σ[j]? = some (some (.int c)) ∧ SqL K H a (ts.map V.int) ∧
  ∀ b H1, Same H H1 → (b = true → ts ≠ []) → (b = false → ts.length ≤ 12) → Q b H1
theorem intNe {a b : Int} (h : a ≠ b) : decide (V.int a = V.int b) = false := decide_eq_false fun z => h (V.int.inj z)
theorem intEq {a b : Int} (h : a = b) : decide (V.int a = V.int b) = true := decide_eq_true (congrArg V.int h)
theorem mod_as {i j v : Int} {Q : VK} {H : Hp} (e : i % j = v) (hj : 0 < j) (h : Q (.int v) H) : (rI (fun _ j => 0 < j) fun i j => V.int (i % j)) (.int i) (.int j) H Q := ⟨i, j, rfl, rfl, hj, by show Q (.int (i % j)) H; rw [e]; exact h⟩
theorem mod_c {i j v : Int} {σ : L2.St} {Q : VK} {H : Hp} (e : i % j = v) (hj : 0 < j) (h : Q (.int v) H) : tC (.int j) σ H fun y H2 => (rI (fun _ j => 0 < j) fun i j => V.int (i % j)) (.int i) y H2 Q := mod_as e hj h
theorem iteEq {a b : Int} {p q : Prop} (e : a = b) (h : p) : if decide (V.int a = V.int b) = true then p else q := by rw [if_pos (intEq e)]; exact h
theorem iteNe {a b : Int} {p q : Prop} (e : a ≠ b) (h : q) : if decide (V.int a = V.int b) = true then p else q := by rw [if_neg (by rw [intNe e]; decide)]; exact h
structure Names (mg : Str → Option Value) : Prop where
  len : mg "len" = none
  sorted : mg "sorted" = none
  list : mg "list" = none
  isi : mg "isinstance" = none
  tuple : mg "tuple" = none
  bool : mg "bool" = none
end FP

set_option Elab.async false
set_option maxRecDepth 100000
namespace FP
open PySem L2 FL FR
/-- the law's table, as its heap parts say it -/
def TabAt (H : Hp) (dl : Addr) (ρ : Int → Addr) (B : BL) : Prop := H dl = some (.dK (kB ρ B)) ∧ ∀ b ∈ B, H (ρ b.1) = some (.lst (b.2.map V.int))
theorem TabAt.same {H H' : Hp} {dl : Addr} {ρ : Int → Addr} {B : BL} (h : TabAt H dl ρ B) (s : Same H H') : TabAt H' dl ρ B := ⟨s _ _ h.1, fun b hb => s _ _ (h.2 b hb)⟩
theorem LawAt.tab {H : Hp} {F : Addr → Prop} {dl : Addr} {B : BL} (h : LawAt H F dl B) : ∃ ρ, TabAt H dl ρ B := let ⟨_, ρ, a, b⟩ := h; ⟨ρ, a, fun x hx => (b x hx).1⟩
theorem drop_cut (xs : List V) : cutV xs (some 1) none = xs.drop 1 := by
  unfold cutV
  rw [show (1 : Int) = ((1 : Nat) : Int) from rfl, HT.sIx_nat, HT.sIx_none]
  cases xs with
  | nil => rfl
  | cons a r =>
    have : min 1 (a :: r).length = 1 := by simp only [List.length_cons]; omega
    rw [this]
    simp
theorem TabAt.get {H : Hp} {dl : Addr} {ρ : Int → Addr} {B : BL} (h : TabAt H dl ρ B) {x : Int} (hx : x ∈ ks B) : DGet H dl (.int x) (some (.ref (ρ x))) := by
  have z := DGet.k (k := (Sum.inl x : Key)) h.1
  rw [valV_kB, if_pos hx] at z
  exact z
theorem TabAt.has {H : Hp} {dl : Addr} {ρ : Int → Addr} {B : BL} (h : TabAt H dl ρ B) {x : Int} (hx : x ∈ ks B) : DGet H dl (.int x) (some (.ref (ρ x))) := h.get hx
theorem TabAt.low {H : Hp} {dl : Addr} {ρ : Int → Addr} {B : BL} (h : TabAt H dl ρ B) {x : Int} (hx : x ∈ ks B) : H (ρ x) = some (.lst ((gt B x).map V.int)) := h.2 _ (lk_mem (lk_gt hx))
theorem BelowAt.get {H : Hp} {dl : Addr} {ρ : Int → Addr} {B : BL} (h : BelowAt H dl ρ B) {x : Int} (hx : x ∈ ks B) : DGet H dl (.int x) (some (.ref (ρ x))) := by
  have z := DGet.rd (k := (Sum.inl x : Key)) h.1
  rw [valV_kB, if_pos hx] at z
  exact z
theorem BelowAt.low {H : Hp} {dl : Addr} {ρ : Int → Addr} {B : BL} (h : BelowAt H dl ρ B) {x : Int} (hx : x ∈ ks B) : H (ρ x) = some (.lst ((gt B x).map V.int)) := h.2 _ (lk_mem (lk_gt hx))
theorem TabAt.below {H : Hp} {dl : Addr} {ρ : Int → Addr} {B : BL} (h : TabAt H dl ρ B) : BelowAt H dl ρ B := ⟨.inl h.1, h.2⟩
end FP

set_option Elab.async false
set_option maxRecDepth 100000
namespace FP
open PySem L2 FL FR
section
variable {P : Program} {w : World} {K : PySem.W.Frag} {mg : Str → Option Value} {base : Heap}
/-! ### ladder_from -/
def spLadderFrom : Sp := fun vs H Q _ => ∃ (x : Int) (da : Addr) (A : MT) (l : List Int), vs = [.int x, .ref da] ∧ H da = some (.dK (kI A)) ∧ Lad A x l ∧ l.length ≤ 100 ∧ ∀ (q : Addr) (H' : Hp), Same H H' → H q = none → H' q = some (.lst (l.map V.int)) → Q (.ref q) H'
theorem scLadderFrom : FnScope ["lowest", "above", "ladder"] ["lowest", "above"] (defScope sLadderFrom) := ⟨rfl, rfl, rfl, by decide +kernel, rfl, by decide +kernel, by decide +kernel⟩
theorem lastI {l : List Int} {y : Int} : atI ((l ++ [y]).map V.int) (-1) = some (.int y) := by rw [List.map_append]; exact atI_last _ _
theorem ok_ladderFrom {f : Addr} {fd : FuncData} (F : Fun K "ladder_from" "ladder_from" sLadderFrom f fd) : FnOk P w K mg base CX0 1 f fd ["lowest", "above"] spLadderFrom := by
  refine F.ok scLadderFrom (fun vs H Q E h => ?_) (fun cdv A outer s H vs Q E hr h => ?_)
  · obtain ⟨_, _, _, _, rfl, _⟩ := h
    rfl
  · obtain ⟨x, da, A0, l, rfl, ha, hl, few, fin⟩ := h
    have hu := hu_of hr
    refine ⟨_, pss_cons (ps_set (i := 2) scLadderFrom.nd rfl (Or.inl rfl) (pe_lst (pa_cons (pv 0) pa_nil)))
      (pss_cons (ps_while PassesOwn.never (pt_cmp (pc_din hu (pe_ix ix_list (pv 2) (pe_un un_neg pe_int) (fun _ _ => rfl)) (pv 1)))
        (pss_one (ps_expr (pe_bm PySem.F.plainAttrs_list PySem.F.slot_list_append PySem.F.type_list_append mt_append (pv 2) (pa_cons (pe_dget hu (pv 1) (pe_ix ix_list (pv 2) (pe_un un_neg pe_int) (fun _ _ => rfl)) (fun _ _ => rfl)) pa_nil)))))
      (pss_one (ps_ret (pv 2)))), ?_⟩
    refine ⟨_, rfl, by show 1 ≤ sizeLine; decide, fun q hq => ?_⟩
    refine ⟨fun m σ H1 => ∃ (a rest : List Int) (y : Int), σ = [some (.int x), some (.ref da), some (.ref q)] ∧ Same H H1 ∧ H1 q = some (.lst ((a ++ [y]).map V.int)) ∧ Lad A0 y rest ∧ m = rest.length ∧ a ++ rest = l,
      ⟨_, [], l, x, rfl, same_new hq, upd_same, hl, rfl, rfl⟩, ?_⟩
    rintro m σ H1 ⟨a, rest, y, rfl, s1, q1, hrest, rfl, hcat⟩
    have dg := DGet.k (k := (Sum.inl y : Key)) (s1 _ _ ha)
    rw [valV_kI] at dg
    refine ⟨_, rfl, _, rfl, q, _, _, _, rfl, rfl, SqL.of q1, lastI, _, rfl, da, _, rfl, dg, _, rfl, ?_⟩
    cases hrest with
    | last e =>
      rw [e]
      exact iteF ⟨_, rfl, fin q H1 s1 hq (by rw [← hcat]; exact q1)⟩
    | @cons _ z rest2 e h2 =>
      rw [e] at dg ⊢
      refine iteT ⟨fun σ H1 => ∃ (a rest : List Int) (y : Int), σ = [some (.int x), some (.ref da), some (.ref q)] ∧ Same H H1 ∧ H1 q = some (.lst ((a ++ [y]).map V.int)) ∧ Lad A0 y rest ∧ rest2.length = rest.length ∧ a ++ rest = l, fun σ' H' p => ⟨rest2.length, by simp, p⟩, ?_⟩
      refine ⟨_, rfl, .inl ⟨rfl, _, SqL.of q1⟩, _, rfl, _, rfl, _, rfl, q, _, _, _, rfl, rfl, SqL.of q1, lastI, da, .int z, rfl, dg, q, _, _, rfl, rfl, q1, small1000 ?_, ?_⟩
      · rw [List.length_map, List.length_append, List.length_singleton]
        have := congrArg List.length hcat
        simp only [List.length_append, List.length_cons] at this
        omega
      · exact ⟨a ++ [y], rest2, z, rfl, same_upd s1 hq, by rw [upd_same]; simp, h2, rfl, by rw [← hcat]; simp⟩
/-! ### all_ladders -/
def spAllLadders : Sp := fun vs H Q _ => ∃ (d1 d2 : Addr) (ρ : Int → Addr) (B : BL) (M : MT), vs = [.ref d1, .ref d2] ∧ H d1 = some (.dK (kB ρ B)) ∧ H d2 = some (.dK (kI M)) ∧ WF B ∧ MW B M ∧ B.length ≤ 40 ∧
  ∀ (q : Addr) (H' : Hp), Same H H' → NewLists H H' q (lads (srt (ks B)) B M) → Q (.ref q) H'
theorem scAllLadders : FnScope ["below", "beneath", "above", "up", "low", "one"] ["below", "beneath"] (defScope sAllLadders) := ⟨rfl, rfl, rfl, by decide +kernel, rfl, by decide +kernel, by decide +kernel⟩
theorem ok_allLadders {f fL : Addr} {fd fdL : FuncData} (F : Fun K "all_ladders" "all_ladders" sAllLadders f fd) (GL : FnOk P w K mg base CX0 1 fL fdL ["lowest", "above"] spLadderFrom) (bL : Binds K fdL ["lowest", "above"] []) (mL : mg "ladder_from" = some (.ref fL)) (kL : PySem.W.keepIn K (.ref fL) = true) (mSorted : mg "sorted" = none) : FnOk P w K mg base CX0 2 f fd ["below", "beneath"] spAllLadders := by
  refine F.ok scAllLadders (fun vs H Q E h => ?_) (fun cdv A outer s H vs Q E hr h => ?_)
  · obtain ⟨_, _, _, _, _, rfl, _⟩ := h
    rfl
  · obtain ⟨d1, d2, ρ, B, M, rfl, h1, h2, wf, mw, few, fin⟩ := h
    have hu := hu_of hr
    have ndI : (ks (iv M)).Nodup := by rw [ks_iv]; exact mw.vals
    have lenM : M.length ≤ 40 := by
      rw [← len_ks M]
      exact Nat.le_trans (mw.nd.length_le_of_subset fun x hx => mw.sub hx) (by rw [len_ks]; exact few)
    refine ⟨_, pss_cons (ps_set (i := 2) scAllLadders.nd rfl (Or.inr rfl) (pe_lock (pe_dc (own := [("up", 3), ("low", 4)]) (g := gTup K 2 (gCons (gName 3) (gCons (gName 4) gNil))) (tt := tYes) rfl scAllLadders.nd (pi_items (pv 1)) (blkOk_by (N := ["below", "beneath", "above", "up", "low", "one"]) (sc := defScope sAllLadders) (by decide +kernel))
        (fun _ _ _ _ _ => pg_pair 3 4 rfl scAllLadders.nd rfl rfl rfl rfl) (fun _ _ _ _ _ => pts_nil) (fun _ _ _ _ _ => pv 4) (fun _ _ _ _ _ => pv 3))))
      (pss_one (ps_ret (pe_lc (own := [("one", 5)]) (g := gName 5) (te := tCall spLadderFrom [] E0 (tCons (tVar 5) (tCons (tVar 2) tNil))) rfl scAllLadders.nd (pi_list (pe_callB (call_sortedDI rfl) (by rfl) mSorted (by decide +kernel) (pa_cons (pv 0) pa_nil))) (blkOk_by (N := ["below", "beneath", "above", "up", "low", "one"]) (sc := defScope sAllLadders) (by decide +kernel))
        (fun _ _ _ _ _ => pg_name (i := 5) scAllLadders.nd rfl (Or.inl rfl)) (fun _ _ _ _ _ => pts_one (pt_cmp (pc_dnotin hu (pv 5) (pv 1)))) (fun _ _ _ _ _ => pe_call GL hr rfl mL kL bL .nil pass0 (pa_cons (pv 5) (pa_cons (pv 2) pa_nil)))))), ?_⟩
    refine ⟨d2, _, h2, trivial, fun od => ⟨_, rfl, d2, od, _, rfl, upd_same, fun D hD => ?_⟩⟩
    have nD : d2 ≠ D := fun e => by rw [← e, upd_same] at hD; cases hD
    have hD0 : H D = none := by rw [upd_ne nD.symm] at hD; exact hD
    refine dc_by (n := (kI M).length) (fun i H1 => H1 d2 = some (.frz od (.dK (kI M))) ∧ H1 D = some (.dK (kI (iv (M.take i)))) ∧ ∀ b o, b ≠ d2 → H b = some o → H1 b = some o)
      ⟨by rw [upd_ne nD]; exact upd_same, upd_same, fun b o nb e => by rw [upd_ne (ne_of_none e hD0), upd_ne nb]; exact e⟩ (fun i H1 hi p => items_go p.1 hi) (fun H1 p => items_stop p.1) ?_ ?_
    · rintro i x H1 H2 hi ⟨p1, p2, p3⟩ ⟨T, kk, vv, hat, rfl, hT, rfl⟩
      obtain ⟨a, b, hab, rfl, rfl⟩ := kI_at hat
      have nT : D ≠ T := ne_of_none p2 hT
      refine ⟨T, _, rfl, SqT.of upd_same, rfl, _, _, rfl, _, _, rfl, rfl, rfl, ?_⟩
      refine ⟨_, rfl, _, rfl, kI (iv (M.take i)), .inl b, rfl, by rw [upd_ne nT]; exact p2, small1000 (by rw [kI_len, iv, List.length_map, List.length_take]; omega), ?_, ?_, ?_⟩
      · rw [upd_ne nD, upd_ne (ne_of_none p1 hT)]; exact p1
      · have e2 : pt (iv (M.take i)) b a = iv (M.take (i + 1)) := by
          rw [iv_take, iv_take]
          exact pt_take ndI (by rw [iv, List.getElem?_map, hab]; rfl)
        exact upd_same.trans (congrArg (fun z => some (HO.dK z)) ((putK_kI _ _ _).trans (congrArg kI e2)))
      · intro c oc nc e
        rw [upd_ne (ne_of_none e hD0), upd_ne (ne_of_none (p3 c oc nc e) hT)]
        exact p3 c oc nc e
    · rintro H1 ⟨p1, p2, p3⟩
      refine ⟨p1, ?_⟩
      rw [kI_len, List.take_length] at p2
      have s2 : Same H (upd H1 d2 (.dK (kI M))) := fun b o e => by
        by_cases eb : b = d2
        · rw [eb] at e ⊢; rw [upd_same, ← e, h2]
        · rw [upd_ne eb]; exact p3 b o eb e
      have hA : (upd H1 d2 (.dK (kI M))) D = some (.dK (kI (iv M))) := by rw [upd_ne nD.symm]; exact p2
      generalize upd H1 d2 (.dK (kI M)) = H2 at s2 hA ⊢
      refine ⟨_, rfl, d1, kB ρ B, ks B, rfl, .inl (s2 _ _ h1), kB_keys ρ B, by rw [len_ks]; omega, fun ys p hp hle hpn => ?_⟩
      obtain rfl : ys = srt (ks B) := srt_uniq hp hle
      refine ⟨p, rfl, ⟨_, SqL.of upd_same⟩, fun L hL => ?_⟩
      have nLp : L ≠ p := fun e => by rw [e, upd_same] at hL; cases hL
      have hL2 : H2 L = none := by rw [upd_ne nLp] at hL; exact hL
      have hL0 : H L = none := s2.free hL2
      have cut : ∀ i n, (srt (ks B))[i]? = some n → (((srt (ks B)).take (i + 1)).filter fun x => decide (x ∉ ks M)).map (climb (iv M) B.length) = (((srt (ks B)).take i).filter fun x => decide (x ∉ ks M)).map (climb (iv M) B.length) ++ (if n ∈ ks M then [] else [climb (iv M) B.length n]) := fun i n hn => by
        rw [take_snoc hn, List.filter_append, List.map_append]
        congr 1
        by_cases e : n ∈ ks M <;> simp [e]
      refine lc_by (n := ((srt (ks B)).map V.int).length) (fun i H3 => Same H2 H3 ∧ H3 p = some (.lst ((srt (ks B)).map V.int)) ∧ ∃ as : List Addr, H3 L = some (.lst (as.map V.ref)) ∧ Paired (fun a (l : List Int) => H3 a = some (.lst (l.map V.int))) as ((((srt (ks B)).take i).filter fun x => decide (x ∉ ks M)).map (climb (iv M) B.length)) ∧ (L :: as).Nodup ∧ ∀ a ∈ L :: as, H2 a = none)
        ⟨same_upd (same_new hpn) hL2, by rw [upd_ne nLp.symm]; exact upd_same, [], upd_same, .nil, by simp, fun a ha => by rw [show a = L by simpa using ha]; exact hL2⟩
        (fun i H3 hi q => list_go (SqL.of q.2.1) hi) (fun H3 q => list_stop (SqL.of q.2.1)) ?_ ?_
      · rintro i x H3 H3' hi ⟨s3, q1, as, q2, q3, q4, q5⟩ hy
        obtain ⟨rfl, hx⟩ := list_yld (SqL.of q1) hy
        obtain ⟨n, hn, rfl⟩ := ints_at hx
        have nB : n ∈ ks B := (srt_perm _).mem_iff.mp (List.mem_of_getElem? hn)
        have st := cut i n hn
        refine ⟨rfl, _, rfl, _, rfl, d2, _, rfl, DGet.k (k := Sum.inl n) (s3 _ _ (s2 _ _ h2)), _, rfl, ?_⟩
        rw [valV_kI]
        cases e : lk M n with
        | none =>
          rw [if_neg (lk_none.mp e)] at st
          refine iteT ⟨_, rfl, _, rfl, n, D, iv M, climb (iv M) B.length n, rfl, s3 _ _ hA, climb_ok wf mw nB, Nat.le_trans ((climb_ok wf mw nB).len wf mw nB) (by omega), fun q4' H4 s4 hq4 e4 => ?_⟩
          have nq : q4' ∉ L :: as := fun m => by
            rcases List.mem_cons.mp m with z | z
            · rw [z, q2] at hq4; cases hq4
            · obtain ⟨k, hk, ek⟩ := List.getElem_of_mem z
              obtain ⟨l, _, hl⟩ := paired_at q3 (List.getElem?_eq_getElem hk)
              rw [ek, hq4] at hl; cases hl
          have lenas : as.length ≤ 40 := by
            have := paired_len q3
            rw [List.length_map] at this
            have h3 : (((srt (ks B)).take i).filter fun x => decide (x ∉ ks M)).length ≤ ((srt (ks B)).take i).length := List.length_filter_le _ _
            rw [List.length_take, (srt_perm _).length_eq, len_ks] at h3
            omega
          have nqL : q4' ≠ L := fun z => nq (by rw [z]; exact List.mem_cons_self)
          refine ⟨as.map V.ref, s4 _ _ q2, small1000 (by rw [List.length_map]; omega), same_upd (s3.trans s4) hL2, by rw [upd_ne nLp.symm]; exact s4 _ _ q1, as ++ [q4'], by rw [upd_same, List.map_append]; rfl, ?_, ?_, ?_⟩
          · rw [st]
            refine paired_snoc (paired_imp' q3 fun a l ha e => ?_) (by rw [upd_ne nqL]; exact e4)
            rw [upd_ne (fun z => ?_)]
            · exact s4 _ _ e
            · rw [z] at ha; exact (List.nodup_cons.mp q4).1 ha
          · rw [← List.cons_append]
            refine List.nodup_append.mpr ⟨q4, by simp, fun a ha b hb => ?_⟩
            have : b = q4' := by simpa using hb
            rw [this]; exact fun z => nq (z ▸ ha)
          · intro a ha
            rw [← List.cons_append] at ha
            rcases List.mem_append.mp ha with z | z
            · exact q5 a z
            · have : a = q4' := by simpa using z
              rw [this]; exact s3.free hq4
        | some v =>
          rw [if_pos (lk_some_ks e), List.append_nil] at st
          exact iteF ⟨s3, q1, as, q2, by rw [st]; exact q3, q4, q5⟩
      · rintro H3 ⟨s3, q1, as, q2, q3, q4, q5⟩
        rw [List.length_map, List.take_length] at q3
        exact fin L H3 (s2.trans s3) ⟨as, q2, q3, q4, fun a ha => s2.free (q5 a ha)⟩
end
end FP

set_option Elab.async false
set_option maxRecDepth 100000
namespace FP
open PySem L2 FL FR
/-! ### the ladders have each thing once -/
theorem lads_perm {B : BL} {M : MT} (hB : WF B) (hM : MW B M) {sk : List Int} (hs : sk.Perm (ks B)) : (lads sk B M).flatten.Perm (ks B) := by
  have ndsk : sk.Nodup := hs.nodup_iff.mpr hB.nd
  have ok : ∀ x ∈ sk.filter (fun x => decide (x ∉ ks M)), x ∈ ks B ∧ lk M x = none := fun x hx => by
    rw [List.mem_filter] at hx
    exact ⟨hs.mem_iff.mp hx.1, lk_none.mpr (by simpa using hx.2)⟩
  have nd : (lads sk B M).flatten.Nodup := by
    unfold lads
    rw [List.Nodup, List.pairwise_flatten]
    refine ⟨fun l hl => ?_, ?_⟩
    · obtain ⟨x, hx, rfl⟩ := List.mem_map.mp hl
      exact (climb_ok hB hM (ok x hx).1).nodup hB hM
    · rw [List.pairwise_map]
      refine List.Pairwise.imp_of_mem (R := fun a b => a ≠ b) (fun {a b} ha hb ne x hx y hy e => ?_) (ndsk.sublist List.filter_sublist)
      subst e
      exact ne (lads_one hB hM (less B x) a b x _ _ (Nat.le_refl _) (ok a ha).1 (ok b hb).1 (ok a ha).2 (ok b hb).2 (climb_ok hB hM (ok a ha).1) (climb_ok hB hM (ok b hb).1) hx hy)
  refine (List.perm_ext_iff_of_nodup nd hB.nd).mpr fun y => ?_
  rw [List.mem_flatten]
  constructor
  · rintro ⟨l, hl, hy⟩
    obtain ⟨x, hx, rfl⟩ := List.mem_map.mp hl
    exact ((climb_ok hB hM (ok x hx).1).mem hB hM (ok x hx).1 y hy).1
  · intro hy
    exact lads_all hB hM hs (less B y) y (Nat.le_refl _) hy
theorem lads_rise {B : BL} {M : MT} (hB : WF B) (hM : MW B M) {sk : List Int} (hs : sk.Perm (ks B)) : ∀ l ∈ lads sk B M, l.Pairwise fun a b => a ∈ gt B b := fun l hl => by
  obtain ⟨x, hx, rfl⟩ := List.mem_map.mp hl
  rw [List.mem_filter] at hx
  exact (climb_ok hB hM (hs.mem_iff.mp hx.1)).rise hB hM
theorem lads_head {B : BL} {M : MT} (hB : WF B) (hM : MW B M) {sk : List Int} (hs : sk.Perm (ks B)) : Paired (fun (l : List Int) x => ∃ t, l = x :: t) (lads sk B M) (sk.filter fun x => decide (x ∉ ks M)) := by
  unfold lads
  have : ∀ xs : List Int, (∀ x ∈ xs, x ∈ ks B) → Paired (fun (l : List Int) x => ∃ t, l = x :: t) (xs.map (climb (iv M) B.length)) xs := by
    intro xs
    induction xs with
    | nil => intro _; exact .nil
    | cons x r ih =>
      intro h
      exact .cons (climb_ok hB hM (h x List.mem_cons_self)).hd (ih fun y hy => h y (List.mem_cons_of_mem _ hy))
  exact this _ fun x hx => hs.mem_iff.mp (List.mem_filter.mp hx).1
end FP

set_option Elab.async false
set_option maxRecDepth 100000
namespace FP
open PySem L2 FL FR
section
variable {P : Program} {w : World} {K : PySem.W.Frag} {mg : Str → Option Value} {base : Heap}
/-! ### free_set -/
def spFreeSet : Sp := fun vs H Q _ => ∃ (d1 d2 : Addr) (ρ : Int → Addr) (B : BL) (M : MT), vs = [.ref d1, .ref d2] ∧ BelowAt H d1 ρ B ∧ H d1 = some (.dK (kB ρ B)) ∧ H d2 = some (.dK (kI M)) ∧ WF B ∧ MW B M ∧ B.length ≤ 40 ∧
  ∀ (q : Addr) (H' : Hp), Same H H' → H q = none → H' q = some (.lst ((fs (srt (ks B)) M (srch B (srt (ks B)) M).1).map V.int)) → Q (.ref q) H'
theorem scFreeSet : FnScope ["below", "beneath", "reached", "_", "left", "one"] ["below", "beneath"] (defScope sFreeSet) := ⟨rfl, rfl, rfl, by decide +kernel, rfl, by decide +kernel, by decide +kernel⟩
theorem ok_freeSet {f fS : Addr} {fd fdS : FuncData} (F : Fun K "free_set" "free_set" sFreeSet f fd) (GS : FnOk P w K mg base CX0 1 fS fdS ["below", "beneath"] spSearch) (bS : Binds K fdS ["below", "beneath"] []) (mS : mg "search" = some (.ref fS)) (kS : PySem.W.keepIn K (.ref fS) = true) (mSorted : mg "sorted" = none) : FnOk P w K mg base CX0 2 f fd ["below", "beneath"] spFreeSet := by
  refine F.ok scFreeSet (fun vs H Q E h => ?_) (fun cdv A outer s H vs Q E hr h => ?_)
  · obtain ⟨_, _, _, _, _, rfl, _⟩ := h
    rfl
  · obtain ⟨d1, d2, ρ, B, M, rfl, hB, h1, h2, wf, mw, few, fin⟩ := h
    have hu := hu_of hr
    obtain ⟨lp, rg, hsome, hnone⟩ := srch_ok wf mw (srt_perm (ks B))
    refine ⟨_, pss_cons (ps_asg (pe_call GS hr rfl mS kS bS .nil pass0 (pa_cons (pv 0) (pa_cons (pv 1) pa_nil))) (pg_pairC 2 3 rfl scFreeSet.nd rfl rfl (Or.inr rfl) (Or.inl rfl) (Or.inl rfl) (Or.inr rfl)))
      (pss_cons (ps_setLc (i := 4) (own := [("one", 5)]) (g := gName 5) rfl scFreeSet.nd rfl rfl (sw_true rfl rfl rfl (by decide +kernel)) (pi_list (pe_callB (call_sortedDI rfl) (by rfl) mSorted (by decide +kernel) (pa_cons (pv 0) pa_nil))) (blkOk_by (N := ["below", "beneath", "reached", "_", "left", "one"]) (sc := defScope sFreeSet) (by decide +kernel))
        (fun _ _ _ _ _ => pg_name (i := 5) scFreeSet.nd rfl (Or.inl rfl))
        (tt := tOr (tB (tDNotIn (tVar 5) (tVar 1))) (tB (tDIn (tDGet (tVar 1) (tVar 5)) (tVar 2))))
        (fun _ _ _ _ _ => pts_one (pw_or (pt_cmp (pc_dnotin hu (pv 5) (pv 1))) (pw_or1 (pt_cmp (pc_din hu (pe_dget hu (pv 1) (pv 5) (fun _ _ => rfl)) (pv 2))))).pt) (fun _ _ _ _ _ => pv 5))
      (pss_one (ps_ret (pe_lc (own := [("one", 5)]) (g := gName 5) (te := tVar 5) rfl scFreeSet.nd (pi_list (pv 4)) (blkOk_by (N := ["below", "beneath", "reached", "_", "left", "one"]) (sc := defScope sFreeSet) (by decide +kernel))
        (fun _ _ _ _ _ => pg_name (i := 5) scFreeSet.nd rfl (Or.inl rfl)) (fun _ _ _ _ _ => pts_one (pt_cmp (pc_dnotin hu (pv 5) (pv 2)))) (fun _ _ _ _ _ => pv 5))))), ?_⟩
    refine ⟨_, rfl, _, rfl, d1, d2, ρ, B, M, _, (srch B (srt (ks B)) M).1, (srch B (srt (ks B)) M).2, rfl, hB, h1, h2, wf, mw, few, lp, fun t R H1 s1 ht hR e1 e2 => ?_⟩
    refine ⟨t, _, rfl, SqT.of e1, rfl, _, _, rfl, _, _, rfl, rfl, ?_⟩
    generalize (srch B (srt (ks B)) M).1 = r at e2 fin ⊢
    refine ⟨_, rfl, d1, kB ρ B, ks B, rfl, .inl (s1 _ _ h1), kB_keys ρ B, by rw [len_ks]; omega, fun ys p hp hle hpn => ?_⟩
    obtain rfl : ys = srt (ks B) := srt_uniq hp hle
    have slen : (srt (ks B)).length ≤ 40 := by rw [(srt_perm _).length_eq, len_ks]; exact few
    refine ⟨p, rfl, ⟨_, SqL.of upd_same⟩, fun L hL => ?_⟩
    have s2 : Same H1 (upd H1 p (.lst ((srt (ks B)).map V.int))) := same_new hpn
    have p2 : (upd H1 p (.lst ((srt (ks B)).map V.int))) p = some (.lst ((srt (ks B)).map V.int)) := upd_same
    generalize upd H1 p (.lst ((srt (ks B)).map V.int)) = H2 at s2 p2 hL ⊢
    have hL0 : H L = none := s1.free (s2.free hL)
    refine lc_by (n := ((srt (ks B)).map V.int).length) (fun i H3 => Same H2 H3 ∧ H3 L = some (.lst ((fs0 ((srt (ks B)).take i) M r).map V.int)))
      ⟨same_new hL, upd_same⟩ (fun i H3 hi q => list_go (SqL.of (q.1 _ _ p2)) hi) (fun H3 q => list_stop (SqL.of (q.1 _ _ p2))) ?_ ?_
    · rintro i x H3 H3' hi ⟨s3, q2⟩ hy
      obtain ⟨rfl, hx⟩ := list_yld (SqL.of (s3 _ _ p2)) hy
      obtain ⟨n, hn, rfl⟩ := ints_at hx
      have nB : n ∈ ks B := (srt_perm _).mem_iff.mp (List.mem_of_getElem? hn)
      have h23 := s3 _ _ (s2 _ _ (s1 _ _ h2))
      have R3 := s3 _ _ (s2 _ _ e2)
      have st : fs0 ((srt (ks B)).take (i + 1)) M r = fs0 ((srt (ks B)).take i) M r ++ fs0 [n] M r := by
        rw [take_snoc hn]; unfold fs0; rw [List.filter_append]
      have len0 : (fs0 ((srt (ks B)).take i) M r).length ≤ 40 := by
        refine Nat.le_trans (List.length_filter_le _ _) ?_
        rw [List.length_take]; omega
      have yes : fs0 [n] M r = [n] → ∃ acc, H3' L = some (.lst acc) ∧ acc.length < sizeLine ∧ Same H2 (upd H3' L (.lst (acc ++ [V.int n]))) ∧ (upd H3' L (.lst (acc ++ [V.int n]))) L = some (.lst ((fs0 ((srt (ks B)).take (i + 1)) M r).map V.int)) := fun e =>
        ⟨_, q2, small1000 (by rw [List.length_map]; omega), same_upd s3 hL, by rw [upd_same, st, e, List.map_append]; rfl⟩
      refine ⟨rfl, _, rfl, _, rfl, d2, _, rfl, DGet.k (k := Sum.inl n) h23, _, rfl, ?_⟩
      rw [valV_kI]
      cases e : lk M n with
      | none =>
        have nM : n ∉ ks M := lk_none.mp e
        refine iteT ?_
        show ∃ x, _
        exact ⟨_, rfl, yes (by simp [fs0, nM])⟩
      | some v =>
        have yM : n ∈ ks M := lk_some_ks e
        refine iteF ⟨_, rfl, _, rfl, d2, .int v, rfl, (by have z := DGet.k (k := (Sum.inl n : Key)) h23; rw [valV_kI, e] at z; exact z), _, rfl, R, _, rfl, DGet.k (k := Sum.inl v) R3, _, rfl, ?_⟩
        rw [valV_kI]
        cases e2 : lk r v with
        | none =>
          have : v ∉ ks r := lk_none.mp e2
          exact iteF ⟨s3, by rw [st, q2]; simp [fs0, yM, e, this]⟩
        | some u =>
          have : v ∈ ks r := lk_some_ks e2
          exact iteT ⟨_, rfl, yes (by simp [fs0, e, this])⟩
    · rintro H3 ⟨s3, q2⟩
      rw [List.length_map, List.take_length] at q2
      have len0 : (fs0 (srt (ks B)) M r).length ≤ 40 := Nat.le_trans (List.length_filter_le _ _) slen
      have R3 := s3 _ _ (s2 _ _ e2)
      unfold fs at fin
      generalize fs0 (srt (ks B)) M r = lf at q2 len0 fin
      refine ⟨_, rfl, L, rfl, ⟨_, SqL.of q2⟩, fun L2 hL2 => ?_⟩
      refine lc_by (n := (lf.map V.int).length) (fun i H4 => Same H3 H4 ∧ H4 L2 = some (.lst (((lf.take i).filter fun x => decide (x ∉ ks r)).map V.int)))
        ⟨same_new hL2, upd_same⟩ (fun i H3 hi q => list_go (SqL.of (q.1 _ _ q2)) hi) (fun H3 q => list_stop (SqL.of (q.1 _ _ q2))) ?_ ?_
      · rintro i x H4 H4' hi ⟨s4, q4⟩ hy
        obtain ⟨rfl, hx⟩ := list_yld (SqL.of (s4 _ _ q2)) hy
        obtain ⟨n, hn, rfl⟩ := ints_at hx
        refine ⟨rfl, _, rfl, _, rfl, R, _, rfl, DGet.k (k := Sum.inl n) (s4 _ _ R3), _, rfl, ?_⟩
        rw [valV_kI]
        rw [take_snoc hn, List.filter_append]
        cases e : lk r n with
        | none =>
          have nM : n ∉ ks r := lk_none.mp e
          exact iteT ⟨_, rfl, _, q4, small1000 (by rw [List.length_map]; refine Nat.le_trans (List.length_filter_le _ _) ?_; rw [List.length_take]; omega), same_upd s4 hL2, by rw [upd_same]; simp [nM]⟩
        | some u =>
          have yM : n ∈ ks r := lk_some_ks e
          exact iteF ⟨s4, by rw [q4]; simp [yM]⟩
      · rintro H4 ⟨s4, q4⟩
        rw [List.length_map, List.take_length] at q4
        exact fin L2 H4 ((s1.trans s2).trans (s3.trans s4)) (s1.free (s2.free (s3.free hL2))) q4
end
end FP

set_option Elab.async false
set_option maxRecDepth 100000
namespace FP
open PySem L2 FL FR
section
variable {P : Program} {w : World} {K : PySem.W.Frag} {mg : Str → Option Value} {base : Heap}
/-! ### Hall.ladders, Hall.free -/
def spLadders (C : Addr) : Sp := fun vs H Q _ => ∃ (p : Addr) (F : Addr → Prop) (n : Int) (B : BL) (M : MT), vs = [.ref p] ∧ HallAt C H p F n B M ∧ ∀ (q : Addr) (H' : Hp), Same H H' → NewLists H H' q (lads (ks B) B M) → Q (.ref q) H'
theorem scLadders : FnScope ["self"] ["self"] (defScope sLadders) := ⟨rfl, rfl, rfl, by decide +kernel, rfl, by decide +kernel, by decide +kernel⟩
theorem ok_ladders {f fA C : Addr} {fd fdA : FuncData} (F : Fun K "ladders" "Hall.ladders" sLadders f fd) (T : Txt K mg C) (GA : FnOk P w K mg base CX0 2 fA fdA ["below", "beneath"] spAllLadders) (bA : Binds K fdA ["below", "beneath"] []) (mA : mg "all_ladders" = some (.ref fA)) (kA : PySem.W.keepIn K (.ref fA) = true) : FnOk P w K mg base CX0 3 f fd ["self"] (spLadders C) := by
  refine F.ok scLadders (fun vs H Q E h => ?_) (fun cdv A outer s H vs Q E hr h => ?_)
  · obtain ⟨p, _, _, _, _, rfl, _⟩ := h
    rfl
  · obtain ⟨p, Fp, n, B, M, rfl, hall, fin⟩ := h
    obtain ⟨dx, d1, d2, ρ, a1, a2, a3, a4, a5, f1, f2, f3, f4⟩ := hall.ex
    refine ⟨_, pss_one (ps_ret (pe_call GA hr rfl mA kA bA .nil pass0 (pa_cons (pe_fld (pv 0) rfl) (pa_cons (pe_fld (pv 0) rfl) pa_nil)))), ?_⟩
    refine ⟨_, rfl, p, C, dx, _, _, rfl, a1, T.cl, T.nB, hf_b _ _ _, _, rfl, p, C, dx, _, _, rfl, a1, T.cl, T.nN, hf_n _ _ _, d1, d2, ρ, B, M, rfl, a3, a4, hall.inv.wf, hall.inv.mw, by have := hall.few; omega, fun q H' s' e => ?_⟩
    rw [srt_of hall.inv.up] at e
    exact fin q H' s' e
end
end FP

set_option Elab.async false
set_option maxRecDepth 100000
namespace FP
open PySem L2 FL FR
def fre (B : BL) (M : MT) : List Int := fs (ks B) M (srch B (ks B) M).1
section
variable {P : Program} {w : World} {K : PySem.W.Frag} {mg : Str → Option Value} {base : Heap}
def spFree (C : Addr) : Sp := fun vs H Q _ => ∃ (p : Addr) (F : Addr → Prop) (n : Int) (B : BL) (M : MT), vs = [.ref p] ∧ HallAt C H p F n B M ∧ ∀ (q : Addr) (H' : Hp), Same H H' → H q = none → H' q = some (.lst ((fre B M).map V.int)) → Q (.ref q) H'
theorem scFree : FnScope ["self"] ["self"] (defScope sFree) := ⟨rfl, rfl, rfl, by decide +kernel, rfl, by decide +kernel, by decide +kernel⟩
theorem ok_free {f fA C : Addr} {fd fdA : FuncData} (F : Fun K "free" "Hall.free" sFree f fd) (T : Txt K mg C) (GA : FnOk P w K mg base CX0 2 fA fdA ["below", "beneath"] spFreeSet) (bA : Binds K fdA ["below", "beneath"] []) (mA : mg "free_set" = some (.ref fA)) (kA : PySem.W.keepIn K (.ref fA) = true) : FnOk P w K mg base CX0 3 f fd ["self"] (spFree C) := by
  refine F.ok scFree (fun vs H Q E h => ?_) (fun cdv A outer s H vs Q E hr h => ?_)
  · obtain ⟨p, _, _, _, _, rfl, _⟩ := h
    rfl
  · obtain ⟨p, Fp, n, B, M, rfl, hall, fin⟩ := h
    obtain ⟨dx, d1, d2, ρ, a1, a2, a3, a4, a5, f1, f2, f3, f4⟩ := hall.ex
    refine ⟨_, pss_one (ps_ret (pe_call GA hr rfl mA kA bA .nil pass0 (pa_cons (pe_fld (pv 0) rfl) (pa_cons (pe_fld (pv 0) rfl) pa_nil)))), ?_⟩
    refine ⟨_, rfl, p, C, dx, _, _, rfl, a1, T.cl, T.nB, hf_b _ _ _, _, rfl, p, C, dx, _, _, rfl, a1, T.cl, T.nN, hf_n _ _ _, d1, d2, ρ, B, M, rfl, ⟨.inl a3, a5⟩, a3, a4, hall.inv.wf, hall.inv.mw, by have := hall.few; omega, fun q H' s' hq e => ?_⟩
    rw [srt_of hall.inv.up] at e
    exact fin q H' s' hq e
end
end FP

set_option Elab.async false
set_option maxRecDepth 100000
namespace FP
open PySem L2 FL FR
section
variable {P : Program} {w : World} {K : PySem.W.Frag} {mg : Str → Option Value} {base : Heap}
/-! ### all_floors -/
def spAllFloors : Sp := fun vs H Q _ => ∃ (d1 : Addr) (ρ : Int → Addr) (B : BL) (f : Int → Int), vs = [.ref d1] ∧ BelowAt H d1 ρ B ∧ H d1 = some (.dK (kB ρ B)) ∧ WF B ∧ (ks B).Pairwise (· < ·) ∧ (∀ x ∈ ks B, (gt B x).length ≤ 40) ∧ B.length ≤ 40 ∧ Fl B f ∧
  ∀ (q : Addr) (H' : Hp), Same H H' → NewLists H H' q (flr f (ks B)) → Q (.ref q) H'
theorem scAllFloors : FnScope ["below", "floor_of", "floors", "one", "floor", "low"] ["below"] (defScope sAllFloors) := ⟨rfl, rfl, rfl, by decide +kernel, rfl, by decide +kernel, by decide +kernel⟩
theorem ok_allFloors {f : Addr} {fd : FuncData} (F : Fun K "all_floors" "all_floors" sAllFloors f fd) (mS : mg "sorted" = none) (mMax : mg "max" = none) (mLen : mg "len" = none) : FnOk P w K mg base CX0 1 f fd ["below"] spAllFloors := by
  refine F.ok scAllFloors (fun vs H Q E h => ?_) (fun cdv A outer s H vs Q E hr h => ?_)
  · obtain ⟨_, _, _, _, rfl, _⟩ := h
    rfl
  · obtain ⟨d1, ρ, B, f, rfl, hB, h1, wf, up, lf, few, hf, fin⟩ := h
    have hu := hu_of hr
    have nn := hf.nn wf
    refine ⟨_, pss_cons (ps_set (i := 1) scAllFloors.nd rfl (Or.inr rfl) pe_dnewK)
      (pss_cons (ps_set (i := 2) scAllFloors.nd rfl (Or.inl rfl) (pe_lst pa_nil))
      (pss_cons (ps_for PassesOwn.never rfl (pi_list (pe_callB (call_sortedDI rfl) (by rfl) mS (by decide +kernel) (pa_cons (pv 0) pa_nil))) (pg_name (i := 3) scAllFloors.nd rfl (Or.inl rfl))
        (pss_cons (ps_set (i := 4) scAllFloors.nd rfl (Or.inl rfl) (pe_op op_add pe_int (pe_callBK (ck_maxD rfl hr.units) (by rfl) mMax (by decide +kernel) (pa_cons (pe_lc (own := [("low", 5)]) (g := gName 5) (tt := tYes) (te := tDGet (tVar 1) (tVar 5)) (wi := iList K (tDGet (tVar 0) (tVar 3))) rfl scAllFloors.nd (pi_list (pe_dget hu (pv 0) (pv 3) (fun _ _ => rfl))) (blkOk_by (N := ["below", "floor_of", "floors", "one", "floor", "low"]) (sc := defScope sAllFloors) (by decide +kernel))
            (fun _ _ _ _ _ => pg_name (i := 5) scAllFloors.nd rfl (Or.inl rfl)) (fun _ _ _ _ _ => pts_nil) (fun _ _ _ _ _ => pe_dget hu (pv 1) (pv 5) (fun _ _ => rfl))) pa_nil) (pk_cons (pe_un un_neg pe_int) pk_nil))))
        (pss_cons (ps_dput hu (pv 1) (pv 3) (pv 4) rfl)
        (pss_cons (psWeak (t' := fun D σ H => ∃ (fl : Addr) (n : Int) (as : List Addr), σ[2]? = some (some (.ref fl)) ∧ σ[4]? = some (some (.int n)) ∧ H fl = some (.lst (as.map V.ref)) ∧ as.length ≤ 40 ∧ ∀ H' as', ((n = (as.length : Int) ∧ ∃ a, H a = none ∧ H' = upd (upd H a (.lst [])) fl (.lst (as'.map V.ref)) ∧ as' = as ++ [a]) ∨ (n ≠ (as.length : Int) ∧ H' = H ∧ as' = as)) → D.nx σ H') (ps_if (pt_cmpR op_eq (pv 4) (pe_callB call_len_seq (by rfl) mLen PySem.boot_len (pa_cons (pv 2) pa_nil)) (nomark _)) (pss_one (ps_expr (pe_bm PySem.F.plainAttrs_list PySem.F.slot_list_append PySem.F.type_list_append mt_append (pv 2) (pa_cons (pe_lst pa_nil) pa_nil)))) pss_nil) ?opt)
        (pss_one (ps_expr (pe_bm PySem.F.plainAttrs_list PySem.F.slot_list_append PySem.F.type_list_append mt_append (pe_ix ix_list (pv 2) (pv 4) (fun _ _ => rfl)) (pa_cons (pv 3) pa_nil))))))))
      (pss_one (ps_ret (pv 2))))), ?_⟩
    case opt =>
      rintro D σ H1 ⟨fl, n, as, e2, e4, hl, la, k⟩
      refine ⟨_, e4, _, e2, fl, _, rfl, .inl (SqL.of hl), rfl, _, rfl, ?_⟩
      rw [List.length_map]
      have e : decide (V.int n = V.int ((as.length : Nat) : Int)) = decide (n = ((as.length : Nat) : Int)) := by simp
      rw [e]
      refine ite2 (fun c => ?_) (fun c => ?_)
      · have c1 : n = (as.length : Int) := by simpa using c
        refine ⟨_, e2, .inl ⟨rfl, _, SqL.of hl⟩, Nat.zero_le _, fun a ha => ?_⟩
        have nfa : fl ≠ a := ne_of_none hl ha
        refine ⟨fl, _, _, rfl, rfl, by rw [upd_ne nfa]; exact hl, small1000 (by rw [List.length_map]; omega), ?_⟩
        exact k _ (as ++ [a]) (.inl ⟨c1, a, ha, by rw [List.map_append]; rfl, rfl⟩)
      · have c1 : n ≠ (as.length : Int) := by simpa using c
        exact k _ as (.inr ⟨c1, rfl, rfl⟩)
    intro fo hfo
    have s1 : Same H (upd H fo (.dK [])) := same_new hfo
    have fo1 : (upd H fo (.dK [])) fo = some (.dK []) := upd_same
    generalize upd H fo (.dK []) = H1 at s1 fo1 ⊢
    refine ⟨Nat.zero_le _, fun fl hfl => ?_⟩
    have s2 : Same H1 (upd H1 fl (.lst [])) := same_new hfl
    have fl2 : (upd H1 fl (.lst [])) fl = some (.lst []) := upd_same
    have fl0 : H fl = none := s1.free hfl
    generalize upd H1 fl (.lst []) = H2 at s2 fl2 ⊢
    refine ⟨_, rfl, d1, kB ρ B, ks B, rfl, .inl (s2 _ _ (s1 _ _ h1)), kB_keys ρ B, by rw [len_ks]; omega, fun ys p hp hle hpn => ?_⟩
    obtain rfl : ys = ks B := (srt_uniq hp hle).trans (srt_of up)
    have s3 : Same H2 (upd H2 p (.lst ((ks B).map V.int))) := same_new hpn
    have p3 : (upd H2 p (.lst ((ks B).map V.int))) p = some (.lst ((ks B).map V.int)) := upd_same
    have npf : fl ≠ p := ne_of_none fl2 hpn
    generalize upd H2 p (.lst ((ks B).map V.int)) = H3 at s3 p3 ⊢
    refine ⟨p, rfl, ⟨_, SqL.of p3⟩, ?_⟩
    have ndK : (ks B).Nodup := wf.nd
    refine for_by (n := ((ks B).map V.int).length) (fun i σ H4 => ∃ v3 v4, σ = [some (.ref d1), some (.ref fo), some (.ref fl), v3, v4, none] ∧ Same H H4 ∧ H4 p = some (.lst ((ks B).map V.int)) ∧ H4 fo = some (.dK (kI (((ks B).map fun k => (k, f k)).take i))) ∧
        nf f ((ks B).take i) ≤ i ∧ ∃ as : List Addr, H4 fl = some (.lst (as.map V.ref)) ∧ Paired (fun a (l : List Int) => H4 a = some (.lst (l.map V.int))) as (flr f ((ks B).take i)) ∧ (fl :: as).Nodup ∧ ∀ a ∈ fl :: as, H a = none ∧ a ≠ p)
      ⟨none, none, rfl, (s1.trans s2).trans s3, p3, by rw [List.take_zero]; exact s3 _ _ (s2 _ _ fo1), by simp [nf, mx_nil], [], s3 _ _ fl2, by simp [flr, nf, mx_nil]; exact .nil, by simp, fun a ha => by rw [show a = fl by simpa using ha]; exact ⟨fl0, npf⟩⟩
      (fun i σ H4 hi ⟨_, _, _, _, q, _⟩ => list_go (SqL.of q) hi) (fun σ H4 ⟨_, _, _, _, q, _⟩ => list_stop (SqL.of q)) ?_ ?_
    · rintro i y σ H4 H4' hi ⟨v3, v4, rfl, s4, p4, fo4, nfi, as, fl4, pr4, nd4, new4⟩ hy
      obtain ⟨rfl, hx⟩ := list_yld (SqL.of p4) hy
      obtain ⟨x, hx2, rfl⟩ := ints_at hx
      have xB : x ∈ ks B := List.mem_of_getElem? hx2
      have li : i < (ks B).length := by rw [List.length_map] at hi; exact hi
      rw [len_ks] at li
      have low4 := s4 _ _ (hB.2 _ (lk_mem (lk_gt xB)))
      have gr4 : DGet H4' d1 (.int x) (some (.ref (ρ x))) := by
        have z := DGet.k (k := (Sum.inl x : Key)) (s4 _ _ h1)
        rw [valV_kB, if_pos xB] at z
        exact z
      have z0 : ∀ y ∈ (ks B).take i, 0 ≤ f y := fun y hy => nn y (List.mem_of_mem_take hy)
      have fx := hf.step wf up hx2
      -- floor = 1 + max([floor_of[low] for low in below[one]], default=-1)
      refine ⟨_, rfl, _, rfl, d1, _, rfl, gr4, ρ x, rfl, ⟨_, SqL.of low4⟩, fun L hL => ?_⟩
      have nLp : p ≠ L := ne_of_none p4 hL
      refine lc_by (n := ((gt B x).map V.int).length) (fun j H5 => Same H4' H5 ∧ H5 L = some (.lst ((((gt B x).take j).map f).map V.int))) ⟨same_new hL, upd_same⟩
        (fun j H5 hj q => list_go (SqL.of (q.1 _ _ low4)) hj) (fun H5 q => list_stop (SqL.of (q.1 _ _ low4))) ?_ ?_
      · rintro j z H5 H5' hj ⟨s5, m5⟩ hy2
        obtain ⟨rfl, hx5⟩ := list_yld (SqL.of (s5 _ _ low4)) hy2
        obtain ⟨low, hlow, rfl⟩ := ints_at hx5
        have lg : low ∈ gt B x := List.mem_of_getElem? hlow
        obtain ⟨l1, l2⟩ := wf.lo x low lg
        have g5 : DGet H5' fo (.int low) (some (.int (f low))) := by
          have z := DGet.k (k := (Sum.inl low : Key)) (s5 _ _ fo4)
          rw [valV_kI, ← List.map_take, lk_fn (in_take up hx2 l2 l1)] at z
          exact z
        exact ⟨rfl, _, rfl, _, rfl, fo, _, rfl, g5, _, m5, small1000 (by rw [List.length_map, List.length_map, List.length_take]; have := lf x xB; omega), same_upd s5 hL, by rw [upd_same, take_snoc hlow, List.map_append, List.map_append]; rfl⟩
      rintro H5 ⟨s5, m5⟩
      rw [List.length_map, List.take_length] at m5
      refine ⟨_, rfl, L, _, -1, rfl, rfl, SqL.of m5, add_as (hf x xB).symm ?_⟩
      -- floor_of[one] = floor
      refine ⟨_, rfl, _, rfl, _, rfl, fo, _, rfl, DPut.k (k := (Sum.inl x : Key)) (s5 _ _ fo4) (small1000 (by rw [kI_len, List.length_take, List.length_map]; rw [len_ks]; omega)), ?_⟩
      have ept : putK (kI (((ks B).map fun k => (k, f k)).take i)) (Sum.inl x : Key) (.int (f x)) = kI (((ks B).map fun k => (k, f k)).take (i + 1)) :=
        (putK_kI _ _ _).trans (congrArg kI (pt_take (by rw [ks_fn]; exact ndK) (by rw [List.getElem?_map, hx2]; rfl)))
      rw [ept]
      have nof : ∀ b, b ∈ fl :: as → b ≠ fo := fun b hb e => by
        rcases List.mem_cons.mp hb with z | z
        · rw [← e, z, fl4] at fo4; cases fo4
        · obtain ⟨k, hk, ek⟩ := List.getElem_of_mem z
          obtain ⟨l, _, hl⟩ := paired_at pr4 (List.getElem?_eq_getElem hk)
          rw [ek, e, fo4] at hl; cases hl
      have npo : p ≠ fo := fun e => by rw [e, fo4] at p4; cases p4
      have hfo0 : H fo = none := hfo
      have s6 : Same H (upd H5 fo (.dK (kI (((ks B).map fun k => (k, f k)).take (i + 1))))) := same_upd (s4.trans s5) hfo0
      have fo6 : (upd H5 fo (.dK (kI (((ks B).map fun k => (k, f k)).take (i + 1))))) fo = some (.dK (kI (((ks B).map fun k => (k, f k)).take (i + 1)))) := upd_same
      have k6 : ∀ b o, b ≠ fo → H4' b = some o → (upd H5 fo (.dK (kI (((ks B).map fun k => (k, f k)).take (i + 1))))) b = some o := fun b o nb e => by rw [upd_ne nb]; exact s5 _ _ e
      generalize upd H5 fo (.dK (kI (((ks B).map fun k => (k, f k)).take (i + 1)))) = H6 at s6 fo6 k6 ⊢
      have fl6 := k6 _ _ (nof fl List.mem_cons_self) fl4
      have pr6 : Paired (fun a (l : List Int) => H6 a = some (.lst (l.map V.int))) as (flr f ((ks B).take i)) := paired_imp' pr4 fun a l ha e => k6 _ _ (nof a (List.mem_cons_of_mem _ ha)) e
      have p6 := k6 _ _ npo p4
      have lenas : as.length = nf f ((ks B).take i) := by rw [paired_len pr6, flr_len]
      -- if floor == len(floors): floors.append([])
      refine ⟨fl, f x, as, rfl, rfl, fl6, by omega, fun H7 as' hc => ?_⟩
      have two : Same H H7 ∧ H7 p = some (.lst ((ks B).map V.int)) ∧ H7 fo = H6 fo ∧ H7 fl = some (.lst (as'.map V.ref)) ∧ Paired (fun a (l : List Int) => H7 a = some (.lst (l.map V.int))) as' (if f x = nf f ((ks B).take i) then flr f ((ks B).take i) ++ [[]] else flr f ((ks B).take i)) ∧ (fl :: as').Nodup ∧ ∀ a ∈ fl :: as', H a = none ∧ a ≠ p := by
        rcases hc with ⟨c, a, ha, rfl, rfl⟩ | ⟨c, rfl, rfl⟩
        · have nfa : fl ≠ a := ne_of_none fl6 ha
          have npa : p ≠ a := ne_of_none p6 ha
          have noa : fo ≠ a := ne_of_none fo6 ha
          have na : a ∉ as := fun m => by
            obtain ⟨k, hk, ek⟩ := List.getElem_of_mem m
            obtain ⟨l, _, hl⟩ := paired_at pr6 (List.getElem?_eq_getElem hk)
            rw [ek, ha] at hl; cases hl
          have nfas : fl ∉ as := (List.nodup_cons.mp nd4).1
          refine ⟨same_upd (same_upd s6 (s6.free ha)) fl0, by rw [upd_ne npf.symm, upd_ne npa]; exact p6, by rw [upd_ne (nof fl List.mem_cons_self).symm, upd_ne noa], upd_same, ?_, ?_, ?_⟩
          · rw [if_pos (by omega)]
            refine paired_snoc (paired_imp' pr6 fun b l hb e => ?_) ?_
            · rw [upd_ne (fun (z : b = fl) => nfas (z ▸ hb)), upd_ne (fun (z : b = a) => na (z ▸ hb))]; exact e
            · rw [upd_ne nfa.symm, upd_same]; rfl
          · rw [← List.cons_append]
            refine List.nodup_append.mpr ⟨nd4, by simp, fun b hb c hc => ?_⟩
            have : c = a := by simpa using hc
            rw [this]
            rcases List.mem_cons.mp hb with z | z
            · rw [z]; exact nfa
            · exact fun z2 => na (z2 ▸ z)
          · intro b hb
            rw [← List.cons_append] at hb
            rcases List.mem_append.mp hb with z | z
            · exact new4 b z
            · have : b = a := by simpa using z
              rw [this]; exact ⟨s6.free ha, npa.symm⟩
        · exact ⟨s6, p6, rfl, fl6, by rw [if_neg (by omega)]; exact pr6, nd4, new4⟩
      obtain ⟨s7, p7, fo7, fl7, pr7, nd7, new7⟩ := two
      -- floors[floor].append(one)
      have hget := flr_get z0 (nn x xB) fx
      obtain ⟨a, ha, la⟩ := paired_get2 pr7 hget
      have am : a ∈ as' := List.mem_of_getElem? ha
      have naf : a ≠ fl := fun z => (List.nodup_cons.mp nd7).1 (z ▸ am)
      have nao : a ≠ fo := fun z => by rw [z, fo7, fo6] at la; cases la
      refine ⟨_, rfl, _, rfl, fl, _, _, .ref a, rfl, rfl, SqL.of fl7, at_of (j := (f x).toNat) (by have := nn x xB; omega) (by rw [List.getElem?_map, ha]; rfl), .inl ⟨rfl, _, SqL.of la⟩, _, rfl, a, _, _, rfl, rfl, la, small1000 ?_, ?_⟩
      · rw [List.length_map]
        refine Nat.le_trans (List.length_filter_le _ _) ?_
        rw [List.length_take, len_ks]; omega
      · refine ⟨_, _, rfl, same_upd s7 (new7 a (List.mem_cons_of_mem _ am)).1, by rw [upd_ne (new7 a (List.mem_cons_of_mem _ am)).2.symm]; exact p7, by rw [upd_ne nao.symm, fo7]; exact fo6, ?_, as', by rw [upd_ne naf.symm]; exact fl7, ?_, nd7, new7⟩
        · rw [take_snoc hx2, nf_snoc z0 (nn x xB)]; omega
        · rw [take_snoc hx2, flr_set z0 (nn x xB) fx]
          exact paired_set pr7 (List.nodup_cons.mp nd7).2 ha (by rw [upd_same, List.map_append]; rfl) fun c d nc e => by rw [upd_ne nc]; exact e
    · rintro σ H4 ⟨v3, v4, rfl, s4, p4, fo4, nfi, as, fl4, pr4, nd4, new4⟩
      rw [List.length_map, List.take_length] at pr4
      exact ⟨_, rfl, fin fl H4 s4 ⟨as, fl4, pr4, nd4, fun a ha => (new4 a ha).1⟩⟩
/-! ### longest_ladder -/
def spLongestLadder : Sp := fun vs H Q _ => ∃ (d1 : Addr) (ρ : Int → Addr) (B : BL) (f : Int → Int), vs = [.ref d1] ∧ BelowAt H d1 ρ B ∧ H d1 = some (.dK (kB ρ B)) ∧ WF B ∧ (ks B).Pairwise (· < ·) ∧ (∀ x ∈ ks B, (gt B x).length ≤ 40) ∧ B.length ≤ 40 ∧ Fl B f ∧ nf f (ks B) ≤ 40 ∧
  ∀ (q : Addr) (H' : Hp), Same H H' → H q = none → H' q = some (.lst ((lng B f).map V.int)) → Q (.ref q) H'
theorem scLongestLadder : FnScope ["below", "ladder", "floor", "under", "one"] ["below"] (defScope sLongestLadder) := ⟨rfl, rfl, rfl, by decide +kernel, rfl, by decide +kernel, by decide +kernel⟩
theorem ok_longestLadder {f fA : Addr} {fd fdA : FuncData} (F : Fun K "longest_ladder" "longest_ladder" sLongestLadder f fd) (GA : FnOk P w K mg base CX0 1 fA fdA ["below"] spAllFloors) (bA : Binds K fdA ["below"] []) (mA : mg "all_floors" = some (.ref fA)) (kA : PySem.W.keepIn K (.ref fA) = true) (mR : mg "reversed" = none) : FnOk P w K mg base CX0 2 f fd ["below"] spLongestLadder := by
  refine F.ok scLongestLadder (fun vs H Q E h => ?_) (fun cdv A outer s H vs Q E hr h => ?_)
  · obtain ⟨_, _, _, _, rfl, _⟩ := h
    rfl
  · obtain ⟨d1, ρ, B, f, rfl, hB, h1, wf, up, lf, few, hf, nf40, fin⟩ := h
    have hu := hu_of hr
    refine ⟨_, pss_cons (ps_set (i := 1) scLongestLadder.nd rfl (Or.inr rfl) (pe_lst pa_nil))
      (pss_cons (ps_for PassesOwn.never rfl (pi_reversed (by rfl) mR (pa_cons (pe_call GA hr (by rfl) mA kA bA .nil pass0 (pa_cons (pv 0) pa_nil)) pa_nil)) (pg_name (i := 2) scLongestLadder.nd rfl (Or.inl rfl))
        (pss_one (ps_if (pt_truth (pv 1) (by intro _; rfl))
          (pss_cons (ps_setLc (i := 3) (own := [("one", 4)]) (g := gName 4) (tt := tTest (tOp (rIn K false) (tVar 4) (tDGet (tVar 0) (tOp (rIxL K) (tVar 1) (tUn (rU fun i => V.int (-i)) (tC (V.int 1))))))) rfl scLongestLadder.nd rfl rfl (sw_true rfl rfl rfl (by decide +kernel)) (pi_list (pv 2)) (blkOk_by (N := ["below", "ladder", "floor", "under", "one"]) (sc := defScope sLongestLadder) (by decide +kernel))
            (fun _ _ _ _ _ => pg_name (i := 4) scLongestLadder.nd rfl (Or.inl rfl)) (fun _ _ _ _ _ => pts_one (pt_cmpR op_in_seq (pv 4) (pe_dget hu (pv 0) (pe_ix ix_list (pv 1) (pe_un un_neg pe_int) (fun _ _ => rfl)) (fun _ _ => rfl)) (by rfl))) (fun _ _ _ _ _ => pv 4))
          (pss_one (ps_expr (pe_bm PySem.F.plainAttrs_list PySem.F.slot_list_append PySem.F.type_list_append mt_append (pv 1) (pa_cons (pe_ix ix_list (pv 3) pe_int (fun _ _ => rfl)) pa_nil)))))
          (pss_one (ps_expr (pe_bm PySem.F.plainAttrs_list PySem.F.slot_list_append PySem.F.type_list_append mt_append (pv 1) (pa_cons (pe_ix ix_list (pv 2) pe_int (fun _ _ => rfl)) pa_nil)))))))
      (pss_one (ps_ret (pe_revL (pv 1))))), ?_⟩
    refine ⟨Nat.zero_le _, fun ld hld => ?_⟩
    have s0 : Same H (upd H ld (.lst [])) := same_new hld
    have l0 : (upd H ld (.lst [])) ld = some (.lst []) := upd_same
    generalize upd H ld (.lst []) = H0 at s0 l0 ⊢
    refine ⟨_, rfl, d1, ρ, B, f, rfl, hB.same s0, s0 _ _ h1, wf, up, lf, few, hf, fun q H1 s1 nl => ?_⟩
    obtain ⟨as, q1, pr1, nd1, new1⟩ := nl
    have lenas : as.length = nf f (ks B) := by rw [paired_len pr1, flr_len]
    have l1 := s1 _ _ l0
    have nql : q ≠ ld := fun e => by have := new1 q List.mem_cons_self; rw [e, l0] at this; cases this
    refine ⟨q, _, rfl, SqL.of q1, ?_⟩
    refine for_by (n := (as.map V.ref).length) (fun i σ H2 => ∃ v2 v3, σ = [some (.ref d1), some (.ref ld), v2, v3, none] ∧ (∀ b o, b ≠ ld → H1 b = some o → H2 b = some o) ∧ H2 ld = some (.lst ((lngU B f i).map V.int)))
      ⟨_, _, rfl, fun b o _ e => e, by simpa [lngU] using l1⟩ (fun i σ H2 hi ⟨_, _, _, k, _⟩ => rev_go (SqL.of (k _ _ nql q1)) hi) (fun σ H2 _ => Nat.le_refl _) ?_ ?_
    · rintro i y σ H2 H2' hi ⟨v2, v3, rfl, k2, l2⟩ ⟨rfl, hy⟩
      have hi2 : i < nf f (ks B) := by rw [List.length_map, lenas] at hi; exact hi
      have hy2 := hy _ (SqL.of (k2 _ _ nql q1))
      rw [List.length_map, lenas] at hy2
      obtain ⟨a, ha, rfl⟩ := refs_at hy2
      obtain ⟨fl, hfl, hla⟩ := paired_at pr1 ha
      rw [flr_at (by omega)] at hfl
      have nal : a ≠ ld := fun e => by have := new1 a (List.mem_cons_of_mem _ (List.mem_of_getElem? ha)); rw [e, l0] at this; cases this
      have la := k2 _ _ nal hla
      have hsuc := lngU_succ (f := f) (B := B) hi2
      unfold lngS at hsuc
      obtain ⟨z, t, ez⟩ := lng_more wf hf hi2
      rw [ez, List.headD_cons] at hsuc
      obtain ⟨u1, _, _⟩ := lngU_ok wf hf i (by omega)
      have hlast := lng_last wf hf hi2
      rw [Option.some.inj hfl] at ez
      have llen : fl.length ≤ 40 := by rw [← Option.some.inj hfl]; exact Nat.le_trans (List.length_filter_le _ _) (by rw [len_ks]; exact few)
      refine ⟨_, rfl, !((lngU B f i).map V.int).isEmpty, .inl ⟨_, SqL.of l2, rfl⟩, ?_⟩
      by_cases c : lngU B f i = []
      · rw [if_pos c] at ez
        rw [c] at l2 ⊢
        refine iteF ⟨_, rfl, .inl ⟨rfl, _, SqL.of l2⟩, _, rfl, a, _, 0, .int z, rfl, rfl, SqL.of la, by rw [ez]; exact at_of (j := 0) rfl rfl, ld, _, _, rfl, rfl, l2, small1000 (by simp), ?_⟩
        exact ⟨_, _, rfl, fun b o nb e => by rw [upd_ne nb]; exact k2 b o nb e, by rw [upd_same, hsuc, c]; rfl⟩
      · rw [if_neg c] at ez
        have e1 : (!((lngU B f i).map V.int).isEmpty) = true := by simp [c]
        rw [e1]
        obtain ⟨lB, _⟩ := hlast c
        have el := snoc_last c
        generalize (lngU B f i).getLastD 0 = last at lB ez el
        generalize lngU B f i = l at *
        have lg := lf last lB
        have nlow : ρ last ≠ ld := fun e => by have := hB.2 _ (lk_mem (lk_gt lB)); rw [e, hld] at this; cases this
        have nd1 : d1 ≠ ld := fun e => by rw [e, hld] at h1; cases h1
        have low2 := k2 _ _ nlow (s1 _ _ (s0 _ _ (hB.2 _ (lk_mem (lk_gt lB)))))
        have d2 := k2 _ _ nd1 (s1 _ _ (s0 _ _ h1))
        refine iteT ⟨_, rfl, a, rfl, ⟨_, SqL.of la⟩, fun L hL => ?_⟩
        refine lc_by (n := (fl.map V.int).length) (fun j H3 => Same H2' H3 ∧ H3 L = some (.lst (((fl.take j).filter fun x => decide (x ∈ gt B last)).map V.int))) ⟨same_new hL, upd_same⟩
          (fun j H3 hj q => list_go (SqL.of (q.1 _ _ la)) hj) (fun H3 q => list_stop (SqL.of (q.1 _ _ la))) ?_ ?_
        · rintro j x H3 H3' hj ⟨s3, m3⟩ hy3
          obtain ⟨rfl, hx3⟩ := list_yld (SqL.of (s3 _ _ la)) hy3
          obtain ⟨n, hn, rfl⟩ := ints_at hx3
          have g3 : DGet H3' d1 (.int last) (some (.ref (ρ last))) := by
            have z := DGet.k (k := (Sum.inl last : Key)) (s3 _ _ d2)
            rw [valV_kB, if_pos lB] at z
            exact z
          refine ⟨rfl, _, rfl, _, rfl, _, rfl, _, rfl, ld, _, _, .int last, rfl, rfl, SqL.of (s3 _ _ l2), by rw [el, List.map_append]; exact atI_last _ _, d1, _, rfl, g3, ρ last, _, rfl, .inl (SqL.of (s3 _ _ low2)), rfl, flat_ints _, _, rfl, ?_⟩
          rw [if_neg (by decide), inV_ints, take_snoc hn, List.filter_append]
          refine ite2 (fun c3 => ?_) (fun c3 => ?_)
          · have c4 : n ∈ gt B last := of_decide_eq_true c3
            exact ⟨_, rfl, _, m3, small1000 (by rw [List.length_map]; refine Nat.le_trans (List.length_filter_le _ _) ?_; rw [List.length_take]; omega), same_upd s3 hL, by rw [upd_same]; simp [c4]⟩
          · have c4 : n ∉ gt B last := fun m => c3 (decide_eq_true m)
            exact ⟨s3, by rw [m3]; simp [c4]⟩
        · rintro H3 ⟨s3, m3⟩
          rw [List.length_map, List.take_length, ez] at m3
          have nLl : L ≠ ld := fun e => by rw [e, l2] at hL; cases hL
          refine ⟨_, rfl, .inl ⟨rfl, _, SqL.of (s3 _ _ l2)⟩, _, rfl, L, _, 0, .int z, rfl, rfl, SqL.of m3, at_of (j := 0) rfl rfl, ld, _, _, rfl, rfl, s3 _ _ l2, small1000 (by rw [List.length_map]; omega), ?_⟩
          exact ⟨_, _, rfl, fun b o nb e => by rw [upd_ne nb]; exact s3 _ _ (k2 b o nb e), by rw [upd_same, hsuc, List.map_append]; rfl⟩
    · rintro σ H2 ⟨v2, v3, rfl, k2, l2⟩
      rw [List.length_map, lenas] at l2
      refine ⟨_, rfl, ld, _, rfl, SqL.of l2, fun q2 hq2 => ?_⟩
      have sH2 : Same H H2 := fun b o e => k2 b o (ne_of_none e hld) (s1 _ _ (s0 _ _ e))
      exact fin q2 _ (same_upd sH2 (sH2.free hq2)) (sH2.free hq2) (by rw [upd_same, ← List.map_reverse]; rfl)
end
end FP

set_option Elab.async false
set_option maxRecDepth 100000
namespace FP
open PySem L2 FL FR
theorem nf_le {B : BL} {f : Int → Int} (wf : WF B) (h : Fl B f) : nf f (ks B) ≤ B.length := by
  obtain ⟨h1, h2, _⟩ := lng_ok wf h
  have nd : (lng B f).Nodup := by
    rw [List.Nodup, List.pairwise_iff_getElem]
    intro i j hi hj lt e
    have a := (h2 i _ (List.getElem?_eq_getElem hi)).2
    have b := (h2 j _ (List.getElem?_eq_getElem hj)).2
    rw [e] at a
    omega
  rw [← h1, ← len_ks B]
  exact nd.length_le_of_subset fun x hx => by
    obtain ⟨i, hi, rfl⟩ := List.getElem_of_mem hx
    exact (h2 i _ (List.getElem?_eq_getElem hi)).1
section
variable {P : Program} {w : World} {K : PySem.W.Frag} {mg : Str → Option Value} {base : Heap}
/-! ### Hall.floors, Hall.longest -/
def spFloors (C : Addr) : Sp := fun vs H Q _ => ∃ (p : Addr) (F : Addr → Prop) (n : Int) (B : BL) (M : MT) (f : Int → Int), vs = [.ref p] ∧ HallAt C H p F n B M ∧ Fl B f ∧ ∀ (q : Addr) (H' : Hp), Same H H' → NewLists H H' q (flr f (ks B)) → Q (.ref q) H'
theorem scFloors : FnScope ["self"] ["self"] (defScope sFloors) := ⟨rfl, rfl, rfl, by decide +kernel, rfl, by decide +kernel, by decide +kernel⟩
theorem ok_floors {f fA C : Addr} {fd fdA : FuncData} (F : Fun K "floors" "Hall.floors" sFloors f fd) (T : Txt K mg C) (GA : FnOk P w K mg base CX0 1 fA fdA ["below"] spAllFloors) (bA : Binds K fdA ["below"] []) (mA : mg "all_floors" = some (.ref fA)) (kA : PySem.W.keepIn K (.ref fA) = true) : FnOk P w K mg base CX0 2 f fd ["self"] (spFloors C) := by
  refine F.ok scFloors (fun vs H Q E h => ?_) (fun cdv A outer s H vs Q E hr h => ?_)
  · obtain ⟨p, _, _, _, _, _, rfl, _⟩ := h
    rfl
  · obtain ⟨p, Fp, n, B, M, f, rfl, hall, hf, fin⟩ := h
    obtain ⟨dx, d1, d2, ρ, a1, a2, a3, a4, a5, f1, f2, f3, f4⟩ := hall.ex
    have few := hall.few
    refine ⟨_, pss_one (ps_ret (pe_call GA hr rfl mA kA bA .nil pass0 (pa_cons (pe_fld (pv 0) rfl) pa_nil))), ?_⟩
    exact ⟨_, rfl, p, C, dx, _, _, rfl, a1, T.cl, T.nB, hf_b _ _ _, d1, ρ, B, f, rfl, ⟨.inl a3, a5⟩, a3, hall.inv.wf, hall.inv.up, fun x _ => Nat.le_trans (gt_few hall.inv x) (by omega), by omega, hf, fin⟩
def spLongest (C : Addr) : Sp := fun vs H Q _ => ∃ (p : Addr) (F : Addr → Prop) (n : Int) (B : BL) (M : MT) (f : Int → Int), vs = [.ref p] ∧ HallAt C H p F n B M ∧ Fl B f ∧ ∀ (q : Addr) (H' : Hp), Same H H' → H q = none → H' q = some (.lst ((lng B f).map V.int)) → Q (.ref q) H'
theorem scLongest : FnScope ["self"] ["self"] (defScope sLongest) := ⟨rfl, rfl, rfl, by decide +kernel, rfl, by decide +kernel, by decide +kernel⟩
theorem ok_longest {f fA C : Addr} {fd fdA : FuncData} (F : Fun K "longest" "Hall.longest" sLongest f fd) (T : Txt K mg C) (GA : FnOk P w K mg base CX0 2 fA fdA ["below"] spLongestLadder) (bA : Binds K fdA ["below"] []) (mA : mg "longest_ladder" = some (.ref fA)) (kA : PySem.W.keepIn K (.ref fA) = true) : FnOk P w K mg base CX0 3 f fd ["self"] (spLongest C) := by
  refine F.ok scLongest (fun vs H Q E h => ?_) (fun cdv A outer s H vs Q E hr h => ?_)
  · obtain ⟨p, _, _, _, _, _, rfl, _⟩ := h
    rfl
  · obtain ⟨p, Fp, n, B, M, f, rfl, hall, hf, fin⟩ := h
    obtain ⟨dx, d1, d2, ρ, a1, a2, a3, a4, a5, f1, f2, f3, f4⟩ := hall.ex
    have few := hall.few
    have := nf_le hall.inv.wf hf
    refine ⟨_, pss_one (ps_ret (pe_call GA hr rfl mA kA bA .nil pass0 (pa_cons (pe_fld (pv 0) rfl) pa_nil))), ?_⟩
    exact ⟨_, rfl, p, C, dx, _, _, rfl, a1, T.cl, T.nB, hf_b _ _ _, d1, ρ, B, f, rfl, ⟨.inl a3, a5⟩, a3, hall.inv.wf, hall.inv.up, fun x _ => Nat.le_trans (gt_few hall.inv x) (by omega), by omega, hf, by omega, fin⟩
end
end FP

set_option Elab.async false
set_option maxRecDepth 100000
namespace FP
open PySem L2 FL FR
section
variable {P : Program} {w : World} {K : PySem.W.Frag} {mg : Str → Option Value} {base : Heap}
/-! ### apart -/
def spApart : Sp := fun vs H Q _ => ∃ (dl : Addr) (ρ : Int → Addr) (B : BL) (x y : Int), vs = [.ref dl, .int x, .int y] ∧ BelowAt H dl ρ B ∧ x ∈ ks B ∧ y ∈ ks B ∧ Q (.bl (decide (x ≠ y ∧ y ∉ gt B x ∧ x ∉ gt B y))) H
theorem scApart : FnScope ["_law_below", "_law_one", "_law_other"] ["_law_below", "_law_one", "_law_other"] (defScope sApart) := ⟨rfl, rfl, rfl, by decide +kernel, rfl, by decide +kernel, by decide +kernel⟩
theorem ok_apart {f : Addr} {fd : FuncData} (F : Fun K "_law_apart" "_law_apart" sApart f fd) : FnOk P w K mg base CX0 1 f fd ["_law_below", "_law_one", "_law_other"] spApart := by
  refine F.ok scApart (fun vs H Q E h => ?_) (fun cdv A outer s H vs Q E hr h => ?_)
  · obtain ⟨_, _, _, _, _, rfl, _⟩ := h
    rfl
  · obtain ⟨dl, ρ, B, x, y, rfl, tab, hx, hy, fin⟩ := h
    have hu := hu_of hr
    refine ⟨_, pss_one (ps_ret (pe_and (pe_cmpR op_ne (pv 1) (pv 2) (by rfl)) (pe_and (pe_cmpR op_notIn_seq (pv 2) (pe_dget hu (pv 0) (pv 1) (fun _ _ => rfl)) (by rfl)) (pe_one (pe_cmpR op_notIn_seq (pv 1) (pe_dget hu (pv 0) (pv 2) (fun _ _ => rfl)) (by rfl)))))), ?_⟩
    refine ⟨_, rfl, _, rfl, rfl, _, rfl, ?_⟩
    have e1 : (decide (V.int x = V.int y)) = decide (x = y) := by simp
    rw [e1]
    by_cases c1 : x = y
    · rw [decide_eq_true c1]
      simp only [c1, ne_eq, not_true_eq_false, false_and, decide_false] at fin
      exact iteF fin
    · rw [decide_eq_false c1]
      refine iteT ⟨_, rfl, _, rfl, _, rfl, dl, _, rfl, BelowAt.get tab hx, ρ x, _, rfl, .inl (SqL.of (BelowAt.low tab hx)), rfl, flat_ints _, _, rfl, ?_⟩
      rw [if_pos rfl, inV_ints]
      by_cases c2 : y ∈ gt B x
      · simp only [c1, c2, ne_eq, not_false_eq_true, not_true_eq_false, false_and, and_false, decide_false] at fin
        rw [decide_eq_true c2]
        exact iteF fin
      · rw [decide_eq_false c2]
        refine iteT ⟨_, rfl, _, rfl, _, rfl, dl, _, rfl, BelowAt.get tab hy, ρ y, _, rfl, .inl (SqL.of (BelowAt.low tab hy)), rfl, flat_ints _, ?_⟩
        rw [if_pos rfl, inV_ints]
        simp only [c1, c2, ne_eq, not_false_eq_true, true_and] at fin
        by_cases c3 : x ∈ gt B y <;> simp only [c3, not_true_eq_false, not_false_eq_true, decide_true, decide_false, Bool.not_true, Bool.not_false] at fin ⊢ <;> exact fin
/-! ### is_free -/
def spIsFree : Sp := fun vs H Q _ => ∃ (dl q : Addr) (ρ : Int → Addr) (B : BL) (xs : List Int), vs = [.ref dl, .ref q] ∧ TabAt H dl ρ B ∧ H q = some (.lst (xs.map V.int)) ∧ xs.Pairwise (· < ·) ∧ Free B xs ∧ xs.length ≤ 40 ∧ ∀ H', Same H H' → Q (.bl true) H'
theorem scIsFree : FnScope ["_law_below", "_law_some_here", "_law_one", "_law_other"] ["_law_below", "_law_some_here"] (defScope sIsFree) := ⟨rfl, rfl, rfl, by decide +kernel, rfl, by decide +kernel, by decide +kernel⟩
theorem ok_isFree {f fA : Addr} {fd fdA : FuncData} (F : Fun K "_law_is_free" "_law_is_free" sIsFree f fd) (FA : Fun K "_law_apart" "_law_apart" sApart fA fdA) (bA : Binds K fdA ["_law_below", "_law_one", "_law_other"] []) (mA : mg "_law_apart" = some (.ref fA))
    (mI : mg "isinstance" = none) (mL : mg "list" = none) (mS : mg "sorted" = none) (mLen : mg "len" = none) (mSet : mg "set" = none) (mAll : mg "all" = none) : FnOk P w K mg base CX0 2 f fd ["_law_below", "_law_some_here"] spIsFree := by
  have GA : FnOk P w K mg base CX0 1 fA fdA ["_law_below", "_law_one", "_law_other"] spApart := ok_apart FA
  refine F.ok scIsFree (fun vs H Q E h => ?_) (fun cdv A outer s H vs Q E hr h => ?_)
  · obtain ⟨_, _, _, _, _, rfl, _⟩ := h
    rfl
  · obtain ⟨dl, q, ρ, B, xs, rfl, tab, hq, up, fre, few, fin⟩ := h
    have hu := hu_of hr
    refine ⟨_, pss_cons (ps_if (pw_or (pt_not (pt_val (pe_callB cr_isT (by rfl) mI (by decide +kernel) (pa_cons (pv 1) (pa_cons (pe_bltn (v := .ty "list") (by rfl) mL (by decide +kernel) rfl) pa_nil)))))
        (pw_or (pt_cmpR (op_neI hr.units) (pv 1) (pe_callB cr_sorted (by rfl) mS (by decide +kernel) (pa_cons (pv 1) pa_nil)) (nomark _))
        (pw_or1 (pt_cmpR op_lt (RZ.pe_lenSetI (by rfl) mLen (by rfl) mSet (pv 1)) (pe_callB call_len_seq (by rfl) mLen PySem.boot_len (pa_cons (pv 1) pa_nil)) (nomark _))))).pt (pss_one (ps_ret pe_bl)) pss_nil)
      (pss_cons (ps_for PassesOwn.never rfl (pi_list (pv 1)) (pg_name (i := 2) scIsFree.nd rfl (Or.inr rfl))
        (pss_one (ps_if (pt_not (pt_val (pe_callB (cr_all rfl) (by rfl) mAll (by decide +kernel) (pa_cons (pe_lc (own := [("_law_other", 3)]) (g := gName 3) (tt := tYes) (te := tOrV (tOp rEq (tVar 2) (tVar 3)) (tCall spApart [] E0 (tCons (tVar 0) (tCons (tVar 2) (tCons (tVar 3) tNil))))) rfl scIsFree.nd (pi_list (pv 1)) (blkOk_by (N := ["_law_below", "_law_some_here", "_law_one", "_law_other"]) (sc := defScope sIsFree) (by decide +kernel))
            (fun _ _ _ _ _ => pg_name (i := 3) scIsFree.nd rfl (Or.inl rfl)) (fun _ _ _ _ _ => pts_nil) (fun _ _ _ _ _ => pe_or (pe_cmpR op_eq (pv 2) (pv 3) (by rfl)) (pe_one (pe_call GA hr rfl mA FA.kp bA .nil pass0 (pa_cons (pv 0) (pa_cons (pv 2) (pa_cons (pv 3) pa_nil))))))) pa_nil)))) (pss_one (ps_ret pe_bl)) pss_nil)))
      (pss_one (ps_ret pe_bl))), ?_⟩
    refine ⟨_, rfl, _, "list", rfl, .base (.lst hq), _, rfl, iteF ⟨_, rfl, _, rfl, q, xs, rfl, SqL.of hq, by omega, fun ys p hp hle hpn => ?_⟩⟩
    have eys : ys = xs := (srt_uniq hp hle).trans (srt_of up)
    subst eys
    have s1 : Same H (upd H p (.lst (ys.map V.int))) := same_new hpn
    have nqp : q ≠ p := ne_of_none hq hpn
    refine ⟨q, p, ys, ys, rfl, rfl, SqL.of (s1 _ _ hq), SqL.of upd_same, _, rfl, ?_⟩
    rw [decide_eq_true rfl]
    generalize upd H p (.lst (ys.map V.int)) = H1 at s1 ⊢
    refine iteF ⟨_, rfl, q, ys, rfl, SqL.of (s1 _ _ hq), fre.1, by omega, _, rfl, q, _, rfl, .inl (SqL.of (s1 _ _ hq)), _, _, rfl, rfl, _, rfl, ?_⟩
    rw [List.length_map, show decide (((ys.length : Nat) : Int) < ((ys.length : Nat) : Int)) = false by simp]
    refine iteF ⟨_, rfl, q, rfl, ⟨_, SqL.of (s1 _ _ hq)⟩, ?_⟩
    refine for_by (n := (ys.map V.int).length) (fun i σ H2 => ∃ v, σ = [some (.ref dl), some (.ref q), v, none] ∧ Same H H2) ⟨none, rfl, s1⟩
      (fun i σ H2 hi ⟨_, _, s2⟩ => list_go (SqL.of (s2 _ _ hq)) hi) (fun σ H2 ⟨_, _, s2⟩ => list_stop (SqL.of (s2 _ _ hq))) ?_ ?_
    · rintro i y σ H2 H2' hi ⟨v, rfl, s2⟩ hy
      obtain ⟨rfl, hx⟩ := list_yld (SqL.of (s2 _ _ hq)) hy
      obtain ⟨x, hx5, rfl⟩ := ints_at hx
      have xm : x ∈ ys := List.mem_of_getElem? hx5
      refine ⟨_, rfl, q, rfl, ⟨_, SqL.of (s2 _ _ hq)⟩, fun L hL => ?_⟩
      refine lc_by (n := (ys.map V.int).length) (fun j H3 => Same H2' H3 ∧ H3 L = some (.lst ((List.replicate j true).map V.bl))) ⟨same_new hL, upd_same⟩
        (fun j H3 hj z => list_go (SqL.of (z.1 _ _ (s2 _ _ hq))) hj) (fun H3 z => list_stop (SqL.of (z.1 _ _ (s2 _ _ hq)))) ?_ ?_
      · rintro j z H3 H3' hj ⟨s3, m1⟩ hy2
        obtain ⟨rfl, hx3⟩ := list_yld (SqL.of (s3 _ _ (s2 _ _ hq))) hy2
        obtain ⟨y, hy3, rfl⟩ := ints_at hx3
        have ym : y ∈ ys := List.mem_of_getElem? hy3
        have jl : j < ys.length := by rw [List.length_map] at hj; exact hj
        have done : ∃ acc, H3' L = some (.lst acc) ∧ acc.length < sizeLine ∧ Same H2' (upd H3' L (.lst (acc ++ [V.bl true]))) ∧ (upd H3' L (.lst (acc ++ [V.bl true]))) L = some (.lst ((List.replicate (j + 1) true).map V.bl)) :=
          ⟨_, m1, small1000 (by rw [List.length_map, List.length_replicate]; omega), same_upd s3 hL, by rw [upd_same, List.replicate_succ', List.map_append]; rfl⟩
        refine ⟨rfl, _, rfl, _, rfl, rfl, _, rfl, ?_⟩
        have e1 : (decide (V.int x = V.int y)) = decide (x = y) := by simp
        rw [e1]
        by_cases c : x = y
        · rw [decide_eq_true c]
          exact iteT done
        · rw [decide_eq_false c]
          refine iteF ⟨_, rfl, _, rfl, _, rfl, dl, ρ, B, x, y, rfl, ((tab.same s2).same s3).below, fre.2.1 x xm, fre.2.1 y ym, ?_⟩
          rw [decide_eq_true ⟨c, fre.2.2 x xm y ym, fre.2.2 y ym x xm⟩]
          exact done
      · rintro H3 ⟨s3, m1⟩
        refine ⟨L, _, rfl, SqL.of m1, _, rfl, ?_⟩
        have : (List.replicate (ys.map V.int).length true).all id = true := by simp
        rw [this]
        exact iteF ⟨_, rfl, s2.trans s3⟩
    · rintro σ H2 ⟨v, rfl, s2⟩
      exact fin H2 s2
end
end FP

set_option Elab.async false
set_option maxRecDepth 100000
namespace FP
open PySem L2 FL FR
section
variable {P : Program} {w : World} {K : PySem.W.Frag} {mg : Str → Option Value} {base : Heap}
/-! ### fewest -/
def spFewest : Sp := fun vs H Q _ => ∃ (d1 : Addr) (ρ : Int → Addr) (B : BL), vs = [.ref d1] ∧ BelowAt H d1 ρ B ∧ H d1 = some (.dK (kB ρ B)) ∧ WF B ∧ B.length ≤ 40 ∧ ∀ (q : Addr) (H' : Hp), Same H H' → H q = none → H' q = some (.dK (kI (fewM B))) → Q (.ref q) H'
theorem scFewest : FnScope ["below", "beneath"] ["below"] (defScope sFewest) := ⟨rfl, rfl, rfl, by decide +kernel, rfl, by decide +kernel, by decide +kernel⟩
theorem ok_fewest {f fM : Addr} {fd fdM : FuncData} (F : Fun K "fewest" "fewest" sFewest f fd) (GM : FnOk P w K mg base CX0 2 fM fdM ["below", "beneath"] spMakeFewer) (bM : Binds K fdM ["below", "beneath"] []) (mM : mg "make_fewer" = some (.ref fM)) (kM : PySem.W.keepIn K (.ref fM) = true) : FnOk P w K mg base CX0 3 f fd ["below"] spFewest := by
  refine F.ok scFewest (fun vs H Q E h => ?_) (fun cdv A outer s H vs Q E hr h => ?_)
  · obtain ⟨_, _, _, rfl, _⟩ := h
    rfl
  · obtain ⟨d1, ρ, B, rfl, hB, h1, wf, few40, fin⟩ := h
    refine ⟨_, pss_cons (ps_set (i := 1) scFewest.nd rfl (Or.inl rfl) pe_dnewK)
      (pss_cons (ps_while PassesOwn.never (pt_truth (pe_call GM hr (by rfl) mM kM bM .nil pass0 (pa_cons (pv 0) (pa_cons (pv 1) pa_nil))) (by intro _; rfl)) (pss_one ps_pass))
      (pss_one (ps_ret (pv 1)))), ?_⟩
    intro d2 hd2
    have s1 : Same H (upd H d2 (.dK [])) := same_new hd2
    have e1 : (upd H d2 (.dK [])) d2 = some (.dK (kI [])) := upd_same
    generalize upd H d2 (.dK []) = H1 at s1 e1 ⊢
    refine ⟨fun k σ H2 => ∃ M, σ = [some (.ref d1), some (.ref d2)] ∧ Same H H2 ∧ H2 d2 = some (.dK (kI M)) ∧ MW B M ∧ B.length ≤ M.length + k ∧ few B (srt (ks B)) k M = fewM B,
      ⟨B.length, [], rfl, s1, e1, mw_nil B, by simp, rfl⟩, ?_⟩
    rintro k σ H2 ⟨M, rfl, s2, e2, mw, hk, hfew⟩
    obtain ⟨mw', ml⟩ := mfew_ok wf mw (srt_perm (ks B))
    refine ⟨_, rfl, _, rfl, d1, d2, ρ, B, M, rfl, hB.same s2, s2 _ _ h1, e2, wf, mw, few40, fun p H3 k3 hp e3 row3 => ?_⟩
    obtain ⟨ts, r1, r2⟩ := row3
    have lents := paired_len r2
    have s3 : Same H H3 := fun b o e => k3 b o (ne_of_none e hd2) (s2 _ _ e)
    refine ⟨!(ts.map V.ref).isEmpty, .inl ⟨_, SqL.of r1, rfl⟩, ?_⟩
    by_cases c : mrow B (srt (ks B)) M = []
    · have e0 : ts = [] := List.eq_nil_of_length_eq_zero (by rw [lents, c]; rfl)
      subst e0
      have em : mfew B (srt (ks B)) M = M := by unfold mfew; rw [c]; rfl
      rw [em] at e3
      have : fewM B = M := by
        rw [← hfew]
        cases k with
        | zero => rfl
        | succ k => show (if mrow B (srt (ks B)) M = [] then M else _) = M; rw [if_pos c]
      exact iteF ⟨_, rfl, fin d2 H3 s3 hd2 (by rw [this]; exact e3)⟩
    · have ne : ts ≠ [] := fun z => c (List.eq_nil_of_length_eq_zero (by rw [← lents, z]; rfl))
      have e0 : (!(ts.map V.ref).isEmpty) = true := by simp [ne]
      rw [e0]
      rw [if_neg c] at ml
      have kpos : 0 < k := by
        have := mw_len mw'
        omega
      obtain ⟨k, rfl⟩ : ∃ j, k = j + 1 := ⟨k - 1, by omega⟩
      refine iteT ⟨fun σ H' => ∃ M, σ = [some (.ref d1), some (.ref d2)] ∧ Same H H' ∧ H' d2 = some (.dK (kI M)) ∧ MW B M ∧ B.length ≤ M.length + k ∧ few B (srt (ks B)) k M = fewM B, fun σ' H' z => ⟨k, by omega, z⟩, ?_⟩
      refine ⟨_, rfl, s3, e3, mw', by omega, ?_⟩
      rw [← hfew]
      show _ = (if mrow B (srt (ks B)) M = [] then M else few B (srt (ks B)) k (mfew B (srt (ks B)) M))
      rw [if_neg c]
/-! ### Hall._part -/
def spPart (C : Addr) : Sp := fun vs H Q _ => ∃ (p h : Addr) (F : Addr → Prop) (n : Int) (B : BL) (M : MT) (xs : List Int), vs = [.ref p, .ref h] ∧ HallAt C H p F n B M ∧ H h = some (.lst (xs.map V.int)) ∧ xs.Nodup ∧ (∀ x ∈ xs, x ∈ ks B) ∧
  ∀ (t q1 q2 : Addr) (H1 H' : Hp), Same H H1 → NewLists H H1 q1 (lads (srt xs) (subB B xs) (fewM (subB B xs))) → Same H1 H' → H1 q2 = none → H' q2 = some (.lst ((freeM (subB B xs)).map V.int)) → H' t = some (.tup [.ref q1, .ref q2]) → H1 t = none → Q (.ref t) H'
theorem scPart : FnScope ["self", "some", "below", "beneath", "one", "low"] ["self", "some"] (defScope sPart) := ⟨rfl, rfl, rfl, by decide +kernel, rfl, by decide +kernel, by decide +kernel⟩
theorem ok_part {f fF fA fS C : Addr} {fd fdF fdA fdS : FuncData} (F : Fun K "_part" "Hall._part" sPart f fd) (T : Txt K mg C)
    (GF : FnOk P w K mg base CX0 3 fF fdF ["below"] spFewest) (bF : Binds K fdF ["below"] []) (mF : mg "fewest" = some (.ref fF)) (kF : PySem.W.keepIn K (.ref fF) = true)
    (GA : FnOk P w K mg base CX0 2 fA fdA ["below", "beneath"] spAllLadders) (bA : Binds K fdA ["below", "beneath"] []) (mA : mg "all_ladders" = some (.ref fA)) (kA : PySem.W.keepIn K (.ref fA) = true)
    (GS : FnOk P w K mg base CX0 2 fS fdS ["below", "beneath"] spFreeSet) (bS : Binds K fdS ["below", "beneath"] []) (mS : mg "free_set" = some (.ref fS)) (kS : PySem.W.keepIn K (.ref fS) = true) : FnOk P w K mg base CX0 4 f fd ["self", "some"] (spPart C) := by
  refine F.ok scPart (fun vs H Q E h => ?_) (fun cdv A outer s H vs Q E hr h => ?_)
  · obtain ⟨_, _, _, _, _, _, _, rfl, _⟩ := h
    rfl
  · obtain ⟨p, h, Fp, n, B, M, xs, rfl, hall, hh, nd, sub, fin⟩ := h
    have hu := hu_of hr
    have hr2 : Room 2 _ := hr.mono (by decide)
    obtain ⟨dx, d1, d2, ρ, a1, a2, a3, a4, a5, f1, f2, f3, f4⟩ := hall.ex
    have lx : xs.length ≤ 24 := Nat.le_trans (nd.length_le_of_subset fun x hx => sub x hx) (by rw [len_ks]; exact hall.few)
    refine ⟨_, pss_cons (ps_setDc (i := 2) (own := [("one", 4)]) (g := gName 4) (tt := tYes) (tv := tLc (iList K (tDGet (tFld K (tVar 0) "_below") (tVar 4))) (gName 5) (tTest (tOp (rIn K false) (tVar 5) (tVar 1))) (tVar 5) [5]) rfl scPart.nd rfl rfl (sw_dict rfl rfl rfl (by decide +kernel)) (pi_list (pv 1)) (blkOk_by (N := ["self", "some", "below", "beneath", "one", "low"]) (sc := defScope sPart) (by decide +kernel))
        (fun _ _ _ _ _ => pg_name (i := 4) scPart.nd rfl (Or.inl rfl)) (fun _ _ _ _ _ => pts_nil) (fun _ _ _ _ _ => pv 4)
        (fun _ _ _ _ _ => pe_lc (own := [("low", 5)]) (g := gName 5) (te := tVar 5) (tt := tTest (tOp (rIn K false) (tVar 5) (tVar 1))) (wi := iList K (tDGet (tFld K (tVar 0) "_below") (tVar 4))) rfl scPart.nd (pi_list (pe_dget hu (pe_fld (pv 0) rfl) (pv 4) (fun _ _ => rfl))) (blkOk_by (N := ["self", "some", "below", "beneath", "one", "low"]) (sc := relS (cScope (nthVal sPart 0)) (defScope sPart)) (by decide +kernel))
            (fun _ _ _ _ _ => pg_name (i := 5) scPart.nd rfl (Or.inl rfl)) (fun _ _ _ _ _ => pts_one (pt_cmpR op_in_seq (pv 5) (pv 1) (by rfl))) (fun _ _ _ _ _ => pv 5)))
      (pss_cons (ps_set (i := 3) scPart.nd rfl (Or.inl rfl) (pe_call GF hr rfl mF kF bF .nil pass0 (pa_cons (pv 2) pa_nil)))
      (pss_one (ps_ret (pe_tup (pa_cons (pe_call GA hr2 rfl mA kA bA .nil pass0 (pa_cons (pv 2) (pa_cons (pv 3) pa_nil))) (pa_cons (pe_call GS hr2 rfl mS kS bS .nil pass0 (pa_cons (pv 2) (pa_cons (pv 3) pa_nil))) pa_nil)))))), ?_⟩
    have subI : ∀ i, (subB B xs).take i = (xs.take i).map fun x => (x, (gt B x).filter fun y => decide (y ∈ xs)) := fun i => by unfold subB; rw [List.map_take]
    refine ⟨_, rfl, h, rfl, ⟨_, SqL.of hh⟩, fun D hD => ?_⟩
    refine dc_by (n := (xs.map V.int).length) (fun i H1 => Same H H1 ∧ ∃ ρ' : Int → Addr, H1 D = some (.dK (kB ρ' ((subB B xs).take i))) ∧ ∀ b ∈ (subB B xs).take i, H1 (ρ' b.1) = some (.lst (b.2.map V.int)))
      ⟨same_new hD, ρ, by rw [upd_same, List.take_zero]; rfl, fun b hb => by simp at hb⟩ (fun i H1 hi q => list_go (SqL.of (q.1 _ _ hh)) hi) (fun H1 q => list_stop (SqL.of (q.1 _ _ hh))) ?_ ?_
    · rintro i x H1 H1' hi ⟨s1, ρ', e1, l1⟩ hy
      obtain ⟨rfl, hx⟩ := list_yld (SqL.of (s1 _ _ hh)) hy
      obtain ⟨one, ho, rfl⟩ := ints_at hx
      have oB : one ∈ ks B := sub one (List.mem_of_getElem? ho)
      have low1 := s1 _ _ (a5 _ (lk_mem (lk_gt oB)))
      have g1 : DGet H1' d1 (.int one) (some (.ref (ρ one))) := by
        have z := DGet.k (k := (Sum.inl one : Key)) (s1 _ _ a3)
        rw [valV_kB, if_pos oB] at z
        exact z
      have li : i < xs.length := by rw [List.length_map] at hi; exact hi
      refine ⟨rfl, _, rfl, _, rfl, p, C, dx, _, _, rfl, s1 _ _ a1, T.cl, T.nB, hf_b _ _ _, _, rfl, d1, _, rfl, g1, ρ one, rfl, ⟨_, SqL.of low1⟩, fun L hL => ?_⟩
      have hL0 : H L = none := s1.free hL
      refine lc_by (n := ((gt B one).map V.int).length) (fun j H2 => Same H1' H2 ∧ H2 L = some (.lst ((((gt B one).take j).filter fun y => decide (y ∈ xs)).map V.int))) ⟨same_new hL, upd_same⟩
        (fun j H2 hj q => list_go (SqL.of (q.1 _ _ low1)) hj) (fun H2 q => list_stop (SqL.of (q.1 _ _ low1))) ?_ ?_
      · rintro j z H2 H2' hj ⟨s2, m2⟩ hy2
        obtain ⟨rfl, hx3⟩ := list_yld (SqL.of (s2 _ _ low1)) hy2
        obtain ⟨y, hy3, rfl⟩ := ints_at hx3
        refine ⟨rfl, _, rfl, _, rfl, h, _, rfl, .inl (SqL.of (s2 _ _ (s1 _ _ hh))), rfl, flat_ints _, _, rfl, ?_⟩
        rw [if_neg (by decide), inV_ints, take_snoc hy3, List.filter_append]
        refine ite2 (fun c3 => ?_) (fun c3 => ?_)
        · have c4 : y ∈ xs := of_decide_eq_true c3
          refine ⟨_, rfl, _, m2, small1000 ?_, same_upd s2 hL, by rw [upd_same]; simp [c4]⟩
          rw [List.length_map]
          refine Nat.le_trans (List.length_filter_le _ _) ?_
          rw [List.length_take]
          have := gt_few hall.inv one
          have := hall.few
          omega
        · have c4 : y ∉ xs := fun m => c3 (decide_eq_true m)
          exact ⟨s2, by rw [m2]; simp [c4]⟩
      · rintro H2 ⟨s2, m2⟩
        rw [List.length_map, List.take_length] at m2
        have D2 := s2 _ _ e1
        have nLD : L ≠ D := fun z => by rw [z, e1] at hL; cases hL
        have st : (subB B xs).take (i + 1) = (subB B xs).take i ++ [(one, (gt B one).filter fun y => decide (y ∈ xs))] := by
          rw [subI, subI, take_snoc ho, List.map_append]; rfl
        have nn : one ∉ ks ((subB B xs).take i) := fun m => by
          rw [subI] at m
          simp only [ks, List.map_map, List.mem_map, Function.comp] at m
          obtain ⟨y, hy9, rfl⟩ := m
          obtain ⟨j, hj, ej⟩ := List.getElem_of_mem hy9
          rw [List.length_take] at hj
          rw [List.getElem_take] at ej
          obtain ⟨hi2, ei⟩ := List.getElem?_eq_some_iff.mp ho
          exact List.pairwise_iff_getElem.mp nd j i (by omega) hi2 (by omega) (by rw [ej, ei])
        refine ⟨kB ρ' ((subB B xs).take i), Sum.inl one, rfl, D2, small1000 (by rw [kB_len, List.length_take]; omega), same_upd (s1.trans s2) hD, fun k => if k = one then L else ρ' k, ?_, fun b hb => ?_⟩
        · rw [st]
          exact upd_same.trans (congrArg (fun z => some (HO.dK z)) (kB_snoc nn))
        · rw [st] at hb
          rcases List.mem_append.mp hb with z | z
          · have nb : b.1 ≠ one := fun e => nn (e ▸ List.mem_map.mpr ⟨b, z, rfl⟩)
            simp only [if_neg nb]
            rw [upd_ne (ne_of (s2 _ _ (l1 b z)) D2 (by intro z; cases z))]
            exact s2 _ _ (l1 b z)
          · have : b = (one, (gt B one).filter fun y => decide (y ∈ xs)) := by simpa using z
            rw [this]
            simp only [if_true]
            rw [upd_ne nLD]
            exact m2
    · rintro H1 ⟨s1, ρ', e1, l1⟩
      rw [List.length_map, ← len_sub B xs, List.take_length] at e1 l1
      have wf' := wf_sub hall.inv.wf nd (B := B)
      have len' : (subB B xs).length ≤ 40 := by rw [len_sub]; omega
      obtain ⟨mw', _⟩ := fewM_ok wf'
      refine ⟨_, rfl, D, ρ', subB B xs, rfl, ⟨.inl e1, l1⟩, e1, wf', len', fun d3 H2 s2 hd3 e3 => ?_⟩
      refine ⟨_, rfl, _, rfl, D, d3, ρ', subB B xs, fewM (subB B xs), rfl, s2 _ _ e1, e3, wf', mw', len', fun q1 H3 s3 nl => ?_⟩
      refine ⟨_, rfl, _, rfl, D, d3, ρ', subB B xs, fewM (subB B xs), rfl, ⟨.inl (s3 _ _ (s2 _ _ e1)), fun b hb => s3 _ _ (s2 _ _ (l1 b hb))⟩, s3 _ _ (s2 _ _ e1), s3 _ _ e3, wf', mw', len', fun q2 H4 s4 hq2 e4 => ⟨by show 2 ≤ sizeLine; decide, fun t ht => ?_⟩⟩
      rw [ks_sub] at nl
      refine fin t q1 q2 H3 _ ((s1.trans s2).trans s3) (nl.old (s1.trans s2)) (same_upd s4 (s4.free ht)) hq2 ?_ upd_same (s4.free ht)
      rw [upd_ne (ne_of_none e4 ht)]
      exact e4
end
end FP

set_option Elab.async false
set_option maxRecDepth 100000
namespace FP
open PySem L2 FL FR
/-- a list, or None -/
def Tells (H H' : Hp) (o : Option (List Int)) (v : V) : Prop := match o with
  | none => v = .non
  | some S => ∃ q, v = .ref q ∧ H q = none ∧ H' q = some (.lst (S.map V.int))
section
variable {P : Program} {w : World} {K : PySem.W.Frag} {mg : Str → Option Value} {base : Heap}
/-! ### Hall._apart_from -/
def spApartFrom (C : Addr) : Sp := fun vs H Q _ => ∃ (p : Addr) (F : Addr → Prop) (n : Int) (B : BL) (M : MT) (x : Int), vs = [.ref p, .int x] ∧ HallAt C H p F n B M ∧ x ∈ ks B ∧ ∀ (q : Addr) (H' : Hp), Same H H' → H q = none → H' q = some (.lst ((apartL B x).map V.int)) → Q (.ref q) H'
theorem scApartFrom : FnScope ["self", "one", "beside", "other"] ["self", "one"] (defScope sApartFrom) := ⟨rfl, rfl, rfl, by decide +kernel, rfl, by decide +kernel, by decide +kernel⟩
theorem ok_apartFrom {f fT C : Addr} {fd fdT : FuncData} (F : Fun K "_apart_from" "Hall._apart_from" sApartFrom f fd) (T : Txt K mg C) (GT : FnOk P w K mg base CX0 1 fT fdT ["self"] (spThings C)) (bT : Binds K fdT ["self"] []) (mT : Meth K C "things" fT) : FnOk P w K mg base CX0 2 f fd ["self", "one"] (spApartFrom C) := by
  refine F.ok scApartFrom (fun vs H Q E h => ?_) (fun cdv A outer s H vs Q E hr h => ?_)
  · obtain ⟨p, _, _, _, _, _, rfl, _⟩ := h
    rfl
  · obtain ⟨p, Fp, n, B, M, x, rfl, hall, hx, fin⟩ := h
    have hu := hu_of hr
    obtain ⟨dx, d1, d2, ρ, a1, a2, a3, a4, a5, f1, f2, f3, f4⟩ := hall.ex
    have few := hall.few
    refine ⟨_, pss_cons (ps_setLc (i := 2) (own := [("other", 3)]) (g := gName 3) (te := tVar 3) (tt := tTest (tOp (rIn K true) (tVar 3) (tDGet (tFld K (tVar 0) "_below") (tVar 1)))) rfl scApartFrom.nd rfl rfl (sw_true rfl rfl rfl (by decide +kernel)) (pi_list (pe_meth0 (pv 0) T.cl mT GT hr bT .nil pass0)) (blkOk_by (N := ["self", "one", "beside", "other"]) (sc := defScope sApartFrom) (by decide +kernel))
        (fun _ _ _ _ _ => pg_name (i := 3) scApartFrom.nd rfl (Or.inl rfl)) (fun _ _ _ _ _ => pts_one (pt_cmpR op_notIn_seq (pv 3) (pe_dget hu (pe_fld (pv 0) rfl) (pv 1) (fun _ _ => rfl)) (by rfl))) (fun _ _ _ _ _ => pv 3))
      (pss_one (ps_ret (pe_lc (own := [("other", 3)]) (g := gName 3) (te := tVar 3) (tt := tAnd (tTest (tOp rNe (tVar 3) (tVar 1))) (tTest (tOp (rIn K true) (tVar 1) (tDGet (tFld K (tVar 0) "_below") (tVar 3))))) rfl scApartFrom.nd (pi_list (pv 2)) (blkOk_by (N := ["self", "one", "beside", "other"]) (sc := defScope sApartFrom) (by decide +kernel))
        (fun _ _ _ _ _ => pg_name (i := 3) scApartFrom.nd rfl (Or.inl rfl)) (fun _ _ _ _ _ => pts_one (pw_and (pt_cmpR op_ne (pv 3) (pv 1) (nomark _)) (pw_and1 (pt_cmpR op_notIn_seq (pv 1) (pe_dget hu (pe_fld (pv 0) rfl) (pv 3) (fun _ _ => rfl)) (by rfl)))).pt) (fun _ _ _ _ _ => pv 3)))), ?_⟩
    refine ⟨_, rfl, p, dx, _, rfl, a1, hf_no _ _ _ (by decide +kernel) (by decide +kernel) (by decide +kernel), p, Fp, n, B, M, rfl, hall, fun q hq => ⟨q, rfl, ⟨_, SqL.of upd_same⟩, fun L hL => ?_⟩⟩
    have s1 : Same H (upd H q (.lst ((ks B).map V.int))) := same_new hq
    have q1 : (upd H q (.lst ((ks B).map V.int))) q = some (.lst ((ks B).map V.int)) := upd_same
    generalize upd H q (.lst ((ks B).map V.int)) = H1 at s1 q1 hL ⊢
    have low : ∀ y ∈ ks B, H (ρ y) = some (.lst ((gt B y).map V.int)) := fun y hy => a5 _ (lk_mem (lk_gt hy))
    have get : ∀ (H' : Hp) (y : Int), Same H H' → y ∈ ks B → DGet H' d1 (.int y) (some (.ref (ρ y))) := fun H' y s hy => by
      have z := DGet.k (k := (Sum.inl y : Key)) (s _ _ a3)
      rw [valV_kB, if_pos hy] at z
      exact z
    refine lc_by (n := ((ks B).map V.int).length) (fun i H2 => Same H1 H2 ∧ H2 L = some (.lst ((((ks B).take i).filter fun y => decide (y ∉ gt B x)).map V.int))) ⟨same_new hL, upd_same⟩
      (fun i H2 hi z => list_go (SqL.of (z.1 _ _ q1)) hi) (fun H2 z => list_stop (SqL.of (z.1 _ _ q1))) ?_ ?_
    · rintro i z H2 H2' hi ⟨s2, m2⟩ hy
      obtain ⟨rfl, hx2⟩ := list_yld (SqL.of (s2 _ _ q1)) hy
      obtain ⟨y, hy2, rfl⟩ := ints_at hx2
      have s02 := s1.trans s2
      refine ⟨rfl, _, rfl, _, rfl, p, C, dx, _, _, rfl, s02 _ _ a1, T.cl, T.nB, hf_b _ _ _, _, rfl, d1, _, rfl, get _ x s02 hx, ρ x, _, rfl, .inl (SqL.of (s02 _ _ (low x hx))), rfl, flat_ints _, _, rfl, ?_⟩
      rw [if_pos rfl, inV_ints, take_snoc hy2, List.filter_append]
      by_cases c : y ∈ gt B x
      · rw [decide_eq_true c]
        exact iteF ⟨s2, by rw [m2]; simp [c]⟩
      · rw [decide_eq_false c]
        exact iteT ⟨_, rfl, _, m2, small1000 (by rw [List.length_map]; refine Nat.le_trans (List.length_filter_le _ _) ?_; rw [List.length_take, len_ks]; omega), same_upd s2 hL, by rw [upd_same]; simp [c]⟩
    rintro H2 ⟨s2, m2⟩
    rw [List.length_map, List.take_length] at m2
    have sub : ∀ y ∈ (ks B).filter (fun y => decide (y ∉ gt B x)), y ∈ ks B := fun y hy => (List.mem_filter.mp hy).1
    have lb : ((ks B).filter fun y => decide (y ∉ gt B x)).length ≤ 24 := Nat.le_trans (List.length_filter_le _ _) (by rw [len_ks]; exact few)
    have eA : ((ks B).filter fun y => decide (y ∉ gt B x)).filter (fun y => decide (y ≠ x ∧ x ∉ gt B y)) = apartL B x := by
      unfold apartL
      rw [List.filter_filter]
      apply List.filter_congr
      intro y _
      by_cases c1 : y = x
      · subst c1; simp
      · have c1' : ¬ x = y := fun z => c1 z.symm
        by_cases c2 : y ∈ gt B x <;> by_cases c3 : x ∈ gt B y <;> simp [c1, c1', c2, c3]
    rw [← eA] at fin
    generalize (ks B).filter (fun y => decide (y ∉ gt B x)) = bs at m2 sub lb fin
    refine ⟨_, rfl, L, rfl, ⟨_, SqL.of m2⟩, fun G hG => ?_⟩
    refine lc_by (n := (bs.map V.int).length) (fun i H3 => Same H2 H3 ∧ H3 G = some (.lst (((bs.take i).filter fun y => decide (y ≠ x ∧ x ∉ gt B y)).map V.int))) ⟨same_new hG, upd_same⟩
      (fun i H3 hi z => list_go (SqL.of (z.1 _ _ m2)) hi) (fun H3 z => list_stop (SqL.of (z.1 _ _ m2))) ?_ ?_
    · rintro i z H3 H3' hi ⟨s3, m3⟩ hy
      obtain ⟨rfl, hx2⟩ := list_yld (SqL.of (s3 _ _ m2)) hy
      obtain ⟨y, hy2, rfl⟩ := ints_at hx2
      have yB := sub y (List.mem_of_getElem? hy2)
      have s03 := (s1.trans s2).trans s3
      refine ⟨rfl, _, rfl, _, rfl, rfl, _, rfl, ?_⟩
      rw [take_snoc hy2, List.filter_append]
      by_cases c : y = x
      · rw [intEq c]
        exact iteF (iteF ⟨s3, by rw [m3]; simp [c]⟩)
      · rw [intNe c]
        refine iteT ⟨_, rfl, _, rfl, p, C, dx, _, _, rfl, s03 _ _ a1, T.cl, T.nB, hf_b _ _ _, _, rfl, d1, _, rfl, get _ y s03 yB, ρ y, _, rfl, .inl (SqL.of (s03 _ _ (low y yB))), rfl, flat_ints _, _, rfl, ?_⟩
        rw [if_pos rfl, inV_ints]
        by_cases c2 : x ∈ gt B y
        · rw [decide_eq_true c2]
          exact iteF ⟨s3, by rw [m3]; simp [c2]⟩
        · rw [decide_eq_false c2]
          exact iteT ⟨_, rfl, _, m3, small1000 (by rw [List.length_map]; refine Nat.le_trans (List.length_filter_le _ _) ?_; rw [List.length_take]; omega), same_upd s3 hG, by rw [upd_same]; simp [c, c2]⟩
    rintro H3 ⟨s3, m3⟩
    rw [List.length_map, List.take_length] at m3
    exact fin G H3 ((s1.trans s2).trans s3) (s1.free (s2.free hG)) m3
/-! ### Hall._greatest -/
def spGreatest (C : Addr) : Sp := fun vs H Q _ => ∃ (p h m : Addr) (F : Addr → Prop) (n : Int) (B : BL) (M : MT) (xs more : List Int), vs = [.ref p, .ref h, .ref m] ∧ HallAt C H p F n B M ∧ H h = some (.lst (xs.map V.int)) ∧ xs.Nodup ∧ (∀ x ∈ xs, x ∈ ks B) ∧ H m = some (.lst (more.map V.int)) ∧ more.length ≤ 1 ∧
  ∀ (v : V) (H' : Hp), Same H H' → Tells H H' (gre B M xs more) v → Q v H'
theorem scGreatest : FnScope ["self", "some", "more", "_", "free", "found"] ["self", "some", "more"] (defScope sGreatest) := ⟨rfl, rfl, rfl, by decide +kernel, rfl, by decide +kernel, by decide +kernel⟩
theorem ok_greatest {f fP fA C : Addr} {fd fdP fdA : FuncData} (F : Fun K "_greatest" "Hall._greatest" sGreatest f fd) (T : Txt K mg C) (GP : FnOk P w K mg base CX0 4 fP fdP ["self", "some"] (spPart C)) (bP : Binds K fdP ["self", "some"] []) (mP : Meth K C "_part" fP)
    (GA : FnOk P w K mg base CX0 2 fA fdA ["below", "beneath"] spAllLadders) (bA : Binds K fdA ["below", "beneath"] []) (mA : mg "all_ladders" = some (.ref fA)) (kA : PySem.W.keepIn K (.ref fA) = true) : FnOk P w K mg base CX0 5 f fd ["self", "some", "more"] (spGreatest C) := by
  refine F.ok scGreatest (fun vs H Q E h => ?_) (fun cdv A outer s H vs Q E hr h => ?_)
  · obtain ⟨_, _, _, _, _, _, _, _, _, rfl, _⟩ := h
    rfl
  · obtain ⟨p, h, m, Fp, n, B, M, xs, more, rfl, hall, hh, nd, sub, hm, lm, fin⟩ := h
    have hr2 : Room 2 _ := hr.mono (by decide)
    obtain ⟨dx, d1, d2, ρ, a1, a2, a3, a4, a5, f1, f2, f3, f4⟩ := hall.ex
    have few := hall.few
    refine ⟨_, pss_cons (ps_asg (pe_meth (pv 0) T.cl mP GP hr bP .nil pass0 (pa_cons (pv 1) pa_nil)) (pg_pair 3 4 rfl scGreatest.nd rfl rfl rfl rfl))
      (pss_cons (ps_set (i := 5) scGreatest.nd rfl (Or.inl rfl) (pe_callB cr_sorted (by rfl) T.sorted (by decide +kernel) (pa_cons (pe_op op_cat (pv 4) (pv 2)) pa_nil)))
      (pss_cons (ps_if (pt_cmpR op_lt (pe_callB call_len_seq (by rfl) T.len PySem.boot_len (pa_cons (pv 5) pa_nil)) (pe_callB call_len_seq (by rfl) T.len PySem.boot_len (pa_cons (pe_call GA hr2 (by rfl) mA kA bA .nil pass0 (pa_cons (pe_fld (pv 0) rfl) (pa_cons (pe_fld (pv 0) rfl) pa_nil))) pa_nil)) (nomark _)) (pss_one (ps_ret pe_non)) pss_nil)
      (pss_one (ps_ret (pv 5))))), ?_⟩
    refine ⟨_, rfl, p, dx, _, rfl, a1, hf_no _ _ _ (by decide +kernel) (by decide +kernel) (by decide +kernel), _, rfl, p, h, Fp, n, B, M, xs, rfl, hall, hh, nd, sub, fun t q1 q2 H1 H2 s1 nl s2 hq2 e2 et _ => ?_⟩
    refine ⟨t, _, rfl, SqT.of et, rfl, _, _, rfl, _, _, rfl, rfl, ?_⟩
    have wfS := wf_sub hall.inv.wf nd (B := B)
    obtain ⟨_, lenS, _⟩ := freeM_ok wfS
    have lx : xs.length ≤ 24 := Nat.le_trans (nd.length_le_of_subset fun x hx => sub x hx) (by rw [len_ks]; exact few)
    have flen : (freeM (subB B xs)).length ≤ 24 := by rw [len_sub] at lenS; omega
    have s02 := s1.trans s2
    have m2 := s02 _ _ hm
    unfold gre at fin
    generalize freeM (subB B xs) = fr at e2 flen fin
    -- found = sorted(free + more)
    refine ⟨_, rfl, _, rfl, q2, m, _, _, rfl, rfl, e2, m2, ?_, fun c hc => ?_⟩
    · rw [List.length_map, List.length_map]
      exact Nat.le_of_lt (small1000 (by show fr.length + more.length ≤ 1000; omega))
    have s3 : Same H2 (upd H2 c (.lst (fr.map V.int ++ more.map V.int))) := same_new hc
    have c3 : (upd H2 c (.lst (fr.map V.int ++ more.map V.int))) c = some (.lst ((fr ++ more).map V.int)) := by rw [upd_same, List.map_append]
    generalize upd H2 c (.lst (fr.map V.int ++ more.map V.int)) = H3 at s3 c3 ⊢
    refine ⟨c, fr ++ more, rfl, SqL.of c3, by rw [List.length_append]; omega, fun ys fo hp hle hfo => ?_⟩
    obtain rfl : ys = srt (fr ++ more) := srt_uniq hp hle
    have s03 := s02.trans s3
    have hfo0 : H fo = none := s03.free hfo
    have s4 : Same H (upd H3 fo (.lst ((srt (fr ++ more)).map V.int))) := same_upd s03 hfo0
    have f4' : (upd H3 fo (.lst ((srt (fr ++ more)).map V.int))) fo = some (.lst ((srt (fr ++ more)).map V.int)) := upd_same
    generalize upd H3 fo (.lst ((srt (fr ++ more)).map V.int)) = H4 at s4 f4' ⊢
    -- if len(found) < len(all_ladders(..))
    refine ⟨_, rfl, fo, _, rfl, .inl (SqL.of f4'), _, rfl, p, C, dx, _, _, rfl, s4 _ _ a1, T.cl, T.nB, hf_b _ _ _, _, rfl, p, C, dx, _, _, rfl, s4 _ _ a1, T.cl, T.nN, hf_n _ _ _, d1, d2, ρ, B, M, rfl, s4 _ _ a3, s4 _ _ a4, hall.inv.wf, hall.inv.mw, by omega, fun q H5 s5 nl5 => ?_⟩
    rw [srt_of hall.inv.up] at nl5
    obtain ⟨as, eq5, pr5, _, _⟩ := nl5
    refine ⟨q, _, rfl, .inl (SqL.of eq5), _, _, rfl, rfl, _, rfl, ?_⟩
    rw [List.length_map, List.length_map, paired_len pr5]
    by_cases c4 : (srt (fr ++ more)).length < (lads (ks B) B M).length
    · rw [decide_eq_true (by omega)]
      rw [if_pos c4] at fin
      exact iteT (fin _ H5 (s4.trans s5) rfl)
    · rw [decide_eq_false (by omega)]
      rw [if_neg c4] at fin
      exact iteF ⟨_, rfl, fin _ H5 (s4.trans s5) ⟨fo, rfl, hfo0, s5 _ _ f4'⟩⟩
/-! ### with_thing, without_thing, standing -/
def spWith (C : Addr) : Sp := fun vs H Q _ => ∃ (p : Addr) (F : Addr → Prop) (n : Int) (B : BL) (M : MT) (x : Int), vs = [.ref p, .int x] ∧ HallAt C H p F n B M ∧ x ∈ ks B ∧ ∀ (v : V) (H' : Hp), Same H H' → Tells H H' (withL B M x) v → Q v H'
theorem Tells.old {H H1 H' : Hp} {o : Option (List Int)} {v : V} (h : Tells H1 H' o v) (s : Same H H1) : Tells H H' o v := by
  cases o with
  | none => exact h
  | some S => obtain ⟨q, a, b, c⟩ := h; exact ⟨q, a, s.free b, c⟩
theorem scWith : FnScope ["self", "one"] ["self", "one"] (defScope sWith) := ⟨rfl, rfl, rfl, by decide +kernel, rfl, by decide +kernel, by decide +kernel⟩
theorem ok_with {f fC fA fG C : Addr} {fd fdC fdA fdG : FuncData} (F : Fun K "with_thing" "Hall.with_thing" sWith f fd) (T : Txt K mg C) (GC : FnOk P w K mg base CX0 1 fC fdC ["self", "one"] (spCheck C)) (bC : Binds K fdC ["self", "one"] []) (mC : Meth K C "_check" fC)
    (GA : FnOk P w K mg base CX0 2 fA fdA ["self", "one"] (spApartFrom C)) (bA : Binds K fdA ["self", "one"] []) (mA : Meth K C "_apart_from" fA) (GG : FnOk P w K mg base CX0 5 fG fdG ["self", "some", "more"] (spGreatest C)) (bG : Binds K fdG ["self", "some", "more"] []) (mG : Meth K C "_greatest" fG) : FnOk P w K mg base CX0 6 f fd ["self", "one"] (spWith C) := by
  refine F.ok scWith (fun vs H Q E h => ?_) (fun cdv A outer s H vs Q E hr h => ?_)
  · obtain ⟨p, _, _, _, _, _, rfl, _⟩ := h
    rfl
  · obtain ⟨p, Fp, n, B, M, x, rfl, hall, hx, fin⟩ := h
    have hr1 : Room 1 _ := hr.mono (by decide)
    have hr2 : Room 2 _ := hr.mono (by decide)
    obtain ⟨dx, d1, d2, ρ, a1, _⟩ := hall.ex
    refine ⟨_, pss_cons (ps_expr (pe_meth (pv 0) T.cl mC GC hr1 bC .nil pass0 (pa_cons (pv 1) pa_nil))) (pss_one (ps_ret (pe_meth (pv 0) T.cl mG GG hr bG .nil pass0 (pa_cons (pe_meth (pv 0) T.cl mA GA hr2 bA .nil pass0 (pa_cons (pv 1) pa_nil)) (pa_cons (pe_lst (pa_cons (pv 1) pa_nil)) pa_nil))))), ?_⟩
    refine ⟨_, rfl, p, dx, _, rfl, a1, hf_no _ _ _ (by decide +kernel) (by decide +kernel) (by decide +kernel), _, rfl, p, Fp, n, B, M, x, rfl, hall, hx, ?_⟩
    refine ⟨_, rfl, p, dx, _, rfl, a1, hf_no _ _ _ (by decide +kernel) (by decide +kernel) (by decide +kernel), _, rfl, p, dx, _, rfl, a1, hf_no _ _ _ (by decide +kernel) (by decide +kernel) (by decide +kernel), _, rfl, p, Fp, n, B, M, x, rfl, hall, hx, fun q H1 s1 hq e1 => ?_⟩
    refine ⟨_, rfl, by show 1 ≤ sizeLine; decide, fun m hm => ?_⟩
    have s2 : Same H1 (upd H1 m (.lst [.int x])) := same_new hm
    have s02 := s1.trans s2
    exact ⟨p, q, m, Fp, n, B, M, apartL B x, [x], rfl, (hall.same s1).same s2, s2 _ _ e1, apart_nd hall.inv.wf x, fun y hy => (mem_apart.mp hy).1, upd_same, Nat.le_refl _, fun v H' s' tl => fin v H' (s02.trans s') (tl.old s02)⟩
def spWithout (C : Addr) : Sp := fun vs H Q _ => ∃ (p : Addr) (F : Addr → Prop) (n : Int) (B : BL) (M : MT) (x : Int), vs = [.ref p, .int x] ∧ HallAt C H p F n B M ∧ x ∈ ks B ∧ ∀ (v : V) (H' : Hp), Same H H' → Tells H H' (withoutL B M x) v → Q v H'
theorem scWithout : FnScope ["self", "one", "other"] ["self", "one"] (defScope sWithout) := ⟨rfl, rfl, rfl, by decide +kernel, rfl, by decide +kernel, by decide +kernel⟩
theorem ok_without {f fC fT fG C : Addr} {fd fdC fdT fdG : FuncData} (F : Fun K "without_thing" "Hall.without_thing" sWithout f fd) (T : Txt K mg C) (GC : FnOk P w K mg base CX0 1 fC fdC ["self", "one"] (spCheck C)) (bC : Binds K fdC ["self", "one"] []) (mC : Meth K C "_check" fC)
    (GT : FnOk P w K mg base CX0 1 fT fdT ["self"] (spThings C)) (bT : Binds K fdT ["self"] []) (mT : Meth K C "things" fT) (GG : FnOk P w K mg base CX0 5 fG fdG ["self", "some", "more"] (spGreatest C)) (bG : Binds K fdG ["self", "some", "more"] []) (mG : Meth K C "_greatest" fG) : FnOk P w K mg base CX0 6 f fd ["self", "one"] (spWithout C) := by
  refine F.ok scWithout (fun vs H Q E h => ?_) (fun cdv A outer s H vs Q E hr h => ?_)
  · obtain ⟨p, _, _, _, _, _, rfl, _⟩ := h
    rfl
  · obtain ⟨p, Fp, n, B, M, x, rfl, hall, hx, fin⟩ := h
    have hr1 : Room 1 _ := hr.mono (by decide)
    obtain ⟨dx, d1, d2, ρ, a1, _⟩ := hall.ex
    refine ⟨_, pss_cons (ps_expr (pe_meth (pv 0) T.cl mC GC hr1 bC .nil pass0 (pa_cons (pv 1) pa_nil))) (pss_one (ps_ret (pe_meth (pv 0) T.cl mG GG hr bG .nil pass0 (pa_cons (pe_lc (own := [("other", 2)]) (g := gName 2) (te := tVar 2) (tt := tTest (tOp rNe (tVar 2) (tVar 1))) rfl scWithout.nd (pi_list (pe_meth0 (pv 0) T.cl mT GT hr1 bT .nil pass0)) (blkOk_by (N := ["self", "one", "other"]) (sc := defScope sWithout) (by decide +kernel))
        (fun _ _ _ _ _ => pg_name (i := 2) scWithout.nd rfl (Or.inl rfl)) (fun _ _ _ _ _ => pts_one (pt_cmpR op_ne (pv 2) (pv 1) (nomark _))) (fun _ _ _ _ _ => pv 2)) (pa_cons (pe_lst pa_nil) pa_nil))))), ?_⟩
    refine ⟨_, rfl, p, dx, _, rfl, a1, hf_no _ _ _ (by decide +kernel) (by decide +kernel) (by decide +kernel), _, rfl, p, Fp, n, B, M, x, rfl, hall, hx, ?_⟩
    refine ⟨_, rfl, p, dx, _, rfl, a1, hf_no _ _ _ (by decide +kernel) (by decide +kernel) (by decide +kernel), _, rfl, p, dx, _, rfl, a1, hf_no _ _ _ (by decide +kernel) (by decide +kernel) (by decide +kernel), p, Fp, n, B, M, rfl, hall, fun q hq => ⟨q, rfl, ⟨_, SqL.of upd_same⟩, fun L hL => ?_⟩⟩
    have s1 : Same H (upd H q (.lst ((ks B).map V.int))) := same_new hq
    have q1 : (upd H q (.lst ((ks B).map V.int))) q = some (.lst ((ks B).map V.int)) := upd_same
    generalize upd H q (.lst ((ks B).map V.int)) = H1 at s1 q1 hL ⊢
    refine lc_by (n := ((ks B).map V.int).length) (fun i H2 => Same H1 H2 ∧ H2 L = some (.lst ((drop1 x ((ks B).take i)).map V.int))) ⟨same_new hL, upd_same⟩
      (fun i H2 hi z => list_go (SqL.of (z.1 _ _ q1)) hi) (fun H2 z => list_stop (SqL.of (z.1 _ _ q1))) ?_ ?_
    · rintro i z H2 H2' hi ⟨s2, m2⟩ hy
      obtain ⟨rfl, hx2⟩ := list_yld (SqL.of (s2 _ _ q1)) hy
      obtain ⟨y, hy2, rfl⟩ := ints_at hx2
      have st := drop1_step (x := x) hy2
      refine ⟨rfl, _, rfl, _, rfl, rfl, _, rfl, ?_⟩
      by_cases c : y = x
      · rw [intEq c]
        rw [if_pos c, List.append_nil] at st
        exact iteF ⟨s2, by rw [m2, st]⟩
      · rw [intNe c]
        rw [if_neg c] at st
        exact iteT ⟨_, rfl, _, m2, small1000 (by rw [List.length_map]; refine Nat.le_trans (drop1_le _ _) ?_; rw [List.length_take, len_ks]; have := hall.few; omega), same_upd s2 hL, by rw [upd_same, st, List.map_append]; rfl⟩
    rintro H2 ⟨s2, m2⟩
    rw [List.length_map, List.take_length] at m2
    refine ⟨Nat.zero_le _, fun m hm => ?_⟩
    have s3 : Same H2 (upd H2 m (.lst [])) := same_new hm
    have s03 := (s1.trans s2).trans s3
    exact ⟨p, L, m, Fp, n, B, M, drop1 x (ks B), [], rfl, hall.same s03, s3 _ _ m2, hall.inv.wf.nd.sublist List.filter_sublist, fun y hy => (mem_drop1.mp hy).1, upd_same, Nat.zero_le _, fun v H' s' tl => fin v H' (s03.trans s') (tl.old s03)⟩
def stand (B : BL) (M : MT) (x : Int) : Str := match withL B M x with
  | none => "no"
  | some _ => match withoutL B M x with
    | none => "every"
    | some _ => "some"
def spStanding (C : Addr) : Sp := fun vs H Q _ => ∃ (p : Addr) (F : Addr → Prop) (n : Int) (B : BL) (M : MT) (x : Int), vs = [.ref p, .int x] ∧ HallAt C H p F n B M ∧ x ∈ ks B ∧ ∀ H', Same H H' → Q (.str (stand B M x)) H'
theorem scStanding : FnScope ["self", "one"] ["self", "one"] (defScope sStanding) := ⟨rfl, rfl, rfl, by decide +kernel, rfl, by decide +kernel, by decide +kernel⟩
theorem ok_standing {f fW fO C : Addr} {fd fdW fdO : FuncData} (F : Fun K "standing" "Hall.standing" sStanding f fd) (T : Txt K mg C) (GW : FnOk P w K mg base CX0 6 fW fdW ["self", "one"] (spWith C)) (bW : Binds K fdW ["self", "one"] []) (mW : Meth K C "with_thing" fW)
    (GO : FnOk P w K mg base CX0 6 fO fdO ["self", "one"] (spWithout C)) (bO : Binds K fdO ["self", "one"] []) (mO : Meth K C "without_thing" fO) : FnOk P w K mg base CX0 7 f fd ["self", "one"] (spStanding C) := by
  refine F.ok scStanding (fun vs H Q E h => ?_) (fun cdv A outer s H vs Q E hr h => ?_)
  · obtain ⟨p, _, _, _, _, _, rfl, _⟩ := h
    rfl
  · obtain ⟨p, Fp, n, B, M, x, rfl, hall, hx, fin⟩ := h
    obtain ⟨dx, d1, d2, ρ, a1, _⟩ := hall.ex
    refine ⟨_, pss_cons (ps_if (pt_cmp (pc_isN (pe_meth (pv 0) T.cl mW GW hr bW .nil pass0 (pa_cons (pv 1) pa_nil)))) (pss_one (ps_ret pe_str)) pss_nil)
      (pss_cons (ps_if (pt_cmp (pc_isN (pe_meth (pv 0) T.cl mO GO hr bO .nil pass0 (pa_cons (pv 1) pa_nil)))) (pss_one (ps_ret pe_str)) pss_nil)
      (pss_one (ps_ret pe_str))), ?_⟩
    unfold stand at fin
    refine ⟨_, rfl, p, dx, _, rfl, a1, hf_no _ _ _ (by decide +kernel) (by decide +kernel) (by decide +kernel), _, rfl, p, Fp, n, B, M, x, rfl, hall, hx, fun v H1 s1 tl => ⟨_, rfl, ?_⟩⟩
    cases e : withL B M x with
    | none =>
      rw [e] at tl fin
      obtain rfl : v = .non := tl
      exact iteT (fin H1 s1)
    | some S =>
      rw [e] at tl fin
      obtain ⟨q, rfl, _, _⟩ := tl
      refine iteF ⟨_, rfl, p, dx, _, rfl, s1 _ _ a1, hf_no _ _ _ (by decide +kernel) (by decide +kernel) (by decide +kernel), _, rfl, p, Fp, n, B, M, x, rfl, hall.same s1, hx, fun v H2 s2 tl => ⟨_, rfl, ?_⟩⟩
      cases e2 : withoutL B M x with
      | none =>
        rw [e2] at tl fin
        obtain rfl : v = .non := tl
        exact iteT (fin H2 (s1.trans s2))
      | some S2 =>
        rw [e2] at tl fin
        obtain ⟨q2, rfl, _, _⟩ := tl
        exact iteF (fin H2 (s1.trans s2))
end
end FP

set_option Elab.async false
set_option maxRecDepth 100000
namespace FP
open PySem L2 FL FR NdefX LamX
/-! ### the two defs within the law, handed on -/
def sTwo (b : Bool) : Stmt := (defBody sLaw).getD (if b = true then 5 else 4) (.Pass ⟨0, 0, 0, 0⟩)
def nTwo (b : Bool) : Str := if b = true then "_law_two_in_row" else "_law_two_apart"
def qTwo (b : Bool) : Str := (("law" : Str) ++ ".<locals>.") ++ nTwo b
def mkN (c : Nat) (q : Bool × Addr) : NF := NF.of (sTwo q.1) (nTwo q.1) (qTwo q.1) [("_law_below", c)] q.2
def spTwo (b : Bool) : List (Option V) → Sp := fun ws vs H Q _ => ∃ (dl : Addr) (ρ : Int → Addr) (B : BL) (x y : Int), ws = [some (.ref dl)] ∧ vs = [.int x, .int y] ∧ BelowAt H dl ρ B ∧ x ∈ ks B ∧ y ∈ ks B ∧ Q (.bl (rel b B x y)) H
section
variable {P : Program} {w : World} {K : PySem.W.Frag} {mg : Str → Option Value} {base : Heap}
theorem nok_two {f fA : Addr} {fdA : FuncData} {c : Nat} (q : Bool × Addr) (GA : FnOk P w K mg base CX0 1 fA fdA ["_law_below", "_law_one", "_law_other"] spApart) (bA : Binds K fdA ["_law_below", "_law_one", "_law_other"] []) (mA : mg "_law_apart" = some (.ref fA)) (kA : PySem.W.keepIn K (.ref fA) = true) :
    NOk P w K mg base CX0 2 f (mkN c q) ["_law_one", "_law_other"] ["_law_below"] (spTwo q.1) := by
  obtain ⟨b, c'⟩ := q
  cases b with
  | false =>
    refine nok_of (N := ["_law_one", "_law_other", "_law_below"]) (nscope_by (show nscB ["_law_one", "_law_other", "_law_below"] ["_law_one", "_law_other"] ["_law_below"] (C8.fnScope (sTwo false)) = true by decide +kernel)) (fun _ _ _ us hl => match us, hl with | [_, _], _ => rfl) (fun ws vs H Q E h => ?_) (fun A outer s H vs ws Q E hr hf hc hw h => ?_)
    · obtain ⟨_, _, _, _, _, _, rfl, _⟩ := h; rfl
    · obtain ⟨dl, ρ, B, x, y, rfl, rfl, ba, hx, hy, fin⟩ := h
      exact ⟨_, pss_one (ps_ret (pe_call GA hr rfl mA kA bA .nil pass0 (pa_cons (pv 2) (pa_cons (pv 0) (pa_cons (pv 1) pa_nil))))), _, rfl, _, rfl, _, rfl, dl, ρ, B, x, y, rfl, ba, hx, hy, fin⟩
  | true =>
    refine nok_of (N := ["_law_one", "_law_other", "_law_below"]) (nscope_by (show nscB ["_law_one", "_law_other", "_law_below"] ["_law_one", "_law_other"] ["_law_below"] (C8.fnScope (sTwo true)) = true by decide +kernel)) (fun _ _ _ us hl => match us, hl with | [_, _], _ => rfl) (fun ws vs H Q E h => ?_) (fun A outer s H vs ws Q E hr hf hc hw h => ?_)
    · obtain ⟨_, _, _, _, _, _, rfl, _⟩ := h; rfl
    · obtain ⟨dl, ρ, B, x, y, rfl, rfl, ba, hx, hy, fin⟩ := h
      exact ⟨_, pss_one (ps_ret (pe_not (pe_call GA hr rfl mA kA bA .nil pass0 (pa_cons (pv 2) (pa_cons (pv 0) (pa_cons (pv 1) pa_nil)))))), _, rfl, _, rfl, _, rfl, dl, ρ, B, x, y, rfl, ba, hx, hy, _, rfl, fin⟩
/-! ### all by -/
def spAllBy (c : Nat) (dl : Addr) : Sp := fun vs H Q _ => ∃ (a f : Addr) (q : Bool × Addr) (ρ : Int → Addr) (B : BL) (xs : List Int), vs = [.ref a, .ref f] ∧ H f = some (FnO f (mkN c q)) ∧ H (mkN c q).c = some (CodeO (mkN c q).c (mkN c q).qual) ∧ H a = some (.lst (xs.map V.int)) ∧ xs.length ≤ 24 ∧ BelowAt H dl ρ B ∧ (∀ x ∈ xs, x ∈ ks B) ∧
  ∀ (b : Bool) (H' : Hp), Same H H' → (b = true ↔ xs.Pairwise fun y x => rel q.1 B x y = true) → Q (.bl b) H'
theorem scAllBy : FnScope ["_law_some_here", "_law_is_right", "_law_k", "_law_one", "_law_other"] ["_law_some_here", "_law_is_right"] (defScope sLawAllBy) := ⟨rfl, rfl, rfl, by decide +kernel, rfl, by decide +kernel, by decide +kernel⟩
theorem pw_snoc {R : Int → Int → Prop} {l : List Int} {x : Int} : (l ++ [x]).Pairwise R ↔ l.Pairwise R ∧ ∀ y ∈ l, R y x := by
  rw [List.pairwise_append]
  constructor
  · rintro ⟨a, _, c⟩
    exact ⟨a, fun y hy => c y hy x (by simp)⟩
  · rintro ⟨a, c⟩
    exact ⟨a, by simp, fun y hy z hz => by rw [show z = x by simpa using hz]; exact c y hy⟩
theorem ok_allBy {f fA : Addr} {fd fdA : FuncData} {c : Nat} {o : Obj} {dl : Addr} (F : Fun K "_law_all_by" "_law_all_by" sLawAllBy f fd) (l : base.objs.size ≤ c) (ho : o.data = .cell (some (.ref dl))) (GA : FnOk P w K mg (plus base c o) CX0 1 fA fdA ["_law_below", "_law_one", "_law_other"] spApart) (bA : Binds K fdA ["_law_below", "_law_one", "_law_other"] []) (mA : mg "_law_apart" = some (.ref fA)) (kA : PySem.W.keepIn K (.ref fA) = true)
    (mE : mg "enumerate" = none) (mAll : mg "all" = none) : FnOk P w K mg (plus base c o) CX0 3 f fd ["_law_some_here", "_law_is_right"] (spAllBy c dl) := by
  refine F.ok scAllBy (fun vs H Q E h => ?_) (fun cdv A outer s H vs Q E hr h => ?_)
  · obtain ⟨_, _, _, _, _, _, rfl, _⟩ := h
    rfl
  · obtain ⟨a, ff, q, ρ, B, xs, rfl, hf, hcd, ha, few, ba, sub, fin⟩ := h
    refine ⟨_, pss_cons (ps_for PassesOwn.never rfl (pi_enum (by rfl) mE (pa_cons (pv 0) pa_nil)) (pg_pairC 2 3 rfl scAllBy.nd rfl rfl (Or.inl rfl) (Or.inr rfl) (Or.inl rfl) (Or.inl rfl))
        (pss_one (ps_if (pt_not (pt_val (pe_callB (cr_all rfl) (by rfl) mAll (by decide +kernel) (pa_cons (pe_lc (own := [("_law_other", 4)]) (g := gName 4) (tt := tYes) (te := tCallF (mkN c) [some (.ref dl)] 1 (fun q => spTwo q.1) E0 (tCons (tVar 3) (tCons (tVar 4) tNil))) rfl scAllBy.nd (pi_list (pe_slice sl_list (pv 0) po_none (po_some (pv 2)))) (blkOk_by (N := ["_law_some_here", "_law_is_right", "_law_k", "_law_one", "_law_other"]) (sc := defScope sLawAllBy) (by decide +kernel))
            (fun _ _ _ _ _ => pg_name (i := 4) scAllBy.nd rfl (Or.inl rfl)) (fun _ _ _ _ _ => pts_nil) (fun _ _ _ _ _ => pe_callF (fr := ["_law_below"]) (fun q f => nok_two q GA bA mA kA) (fun q => cells_base l rfl ho rfl) hr (Nat.le_refl _) pass0 (by rfl) (by first | exact Or.inr (Or.inl rfl) | exact Or.inr (Or.inr rfl)) (pa_cons (pv 3) (pa_cons (pv 4) pa_nil)))) pa_nil)))) (pss_one (ps_ret pe_bl)) pss_nil)))
      (pss_one (ps_ret pe_bl)), ?_⟩
    refine ⟨_, rfl, a, _, rfl, SqL.of ha, ?_⟩
    refine for_by (n := (xs.map V.int).length) (fun i σ H' => ∃ v2 v3 v4, σ = [some (.ref a), some (.ref ff), v2, v3, v4] ∧ Same H H' ∧ (xs.take i).Pairwise fun y x => rel q.1 B x y = true) ⟨_, _, _, rfl, Same.refl _, by simp⟩
      (fun i σ H' hi ⟨_, _, _, _, s, _⟩ => enum_go (SqL.of (s _ _ ha)) hi) (fun σ H' ⟨_, _, _, _, s, _⟩ => enum_stop (SqL.of (s _ _ ha))) ?_ ?_
    · rintro i y σ H1 H2 hi ⟨v2, v3, v4, rfl, s1, pw⟩ ⟨Tp, x, rfl, hT, rfl, hx⟩
      obtain ⟨one, ho1, rfl⟩ := ints_at (hx _ (SqL.of (s1 _ _ ha)))
      have s2 : Same H (upd H1 Tp (.tup [.int (i : Nat), V.int one])) := same_upd s1 (s1.free hT)
      refine ⟨Tp, _, rfl, SqT.of upd_same, rfl, _, _, rfl, _, _, rfl, rfl, ?_⟩
      generalize upd H1 Tp (.tup [.int (i : Nat), V.int one]) = H2 at s2 ⊢
      rw [List.length_map] at hi
      have one_in : one ∈ ks B := sub one (List.mem_of_getElem? ho1)
      refine ⟨_, rfl, _, rfl, _, rfl, a, _, rfl, SqL.of (s2 _ _ ha), fun S hS => ?_⟩
      rw [ints_cut, Nat.min_eq_left (Nat.le_of_lt hi)]
      have s3 : Same H2 (upd H2 S (.lst ((xs.take i).map V.int))) := same_new hS
      have e3 : (upd H2 S (.lst ((xs.take i).map V.int))) S = some (.lst ((xs.take i).map V.int)) := upd_same
      generalize upd H2 S (.lst ((xs.take i).map V.int)) = H3 at s3 e3 ⊢
      have s23 := s2.trans s3
      refine ⟨S, rfl, ⟨_, SqL.of e3⟩, fun L hL => ?_⟩
      refine lc_list (xs := (xs.take i).map V.int) (fun j H' => Same H3 H' ∧ H' L = some (.lst ((((xs.take i).take j).map fun y => rel q.1 B one y).map V.bl))) ⟨same_new hL, upd_same⟩ (fun j H' _ z => SqL.of (z.1 _ _ e3)) ?_ ?_
      · rintro j y H4 hy ⟨s4, m4⟩
        obtain ⟨z, hz, rfl⟩ := ints_at hy
        have s24 := s23.trans s4
        refine ⟨rfl, ff, q, rfl, s24 _ _ hf, _, rfl, _, rfl, s24 _ _ hf, s24 _ _ hcd, dl, ρ, B, one, z, rfl, rfl, ba.same s24, one_in, sub z (List.mem_of_mem_take (List.mem_of_getElem? hz)), _, m4, small1000 (by rw [List.length_map, List.length_map, List.length_take, List.length_take]; omega), same_upd s4 hL, ?_⟩
        rw [upd_same, take_snoc hz, List.map_append, List.map_append]; rfl
      · rintro H4 ⟨s4, m4⟩
        have s24 := s23.trans s4
        refine ⟨L, _, rfl, SqL.of m4, _, rfl, ?_⟩
        rw [List.length_map, List.take_length]
        by_cases c : (((xs.take i).map fun y => rel q.1 B one y).all id) = true
        · rw [c]
          refine iteF ⟨_, _, _, rfl, s24, ?_⟩
          rw [take_snoc ho1]
          refine pw_snoc.mpr ⟨pw, fun y hy => ?_⟩
          exact List.all_eq_true.mp c _ (List.mem_map.mpr ⟨y, hy, rfl⟩)
        · rw [Bool.not_eq_true] at c
          rw [c]
          refine iteT (fin false _ s24 ⟨fun z => (by cases z), fun z => ?_⟩)
          exfalso
          have z2 := z.sublist (List.take_sublist (i + 1) xs)
          rw [take_snoc ho1] at z2
          have z3 := (pw_snoc.mp z2).2
          have : (((xs.take i).map fun y => rel q.1 B one y).all id) = true := List.all_eq_true.mpr fun b hb => by
            obtain ⟨y, hy, rfl⟩ := List.mem_map.mp hb
            exact z3 y hy
          rw [c] at this; cases this
    · rintro σ H1 ⟨v2, v3, v4, rfl, s1, pw⟩
      rw [List.length_map, List.take_length] at pw
      exact fin true _ s1 ⟨fun _ => pw, fun _ => rfl⟩
end
end FP

set_option Elab.async false
set_option maxRecDepth 100000
namespace FP
open PySem L2 FL FR
section
variable {P : Program} {w : World} {K : PySem.W.Frag} {mg : Str → Option Value} {base : Heap}
/-! ### all sets -/
def spSets : Sp := fun vs H Q _ => ∃ (a : Addr) (xs : List Int), vs = [.ref a] ∧ H a = some (.lst (xs.map V.int)) ∧ xs.length ≤ 7 ∧ ∀ (q : Addr) (H' : Hp), Same H H' → ListsAt H' q (subs xs) → Q (.ref q) H'
theorem scSets : FnScope ["_law_things", "_law_found", "_law_one", "_law_some_here"] ["_law_things"] (defScope sLawSets) := ⟨rfl, rfl, rfl, by decide +kernel, rfl, by decide +kernel, by decide +kernel⟩
theorem ListsAt.len {H : Hp} {q : Addr} {Ls : List (List Int)} (h : ListsAt H q Ls) : ∃ as : List Addr, H q = some (.lst (as.map V.ref)) ∧ (as.map V.ref).length = Ls.length := by
  obtain ⟨as, a, b⟩ := h
  exact ⟨as, a, by rw [List.length_map, paired_len b]⟩
/-- lists in a list that is none of them -/
def LsAt (H : Hp) (q : Addr) (Ls : List (List Int)) : Prop := ∃ as : List Addr, H q = some (.lst (as.map V.ref)) ∧ Paired (fun a (l : List Int) => H a = some (.lst (l.map V.int))) as Ls ∧ q ∉ as
theorem LsAt.push {H H' : Hp} {q a : Addr} {Ls : List (List Int)} {l : List Int} (h : LsAt H q Ls) (s : Same H H') (na : H a = none) (e : H' a = some (.lst (l.map V.int))) : ∃ as : List Addr, H' q = some (.lst (as.map V.ref)) ∧ as.length = Ls.length ∧ LsAt (upd H' q (.lst (as.map V.ref ++ [.ref a]))) q (Ls ++ [l]) := by
  obtain ⟨as, x, y, z⟩ := h
  have nq : a ≠ q := fun w => by rw [w, x] at na; cases na
  refine ⟨as, s _ _ x, paired_len y, as ++ [a], by rw [upd_same, List.map_append]; rfl, paired_snoc (paired_imp' y fun b l hb eb => ?_) ?_, fun m => ?_⟩
  · rw [upd_ne (fun (w : b = q) => z (w ▸ hb))]; exact s _ _ eb
  · rw [upd_ne nq]; exact e
  · rcases List.mem_append.mp m with w | w
    · exact z w
    · exact nq (by simpa using w : q = a).symm
theorem LsAt.lists {H : Hp} {q : Addr} {Ls : List (List Int)} (h : LsAt H q Ls) : ListsAt H q Ls := let ⟨as, a, b, _⟩ := h; ⟨as, a, b⟩
theorem paired_app {α β : Type} {R : α → β → Prop} : ∀ {as : List α} {bs : List β} {as' : List α} {bs' : List β}, Paired R as bs → Paired R as' bs' → Paired R (as ++ as') (bs ++ bs')
  | _, _, _, _, .nil, h => h
  | _, _, _, _, .cons a b, h => .cons a (paired_app b h)
theorem pow_small : ∀ n : Nat, n ≤ 7 → 2 ^ n ≤ 128 := fun n h => by
  match n, h with
  | 0, _ | 1, _ | 2, _ | 3, _ | 4, _ | 5, _ | 6, _ | 7, _ => all_goals decide
theorem ok_sets {f : Addr} {fd : FuncData} (F : Fun K "_law_sets" "_law_sets" sLawSets f fd) : FnOk P w K mg base CX0 1 f fd ["_law_things"] spSets := by
  refine F.ok scSets (fun vs H Q E h => ?_) (fun cdv A outer s H vs Q E hr h => ?_)
  · obtain ⟨_, _, rfl, _⟩ := h
    rfl
  · obtain ⟨a, xs, rfl, ha, few, fin⟩ := h
    refine ⟨_, pss_cons (ps_set (i := 1) scSets.nd rfl (Or.inl rfl) (pe_lst (pa_cons (pe_lst pa_nil) pa_nil)))
      (pss_cons (ps_for PassesOwn.never rfl (pi_list (pv 0)) (pg_name (i := 2) scSets.nd rfl (Or.inr rfl))
        (pss_one (ps_set (i := 1) scSets.nd rfl (Or.inl rfl) (pe_op op_cat (pv 1) (pe_lc (own := [("_law_some_here", 3)]) (g := gName 3) (tt := tYes) (te := tOp rCat (tVar 3) (tLst (tCons (tVar 2) tNil))) (wi := iList K (tVar 1)) rfl scSets.nd (pi_list (pv 1)) (blkOk_by (N := ["_law_things", "_law_found", "_law_one", "_law_some_here"]) (sc := defScope sLawSets) (by decide +kernel))
            (fun _ _ _ _ _ => pg_name (i := 3) scSets.nd rfl (Or.inl rfl)) (fun _ _ _ _ _ => pts_nil) (fun _ _ _ _ _ => pe_op op_cat (pv 3) (pe_lst (pa_cons (pv 2) pa_nil))))))))
      (pss_one (ps_ret (pv 1)))), ?_⟩
    refine ⟨Nat.zero_le _, fun e0 he0 => ⟨by show 1 ≤ sizeLine; decide, fun f0 hf0 => ?_⟩⟩
    have s1 : Same H (upd (upd H e0 (.lst [])) f0 (.lst [.ref e0])) := (same_new he0).trans (same_new hf0)
    have l1 : ListsAt (upd (upd H e0 (.lst [])) f0 (.lst [.ref e0])) f0 [[]] := ⟨[e0], upd_same, .cons (by rw [upd_ne (ne_of_none upd_same hf0)]; exact upd_same) .nil⟩
    generalize upd (upd H e0 (.lst [])) f0 (.lst [.ref e0]) = H1 at s1 l1 ⊢
    refine ⟨_, rfl, a, rfl, ⟨_, SqL.of (s1 _ _ ha)⟩, ?_⟩
    refine for_by (n := (xs.map V.int).length) (fun i σ H' => ∃ fo v2 v3, σ = [some (.ref a), some (.ref fo), v2, v3] ∧ Same H H' ∧ ListsAt H' fo (subs (xs.take i))) ⟨f0, _, _, rfl, s1, l1⟩
      (fun i σ H' hi ⟨_, _, _, _, s, _⟩ => list_go (SqL.of (s _ _ ha)) hi) (fun σ H' ⟨_, _, _, _, s, _⟩ => list_stop (SqL.of (s _ _ ha))) ?_ ?_
    · rintro i y σ H2 H2' hi ⟨fo, v2, v3, rfl, s2, l2⟩ hy
      obtain ⟨rfl, hx⟩ := list_yld (SqL.of (s2 _ _ ha)) hy
      obtain ⟨one, ho1, rfl⟩ := ints_at hx
      rw [List.length_map] at hi
      obtain ⟨as, ea, pa⟩ := id l2
      have la := paired_len pa
      have lsub : (subs (xs.take i)).length ≤ 64 := by
        rw [subs_len i _ (by rw [List.length_take]; omega)]
        have h6 : i ≤ 6 := by omega
        match i, h6 with
        | 0, _ | 1, _ | 2, _ | 3, _ | 4, _ | 5, _ | 6, _ => all_goals decide
      refine ⟨_, rfl, _, rfl, fo, rfl, ⟨_, SqL.of ea⟩, fun L hL => ?_⟩
      refine lc_list (xs := as.map V.ref) (fun j H' => Same H2' H' ∧ LsAt H' L (((subs (xs.take i)).take j).map (· ++ [one]))) ⟨same_new hL, [], upd_same, .nil, by simp⟩ (fun j H' _ z => SqL.of (z.1 _ _ ea)) ?_ ?_
      · rintro j y H3 hy3 ⟨s3, m3⟩
        obtain ⟨la1, hla, rfl⟩ : ∃ b : Addr, as[j]? = some b ∧ y = .ref b := by
          rw [List.getElem?_map] at hy3
          cases e : as[j]? with
          | none => rw [e] at hy3; cases hy3
          | some b => rw [e] at hy3; exact ⟨b, rfl, (Option.some.inj hy3).symm⟩
        obtain ⟨l, hl, el⟩ := paired_get pa hla
        have ll : l.length ≤ 7 := by
          have := ((mem_subs _ _ _ rfl).mp (List.mem_of_getElem? hl)).length_le
          rw [List.length_take] at this
          omega
        refine ⟨rfl, _, rfl, _, rfl, by show 1 ≤ sizeLine; decide, fun z hz => ⟨la1, z, _, _, rfl, rfl, (same_new hz) _ _ (s3 _ _ el), upd_same, Nat.le_of_lt (small1000 (by rw [List.length_map]; show l.length + 1 ≤ 1000; omega)), fun p hp => ?_⟩⟩
        obtain ⟨bs, eb, lb, m4⟩ := m3.push (a := p) (l := l ++ [one]) ((same_new (o := .lst [.int one]) hz).trans (same_new (o := .lst (l.map V.int ++ [.int one])) hp)) ((same_new hz).free hp) (by rw [upd_same, List.map_append]; rfl)
        refine ⟨_, eb, small1000 (by rw [List.length_map, lb, List.length_map, List.length_take]; omega), same_upd (s3.trans ((same_new hz).trans (same_new hp))) hL, ?_⟩
        rw [take_snoc hl, List.map_append]
        exact m4
      · rintro H3 ⟨s3, m3⟩
        rw [List.length_map, la, List.take_length] at m3
        obtain ⟨bs, eb, pb⟩ := m3.lists
        have lb := paired_len pb
        rw [List.length_map] at lb
        refine ⟨fo, L, _, _, rfl, rfl, s3 _ _ ea, eb, Nat.le_of_lt (small1000 (by rw [List.length_map, List.length_map]; omega)), fun p hp => ?_⟩
        have s4 : Same H3 (upd H3 p (.lst (as.map V.ref ++ bs.map V.ref))) := same_new hp
        refine ⟨p, _, _, rfl, (s2.trans s3).trans s4, as ++ bs, by rw [upd_same, List.map_append], ?_⟩
        rw [take_snoc ho1, subs_snoc]
        exact paired_app (paired_imp pa fun x l e => s4 _ _ (s3 _ _ e)) (paired_imp pb fun x l e => s4 _ _ e)
    · rintro σ H2 ⟨fo, v2, v3, rfl, s2, l2⟩
      rw [List.length_map, List.take_length] at l2
      exact ⟨_, rfl, fin fo H2 s2 l2⟩
end
end FP

set_option Elab.async false
set_option maxRecDepth 100000
namespace FP
open PySem L2 FL FR
abbrev rLenQ (K : PySem.W.Frag) : List V → Hp → VK → Prop := fun xs H Q => ∃ p ys, xs = [.ref p] ∧ (SqL K H p ys ∨ SqT K H p ys) ∧ Q (.int ys.length) H
/-- lists at these addresses -/
def LAt (H : Hp) (as : List Addr) (Ls : List (List Int)) : Prop := Paired (fun a (l : List Int) => H a = some (.lst (l.map V.int))) as Ls
theorem LAt.same {H H' : Hp} {as : List Addr} {Ls : List (List Int)} (h : LAt H as Ls) (s : Same H H') : LAt H' as Ls := paired_imp h fun x l e => s _ _ e
theorem wipe7 {σ : L2.St} {x : Option V} : wipe ((wipe σ [7]).set 7 x) [7] = wipe σ [7] := by
  show ((σ.set 7 none).set 7 x).set 7 none = σ.set 7 none
  rw [List.set_set, List.set_set]
theorem at7 {σ : L2.St} {x : Option V} (h : 7 < σ.length) : ((wipe σ [7]).set 7 x)[7]? = some x := by
  show ((σ.set 7 none).set 7 x)[7]? = _
  rw [List.getElem?_set_self (by rw [List.length_set]; exact h)]
theorem refs_at {as : List Addr} {j : Nat} {y : V} (h : (as.map V.ref)[j]? = some y) : ∃ b : Addr, as[j]? = some b ∧ y = .ref b := by
  rw [List.getElem?_map] at h
  cases e : as[j]? with
  | none => rw [e] at h; cases h
  | some b => rw [e] at h; exact ⟨b, rfl, (Option.some.inj h).symm⟩
theorem LAt.get {H : Hp} {as : List Addr} {Ls : List (List Int)} (h : LAt H as Ls) {j : Nat} {b : Addr} (hb : as[j]? = some b) : ∃ l, Ls[j]? = some l ∧ H b = some (.lst (l.map V.int)) := paired_get h hb
section
variable {K : PySem.W.Frag} {q L : Addr} {as : List Addr} {Ls : List (List Int)} {σ : L2.St} {H : Hp} {Qd : Hp → Prop}
/-- [s for s in .. if ..] -/
theorem lc_filter8 {tt : TT} (pr : List Int → Bool) (hL : H L = none) (h7 : 7 < σ.length) (hq : H q = some (.lst (as.map V.ref))) (pa : LAt H as Ls) (few : Ls.length ≤ 1000)
    (hT : ∀ (a : Addr) (l : List Int) (H' : Hp) (R : Bool → Hp → Prop), Same H H' → l ∈ Ls → H' a = some (.lst (l.map V.int)) → (∀ H3, Same H' H3 → R (pr l) H3) → tt ((wipe σ [7]).set 7 (some (.ref a))) H' R)
    (fin : ∀ (H' : Hp) (bs : List Addr), Same H H' → H' L = some (.lst (bs.map V.ref)) → LAt H' bs (Ls.filter pr) → Qd H') : ∃ W : Nat → Nat → Hp → Prop, (∃ m, W 0 m (upd H L (.lst []))) ∧ ∀ i m H, W i m H →
      ((Itl K q).stop i H ∧ Qd H) ∨ ((Itl K q).go i H ∧ ∃ Nx : Hp → Prop, (∀ H', Nx H' → ∃ m', m' < m ∧ W (i + 1) m' H') ∧ ∀ x H', (Itl K q).yld i H x H' → gName 7 x (wipe σ [7]) H' fun σ2 H2 => wipe σ2 [7] = wipe σ [7] ∧ tt σ2 H2 fun b H3 =>
        if b = true then tVar 7 σ2 H3 fun y H4 => ∃ acc, H4 L = some (.lst acc) ∧ acc.length < sizeLine ∧ Nx (upd H4 L (.lst (acc ++ [y]))) else Nx H3) := by
  have la := paired_len pa
  refine lc_list (xs := as.map V.ref) (fun i H' => Same H H' ∧ ∃ bs, H' L = some (.lst (bs.map V.ref)) ∧ LAt H bs ((Ls.take i).filter pr)) ⟨same_new hL, [], upd_same, .nil⟩ (fun i H' _ z => SqL.of (z.1 _ _ hq)) ?_ ?_
  · rintro i y H1 hy ⟨s1, bs, m1, p1⟩
    obtain ⟨b, hb, rfl⟩ := refs_at hy
    obtain ⟨l, hl, el⟩ := pa.get hb
    refine ⟨wipe7, hT b l H1 _ s1 (List.mem_of_getElem? hl) (s1 _ _ el) fun H3 s3 => ?_⟩
    have ef : (Ls.take (i + 1)).filter pr = (Ls.take i).filter pr ++ if pr l = true then [l] else [] := by
      rw [take_snoc hl, List.filter_append, List.filter_cons, List.filter_nil]
    have lb := paired_len p1
    have lf := List.length_filter_le pr (Ls.take i)
    rw [List.length_take] at lf
    cases c : pr l with
    | true =>
      refine iteT ⟨_, at7 h7, _, s3 _ _ m1, small1000 (by rw [List.length_map]; omega), same_upd (s1.trans s3) hL, bs ++ [b], by rw [upd_same, List.map_append]; rfl, ?_⟩
      rw [ef, c, if_pos rfl]
      exact paired_snoc p1 el
    | false =>
      refine iteF ⟨s1.trans s3, bs, s3 _ _ m1, ?_⟩
      rw [ef, c, if_neg (by decide), List.append_nil]
      exact p1
  · rintro H1 ⟨s1, bs, m1, p1⟩
    rw [List.length_map, la, List.take_length] at p1
    exact fin H1 bs s1 m1 (LAt.same p1 s1)
/-- [len(s) for s in ..] -/
theorem lc_lens8 (hL : H L = none) (h7 : 7 < σ.length) (hq : H q = some (.lst (as.map V.ref))) (pa : LAt H as Ls) (few : Ls.length ≤ 1000)
    (fin : ∀ H' : Hp, Same H H' → H' L = some (.lst ((Ls.map fun l => (l.length : Int)).map V.int)) → Qd H') : ∃ W : Nat → Nat → Hp → Prop, (∃ m, W 0 m (upd H L (.lst []))) ∧ ∀ i m H, W i m H →
      ((Itl K q).stop i H ∧ Qd H) ∨ ((Itl K q).go i H ∧ ∃ Nx : Hp → Prop, (∀ H', Nx H' → ∃ m', m' < m ∧ W (i + 1) m' H') ∧ ∀ x H', (Itl K q).yld i H x H' → gName 7 x (wipe σ [7]) H' fun σ2 H2 => wipe σ2 [7] = wipe σ [7] ∧ tYes σ2 H2 fun b H3 =>
        if b = true then tCB (rLenQ K) (tCons (tVar 7) tNil) σ2 H3 fun y H4 => ∃ acc, H4 L = some (.lst acc) ∧ acc.length < sizeLine ∧ Nx (upd H4 L (.lst (acc ++ [y]))) else Nx H3) := by
  have la := paired_len pa
  refine lc_list (xs := as.map V.ref) (fun i H' => Same H H' ∧ H' L = some (.lst (((Ls.take i).map fun l => (l.length : Int)).map V.int))) ⟨same_new hL, upd_same⟩ (fun i H' _ z => SqL.of (z.1 _ _ hq)) ?_ ?_
  · rintro i y H1 hy ⟨s1, m1⟩
    obtain ⟨b, hb, rfl⟩ := refs_at hy
    obtain ⟨l, hl, el⟩ := pa.get hb
    refine ⟨wipe7, _, at7 h7, b, _, rfl, .inl (SqL.of (s1 _ _ el)), _, m1, small1000 (by rw [List.length_map, List.length_map, List.length_take]; omega), same_upd s1 hL, ?_⟩
    rw [upd_same, take_snoc hl, List.map_append, List.map_append, List.length_map]; rfl
  · rintro H1 ⟨s1, m1⟩
    rw [List.length_map, la, List.take_length] at m1
    exact fin H1 s1 m1
end
end FP

set_option Elab.async false
set_option maxRecDepth 100000
namespace FP
open PySem L2 FL FR NdefX LamX
theorem hu65_of {A : Around} {k : Nat} (hr : Room k A) : A.units + 65 < cLine := by have := hr.un; omega
abbrev NL : List Str := ["_law_script", "_law_hall", "_law_below", "_law_number", "_law_cell", "_law_things", "_law_one", "_law_some_here", "_law_two_apart", "_law_two_in_row", "_law_sets_here", "_law_free", "_law_rows", "_law_many", "_law_count", "_law_due", "_law_long"]
theorem scLaw : FnScope NL ["_law_script"] (defScope sLaw) := ⟨rfl, rfl, rfl, by decide +kernel, rfl, by decide +kernel, by decide +kernel⟩
/-- the cell of below, by where the def's frame stands -/
def cellB (L : Nat) : Nat := ((cellsFrom (L + 1) (defScope sLaw).names []).lookup ("_law_below" : Str)).getD 0
def posTwo (b : Bool) : Pos := match sTwo b with
  | .FunctionDef _ _ _ _ _ _ _ _ _ p => p
  | _ => ⟨0, 0, 0, 0⟩
def nmTwo (l _ : Nat) : Str := if l = (posTwo false).line then qTwo false else qTwo true
/-- all by, of a set and one of the two defs; the dict as the frame's slot has it -/
def tAll (c i : Nat) : L2.St → TT := fun σ0 σ H Q => ∃ dl, slotAt σ0 2 = some (.ref dl) ∧ tB (tCall (spAllBy c dl) [] E0 (tCons (tVar 7) (tCons (tVar i) tNil))) σ H Q
def spLaw8 (K : PySem.W.Frag) (PT : Addr) : Sp := fun vs H Q _ => ∃ (a : Addr) (ns : List Int), vs = [.ref a] ∧ SqL K H a (ns.map V.int) ∧ ns.length ≤ 63 ∧ H PT = some (.tbl #[]) ∧ ∀ H', Q (.bl true) H'
def Turn08 (C : Addr) (PT a S : Addr) (cs : List Int) (p dl : Addr) : L2.St → Hp → Prop := fun σ H => ∃ (n : Int) (B : BL) (M : MT) (F : Addr → Prop) (v4 v5 v6 v7 : Option V),
  σ = [some (.ref a), some (.ref p), some (.ref dl), some (.int n), v4, v5, v6, v7, none, none, none, none, none, none, none, none, none] ∧ HallAt C H p F n B M ∧ LawAt H F dl B ∧ B.length ≤ 7 ∧ H S = some (.lst (cs.map V.int)) ∧ ¬ F S ∧ H PT = some (.tbl #[]) ∧ ¬ F PT
def tDeed8 (C PT a : Addr) : TS := fun D σ H => ∃ S cs p dl c, σ[4]? = some (some (.int c)) ∧ Turn08 C PT a S cs p dl σ H ∧ ∀ σ' H', Turn08 C PT a S cs p dl σ' H' → D.nx σ' H'
theorem ne_self8 {x : V} {p q : Prop} (h : q) : if (!decide (x = x)) = true then p else q := by rw [decide_eq_true rfl]; exact h
theorem ne_int8 {x y : Int} {p q : Prop} (e : x = y) (h : q) : if (!decide (V.int x = V.int y)) = true then p else q := by rw [e, decide_eq_true rfl]; exact h
theorem fre_ok8 {n : Int} {B : BL} {M : MT} (h : HI n B M) : Free B (fre B M) ∧ (fre B M).length = many B M ∧ (fre B M).Pairwise (· < ·) := by
  obtain ⟨a, b⟩ := none_best h.wf h.mw (List.Perm.refl _) (best_none h.wf h.mw (List.Perm.refl _) h.best)
  have hm := many_eq h
  refine ⟨a, by show (fs _ _ _).length = _; omega, ?_⟩
  unfold fre fs fs0
  exact (h.up.sublist List.filter_sublist).sublist List.filter_sublist
theorem stand_cases {n : Int} {B : BL} {M : MT} (h : HI n B M) {x : Int} (hx : x ∈ ks B) {G : List (List Int)} (hG : greats B (many B M) = G) :
    (cnt G x = 0 ∧ cnt G x ≠ G.length ∧ stand B M x = "no") ∨ (cnt G x ≠ 0 ∧ cnt G x = G.length ∧ stand B M x = "every") ∨ (cnt G x ≠ 0 ∧ cnt G x ≠ G.length ∧ stand B M x = "some") := by
  subst hG
  obtain ⟨fr1, fr2, fr3⟩ := fre_ok8 h
  have inG := in_greats h fr1 fr3 fr2
  unfold stand
  cases e1 : withL B M x with
  | none =>
    have z := cnt_zero.mpr fun l hl => let ⟨_, a, b⟩ := (mem_greats h).mp hl; with_no h e1 a b
    exact .inl ⟨z, fun w => by have := List.length_pos_of_mem inG; omega, rfl⟩
  | some S =>
    obtain ⟨a, b⟩ := with_yes h hx e1
    have nz : cnt (greats B (many B M)) x ≠ 0 := fun w => cnt_zero.mp w S a b
    cases e2 : withoutL B M x with
    | none => exact .inr (.inl ⟨nz, cnt_all.mpr fun l hl => let ⟨_, a, b⟩ := (mem_greats h).mp hl; without_no h e2 a b, rfl⟩)
    | some S' =>
      obtain ⟨a', b'⟩ := without_yes h e2
      exact .inr (.inr ⟨nz, fun w => b' (cnt_all.mp w S' a'), rfl⟩)
def tMany7 (K : PySem.W.Frag) (i j : Nat) : TT := fun σ H Q => ∃ (a : Addr) (ts : List Int) (c : Int), σ[i]? = some (some (.ref a)) ∧ σ[j]? = some (some (.int c)) ∧ SqL K H a (ts.map V.int) ∧ ts.length ≤ 7 ∧
  ∀ b H1, Same H H1 → (b = true → ts ≠ []) → (b = false → ts.length ≤ 6) → Q b H1
theorem HallAt.ext {C : Addr} {H H' : Hp} {p : Addr} {F : Addr → Prop} {n : Int} {B : BL} {M : MT} (h : HallAt C H p F n B M) (x : ExtN H H') (nw : ∀ b, H' b = none → H b = none) : HallAt C H' p F n B M := by
  obtain ⟨i, fw, ⟨dx, d1, d2, ρ, a1, a2, a3, a4, a5, f⟩, dm⟩ := h
  refine ⟨i, fw, ⟨dx, d1, d2, ρ, x _ _ a1 (fun _ z => by cases z), a2, x _ _ a3 (fun _ z => by cases z), x _ _ a4 (fun _ z => by cases z), fun b hb => x _ _ (a5 b hb) (fun _ z => by cases z), f⟩, fun a ha => ?_⟩
  cases e : H' a with
  | some o => exact ⟨o, rfl⟩
  | none =>
    obtain ⟨o, q⟩ := dm a ha
    rw [nw a e] at q; cases q
section
variable {P : Program} {w : World} {K : PySem.W.Frag} {mg : Str → Option Value} {base : Heap}
theorem ok_law {f fI fT fP fM fS fG fF fX fAB fL fFr fSt fFl fLo C cL PT : Addr} {fdI fdT fdP fdM fdS fdG fdF fdX fdAB fdL fdFr fdSt fdFl fdLo : FuncData} {kW dc pm ct oc : Value} {an od : Option Addr} {sl : Array (Option Value)}
    (lk : K.lookup f = some ⟨oc, od, .func (PySem.W.fnOf "law" "law" (defArgs sLaw) (defBody sLaw) (defScope sLaw) .none kW dc pm an (.ref cL) ct), sl⟩) (hcd : PySem.W.codeIn K (.ref cL) "law" = true) (TBl : TabB base mg cL PT) (T : Txt K mg C) (Mk0 : Mk K C fI)
    (GI : FnOk P w K mg base CX0 1 fI fdI ["self"] (spInit C)) (bI : Binds K fdI ["self"] [])
    (GT : FnOk P w K mg base CX0 3 fT fdT ["self", "one"] (spTake C)) (bT : Binds K fdT ["self", "one"] []) (mT : Meth K C "take" fT)
    (GP : FnOk P w K mg base CX0 3 fP fdP ["self", "some"] (spPut C)) (bP : Binds K fdP ["self", "some"] []) (mP : Meth K C "put" fP)
    (GM : FnOk P w K mg base CX0 1 fM fdM ["_law_cell", "_law_k"] spMixed) (bM : Binds K fdM ["_law_cell", "_law_k"] []) (mM : mg "_law_mixed" = some (.ref fM)) (kM : PySem.W.keepIn K (.ref fM) = true)
    (GS : FnOk P w K mg base CX0 2 fS fdS ["_law_things", "_law_cell"] spSome) (bS : Binds K fdS ["_law_things", "_law_cell"] []) (mS : mg "_law_some" = some (.ref fS)) (kS : PySem.W.keepIn K (.ref fS) = true)
    (GG : FnOk P w K mg base CX0 1 fG fdG ["_law_below", "_law_one", "_law_some_here"] spGrown) (bG : Binds K fdG ["_law_below", "_law_one", "_law_some_here"] []) (mG : mg "_law_grown" = some (.ref fG)) (kG : PySem.W.keepIn K (.ref fG) = true)
    (GF : FnOk P w K mg base CX0 1 fF fdF ["_law_below", "_law_one"] spFewer) (bF : Binds K fdF ["_law_below", "_law_one"] []) (mF : mg "_law_fewer" = some (.ref fF)) (kF : PySem.W.keepIn K (.ref fF) = true)
    (GX : FnOk P w K mg base CX0 1 fX fdX ["_law_things"] spSets) (bX : Binds K fdX ["_law_things"] []) (mX : mg "_law_sets" = some (.ref fX)) (kX : PySem.W.keepIn K (.ref fX) = true)
    (GAB : ∀ (c : Nat) (o : Obj) (dl : Addr), base.objs.size ≤ c → o.data = .cell (some (.ref dl)) → FnOk P w K mg (plus base c o) CX0 3 fAB fdAB ["_law_some_here", "_law_is_right"] (spAllBy c dl)) (bAB : Binds K fdAB ["_law_some_here", "_law_is_right"] []) (mAB : mg "_law_all_by" = some (.ref fAB)) (kAB : PySem.W.keepIn K (.ref fAB) = true)
    (GL : FnOk P w K mg base CX0 3 fL fdL ["self"] (spLadders C)) (bL : Binds K fdL ["self"] []) (mL : Meth K C "ladders" fL)
    (GFr : FnOk P w K mg base CX0 3 fFr fdFr ["self"] (spFree C)) (bFr : Binds K fdFr ["self"] []) (mFr : Meth K C "free" fFr)
    (GSt : FnOk P w K mg base CX0 7 fSt fdSt ["self", "one"] (spStanding C)) (bSt : Binds K fdSt ["self", "one"] []) (mSt : Meth K C "standing" fSt)
    (GFl : FnOk P w K mg base CX0 2 fFl fdFl ["self"] (spFloors C)) (bFl : Binds K fdFl ["self"] []) (mFl : Meth K C "floors" fFl)
    (GLo : FnOk P w K mg base CX0 3 fLo fdLo ["self"] (spLongest C)) (bLo : Binds K fdLo ["self"] []) (mLo : Meth K C "longest" fLo)
    (mMax : mg "max" = none) : FnOk P w K mg base CX0 8 f (PySem.W.fnOf "law" "law" (defArgs sLaw) (defBody sLaw) (defScope sLaw) .none kW dc pm an (.ref cL) ct) ["_law_script"] (spLaw8 K PT) := by
  refine fn_of (k := 7) lk hcd scLaw (fun vs H Q E h => ?_) (fun A outer s H vs Q E hr h => ?_)
  · obtain ⟨a, ns, rfl, _⟩ := h
    rfl
  · suffices z : ∃ t, PSs (cxOf CX0 P w K mg base NL "law" (defScope sLaw) f (.ref cL) A outer s H E).nox (defBody sLaw) t ∧ t { nx := fun _ H' => Q .non H', rt := Q } (L2.start NL vs) H by
      obtain ⟨t, h, q⟩ := z
      exact ⟨t, h.nox, q⟩
    obtain ⟨a, ns, rfl, hS, hlen, hPT, fin⟩ := h
    have hu := hu_of hr
    have hu65 := hu65_of hr
    have hr1 : Room 1 _ := hr.mono (by decide)
    have hr2 : Room 2 _ := hr.mono (by decide)
    have hr3 : Room 3 _ := hr.mono (by decide)
    refine ⟨_, pss_cons (ps_set (i := 1) scLaw.nd rfl (Or.inl rfl) (pe_make0 Mk0 GI hr2 (by rfl) T.mgC bI .nil pass0))
      (pss_cons (ps_set (i := 2) scLaw.nd rfl (Or.inr rfl) pe_dnewK)
      (pss_cons (ps_set (i := 3) scLaw.nd rfl (Or.inl rfl) pe_int)
      (pss_cons (ps_for PassesOwn.never rfl (pi_list (pe_slice sl_list (pv 0) po_none (po_some pe_int))) (pg_name (i := 4) scLaw.nd rfl (Or.inl rfl))
        (pssWeak (t' := tDeed8 C PT a)
        (pss_cons (ps_set (i := 5) scLaw.nd rfl (Or.inl rfl) (pe_callB (call_sortedDI rfl) (by rfl) T.sorted (by decide +kernel) (pa_cons (pv 2) pa_nil)))
        (pss_one (ps_if (ptWeak (t' := tMany7 K 5 4) (pw_or (pt_cmpR op_eq (pe_callB call_len_seq (by rfl) T.len PySem.boot_len (pa_cons (pv 5) pa_nil)) pe_int (nomark _)) (pw_or1 (pw_and (pt_cmpR (op_neI hr.units) (pv 5) (pe_lst pa_nil) (nomark _)) (pw_and1 (pt_cmpR op_eq (pe_op op_mod (pv 4) pe_int) pe_int (nomark _)))).pt)).pt ?many)
          (pss_cons (ps_set (i := 6) scLaw.nd rfl (Or.inr rfl) (pe_ix ix_list (pv 5) (pe_op op_mod (pe_op op_fdiv (pe_call GM hr1 (by rfl) mM kM bM .nil pass0 (pa_cons (pv 4) (pa_cons pe_int pa_nil))) pe_int) (pe_callB call_len_seq (by rfl) T.len PySem.boot_len (pa_cons (pv 5) pa_nil))) (fun _ _ => rfl)))
          (pss_cons (ps_expr (pe_meth (pv 1) T.cl mT GT hr3 bT .nil pass0 (pa_cons (pv 6) pa_nil)))
          (pss_one (ps_expr (pe_call GF hr1 (by rfl) mF kF bF .nil pass0 (pa_cons (pv 2) (pa_cons (pv 6) pa_nil)))))))
          (pss_cons (ps_set (i := 7) scLaw.nd rfl (Or.inl rfl) (pe_call GS hr2 (by rfl) mS kS bS .nil pass0 (pa_cons (pv 5) (pa_cons (pe_op op_fdiv (pv 4) pe_int) pa_nil))))
          (pss_cons (ps_expr (pe_meth (pv 1) T.cl mP GP hr3 bP .nil pass0 (pa_cons (pe_callTy call_list_of (by rfl) T.list (by decide +kernel) (pa_cons (pv 7) pa_nil)) pa_nil)))
          (pss_cons (ps_expr (pe_call GG hr1 (by rfl) mG kG bG .nil pass0 (pa_cons (pv 2) (pa_cons (pv 3) (pa_cons (pv 7) pa_nil)))))
          (pss_one (ps_set (i := 3) scLaw.nd rfl (Or.inl rfl) (pe_op op_add (pv 3) pe_int))))))))) ?deed))
      (pss_cons (ps_ndefMS (st := sTwo false) (T := [(PT, nmTwo)]) (i := 8) (pos := posTwo false) rfl TBl rfl (List.mem_singleton.mpr rfl) (show nmTwo (posTwo false).line (posTwo false).col = (("law" : Str) ++ ".<locals>.") ++ "_law_two_apart" by decide +kernel) (fun p hp _ => by rw [List.mem_singleton.mp hp]) (ndef_free (show ndefB (defScope sLaw) (C8.fnScope (sTwo false)) ["_law_below"] = true by decide +kernel)) rfl rfl rfl scLaw.nd rfl (Or.inr rfl) (Or.inl rfl))
      (pss_cons (ps_ndefMS (st := sTwo true) (T := [(PT, nmTwo)]) (i := 9) (pos := posTwo true) rfl TBl rfl (List.mem_singleton.mpr rfl) (show nmTwo (posTwo true).line (posTwo true).col = (("law" : Str) ++ ".<locals>.") ++ "_law_two_in_row" by decide +kernel) (fun p hp _ => by rw [List.mem_singleton.mp hp]) (ndef_free (show ndefB (defScope sLaw) (C8.fnScope (sTwo true)) ["_law_below"] = true by decide +kernel)) rfl rfl rfl scLaw.nd rfl (Or.inr rfl) (Or.inl rfl))
      (pss_cons (ps_set (i := 10) scLaw.nd rfl (Or.inl rfl) (pe_call GX hr1 (by rfl) mX kX bX .nil pass0 (pa_cons (pe_callB (call_sortedDI rfl) (by rfl) T.sorted (by decide +kernel) (pa_cons (pv 2) pa_nil)) pa_nil)))
      (pss_cons (ps_setLcI (i := 11) (own := [("_law_some_here", 7)]) (g := gName 7) (tt := tAll (cellB s.heap.objs.size) 8) (te := tVar 7) rfl scLaw.nd rfl rfl (sw_true rfl rfl rfl (by decide +kernel)) (pi_list (pv 10)) (blkOk_by (N := NL) (sc := defScope sLaw) (by decide +kernel))
            (fun _ _ _ _ _ _ _ _ _ => pg_name (i := 7) scLaw.nd rfl (Or.inl rfl)) ?ht1 (fun _ _ _ _ _ _ _ _ _ => pv 7))
      (pss_cons (ps_setLcI (i := 12) (own := [("_law_some_here", 7)]) (g := gName 7) (tt := tAll (cellB s.heap.objs.size) 9) (te := tVar 7) rfl scLaw.nd rfl rfl (sw_true rfl rfl rfl (by decide +kernel)) (pi_list (pv 10)) (blkOk_by (N := NL) (sc := defScope sLaw) (by decide +kernel))
            (fun _ _ _ _ _ _ _ _ _ => pg_name (i := 7) scLaw.nd rfl (Or.inl rfl)) ?ht2 (fun _ _ _ _ _ _ _ _ _ => pv 7))
      (pss_cons (ps_set (i := 13) scLaw.nd rfl (Or.inr rfl) (pe_callB (cr_max rfl) (by rfl) mMax (by decide +kernel) (pa_cons (pe_lc (own := [("_law_some_here", 7)]) (g := gName 7) (tt := tYes) (te := tCB (rLenQ K) (tCons (tVar 7) tNil)) (wi := iList K (tVar 11)) rfl scLaw.nd (pi_list (pv 11)) (blkOk_by (N := NL) (sc := defScope sLaw) (by decide +kernel))
            (fun _ _ _ _ _ => pg_name (i := 7) scLaw.nd rfl (Or.inl rfl)) (fun _ _ _ _ _ => pts_nil) (fun _ _ _ _ _ => pe_callB call_len_seq (by rfl) T.len PySem.boot_len (pa_cons (pv 7) pa_nil))) pa_nil)))
      (pss_cons (ps_setLc (i := 11) (own := [("_law_some_here", 7)]) (g := gName 7) (tt := tTest (tOp rEq (tCB (rLenQ K) (tCons (tVar 7) tNil)) (tVar 13))) (te := tVar 7) (wi := iList K (tVar 11)) rfl scLaw.nd rfl rfl (sw_true rfl rfl rfl (by decide +kernel)) (pi_list (pv 11)) (blkOk_by (N := NL) (sc := defScope sLaw) (by decide +kernel))
            (fun _ _ _ _ _ => pg_name (i := 7) scLaw.nd rfl (Or.inl rfl)) (fun _ _ _ _ _ => pts_one (pt_cmpR op_eq (pe_callB call_len_seq (by rfl) T.len PySem.boot_len (pa_cons (pv 7) pa_nil)) (pv 13) (nomark _))) (fun _ _ _ _ _ => pv 7))
      (pss_cons (ps_if (pw_or (pt_cmpR op_ne (pe_callB call_len_seq (by rfl) T.len PySem.boot_len (pa_cons (pe_meth0 (pv 1) T.cl mL GL hr3 bL .nil pass0) pa_nil)) (pv 13) (nomark _)) (pw_or1 (pt_cmpR (op_notInD hu65) (pe_meth0 (pv 1) T.cl mFr GFr hr3 bFr .nil pass0) (pv 11) (by rfl)))).pt (pss_one (ps_ret pe_bl)) pss_nil)
      (pss_cons (ps_lock (ps_for PassesOwn.never rfl (pi_keys (pv 2)) (pg_name (i := 6) scLaw.nd rfl (Or.inr rfl))
        (pss_cons (ps_set (i := 14) scLaw.nd rfl (Or.inl rfl) (pe_callB call_len_seq (by rfl) T.len PySem.boot_len (pa_cons (pe_lc (own := [("_law_some_here", 7)]) (g := gName 7) (tt := tTest (tOp (rIn K false) (tVar 6) (tVar 7))) (te := tVar 7) (wi := iList K (tVar 11)) rfl scLaw.nd (pi_list (pv 11)) (blkOk_by (N := NL) (sc := defScope sLaw) (by decide +kernel))
            (fun _ _ _ _ _ => pg_name (i := 7) scLaw.nd rfl (Or.inl rfl)) (fun _ _ _ _ _ => pts_one (pt_cmpR op_in_seq (pv 6) (pv 7) (by rfl))) (fun _ _ _ _ _ => pv 7)) pa_nil)))
        (pss_cons (ps_set (i := 15) scLaw.nd rfl (Or.inl rfl) pe_str)
        (pss_cons (ps_if (pt_cmpR op_eq (pv 14) pe_int (nomark _)) (pss_one (ps_set (i := 15) scLaw.nd rfl (Or.inl rfl) pe_str)) pss_nil)
        (pss_cons (ps_if (pt_cmpR op_eq (pv 14) (pe_callB call_len_seq (by rfl) T.len PySem.boot_len (pa_cons (pv 11) pa_nil)) (nomark _)) (pss_one (ps_set (i := 15) scLaw.nd rfl (Or.inl rfl) pe_str)) pss_nil)
        (pss_one (ps_if (pt_cmpR op_ne (pe_meth (pv 1) T.cl mSt GSt hr bSt .nil pass0 (pa_cons (pv 6) pa_nil)) (pv 15) (nomark _)) (pss_one (ps_ret pe_bl)) pss_nil))))))))
      (pss_cons (ps_set (i := 16) scLaw.nd rfl (Or.inl rfl) (pe_callB (cr_max rfl) (by rfl) mMax (by decide +kernel) (pa_cons (pe_lc (own := [("_law_some_here", 7)]) (g := gName 7) (tt := tYes) (te := tCB (rLenQ K) (tCons (tVar 7) tNil)) (wi := iList K (tVar 12)) rfl scLaw.nd (pi_list (pv 12)) (blkOk_by (N := NL) (sc := defScope sLaw) (by decide +kernel))
            (fun _ _ _ _ _ => pg_name (i := 7) scLaw.nd rfl (Or.inl rfl)) (fun _ _ _ _ _ => pts_nil) (fun _ _ _ _ _ => pe_callB call_len_seq (by rfl) T.len PySem.boot_len (pa_cons (pv 7) pa_nil))) pa_nil)))
      (pss_one (ps_ret (pe_and (pe_cmpR op_eq (pe_callB call_len_seq (by rfl) T.len PySem.boot_len (pa_cons (pe_meth0 (pv 1) T.cl mLo GLo hr3 bLo .nil pass0) pa_nil)) (pv 16) (nomark _)) (pe_one (pe_cmpR op_eq (pe_callB call_len_seq (by rfl) T.len PySem.boot_len (pa_cons (pe_meth0 (pv 1) T.cl mFl GFl hr2 bFl .nil pass0) pa_nil)) (pv 16) (nomark _))))))))))))))))))), ?_⟩
    case many =>
      rintro σ H1 Q1 ⟨a1, ts, c, e5, e4, hl, l7, k⟩
      refine ⟨_, e5, a1, _, rfl, .inl hl, rfl, _, rfl, ?_⟩
      rw [List.length_map]
      by_cases c1 : ((ts.length : Nat) : Int) = 7
      · rw [intEq c1]
        exact iteT (k true H1 (Same.refl _) (fun _ e => by rw [e] at c1; simp at c1) (fun e => by cases e))
      · rw [intNe c1]
        refine iteF ⟨_, e5, Nat.zero_le _, fun l hl2 => ⟨a1, l, ts, [], rfl, rfl, (same_new hl2).seq hl, SqL.of upd_same, _, rfl, ?_⟩⟩
        by_cases c2 : ts = []
        · rw [decide_eq_true c2]
          exact iteF (k false _ (same_new hl2) (fun e => by cases e) fun _ => by omega)
        · rw [decide_eq_false c2]
          refine iteT ⟨_, e4, _, _, rfl, rfl, (by show (0 : Int) < 4; decide), rfl, _, rfl, ?_⟩
          exact k _ _ (same_new hl2) (fun _ => c2) fun _ => by omega
    case deed =>
      rintro D σ H3 ⟨S, cs, p, dl, c, e4, ⟨n, B, M, F, v4, v5, v6, v7, rfl, hall, law, few, hS1, nS, hP1, nP⟩, k⟩
      obtain rfl : v4 = some (.int c) := Option.some.inj e4
      obtain ⟨nF, ρl, l1, l2⟩ := id law
      -- things = sorted(below)
      refine ⟨_, rfl, dl, kB ρl B, ks B, rfl, .inl l1, kB_keys _ _, by rw [len_ks]; omega, fun ys t hp2 hle ht => ?_⟩
      obtain rfl : ys = ks B := (srt_uniq hp2 hle).trans (srt_of hall.inv.up)
      have ht1 : (upd H3 t (.lst ((ks B).map V.int))) t = some (.lst ((ks B).map V.int)) := upd_same
      have st : Same H3 (upd H3 t (.lst ((ks B).map V.int))) := same_new ht
      have nFt : ¬ F t := hall.out ht
      generalize upd H3 t (.lst ((ks B).map V.int)) = H4 at ht1 st ⊢
      refine ⟨t, ks B, c, rfl, rfl, SqL.of ht1, by rw [len_ks]; omega, fun b H5 s5 hb1 hb2 => ?_⟩
      have hall5 := (hall.same st).same s5
      have law5 := (law.same st).same s5
      have t5 := s5 _ _ ht1
      have S5 := s5 _ _ (st _ _ hS1)
      have P5 := s5 _ _ (st _ _ hP1)
      cases b with
      | true =>
        have ne := hb1 rfl
        have lpos : 0 < (ks B).length := List.length_pos_iff.mpr ne
        have ix : ∃ j : Nat, mixed c 7 / 5 % (((ks B).length : Nat) : Int) = (j : Int) ∧ j < (ks B).length := by
          have h1 := Int.emod_nonneg (mixed c 7 / 5) (show (((ks B).length : Nat) : Int) ≠ 0 by omega)
          have h2 := Int.emod_lt_of_pos (mixed c 7 / 5) (show (0 : Int) < (((ks B).length : Nat) : Int) by omega)
          exact ⟨(mixed c 7 / 5 % (((ks B).length : Nat) : Int)).toNat, by omega, by omega⟩
        obtain ⟨j, ej, hj⟩ := ix
        have hat : ((ks B).map V.int)[j]? = some (V.int (ks B)[j]) := by rw [List.getElem?_map, List.getElem?_eq_getElem hj]; rfl
        have xB : (ks B)[j] ∈ ks B := List.getElem_mem hj
        generalize (ks B)[j] = x at hat xB
        obtain ⟨dx5, d15, d25, ρ5, a15, _⟩ := hall5.ex
        refine iteT ⟨_, rfl, _, rfl, c, 7, rfl, by decide, by decide, _, _, rfl, rfl, ⟨by decide, by decide⟩, _, rfl, t, _, rfl, .inl (SqL.of t5), _, _, rfl, rfl, by rw [List.length_map]; show (0 : Int) < _; omega,
          t, _, _, V.int x, rfl, rfl, SqL.of t5, at_of (by rw [List.length_map]; exact ej) hat, ?_⟩
        refine ⟨_, rfl, p, dx5, _, rfl, a15, hf_no _ _ _ (by decide +kernel) (by decide +kernel) (by decide +kernel), _, rfl, p, F, n, B, M, x, rfl, hall5, xB, fun r F' H6 hall6 k6 g6 hr6 _ nFr => ?_⟩
        have dd : Deed H5 H6 F F' := ⟨k6, g6⟩
        have law6 := law5.deed dd
        have S6 := k6 _ _ S5 nS
        have nS6 := dd.out S5 nS
        have P6 := k6 _ _ P5 nP
        have nP6 := dd.out P5 nP
        obtain ⟨nF6, ρ6, l61, l62⟩ := law6
        refine ⟨_, rfl, _, rfl, dl, ρ6, B, x, rfl, l61, fun b hb => (l62 b hb).1, hall.inv.wf, hall.inv.ls, xB, by omega, fun ρ7 H7 e7 ls7 k7 => ?_⟩
        have tl := len_take hall.inv.wf xB
        refine k _ _ ⟨n, takeB B x, _, F', _, _, _, _, rfl, hall6.table nF6 k7, ⟨nF6, ρ7, e7, fun b hb => ⟨(ls7 b hb).1, hall6.out (ls7 b hb).2⟩⟩, by omega, k7 _ _ (fun z => ?_) S6, nS6, k7 _ _ (fun z => ?_) P6, nP6⟩
        · rw [z, l61] at S6; cases S6
        · rw [z, l61] at P6; cases P6
      | false =>
        have l6 : B.length ≤ 6 := by have := hb2 rfl; rw [len_ks] at this; exact this
        refine iteF ⟨_, rfl, _, rfl, _, _, rfl, rfl, ⟨by decide, by decide⟩, t, _, ks B, rfl, t5, by rw [len_ks]; omega, fun q xs H6 s6 hq6 q6 xnd xsub => ?_⟩
        have nd := xnd hall.inv.wf.nd
        have hall6 := hall5.same s6
        obtain ⟨dx7, d17, d27, ρ7, a17, _⟩ := hall6.ex
        refine ⟨_, rfl, p, dx7, _, rfl, a17, hf_no _ _ _ (by decide +kernel) (by decide +kernel) (by decide +kernel), _, rfl, q, _, rfl, .inl (SqL.of q6), fun hh hh6 => ?_⟩
        have s7 : Same H5 (upd H6 hh (.lst (xs.map V.int))) := same_upd s6 (s6.free hh6)
        have q7 : (upd H6 hh (.lst (xs.map V.int))) q = some (.lst (xs.map V.int)) := same_new hh6 _ _ q6
        have h7 : (upd H6 hh (.lst (xs.map V.int))) hh = some (.lst (xs.map V.int)) := upd_same
        generalize upd H6 hh (.lst (xs.map V.int)) = H7 at s7 q7 h7 ⊢
        have hall7 := hall5.same s7
        have law7 := law5.same s7
        have S7 := s7 _ _ S5
        have P7 := s7 _ _ P5
        have nFq : ¬ F q := hall5.out hq6
        refine ⟨p, hh, F, n, B, M, xs, rfl, hall7, h7, nd, xsub, by omega, fun tt r F' H8 hall8 k8 g8 ht8 tt8 hr8 _ nFt8 _ => ?_⟩
        have dd : Deed H7 H8 F F' := ⟨k8, g8⟩
        have q8 := k8 _ _ q7 nFq
        have S8 := k8 _ _ S7 nS
        have nS8 := dd.out S7 nS
        have P8 := k8 _ _ P7 nP
        have nP8 := dd.out P7 nP
        obtain ⟨nF8, ρ8, l81, l82⟩ := law7.deed dd
        have nn : n ∉ ks B := fun m => absurd (hall.inv.lt n m).2 (by omega)
        refine ⟨_, rfl, _, rfl, _, rfl, dl, q, ρ8, B, n, xs, rfl, l81, fun b hb => (l82 b hb).1, q8, hall.inv.wf, hall.inv.up, hall.inv.ls, nn, xsub, nd, by omega, fun ρ' Hg eg lsg kg => ?_⟩
        refine ⟨_, rfl, _, _, rfl, rfl, k _ _ ⟨n + 1, putB B n xs, _, F', _, _, _, _, rfl, hall8.table nF8 kg, ⟨nF8, ρ', eg, fun b hb => ⟨(lsg b hb).1, ?_⟩⟩, by rw [len_put]; omega, kg _ _ (fun z => ?_) S8, nS8, kg _ _ (fun z => ?_) P8, nP8⟩⟩
        · rcases (lsg b hb).2 with ⟨b0, h0, e0⟩ | e0
          · rw [e0]; exact (l82 b0 h0).2
          · exact hall8.out e0
        · rw [z, l81] at S8; cases S8
        · rw [z, l81] at P8; cases P8
    case ht1 =>
      intro pins σ s1 H1 C1 cl fp I hf
      refine ⟨fun pins' s' σ' H' Q' I' h => ?_⟩
      obtain ⟨dl, e, h⟩ := h
      obtain ⟨c', o, u, h1, h2, h3, h4⟩ := cell_slot (y := "_law_below") I (i := 2) rfl (slotAt_some e) rfl
      obtain rfl : u = .ref dl := h4
      have hc : cellB s.heap.objs.size = c' := by
        show ((cellsFrom (s.heap.objs.size + 1) (defScope sLaw).names []).lookup ("_law_below" : Str)).getD 0 = c'
        rw [show (cellsFrom (s.heap.objs.size + 1) (defScope sLaw).names []).lookup ("_law_below" : Str) = some c' from h1]
        rfl
      rw [hc] at h
      have bs : base.objs.size ≤ c' := Nat.le_trans I.ok.bsz (I.ok.cab "_law_below" c' rfl h1)
      exact (pts_one (pt_val (pe_callP (GAB c' o dl bs h3) (stays_blk (y := "_law_below") I rfl h1 h2 hf) h3 hr3 (by rfl) mAB kAB bAB .nil pass0 (pa_cons (pv 7) (pa_cons (pv 8) pa_nil))))).run pins' s' σ' H' Q' I' h
    case ht2 =>
      intro pins σ s1 H1 C1 cl fp I hf
      refine ⟨fun pins' s' σ' H' Q' I' h => ?_⟩
      obtain ⟨dl, e, h⟩ := h
      obtain ⟨c', o, u, h1, h2, h3, h4⟩ := cell_slot (y := "_law_below") I (i := 2) rfl (slotAt_some e) rfl
      obtain rfl : u = .ref dl := h4
      have hc : cellB s.heap.objs.size = c' := by
        show ((cellsFrom (s.heap.objs.size + 1) (defScope sLaw).names []).lookup ("_law_below" : Str)).getD 0 = c'
        rw [show (cellsFrom (s.heap.objs.size + 1) (defScope sLaw).names []).lookup ("_law_below" : Str) = some c' from h1]
        rfl
      rw [hc] at h
      have bs : base.objs.size ≤ c' := Nat.le_trans I.ok.bsz (I.ok.cab "_law_below" c' rfl h1)
      exact (pts_one (pt_val (pe_callP (GAB c' o dl bs h3) (stays_blk (y := "_law_below") I rfl h1 h2 hf) h3 hr3 (by rfl) mAB kAB bAB .nil pass0 (pa_cons (pv 7) (pa_cons (pv 9) pa_nil))))).run pins' s' σ' H' Q' I' h
    -- hall = Hall(); below = {}; number = 0
    intro p dx np ndx nex
    refine ⟨p, dx, rfl, upd_same, fun F0 H1 hall0 sub0 keep0 => ⟨rfl, ?_⟩⟩
    have s1 : Same H H1 := fun b o e => keep0 b o (by rw [upd_ne (ne_of_none e np), upd_ne (ne_of_none e ndx)]; exact e) (ne_of_none e np)
    have nF0 : ∀ b o, H b = some o → ¬ F0 b := fun b o e z => by
      rcases sub0 b z with q | q
      · rw [q, np] at e; cases e
      · rw [upd_ne (ne_of_none e np), upd_ne (ne_of_none e ndx), e] at q; cases q
    intro dl hdl
    have s2 : Same H (upd H1 dl (.dK [])) := same_upd s1 (s1.free hdl)
    have hall1 := hall0.upd (.dK []) (hall0.out hdl)
    have nFdl : ¬ F0 dl := hall0.out hdl
    have hdl1 : (upd H1 dl (.dK [])) dl = some (.dK []) := upd_same
    generalize upd H1 dl (.dK []) = H2 at s2 hall1 hdl1 ⊢
    -- for cell in script[:60]
    refine ⟨_, rfl, _, rfl, a, _, rfl, s2.seq hS, fun S hSn => ?_⟩
    rw [show (60 : Int) = ((60 : Nat) : Int) from rfl, ints_cut]
    generalize hcs : ns.take (min 60 ns.length) = cs
    refine ⟨S, rfl, ⟨_, SqL.of upd_same⟩, ?_⟩
    have s3 : Same H2 (upd H2 S (.lst (cs.map V.int))) := same_new hSn
    refine for_by (n := (cs.map V.int).length) (fun _ => Turn08 C PT a S cs p dl)
      ⟨0, [], [], F0, none, none, none, none, rfl, hall1.same s3, ⟨nFdl, fun _ => 0, s3 _ _ hdl1, fun b hb => by simp at hb⟩, Nat.zero_le _, upd_same, hall1.out hSn, s3 _ _ (s2 _ _ hPT), nF0 _ _ hPT⟩
      (fun i σ H3 hi ⟨_, _, _, _, _, _, _, _, _, _, _, _, q, _⟩ => list_go (SqL.of q) hi) (fun σ H3 ⟨_, _, _, _, _, _, _, _, _, _, _, _, q, _⟩ => list_stop (SqL.of q)) ?_ ?_
    · rintro i y σ H3 H3' hi ⟨n, B, M, F, v4, v5, v6, v7, rfl, hall, law, few, hS1, nS, hP1, nP⟩ hy
      obtain ⟨rfl, hx⟩ := list_yld (SqL.of hS1) hy
      obtain ⟨c, hc, rfl⟩ := ints_at hx
      exact ⟨S, cs, p, dl, c, rfl, ⟨n, B, M, F, _, _, _, _, rfl, hall, law, few, hS1, nS, hP1, nP⟩, fun σ' H' q => q⟩
    · rintro σ H3 ⟨n, B, M, F, v4, v5, v6, v7, rfl, hall, law, few, hS1, nS, hP1, nP⟩
      obtain ⟨nF, ρl, l1, l2⟩ := id law
      -- the two defs
      refine ⟨fun q hq => by rw [List.mem_singleton.mp hq]; exact TabN.nil hP1, fun f1 c1 H4 x1 new1 T1 nf1 ef1 ec1 => ⟨T1, fun f2 c2 H5 x2 new2 T2 nf2 ef2 ec2 => ?_⟩⟩
      have hall5 := (hall.ext x1 new1).ext x2 new2
      have l15 : H5 dl = some (.dK (kB ρl B)) := x2 _ _ (x1 _ _ l1 (fun _ z => by cases z)) (fun _ z => by cases z)
      have l25 : ∀ b ∈ B, H5 (ρl b.1) = some (.lst (b.2.map V.int)) := fun b hb => x2 _ _ (x1 _ _ (l2 b hb).1 (fun _ z => by cases z)) (fun _ z => by cases z)
      have g1 : H5 f1 = some (FnO f1 (mkN (cellB s.heap.objs.size) (false, c1))) := x2 _ _ ef1 fun ps => fnO_ne ps
      have g2 : H5 f2 = some (FnO f2 (mkN (cellB s.heap.objs.size) (true, c2))) := ef2
      have d1 : H5 (mkN (cellB s.heap.objs.size) (false, c1)).c = some (CodeO (mkN (cellB s.heap.objs.size) (false, c1)).c (mkN (cellB s.heap.objs.size) (false, c1)).qual) := x2 _ _ ec1 fun ps => codeO_ne ps
      have d2 : H5 (mkN (cellB s.heap.objs.size) (true, c2)).c = some (CodeO (mkN (cellB s.heap.objs.size) (true, c2)).c (mkN (cellB s.heap.objs.size) (true, c2)).qual) := ec2
      clear ef1 ef2 ec1 ec2 T1 T2 x1 x2 new1 new2
      have hi := hall5.inv
      have lB : (ks B).length ≤ 7 := by rw [len_ks]; exact few
      -- sets
      refine ⟨_, rfl, dl, kB ρl B, ks B, rfl, .inl l15, kB_keys _ _, by omega, fun ys t hp2 hle ht => ?_⟩
      obtain rfl : ys = ks B := (srt_uniq hp2 hle).trans (srt_of hi.up)
      refine ⟨t, ks B, rfl, upd_same, lB, fun q H6 s6' lists => ?_⟩
      have s6 : Same H5 H6 := (same_new ht).trans s6'
      clear s6'
      obtain ⟨as, hq, pa⟩ := lists
      have pa : LAt H6 as (subs (ks B)) := pa
      have lsub : (subs (ks B)).length ≤ 128 := by rw [subs_len _ _ rfl]; exact pow_small _ lB
      have subl : ∀ l ∈ subs (ks B), l.Sublist (ks B) := fun l hl => (mem_subs _ _ _ rfl).mp hl
      have tab : ∀ H', Same H6 H' → BelowAt H' dl ρl B := fun H' s' => ⟨.inl (s' _ _ (s6 _ _ l15)), fun b hb => s' _ _ (s6 _ _ (l25 b hb))⟩
      have few1000 : ∀ {p : List Int → Bool}, ((subs (ks B)).filter p).length ≤ 1000 := fun {p} => by have := List.length_filter_le p (subs (ks B)); omega
      -- free
      refine ⟨_, rfl, q, rfl, ⟨_, SqL.of hq⟩, fun L1 hL1 => ?_⟩
      refine lc_filter8 (as := as) (Ls := subs (ks B)) (allR false B) hL1 (by show 7 < 17; decide) hq pa (by omega) (fun b l H' R s' hl el k => ?_) (fun H7 as1 s7 m1 p1 => ?_)
      · refine ⟨dl, rfl, _, rfl, _, rfl, b, f1, (false, c1), ρl, B, l, rfl, s' _ _ (s6 _ _ g1), s' _ _ (s6 _ _ d1), el, by have := (subl l hl).length_le; omega, tab _ s', fun x hx => (subl l hl).subset hx, fun bb H8 s8 hb => ⟨_, rfl, ?_⟩⟩
        have e : bb = allR false B l := by
          unfold allR
          by_cases z : l.Pairwise fun y x => rel false B x y = true
          · rw [decide_eq_true z]; exact hb.mpr z
          · rw [decide_eq_false z]
            cases bb with
            | false => rfl
            | true => exact absurd (hb.mp rfl) z
        rw [e]
        exact k H8 s8
      -- rows
      refine ⟨_, rfl, q, rfl, ⟨_, SqL.of (s7 _ _ hq)⟩, fun L2 hL2 => ?_⟩
      refine lc_filter8 (as := as) (Ls := subs (ks B)) (allR true B) hL2 (by show 7 < 17; decide) (s7 _ _ hq) (pa.same s7) (by omega) (fun b l H' R s' hl el k => ?_) (fun H8 as2 s8 m2 p2 => ?_)
      · refine ⟨dl, rfl, _, rfl, _, rfl, b, f2, (true, c2), ρl, B, l, rfl, s' _ _ (s7 _ _ (s6 _ _ g2)), s' _ _ (s7 _ _ (s6 _ _ d2)), el, by have := (subl l hl).length_le; omega, tab _ (s7.trans s'), fun x hx => (subl l hl).subset hx, fun bb H8 s8 hb => ⟨_, rfl, ?_⟩⟩
        have e : bb = allR true B l := by
          unfold allR
          by_cases z : l.Pairwise fun y x => rel true B x y = true
          · rw [decide_eq_true z]; exact hb.mpr z
          · rw [decide_eq_false z]
            cases bb with
            | false => rfl
            | true => exact absurd (hb.mp rfl) z
        rw [e]
        exact k H8 s8
      -- many
      have sub_free : ∀ l ∈ (subs (ks B)).filter (allR false B), Free B l := fun l hl => (free_iff hi.wf (subl l (List.mem_filter.mp hl).1)).mpr (List.mem_filter.mp hl).2
      obtain ⟨fr1, fr2, fr3⟩ := fre_ok8 hi
      have freG : fre B M ∈ greats B (many B M) := in_greats hi fr1 fr3 fr2
      have freF : fre B M ∈ (subs (ks B)).filter (allR false B) := (List.mem_filter.mp freG).1
      refine ⟨_, rfl, L1, rfl, ⟨_, SqL.of (s8 _ _ m1)⟩, fun L3 hL3 => ?_⟩
      refine lc_lens8 (as := as1) (Ls := (subs (ks B)).filter (allR false B)) hL3 (by show 7 < 17; decide) (s8 _ _ m1) (p1.same s8) few1000 (fun H9 s9 m3 => ?_)
      refine ⟨L3, _, rfl, SqL.of m3, by rw [List.length_map]; exact List.length_pos_of_mem freF, fun m hm hle => ?_⟩
      have em : m = (many B M : Int) := by
        obtain ⟨l, hl, rfl⟩ := List.mem_map.mp hm
        have h1 := free_most hi (sub_free l hl)
        have h2 := hle _ (List.mem_map.mpr ⟨_, freF, rfl⟩)
        rw [fr2] at h2
        omega
      subst em
      -- the greatest
      have s79 := s8.trans s9
      refine ⟨_, rfl, L1, rfl, ⟨_, SqL.of (s79 _ _ m1)⟩, fun L4 hL4 => ?_⟩
      refine lc_filter8 (as := as1) (Ls := (subs (ks B)).filter (allR false B)) (fun l => decide (l.length = many B M)) hL4 (by show 7 < 17; decide) (s79 _ _ m1) (p1.same s79) few1000 (fun b l H' R s' hl el k => ?_) (fun H10 as4 s10 m4 p4 => ?_)
      · refine ⟨_, rfl, b, _, rfl, .inl (SqL.of el), _, rfl, rfl, _, rfl, ?_⟩
        have e : decide (V.int (((l.map V.int).length : Nat) : Int) = V.int ((many B M : Nat) : Int)) = decide (l.length = many B M) := by
          rw [List.length_map]
          by_cases z : l.length = many B M
          · rw [decide_eq_true z, intEq (by omega)]
          · rw [decide_eq_false z, intNe (by omega)]
        rw [e]
        exact k H' (Same.refl _)
      have p4 : LAt H10 as4 (greats B (many B M)) := p4
      have gne : greats B (many B M) ≠ [] := fun z => by rw [z] at freG; cases freG
      have gfew : (greats B (many B M)).length ≤ 1000 := Nat.le_trans (List.length_filter_le _ _) few1000
      generalize hG : greats B (many B M) = G at p4 freG gne gfew
      have s510 := ((s6.trans s7).trans s79).trans s10
      have hall10 := hall5.same s510
      obtain ⟨fl, hfl⟩ := fl_ex hi.wf hi.up
      obtain ⟨dx1, d11, d21, ρ1, a1, _⟩ := hall10.ex
      have no : ∀ {m : Str}, ¬ m = "_beneath" → ¬ m = "_below" → ¬ m = "_given" → (hf n d11 d21).lookup m = none := fun h1 h2 h3 => hf_no _ _ _ h1 h2 h3
      refine ⟨_, rfl, p, dx1, _, rfl, a1, no (by decide +kernel) (by decide +kernel) (by decide +kernel), p, F, n, B, M, rfl, hall10, fun q1 H11 s11 nl1 => ?_⟩
      obtain ⟨bs1, n1, pr1⟩ := nl1.at
      refine ⟨q1, _, rfl, .inl (SqL.of n1), _, rfl, rfl, _, rfl, ne_int8 (by rw [List.length_map, paired_len pr1]; rfl) ?_⟩
      refine ⟨_, rfl, p, dx1, _, rfl, s11 _ _ a1, no (by decide +kernel) (by decide +kernel) (by decide +kernel), p, F, n, B, M, rfl, hall10.same s11, fun q2 H12 s12 _ n2 => ?_⟩
      have s112' := s11.trans s12
      refine ⟨_, rfl, dI (fre B M), G.map dI, dpI (SqL.of n2), dpLL ⟨as4, s112' _ _ m4, p4.same s112'⟩, shI _, shLL _, _, rfl, ?_⟩
      have any : ((G.map dI).any fun z => PyData.eqv z (dI (fre B M))) = true := List.any_eq_true.mpr ⟨_, List.mem_map.mpr ⟨_, freG, rfl⟩, SeqAt.eqv_refl _ (show PyData.canLay0 (dI (fre B M)) = true from layI _)⟩
      rw [any]
      refine iteF ?_
      -- for one in below
      have s512 := s510.trans s112'
      have hall12 := hall5.same s512
      have l12 := s512 _ _ l15
      have s812 := (s9.trans s10).trans s112'
      have m4' := s112' _ _ m4
      have p4' := p4.same s112'
      have m2' := s812 _ _ m2
      have p2' := p2.same s812
      clear n2 n1 pr1 nl1 any m1 p1 m3 hq pa g1 g2 d1 d2 hm hle
      have keyInt : ∀ {i : Nat} {k : Key} {v : V}, (kB ρl B)[i]? = some (k, v) → ∃ x, x ∈ ks B ∧ kV k = .int x := fun {i k v} e => by
        obtain ⟨x, l, h1, rfl, rfl⟩ := kB_at e
        exact ⟨x, List.mem_map.mpr ⟨(x, l), List.mem_of_getElem? h1, rfl⟩, rfl⟩
      refine ⟨dl, HO.dK (kB ρl B), l12, trivial, fun od => ?_⟩
      have hallL := hall12.upd (.frz od (.dK (kB ρl B))) nF
      have dL : (upd H12 dl (.frz od (.dK (kB ρl B)))) dl = some (.frz od (.dK (kB ρl B))) := upd_same
      have farL : ∀ b xs, H12 b = some (.lst xs) → (upd H12 dl (.frz od (.dK (kB ρl B)))) b = some (.lst xs) := fun b xs e => by rw [upd_ne (fun z => by rw [z, l12] at e; cases e)]; exact e
      have backL : ∀ H', Same (upd H12 dl (.frz od (.dK (kB ρl B)))) H' → Same H12 (upd H' dl (.dK (kB ρl B))) := fun H' s' b o e => by
        by_cases eb : b = dl
        · rw [eb] at e ⊢; rw [upd_same, ← e, l12]
        · rw [upd_ne eb]; exact s' _ _ (by rw [upd_ne eb]; exact e)
      have m4L := farL _ _ m4'
      have p4L : LAt (upd H12 dl (.frz od (.dK (kB ρl B)))) as4 G := paired_imp p4' fun x l e => farL _ _ e
      generalize upd H12 dl (.frz od (.dK (kB ρl B))) = HL at hallL dL backL m4L p4L ⊢
      clear farL
      refine ⟨_, rfl, dl, od, rfl, .inl ⟨_, dL, ?_⟩⟩
      refine for_by (n := (kB ρl B).length) (fun i σ H' => ∃ v6 v7 v14 v15 : Option V, σ = [some (.ref a), some (.ref p), some (.ref dl), some (.int n), v4, v5, v6, v7, some (.ref f1), some (.ref f2), some (.ref q), some (.ref L4), some (.ref L2), some (.int (many B M : Int)), v14, v15, none] ∧ Same HL H')
        ⟨_, _, _, _, rfl, Same.refl _⟩ (fun i σ H' hi ⟨_, _, _, _, _, s⟩ => ⟨s _ _ dL, hi⟩) (fun σ H' ⟨_, _, _, _, _, s⟩ => ⟨s _ _ dL, Nat.le_refl _⟩) ?_ ?_
      · rintro i x σ H' H'' hi2 ⟨w6, w7, w14, w15, rfl, sL⟩ ⟨rfl, k, v, hkv, rfl⟩
        obtain ⟨one, oneB, ek⟩ := keyInt hkv
        rw [ek]
        refine ⟨_, rfl, L4, rfl, ⟨_, SqL.of (sL _ _ m4L)⟩, fun L5 hL5 => ?_⟩
        refine lc_filter8 (as := as4) (Ls := G) (fun l => decide (one ∈ l)) hL5 (by show 7 < 17; decide) (sL _ _ m4L) (p4L.same sL) gfew (fun b l H' R s' hl el k => ?_) (fun H13 as5 s13 m5 p5 => ?_)
        · refine ⟨_, rfl, _, rfl, b, _, rfl, .inl (SqL.of el), rfl, flat_ints _, _, rfl, ?_⟩
          rw [if_neg (by decide), inV_ints]
          exact k _ (Same.refl _)
        · have e5 : (as5.map V.ref).length = cnt G one := by rw [List.length_map, paired_len p5]; rfl
          have e4 : (as4.map V.ref).length = G.length := by rw [List.length_map, paired_len p4L]
          refine ⟨L5, _, rfl, .inl (SqL.of m5), ?_⟩
          rw [e5]
          have s13' := sL.trans s13
          have hall13 := hallL.same s13'
          have m413 := s13' _ _ m4L
          obtain ⟨dx2, d12, d22, ρ2, a2, _⟩ := hall13.ex
          have no2 : ∀ {m : Str}, ¬ m = "_beneath" → ¬ m = "_below" → ¬ m = "_given" → (hf n d12 d22).lookup m = none := fun h1 h2 h3 => hf_no _ _ _ h1 h2 h3
          rcases stand_cases hi oneB hG with ⟨c0, c1, e⟩ | ⟨c0, c1, e⟩ | ⟨c0, c1, e⟩
          · refine ⟨_, rfl, rfl, _, rfl, ?_⟩
            rw [intEq (show ((cnt G one : Nat) : Int) = 0 by omega)]
            refine iteT ⟨_, rfl, _, rfl, L4, _, rfl, .inl (SqL.of m413), rfl, _, rfl, ?_⟩
            rw [e4, intNe (show ¬ ((cnt G one : Nat) : Int) = ((G.length : Nat) : Int) by omega)]
            refine iteF ⟨_, rfl, p, dx2, _, rfl, a2, no2 (by decide +kernel) (by decide +kernel) (by decide +kernel), _, rfl, p, F, n, B, M, one, rfl, hall13, oneB, fun H14 s14 => ⟨_, rfl, rfl, _, rfl, ?_⟩⟩
            rw [e]
            exact ne_self8 ⟨_, _, _, _, rfl, s13'.trans s14⟩
          · refine ⟨_, rfl, rfl, _, rfl, ?_⟩
            rw [intNe (show ¬ ((cnt G one : Nat) : Int) = 0 by omega)]
            refine iteF ⟨_, rfl, _, rfl, L4, _, rfl, .inl (SqL.of m413), rfl, _, rfl, ?_⟩
            rw [e4, intEq (show ((cnt G one : Nat) : Int) = ((G.length : Nat) : Int) by omega)]
            refine iteT ⟨_, rfl, p, dx2, _, rfl, a2, no2 (by decide +kernel) (by decide +kernel) (by decide +kernel), _, rfl, p, F, n, B, M, one, rfl, hall13, oneB, fun H14 s14 => ⟨_, rfl, rfl, _, rfl, ?_⟩⟩
            rw [e]
            exact ne_self8 ⟨_, _, _, _, rfl, s13'.trans s14⟩
          · refine ⟨_, rfl, rfl, _, rfl, ?_⟩
            rw [intNe (show ¬ ((cnt G one : Nat) : Int) = 0 by omega)]
            refine iteF ⟨_, rfl, _, rfl, L4, _, rfl, .inl (SqL.of m413), rfl, _, rfl, ?_⟩
            rw [e4, intNe (show ¬ ((cnt G one : Nat) : Int) = ((G.length : Nat) : Int) by omega)]
            refine iteF ⟨_, rfl, p, dx2, _, rfl, a2, no2 (by decide +kernel) (by decide +kernel) (by decide +kernel), _, rfl, p, F, n, B, M, one, rfl, hall13, oneB, fun H14 s14 => ⟨_, rfl, rfl, _, rfl, ?_⟩⟩
            rw [e]
            exact ne_self8 ⟨_, _, _, _, rfl, s13'.trans s14⟩
      · rintro σ H' ⟨w6, w7, w14, w15, rfl, sL⟩
        refine ⟨sL _ _ dL, ?_⟩
        have sB := backL _ sL
        generalize upd H' dl (.dK (kB ρl B)) = HB at sB ⊢
        have hallB := hall12.same sB
        obtain ⟨lr1, lr2⟩ := lng_row hi.wf hi.up hfl
        -- the longest
        refine ⟨_, rfl, L2, rfl, ⟨_, SqL.of (sB _ _ m2')⟩, fun L6 hL6 => ?_⟩
        refine lc_lens8 (as := as2) (Ls := (subs (ks B)).filter (allR true B)) hL6 (by show 7 < 17; decide) (sB _ _ m2') (p2'.same sB) few1000 (fun H14 s14 m6 => ?_)
        refine ⟨L6, _, rfl, SqL.of m6, by rw [List.length_map]; exact List.length_pos_of_mem lr1, fun m hm hle => ?_⟩
        have em : m = (nf fl (ks B) : Int) := by
          obtain ⟨l, hl, rfl⟩ := List.mem_map.mp hm
          have hl2 := List.mem_filter.mp hl
          have h1 := row_most hi.wf hfl (subl l hl2.1) hl2.2
          have h2 := hle _ (List.mem_map.mpr ⟨_, lr1, rfl⟩)
          rw [lr2] at h2
          omega
        subst em
        have hall14 := hallB.same s14
        obtain ⟨dx2, d12, d22, ρ2, a2, _⟩ := hall14.ex
        have no2 : ∀ {m : Str}, ¬ m = "_beneath" → ¬ m = "_below" → ¬ m = "_given" → (hf n d12 d22).lookup m = none := fun h1 h2 h3 => hf_no _ _ _ h1 h2 h3
        refine ⟨_, rfl, p, dx2, _, rfl, a2, no2 (by decide +kernel) (by decide +kernel) (by decide +kernel), p, F, n, B, M, fl, rfl, hall14, hfl, fun q5 H15 s15 _ m7 => ?_⟩
        refine ⟨q5, _, rfl, .inl (SqL.of m7), _, rfl, rfl, _, rfl, ?_⟩
        rw [List.length_map, (lng_ok hi.wf hfl).1, intEq rfl]
        refine iteT ⟨_, rfl, p, dx2, _, rfl, s15 _ _ a2, no2 (by decide +kernel) (by decide +kernel) (by decide +kernel), p, F, n, B, M, fl, rfl, hall14.same s15, hfl, fun q6 H16 s16 nl6 => ?_⟩
        obtain ⟨bs6, n6, pr6⟩ := nl6.at
        refine ⟨q6, _, rfl, .inl (SqL.of n6), _, rfl, rfl, ?_⟩
        rw [List.length_map, paired_len pr6, flr_len, intEq rfl]
        exact fin _
end
end FP

namespace FP
open PySem L2 FL FR NdefX LamX
set_option maxHeartbeats 0 in
theorem all_mk {l : PySem.W.OpenLaw} {w : World} {K : PySem.W.Frag} {h : Heap} {mg : Str → Option Value} {fa C f0 f1 f2 f3 f4 f5 f6 f7 f8 f9 f10 f11 f12 f13 f14 f15 f16 f17 f18 f19 f20 f21 f22 f23 f24 f25 f26 f27 f28 f29 f30 f31 f32 f33 f34 cL PT : Addr} (X : K.In h) (G : h.Ns mainGlobals mg) (hfa : mg "law" = some (.ref fa)) (hTab : h.get? PT = some { cls := .none, data := .fields #[] })
    {od0 an0 od1 an1 od2 an2 od3 an3 od4 an4 od5 an5 od6 an6 od7 an7 od8 an8 od9 an9 od10 an10 od11 an11 od12 an12 od13 an13 od14 an14 od15 an15 od16 an16 od17 an17 od18 an18 od19 an19 od20 an20 od21 an21 od22 an22 od23 an23 od24 an24 od25 an25 od26 an26 od27 an27 od28 an28 od29 an29 od30 an30 od31 an31 od32 an32 od33 an33 od34 an34 : Option Addr} {sl0 sl1 sl2 sl3 sl4 sl5 sl6 sl7 sl8 sl9 sl10 sl11 sl12 sl13 sl14 sl15 sl16 sl17 sl18 sl19 sl20 sl21 sl22 sl23 sl24 sl25 sl26 sl27 sl28 sl29 sl30 sl31 sl32 sl33 sl34 : Array (Option Value)} {oc0 kV0 dc0 pm0 cd0 ct0 oc1 kV1 dc1 pm1 cd1 ct1 oc2 kV2 dc2 pm2 cd2 ct2 oc3 kV3 dc3 pm3 cd3 ct3 oc4 kV4 dc4 pm4 cd4 ct4 oc5 kV5 dc5 pm5 cd5 ct5 oc6 kV6 dc6 pm6 cd6 ct6 oc7 kV7 dc7 pm7 cd7 ct7 oc8 kV8 dc8 pm8 cd8 ct8 oc9 kV9 dc9 pm9 cd9 ct9 oc10 kV10 dc10 pm10 cd10 ct10 oc11 kV11 dc11 pm11 cd11 ct11 oc12 kV12 dc12 pm12 cd12 ct12 oc13 kV13 dc13 pm13 cd13 ct13 oc14 kV14 dc14 pm14 cd14 ct14 oc15 kV15 dc15 pm15 cd15 ct15 oc16 kV16 dc16 pm16 cd16 ct16 oc17 kV17 dc17 pm17 cd17 ct17 oc18 kV18 dc18 pm18 cd18 ct18 oc19 kV19 dc19 pm19 cd19 ct19 oc20 kV20 dc20 pm20 cd20 ct20 oc21 kV21 dc21 pm21 cd21 ct21 oc22 kV22 dc22 pm22 cd22 ct22 oc23 kV23 dc23 pm23 cd23 ct23 oc24 kV24 dc24 pm24 cd24 ct24 oc25 kV25 dc25 pm25 cd25 ct25 oc26 kV26 dc26 pm26 cd26 ct26 oc27 kV27 dc27 pm27 cd27 ct27 oc28 kV28 dc28 pm28 cd28 ct28 oc29 kV29 dc29 pm29 cd29 ct29 oc30 kV30 dc30 pm30 cd30 ct30 oc31 kV31 dc31 pm31 cd31 ct31 oc32 kV32 dc32 pm32 cd32 ct32 oc33 kV33 dc33 pm33 cd33 ct33 oc34 kV34 dc34 pm34 ct34 : Value} {tkM : Tok}
    (aC : PySem.W.nsIn K mainGlobals "Hall" = some (some (.ref C)))
    (a0 : PySem.W.nsIn K mainGlobals "search" = some (some (.ref f0)))
    (l0 : K.lookup f0 = some ⟨oc0, od0, .func (PySem.W.fnOf "search" "search" (defArgs sSearch) (defBody sSearch) (defScope sSearch) .none kV0 dc0 pm0 an0 cd0 ct0), sl0⟩) (c0 : PySem.W.codeIn K cd0 "search" = true) (k0 : PySem.W.keepIn K (.ref f0) = true)
    (a1 : PySem.W.nsIn K mainGlobals "row_to" = some (some (.ref f1)))
    (l1 : K.lookup f1 = some ⟨oc1, od1, .func (PySem.W.fnOf "row_to" "row_to" (defArgs sRowTo) (defBody sRowTo) (defScope sRowTo) .none kV1 dc1 pm1 an1 cd1 ct1), sl1⟩) (c1 : PySem.W.codeIn K cd1 "row_to" = true) (k1 : PySem.W.keepIn K (.ref f1) = true)
    (a2 : PySem.W.nsIn K mainGlobals "make_fewer" = some (some (.ref f2)))
    (l2 : K.lookup f2 = some ⟨oc2, od2, .func (PySem.W.fnOf "make_fewer" "make_fewer" (defArgs sMakeFewer) (defBody sMakeFewer) (defScope sMakeFewer) .none kV2 dc2 pm2 an2 cd2 ct2), sl2⟩) (c2 : PySem.W.codeIn K cd2 "make_fewer" = true) (k2 : PySem.W.keepIn K (.ref f2) = true)
    (a3 : PySem.W.nsIn K mainGlobals "fewest" = some (some (.ref f3)))
    (l3 : K.lookup f3 = some ⟨oc3, od3, .func (PySem.W.fnOf "fewest" "fewest" (defArgs sFewest) (defBody sFewest) (defScope sFewest) .none kV3 dc3 pm3 an3 cd3 ct3), sl3⟩) (c3 : PySem.W.codeIn K cd3 "fewest" = true) (k3 : PySem.W.keepIn K (.ref f3) = true)
    (a4 : PySem.W.nsIn K mainGlobals "close_gap" = some (some (.ref f4)))
    (l4 : K.lookup f4 = some ⟨oc4, od4, .func (PySem.W.fnOf "close_gap" "close_gap" (defArgs sCloseGap) (defBody sCloseGap) (defScope sCloseGap) .none kV4 dc4 pm4 an4 cd4 ct4), sl4⟩) (c4 : PySem.W.codeIn K cd4 "close_gap" = true) (k4 : PySem.W.keepIn K (.ref f4) = true)
    (a5 : PySem.W.nsIn K mainGlobals "ladder_from" = some (some (.ref f5)))
    (l5 : K.lookup f5 = some ⟨oc5, od5, .func (PySem.W.fnOf "ladder_from" "ladder_from" (defArgs sLadderFrom) (defBody sLadderFrom) (defScope sLadderFrom) .none kV5 dc5 pm5 an5 cd5 ct5), sl5⟩) (c5 : PySem.W.codeIn K cd5 "ladder_from" = true) (k5 : PySem.W.keepIn K (.ref f5) = true)
    (a6 : PySem.W.nsIn K mainGlobals "all_ladders" = some (some (.ref f6)))
    (l6 : K.lookup f6 = some ⟨oc6, od6, .func (PySem.W.fnOf "all_ladders" "all_ladders" (defArgs sAllLadders) (defBody sAllLadders) (defScope sAllLadders) .none kV6 dc6 pm6 an6 cd6 ct6), sl6⟩) (c6 : PySem.W.codeIn K cd6 "all_ladders" = true) (k6 : PySem.W.keepIn K (.ref f6) = true)
    (a7 : PySem.W.nsIn K mainGlobals "free_set" = some (some (.ref f7)))
    (l7 : K.lookup f7 = some ⟨oc7, od7, .func (PySem.W.fnOf "free_set" "free_set" (defArgs sFreeSet) (defBody sFreeSet) (defScope sFreeSet) .none kV7 dc7 pm7 an7 cd7 ct7), sl7⟩) (c7 : PySem.W.codeIn K cd7 "free_set" = true) (k7 : PySem.W.keepIn K (.ref f7) = true)
    (a8 : PySem.W.nsIn K mainGlobals "all_floors" = some (some (.ref f8)))
    (l8 : K.lookup f8 = some ⟨oc8, od8, .func (PySem.W.fnOf "all_floors" "all_floors" (defArgs sAllFloors) (defBody sAllFloors) (defScope sAllFloors) .none kV8 dc8 pm8 an8 cd8 ct8), sl8⟩) (c8 : PySem.W.codeIn K cd8 "all_floors" = true) (k8 : PySem.W.keepIn K (.ref f8) = true)
    (a9 : PySem.W.nsIn K mainGlobals "longest_ladder" = some (some (.ref f9)))
    (l9 : K.lookup f9 = some ⟨oc9, od9, .func (PySem.W.fnOf "longest_ladder" "longest_ladder" (defArgs sLongestLadder) (defBody sLongestLadder) (defScope sLongestLadder) .none kV9 dc9 pm9 an9 cd9 ct9), sl9⟩) (c9 : PySem.W.codeIn K cd9 "longest_ladder" = true) (k9 : PySem.W.keepIn K (.ref f9) = true)
    (a10 : PySem.W.findIn K (.ref C) "__init__" = some (some (.ref f10))) (i10 : PySem.W.isFn K (.ref f10) = true)
    (l10 : K.lookup f10 = some ⟨oc10, od10, .func (PySem.W.fnOf "__init__" "Hall.__init__" (defArgs sInit) (defBody sInit) (defScope sInit) .none kV10 dc10 pm10 an10 cd10 ct10), sl10⟩) (c10 : PySem.W.codeIn K cd10 "Hall.__init__" = true) (k10 : PySem.W.keepIn K (.ref f10) = true)
    (a11 : PySem.W.findIn K (.ref C) "put" = some (some (.ref f11))) (i11 : PySem.W.isFn K (.ref f11) = true)
    (l11 : K.lookup f11 = some ⟨oc11, od11, .func (PySem.W.fnOf "put" "Hall.put" (defArgs sPut) (defBody sPut) (defScope sPut) .none kV11 dc11 pm11 an11 cd11 ct11), sl11⟩) (c11 : PySem.W.codeIn K cd11 "Hall.put" = true) (k11 : PySem.W.keepIn K (.ref f11) = true)
    (a12 : PySem.W.findIn K (.ref C) "take" = some (some (.ref f12))) (i12 : PySem.W.isFn K (.ref f12) = true)
    (l12 : K.lookup f12 = some ⟨oc12, od12, .func (PySem.W.fnOf "take" "Hall.take" (defArgs sTake) (defBody sTake) (defScope sTake) .none kV12 dc12 pm12 an12 cd12 ct12), sl12⟩) (c12 : PySem.W.codeIn K cd12 "Hall.take" = true) (k12 : PySem.W.keepIn K (.ref f12) = true)
    (a13 : PySem.W.findIn K (.ref C) "things" = some (some (.ref f13))) (i13 : PySem.W.isFn K (.ref f13) = true)
    (l13 : K.lookup f13 = some ⟨oc13, od13, .func (PySem.W.fnOf "things" "Hall.things" (defArgs sThings) (defBody sThings) (defScope sThings) .none kV13 dc13 pm13 an13 cd13 ct13), sl13⟩) (c13 : PySem.W.codeIn K cd13 "Hall.things" = true) (k13 : PySem.W.keepIn K (.ref f13) = true)
    (a14 : PySem.W.findIn K (.ref C) "ladders" = some (some (.ref f14))) (i14 : PySem.W.isFn K (.ref f14) = true)
    (l14 : K.lookup f14 = some ⟨oc14, od14, .func (PySem.W.fnOf "ladders" "Hall.ladders" (defArgs sLadders) (defBody sLadders) (defScope sLadders) .none kV14 dc14 pm14 an14 cd14 ct14), sl14⟩) (c14 : PySem.W.codeIn K cd14 "Hall.ladders" = true) (k14 : PySem.W.keepIn K (.ref f14) = true)
    (a15 : PySem.W.findIn K (.ref C) "free" = some (some (.ref f15))) (i15 : PySem.W.isFn K (.ref f15) = true)
    (l15 : K.lookup f15 = some ⟨oc15, od15, .func (PySem.W.fnOf "free" "Hall.free" (defArgs sFree) (defBody sFree) (defScope sFree) .none kV15 dc15 pm15 an15 cd15 ct15), sl15⟩) (c15 : PySem.W.codeIn K cd15 "Hall.free" = true) (k15 : PySem.W.keepIn K (.ref f15) = true)
    (a16 : PySem.W.findIn K (.ref C) "floors" = some (some (.ref f16))) (i16 : PySem.W.isFn K (.ref f16) = true)
    (l16 : K.lookup f16 = some ⟨oc16, od16, .func (PySem.W.fnOf "floors" "Hall.floors" (defArgs sFloors) (defBody sFloors) (defScope sFloors) .none kV16 dc16 pm16 an16 cd16 ct16), sl16⟩) (c16 : PySem.W.codeIn K cd16 "Hall.floors" = true) (k16 : PySem.W.keepIn K (.ref f16) = true)
    (a17 : PySem.W.findIn K (.ref C) "longest" = some (some (.ref f17))) (i17 : PySem.W.isFn K (.ref f17) = true)
    (l17 : K.lookup f17 = some ⟨oc17, od17, .func (PySem.W.fnOf "longest" "Hall.longest" (defArgs sLongest) (defBody sLongest) (defScope sLongest) .none kV17 dc17 pm17 an17 cd17 ct17), sl17⟩) (c17 : PySem.W.codeIn K cd17 "Hall.longest" = true) (k17 : PySem.W.keepIn K (.ref f17) = true)
    (a18 : PySem.W.findIn K (.ref C) "with_thing" = some (some (.ref f18))) (i18 : PySem.W.isFn K (.ref f18) = true)
    (l18 : K.lookup f18 = some ⟨oc18, od18, .func (PySem.W.fnOf "with_thing" "Hall.with_thing" (defArgs sWith) (defBody sWith) (defScope sWith) .none kV18 dc18 pm18 an18 cd18 ct18), sl18⟩) (c18 : PySem.W.codeIn K cd18 "Hall.with_thing" = true) (k18 : PySem.W.keepIn K (.ref f18) = true)
    (a19 : PySem.W.findIn K (.ref C) "without_thing" = some (some (.ref f19))) (i19 : PySem.W.isFn K (.ref f19) = true)
    (l19 : K.lookup f19 = some ⟨oc19, od19, .func (PySem.W.fnOf "without_thing" "Hall.without_thing" (defArgs sWithout) (defBody sWithout) (defScope sWithout) .none kV19 dc19 pm19 an19 cd19 ct19), sl19⟩) (c19 : PySem.W.codeIn K cd19 "Hall.without_thing" = true) (k19 : PySem.W.keepIn K (.ref f19) = true)
    (a20 : PySem.W.findIn K (.ref C) "standing" = some (some (.ref f20))) (i20 : PySem.W.isFn K (.ref f20) = true)
    (l20 : K.lookup f20 = some ⟨oc20, od20, .func (PySem.W.fnOf "standing" "Hall.standing" (defArgs sStanding) (defBody sStanding) (defScope sStanding) .none kV20 dc20 pm20 an20 cd20 ct20), sl20⟩) (c20 : PySem.W.codeIn K cd20 "Hall.standing" = true) (k20 : PySem.W.keepIn K (.ref f20) = true)
    (a21 : PySem.W.findIn K (.ref C) "_part" = some (some (.ref f21))) (i21 : PySem.W.isFn K (.ref f21) = true)
    (l21 : K.lookup f21 = some ⟨oc21, od21, .func (PySem.W.fnOf "_part" "Hall._part" (defArgs sPart) (defBody sPart) (defScope sPart) .none kV21 dc21 pm21 an21 cd21 ct21), sl21⟩) (c21 : PySem.W.codeIn K cd21 "Hall._part" = true) (k21 : PySem.W.keepIn K (.ref f21) = true)
    (a22 : PySem.W.findIn K (.ref C) "_apart_from" = some (some (.ref f22))) (i22 : PySem.W.isFn K (.ref f22) = true)
    (l22 : K.lookup f22 = some ⟨oc22, od22, .func (PySem.W.fnOf "_apart_from" "Hall._apart_from" (defArgs sApartFrom) (defBody sApartFrom) (defScope sApartFrom) .none kV22 dc22 pm22 an22 cd22 ct22), sl22⟩) (c22 : PySem.W.codeIn K cd22 "Hall._apart_from" = true) (k22 : PySem.W.keepIn K (.ref f22) = true)
    (a23 : PySem.W.findIn K (.ref C) "_greatest" = some (some (.ref f23))) (i23 : PySem.W.isFn K (.ref f23) = true)
    (l23 : K.lookup f23 = some ⟨oc23, od23, .func (PySem.W.fnOf "_greatest" "Hall._greatest" (defArgs sGreatest) (defBody sGreatest) (defScope sGreatest) .none kV23 dc23 pm23 an23 cd23 ct23), sl23⟩) (c23 : PySem.W.codeIn K cd23 "Hall._greatest" = true) (k23 : PySem.W.keepIn K (.ref f23) = true)
    (a24 : PySem.W.findIn K (.ref C) "_check" = some (some (.ref f24))) (i24 : PySem.W.isFn K (.ref f24) = true)
    (l24 : K.lookup f24 = some ⟨oc24, od24, .func (PySem.W.fnOf "_check" "Hall._check" (defArgs sCheck) (defBody sCheck) (defScope sCheck) .none kV24 dc24 pm24 an24 cd24 ct24), sl24⟩) (c24 : PySem.W.codeIn K cd24 "Hall._check" = true) (k24 : PySem.W.keepIn K (.ref f24) = true)
    (a25 : PySem.W.findIn K (.ref C) "_check_some" = some (some (.ref f25))) (i25 : PySem.W.isFn K (.ref f25) = true)
    (l25 : K.lookup f25 = some ⟨oc25, od25, .func (PySem.W.fnOf "_check_some" "Hall._check_some" (defArgs sCheckSome) (defBody sCheckSome) (defScope sCheckSome) .none kV25 dc25 pm25 an25 cd25 ct25), sl25⟩) (c25 : PySem.W.codeIn K cd25 "Hall._check_some" = true) (k25 : PySem.W.keepIn K (.ref f25) = true)
    (a26 : PySem.W.findIn K (.ref C) "_all_under" = some (some (.ref f26))) (i26 : PySem.W.isFn K (.ref f26) = true)
    (l26 : K.lookup f26 = some ⟨oc26, od26, .func (PySem.W.fnOf "_all_under" "Hall._all_under" (defArgs sAllUnder) (defBody sAllUnder) (defScope sAllUnder) .none kV26 dc26 pm26 an26 cd26 ct26), sl26⟩) (c26 : PySem.W.codeIn K cd26 "Hall._all_under" = true) (k26 : PySem.W.keepIn K (.ref f26) = true)
    (a27 : PySem.W.nsIn K mainGlobals "_law_mixed" = some (some (.ref f27)))
    (l27 : K.lookup f27 = some ⟨oc27, od27, .func (PySem.W.fnOf "_law_mixed" "_law_mixed" (defArgs sMixed) (defBody sMixed) (defScope sMixed) .none kV27 dc27 pm27 an27 cd27 ct27), sl27⟩) (c27 : PySem.W.codeIn K cd27 "_law_mixed" = true) (k27 : PySem.W.keepIn K (.ref f27) = true)
    (a28 : PySem.W.nsIn K mainGlobals "_law_some" = some (some (.ref f28)))
    (l28 : K.lookup f28 = some ⟨oc28, od28, .func (PySem.W.fnOf "_law_some" "_law_some" (defArgs sSome) (defBody sSome) (defScope sSome) .none kV28 dc28 pm28 an28 cd28 ct28), sl28⟩) (c28 : PySem.W.codeIn K cd28 "_law_some" = true) (k28 : PySem.W.keepIn K (.ref f28) = true)
    (a29 : PySem.W.nsIn K mainGlobals "_law_grown" = some (some (.ref f29)))
    (l29 : K.lookup f29 = some ⟨oc29, od29, .func (PySem.W.fnOf "_law_grown" "_law_grown" (defArgs sGrown) (defBody sGrown) (defScope sGrown) .none kV29 dc29 pm29 an29 cd29 ct29), sl29⟩) (c29 : PySem.W.codeIn K cd29 "_law_grown" = true) (k29 : PySem.W.keepIn K (.ref f29) = true)
    (a30 : PySem.W.nsIn K mainGlobals "_law_fewer" = some (some (.ref f30)))
    (l30 : K.lookup f30 = some ⟨oc30, od30, .func (PySem.W.fnOf "_law_fewer" "_law_fewer" (defArgs sFewer) (defBody sFewer) (defScope sFewer) .none kV30 dc30 pm30 an30 cd30 ct30), sl30⟩) (c30 : PySem.W.codeIn K cd30 "_law_fewer" = true) (k30 : PySem.W.keepIn K (.ref f30) = true)
    (a31 : PySem.W.nsIn K mainGlobals "_law_apart" = some (some (.ref f31)))
    (l31 : K.lookup f31 = some ⟨oc31, od31, .func (PySem.W.fnOf "_law_apart" "_law_apart" (defArgs sApart) (defBody sApart) (defScope sApart) .none kV31 dc31 pm31 an31 cd31 ct31), sl31⟩) (c31 : PySem.W.codeIn K cd31 "_law_apart" = true) (k31 : PySem.W.keepIn K (.ref f31) = true)
    (a32 : PySem.W.nsIn K mainGlobals "_law_sets" = some (some (.ref f32)))
    (l32 : K.lookup f32 = some ⟨oc32, od32, .func (PySem.W.fnOf "_law_sets" "_law_sets" (defArgs sLawSets) (defBody sLawSets) (defScope sLawSets) .none kV32 dc32 pm32 an32 cd32 ct32), sl32⟩) (c32 : PySem.W.codeIn K cd32 "_law_sets" = true) (k32 : PySem.W.keepIn K (.ref f32) = true)
    (a33 : PySem.W.nsIn K mainGlobals "_law_all_by" = some (some (.ref f33)))
    (l33 : K.lookup f33 = some ⟨oc33, od33, .func (PySem.W.fnOf "_law_all_by" "_law_all_by" (defArgs sLawAllBy) (defBody sLawAllBy) (defScope sLawAllBy) .none kV33 dc33 pm33 an33 cd33 ct33), sl33⟩) (c33 : PySem.W.codeIn K cd33 "_law_all_by" = true) (k33 : PySem.W.keepIn K (.ref f33) = true)
    (a34 : PySem.W.nsIn K mainGlobals "law" = some (some (.ref f34)))
    (l34 : K.lookup f34 = some ⟨oc34, od34, .func (PySem.W.fnOf "law" "law" (defArgs sLaw) (defBody sLaw) (defScope sLaw) .none kV34 dc34 pm34 an34 (.ref cL) ct34), sl34⟩) (c34 : PySem.W.codeIn K (.ref cL) "law" = true) (k34 : PySem.W.keepIn K (.ref f34) = true)
    (pg : PySem.W.plainGet K C Str.empty = true) (hd : PySem.W.hasDictIn K C = true) (po : PySem.W.plainOver K C = true) (sa : PySem.W.findIn K (.ref C) "__setattr__" = some (some (.builtin "object.__setattr__"))) (mk : PySem.W.makesIn K C = true) (kc : PySem.W.keepIn K (.ref C) = true)
    (nG : PySem.W.findIn K (.ref C) "_given" = some none)
    (nB : PySem.W.findIn K (.ref C) "_below" = some none)
    (nN : PySem.W.findIn K (.ref C) "_beneath" = some none)
    (aMOST : PySem.W.nsIn K mainGlobals "MOST" = some (some (.int 24 tkM)))
    (z_len : PySem.W.nsIn K mainGlobals "len" = some none)
    (z_sorted : PySem.W.nsIn K mainGlobals "sorted" = some none)
    (z_type : PySem.W.nsIn K mainGlobals "type" = some none)
    (z_int : PySem.W.nsIn K mainGlobals "int" = some none)
    (z_list : PySem.W.nsIn K mainGlobals "list" = some none)
    (z_set : PySem.W.nsIn K mainGlobals "set" = some none)
    (z_max : PySem.W.nsIn K mainGlobals "max" = some none)
    (z_enumerate : PySem.W.nsIn K mainGlobals "enumerate" = some none)
    (z_reversed : PySem.W.nsIn K mainGlobals "reversed" = some none)
    (z_all : PySem.W.nsIn K mainGlobals "all" = some none)
    (hdC : PySem.W.codeHdIn K cL PT = true) (nPT : K.lookup PT = none) :
    LawAtS l w K CX0 8 63 "_law_script" mg fa h := by
  have e := hfa.symm.trans (PySem.W.mg_of X G a34)
  cases e
  have g := fun {x : Str} {v : Value} (z : PySem.W.nsIn K mainGlobals x = some (some v)) => PySem.W.mg_of X G z
  have z := fun {x : Str} (z : PySem.W.nsIn K mainGlobals x = some none) => PySem.W.mg_none_of X G z
  have T : Txt K mg C := ⟨⟨pg, hd, po, sa⟩, nG, nB, nN, g aC, z z_len, z z_sorted, z z_type, z z_int, z z_list, z z_set, ⟨_, g aMOST⟩⟩
  have F0 := fun_mk (st := sSearch) l0 c0 k0
  have b0 := F0.binds (ps := ["below", "beneath"]) fun _ _ _ _ _ _ us hl => match us, hl with | [_, _], _ => rfl
  have F1 := fun_mk (st := sRowTo) l1 c1 k1
  have b1 := F1.binds (ps := ["last", "reached", "beneath"]) fun _ _ _ _ _ _ us hl => match us, hl with | [_, _, _], _ => rfl
  have F2 := fun_mk (st := sMakeFewer) l2 c2 k2
  have b2 := F2.binds (ps := ["below", "beneath"]) fun _ _ _ _ _ _ us hl => match us, hl with | [_, _], _ => rfl
  have F3 := fun_mk (st := sFewest) l3 c3 k3
  have b3 := F3.binds (ps := ["below"]) fun _ _ _ _ _ _ us hl => match us, hl with | [_], _ => rfl
  have F4 := fun_mk (st := sCloseGap) l4 c4 k4
  have b4 := F4.binds (ps := ["beneath", "one"]) fun _ _ _ _ _ _ us hl => match us, hl with | [_, _], _ => rfl
  have F5 := fun_mk (st := sLadderFrom) l5 c5 k5
  have b5 := F5.binds (ps := ["lowest", "above"]) fun _ _ _ _ _ _ us hl => match us, hl with | [_, _], _ => rfl
  have F6 := fun_mk (st := sAllLadders) l6 c6 k6
  have b6 := F6.binds (ps := ["below", "beneath"]) fun _ _ _ _ _ _ us hl => match us, hl with | [_, _], _ => rfl
  have F7 := fun_mk (st := sFreeSet) l7 c7 k7
  have b7 := F7.binds (ps := ["below", "beneath"]) fun _ _ _ _ _ _ us hl => match us, hl with | [_, _], _ => rfl
  have F8 := fun_mk (st := sAllFloors) l8 c8 k8
  have b8 := F8.binds (ps := ["below"]) fun _ _ _ _ _ _ us hl => match us, hl with | [_], _ => rfl
  have F9 := fun_mk (st := sLongestLadder) l9 c9 k9
  have b9 := F9.binds (ps := ["below"]) fun _ _ _ _ _ _ us hl => match us, hl with | [_], _ => rfl
  have F10 := fun_mk (st := sInit) l10 c10 k10
  have b10 := F10.binds (ps := ["self"]) fun _ _ _ _ _ _ us hl => match us, hl with | [_], _ => rfl
  have F11 := fun_mk (st := sPut) l11 c11 k11
  have b11 := F11.binds (ps := ["self", "some"]) fun _ _ _ _ _ _ us hl => match us, hl with | [_, _], _ => rfl
  have F12 := fun_mk (st := sTake) l12 c12 k12
  have b12 := F12.binds (ps := ["self", "one"]) fun _ _ _ _ _ _ us hl => match us, hl with | [_, _], _ => rfl
  have F13 := fun_mk (st := sThings) l13 c13 k13
  have b13 := F13.binds (ps := ["self"]) fun _ _ _ _ _ _ us hl => match us, hl with | [_], _ => rfl
  have F14 := fun_mk (st := sLadders) l14 c14 k14
  have b14 := F14.binds (ps := ["self"]) fun _ _ _ _ _ _ us hl => match us, hl with | [_], _ => rfl
  have F15 := fun_mk (st := sFree) l15 c15 k15
  have b15 := F15.binds (ps := ["self"]) fun _ _ _ _ _ _ us hl => match us, hl with | [_], _ => rfl
  have F16 := fun_mk (st := sFloors) l16 c16 k16
  have b16 := F16.binds (ps := ["self"]) fun _ _ _ _ _ _ us hl => match us, hl with | [_], _ => rfl
  have F17 := fun_mk (st := sLongest) l17 c17 k17
  have b17 := F17.binds (ps := ["self"]) fun _ _ _ _ _ _ us hl => match us, hl with | [_], _ => rfl
  have F18 := fun_mk (st := sWith) l18 c18 k18
  have b18 := F18.binds (ps := ["self", "one"]) fun _ _ _ _ _ _ us hl => match us, hl with | [_, _], _ => rfl
  have F19 := fun_mk (st := sWithout) l19 c19 k19
  have b19 := F19.binds (ps := ["self", "one"]) fun _ _ _ _ _ _ us hl => match us, hl with | [_, _], _ => rfl
  have F20 := fun_mk (st := sStanding) l20 c20 k20
  have b20 := F20.binds (ps := ["self", "one"]) fun _ _ _ _ _ _ us hl => match us, hl with | [_, _], _ => rfl
  have F21 := fun_mk (st := sPart) l21 c21 k21
  have b21 := F21.binds (ps := ["self", "some"]) fun _ _ _ _ _ _ us hl => match us, hl with | [_, _], _ => rfl
  have F22 := fun_mk (st := sApartFrom) l22 c22 k22
  have b22 := F22.binds (ps := ["self", "one"]) fun _ _ _ _ _ _ us hl => match us, hl with | [_, _], _ => rfl
  have F23 := fun_mk (st := sGreatest) l23 c23 k23
  have b23 := F23.binds (ps := ["self", "some", "more"]) fun _ _ _ _ _ _ us hl => match us, hl with | [_, _, _], _ => rfl
  have F24 := fun_mk (st := sCheck) l24 c24 k24
  have b24 := F24.binds (ps := ["self", "one"]) fun _ _ _ _ _ _ us hl => match us, hl with | [_, _], _ => rfl
  have F25 := fun_mk (st := sCheckSome) l25 c25 k25
  have b25 := F25.binds (ps := ["self", "some"]) fun _ _ _ _ _ _ us hl => match us, hl with | [_, _], _ => rfl
  have F26 := fun_mk (st := sAllUnder) l26 c26 k26
  have b26 := F26.binds (ps := ["self", "some"]) fun _ _ _ _ _ _ us hl => match us, hl with | [_, _], _ => rfl
  have F27 := fun_mk (st := sMixed) l27 c27 k27
  have b27 := F27.binds (ps := ["_law_cell", "_law_k"]) fun _ _ _ _ _ _ us hl => match us, hl with | [_, _], _ => rfl
  have F28 := fun_mk (st := sSome) l28 c28 k28
  have b28 := F28.binds (ps := ["_law_things", "_law_cell"]) fun _ _ _ _ _ _ us hl => match us, hl with | [_, _], _ => rfl
  have F29 := fun_mk (st := sGrown) l29 c29 k29
  have b29 := F29.binds (ps := ["_law_below", "_law_one", "_law_some_here"]) fun _ _ _ _ _ _ us hl => match us, hl with | [_, _, _], _ => rfl
  have F30 := fun_mk (st := sFewer) l30 c30 k30
  have b30 := F30.binds (ps := ["_law_below", "_law_one"]) fun _ _ _ _ _ _ us hl => match us, hl with | [_, _], _ => rfl
  have F31 := fun_mk (st := sApart) l31 c31 k31
  have b31 := F31.binds (ps := ["_law_below", "_law_one", "_law_other"]) fun _ _ _ _ _ _ us hl => match us, hl with | [_, _, _], _ => rfl
  have F32 := fun_mk (st := sLawSets) l32 c32 k32
  have b32 := F32.binds (ps := ["_law_things"]) fun _ _ _ _ _ _ us hl => match us, hl with | [_], _ => rfl
  have F33 := fun_mk (st := sLawAllBy) l33 c33 k33
  have b33 := F33.binds (ps := ["_law_some_here", "_law_is_right"]) fun _ _ _ _ _ _ us hl => match us, hl with | [_, _], _ => rfl
  refine ⟨PySem.W.fnOf "law" "law" (defArgs sLaw) (defBody sLaw) (defScope sLaw) .none kV34 dc34 pm34 an34 (.ref cL) ct34, [(cL, PT)], spLaw8 K PT, fun q hq => by rw [List.mem_singleton.mp hq]; exact hTab, fun q hq => by rw [List.mem_singleton.mp hq]; exact nPT, fun q hq => by rw [List.mem_singleton.mp hq]; exact PySem.W.codeHd_of_K X hdC, fun s v => .of_eq rfl, fun H a ns hl _ hH hS => ⟨a, ns, rfl, hS, hl, hH (cL, PT) (List.mem_singleton.mpr rfl), fun _ => rfl⟩, fun base _ _ TB => ?_⟩
  have TBl := TB (cL, PT) (List.mem_singleton.mpr rfl)
  have GSr := ok_search (P := l.prog) (w := w) (base := base) F0 (z z_sorted)
  have GMf := ok_makeFewer (P := l.prog) (w := w) (base := base) F2 F0 b0 (g a0) F1 b1 (g a1) (z z_sorted)
  have GCk := ok_check (P := l.prog) (w := w) (base := base) F24 T
  have GIn := ok_init (P := l.prog) (w := w) (base := base) F10 T
  have GPut := ok_put (P := l.prog) (w := w) (base := base) F11 T (ok_checkSome F25 T F24 b24 ⟨a24, i24, k24⟩) b25 ⟨a25, i25, k25⟩ (ok_allUnder F26 T F13 b13 ⟨a13, i13, k13⟩) b26 ⟨a26, i26, k26⟩ GMf b2 (g a2) k2
  have GTake := ok_take (P := l.prog) (w := w) (base := base) F12 T GCk b24 ⟨a24, i24, k24⟩ (ok_closeGap F4) b4 (g a4) k4 GMf b2 (g a2) k2
  have GTh := ok_things (P := l.prog) (w := w) (base := base) F13 T
  have GLF := ok_ladderFrom (P := l.prog) (w := w) (mg := mg) (base := base) F5
  have GAL := ok_allLadders (P := l.prog) (w := w) (base := base) F6 GLF b5 (g a5) k5 (z z_sorted)
  have GFS := ok_freeSet (P := l.prog) (w := w) (base := base) F7 GSr b0 (g a0) k0 (z z_sorted)
  have GLads := ok_ladders (P := l.prog) (w := w) (base := base) F14 T GAL b6 (g a6) k6
  have GFree := ok_free (P := l.prog) (w := w) (base := base) F15 T GFS b7 (g a7) k7
  have GAF := ok_allFloors (P := l.prog) (w := w) (base := base) F8 (z z_sorted) (z z_max) (z z_len)
  have GLL := ok_longestLadder (P := l.prog) (w := w) (base := base) F9 GAF b8 (g a8) k8 (z z_reversed)
  have GFl := ok_floors (P := l.prog) (w := w) (base := base) F16 T GAF b8 (g a8) k8
  have GLo := ok_longest (P := l.prog) (w := w) (base := base) F17 T GLL b9 (g a9) k9
  have GFw := ok_fewest (P := l.prog) (w := w) (base := base) F3 GMf b2 (g a2) k2
  have GPart := ok_part (P := l.prog) (w := w) (base := base) F21 T GFw b3 (g a3) k3 GAL b6 (g a6) k6 GFS b7 (g a7) k7
  have GApart := ok_apartFrom (P := l.prog) (w := w) (base := base) F22 T GTh b13 ⟨a13, i13, k13⟩
  have GGr := ok_greatest (P := l.prog) (w := w) (base := base) F23 T GPart b21 ⟨a21, i21, k21⟩ GAL b6 (g a6) k6
  have GWith := ok_with (P := l.prog) (w := w) (base := base) F18 T GCk b24 ⟨a24, i24, k24⟩ GApart b22 ⟨a22, i22, k22⟩ GGr b23 ⟨a23, i23, k23⟩
  have GWithout := ok_without (P := l.prog) (w := w) (base := base) F19 T GCk b24 ⟨a24, i24, k24⟩ GTh b13 ⟨a13, i13, k13⟩ GGr b23 ⟨a23, i23, k23⟩
  have GStand := ok_standing (P := l.prog) (w := w) (base := base) F20 T GWith b18 ⟨a18, i18, k18⟩ GWithout b19 ⟨a19, i19, k19⟩
  have GAB := fun (c : Nat) (o : Obj) (dl : Addr) (lb : base.objs.size ≤ c) (ho : o.data = .cell (some (.ref dl))) => ok_allBy (P := l.prog) (w := w) (mg := mg) F33 lb ho (ok_apart (P := l.prog) (w := w) (mg := mg) (base := plus base c o) F31) b31 (g a31) k31 (z z_enumerate) (z z_all)
  exact ok_law l34 c34 TBl T ⟨mk, a10, i10, kc⟩ GIn b10 GTake b12 ⟨a12, i12, k12⟩ GPut b11 ⟨a11, i11, k11⟩ (ok_mixed F27) b27 (g a27) k27 (ok_some F28 F27 b27 (g a27) (z z_enumerate)) b28 (g a28) k28 (ok_grown F29 (z z_list) (z z_sorted) (z z_set)) b29 (g a29) k29 (ok_fewer F30 (z z_list)) b30 (g a30) k30 (ok_sets F32) b32 (g a32) k32 GAB b33 (g a33) k33 GLads b14 ⟨a14, i14, k14⟩ GFree b15 ⟨a15, i15, k15⟩ GStand b20 ⟨a20, i20, k20⟩ GFl b16 ⟨a16, i16, k16⟩ GLo b17 ⟨a17, i17, k17⟩ (z z_max)
theorem walk {l : PySem.W.OpenLaw} {q : Program} {loose : List Str} {XP : (Str → Option Value) → Heap → Prop} {YP : World → Heap → Prop} {d : DefRec} {K : Params → PySem.W.Frag} (hn : l.most = some 63) (hdf : d.params.defaults = [])
    (hY : ∀ (w : World) (h : Heap), YP w h → (K w.params).In h)
    (F : ∀ (w : World) (mg : Str → Option Value) (fa : Addr) (h : Heap), YP w h → (K w.params).In h → h.Ns mainGlobals mg → mg d.name = some (.ref fa) → LawAtS l w (K w.params) CX0 8 63 "_law_script" mg fa h) :
    PySem.W.WalkO q loose XP YP l.row.toRowW d [] (fun f vs => PySem.call f vs) :=
  LamX.walk_ofTs (CX := fun _ => CX0) hn (by decide) hdf ⟨rfl, by decide, by decide⟩ hY F fun _ _ _ _ _ z => z
end FP
open PySem PySem.W PyProof.Rows
set_option maxRecDepth 100000 in
set_option maxHeartbeats 0 in
theorem PySem.Challenge.cw_fewladders_k08_whole_small_halls_tried_holds : PySem.Challenge.rw_fewladders_k08_whole_small_halls_tried.Holds := by
  w_on; o_law; k_head; (case hw => w_witness2)
  k_fill
  refine FP.walk (l := PySem.Challenge.rw_fewladders_k08_whole_small_halls_tried) rfl rfl (fun w h Y => PySem.W.km_in_of Y) ?F
  case F =>
    intro w mg fa h Y KX G hmg
    refine' FP.all_mk KX G hmg (PySem.W.km_tabs_of Y _ (List.mem_singleton.mpr rfl)) ?aC ?a0 ?l0 ?c0 ?k0 ?a1 ?l1 ?c1 ?k1 ?a2 ?l2 ?c2 ?k2 ?a3 ?l3 ?c3 ?k3 ?a4 ?l4 ?c4 ?k4 ?a5 ?l5 ?c5 ?k5 ?a6 ?l6 ?c6 ?k6 ?a7 ?l7 ?c7 ?k7 ?a8 ?l8 ?c8 ?k8 ?a9 ?l9 ?c9 ?k9 ?a10 ?i10 ?l10 ?c10 ?k10 ?a11 ?i11 ?l11 ?c11 ?k11 ?a12 ?i12 ?l12 ?c12 ?k12 ?a13 ?i13 ?l13 ?c13 ?k13 ?a14 ?i14 ?l14 ?c14 ?k14 ?a15 ?i15 ?l15 ?c15 ?k15 ?a16 ?i16 ?l16 ?c16 ?k16 ?a17 ?i17 ?l17 ?c17 ?k17 ?a18 ?i18 ?l18 ?c18 ?k18 ?a19 ?i19 ?l19 ?c19 ?k19 ?a20 ?i20 ?l20 ?c20 ?k20 ?a21 ?i21 ?l21 ?c21 ?k21 ?a22 ?i22 ?l22 ?c22 ?k22 ?a23 ?i23 ?l23 ?c23 ?k23 ?a24 ?i24 ?l24 ?c24 ?k24 ?a25 ?i25 ?l25 ?c25 ?k25 ?a26 ?i26 ?l26 ?c26 ?k26 ?a27 ?l27 ?c27 ?k27 ?a28 ?l28 ?c28 ?k28 ?a29 ?l29 ?c29 ?k29 ?a30 ?l30 ?c30 ?k30 ?a31 ?l31 ?c31 ?k31 ?a32 ?l32 ?c32 ?k32 ?a33 ?l33 ?c33 ?k33 ?a34 ?l34 ?c34 ?k34 ?pg ?hd ?po ?sa ?mk ?kc ?nG ?nB ?nN ?aMOST ?z_len ?z_sorted ?z_type ?z_int ?z_list ?z_set ?z_max ?z_enumerate ?z_reversed ?z_all ?hdC ?nPT
    (case aC => k_is)
    (case a0 => k_is)
    (case l0 => k_is)
    (case c0 => k_is)
    (case k0 => k_is)
    (case a1 => k_is)
    (case l1 => k_is)
    (case c1 => k_is)
    (case k1 => k_is)
    (case a2 => k_is)
    (case l2 => k_is)
    (case c2 => k_is)
    (case k2 => k_is)
    (case a3 => k_is)
    (case l3 => k_is)
    (case c3 => k_is)
    (case k3 => k_is)
    (case a4 => k_is)
    (case l4 => k_is)
    (case c4 => k_is)
    (case k4 => k_is)
    (case a5 => k_is)
    (case l5 => k_is)
    (case c5 => k_is)
    (case k5 => k_is)
    (case a6 => k_is)
    (case l6 => k_is)
    (case c6 => k_is)
    (case k6 => k_is)
    (case a7 => k_is)
    (case l7 => k_is)
    (case c7 => k_is)
    (case k7 => k_is)
    (case a8 => k_is)
    (case l8 => k_is)
    (case c8 => k_is)
    (case k8 => k_is)
    (case a9 => k_is)
    (case l9 => k_is)
    (case c9 => k_is)
    (case k9 => k_is)
    (case a10 => k_is)
    (case i10 => k_is)
    (case l10 => k_is)
    (case c10 => k_is)
    (case k10 => k_is)
    (case a11 => k_is)
    (case i11 => k_is)
    (case l11 => k_is)
    (case c11 => k_is)
    (case k11 => k_is)
    (case a12 => k_is)
    (case i12 => k_is)
    (case l12 => k_is)
    (case c12 => k_is)
    (case k12 => k_is)
    (case a13 => k_is)
    (case i13 => k_is)
    (case l13 => k_is)
    (case c13 => k_is)
    (case k13 => k_is)
    (case a14 => k_is)
    (case i14 => k_is)
    (case l14 => k_is)
    (case c14 => k_is)
    (case k14 => k_is)
    (case a15 => k_is)
    (case i15 => k_is)
    (case l15 => k_is)
    (case c15 => k_is)
    (case k15 => k_is)
    (case a16 => k_is)
    (case i16 => k_is)
    (case l16 => k_is)
    (case c16 => k_is)
    (case k16 => k_is)
    (case a17 => k_is)
    (case i17 => k_is)
    (case l17 => k_is)
    (case c17 => k_is)
    (case k17 => k_is)
    (case a18 => k_is)
    (case i18 => k_is)
    (case l18 => k_is)
    (case c18 => k_is)
    (case k18 => k_is)
    (case a19 => k_is)
    (case i19 => k_is)
    (case l19 => k_is)
    (case c19 => k_is)
    (case k19 => k_is)
    (case a20 => k_is)
    (case i20 => k_is)
    (case l20 => k_is)
    (case c20 => k_is)
    (case k20 => k_is)
    (case a21 => k_is)
    (case i21 => k_is)
    (case l21 => k_is)
    (case c21 => k_is)
    (case k21 => k_is)
    (case a22 => k_is)
    (case i22 => k_is)
    (case l22 => k_is)
    (case c22 => k_is)
    (case k22 => k_is)
    (case a23 => k_is)
    (case i23 => k_is)
    (case l23 => k_is)
    (case c23 => k_is)
    (case k23 => k_is)
    (case a24 => k_is)
    (case i24 => k_is)
    (case l24 => k_is)
    (case c24 => k_is)
    (case k24 => k_is)
    (case a25 => k_is)
    (case i25 => k_is)
    (case l25 => k_is)
    (case c25 => k_is)
    (case k25 => k_is)
    (case a26 => k_is)
    (case i26 => k_is)
    (case l26 => k_is)
    (case c26 => k_is)
    (case k26 => k_is)
    (case a27 => k_is)
    (case l27 => k_is)
    (case c27 => k_is)
    (case k27 => k_is)
    (case a28 => k_is)
    (case l28 => k_is)
    (case c28 => k_is)
    (case k28 => k_is)
    (case a29 => k_is)
    (case l29 => k_is)
    (case c29 => k_is)
    (case k29 => k_is)
    (case a30 => k_is)
    (case l30 => k_is)
    (case c30 => k_is)
    (case k30 => k_is)
    (case a31 => k_is)
    (case l31 => k_is)
    (case c31 => k_is)
    (case k31 => k_is)
    (case a32 => k_is)
    (case l32 => k_is)
    (case c32 => k_is)
    (case k32 => k_is)
    (case a33 => k_is)
    (case l33 => k_is)
    (case c33 => k_is)
    (case k33 => k_is)
    (case a34 => k_is)
    (case l34 => k_is)
    (case c34 => k_is)
    (case k34 => k_is)
    (case pg => k_is)
    (case hd => k_is)
    (case po => k_is)
    (case sa => k_is)
    (case mk => k_is)
    (case kc => k_is)
    (case nG => k_is)
    (case nB => k_is)
    (case nN => k_is)
    (case aMOST => k_is)
    (case z_len => k_is)
    (case z_sorted => k_is)
    (case z_type => k_is)
    (case z_int => k_is)
    (case z_list => k_is)
    (case z_set => k_is)
    (case z_max => k_is)
    (case z_enumerate => k_is)
    (case z_reversed => k_is)
    (case z_all => k_is)
    (case hdC => kernel_rfl)
    (case nPT => kernel_rfl)

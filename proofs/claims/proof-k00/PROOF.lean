import PyProof.Rows.All
import Wide.All
import OpenK.AllK
import Wide.FinOn
import HandS.ForExc
import HandS.Comp
import PyProof.ReprRoads
import KE.GoesMore
import HandS.Iter
import HandS.SortInts
import HandS.Walk
import HandS.Deep
import HandS.ExcIs
import HandS.IsInst
import HandS.TupSets
import HandS.TupAny
import KE.KSortedM
import KE.KEqDeep
import KE.KIndexOf
import PyProof.ReprLen
import HandS.Style
import HandS.Zip
import PySem.Challenge.RW_wedgespace_k00_permutations
set_option Elab.async false
set_option linter.all false
set_option maxRecDepth 100000
set_option maxHeartbeats 4000000
/-! List comprehensions of any number of clauses. -/
namespace L2.Px
open PySem PySem.Spec PyProof.Rows

/-- what a clause does with an item that has passed: from slots and heap, to reach the wanted heap -/
abbrev TB := St → Hp → (Hp → Prop) → Prop

/-- the rest of a turn at the last clause -/
def tailE (elt : Expr) (acc : Value) (env : Env) (c : Code) : Sem Fin := do
  (do let _ ← call (.builtin "list.append") [acc, ← eval elt env])
  again c
/-- the rest of a turn ahead of another clause, its source i1 -/
def tailN (nd : Expr) (d : Nat) (i1 : Expr) (acc : Value) (env : Env) (c : Code) : Sem Fin := do
  let x ← eval i1 env
  standAt i1.pos
  let y ← foldedSetIterable i1 env x
  let it ← holding [y] (pyIter y)
  let _ ← runOwn (.compStart nd d it acc env) env
  again c

/-- one turn of a clause, its rest a letter -/
def turnC (t i : Expr) (ifs : List Expr) (it : Value) (env : Env) (rest : Sem Fin) (c : Code) : Sem Fin := do
  standAt i.pos
  match ← pyNext it with
  | none => pure (.done .next)
  | some v =>
    letOwnedTupleGo t it v
    assign t env v
    let mut ok := true
    for c in ifs do
      if ok then ok ← isTrue c env (eval c env)
    if ok then rest else again c

theorem turn_last {elt t i : Expr} {ifs : List Expr} {gs : List Comprehension} {sc : Scope} {ps : Pos} {d : Nat} {it acc : Value} {env : Env} (hg : gs[d]? = some ⟨t, i, ifs, 0⟩) (hn : gs[d + 1]? = none) :
    compTurn (.ListComp elt gs sc ps) d it acc env = turnC t i ifs it env (tailE elt acc env (.compLoop (.ListComp elt gs sc ps) d it acc env)) (.compLoop (.ListComp elt gs sc ps) d it acc env) := by
  unfold compTurn turnC tailE
  simp only [hg, hn]
  rfl
theorem turn_next {elt t i t1 i1 : Expr} {ifs ifs1 : List Expr} {gs : List Comprehension} {sc : Scope} {ps : Pos} {d : Nat} {it acc : Value} {env : Env} (hg : gs[d]? = some ⟨t, i, ifs, 0⟩) (hn : gs[d + 1]? = some ⟨t1, i1, ifs1, 0⟩) :
    compTurn (.ListComp elt gs sc ps) d it acc env = turnC t i ifs it env (tailN (.ListComp elt gs sc ps) (d + 1) i1 acc env (.compLoop (.ListComp elt gs sc ps) d it acc env)) (.compLoop (.ListComp elt gs sc ps) d it acc env) := by
  unfold compTurn turnC tailN
  simp only [hg, hn]
  rfl

/-- the wish where nothing is raised -/
abbrev F0 : Value → Shared → Prop := fun _ _ => False

/-- the rest of a turn, from the block's state: it comes to the turn's end with the wanted heap; ws: the names that it forgets -/
structure PB (X : Cx) (rest : Code → Sem Fin) (ws : List Nat) (tb : TB) : Prop where
  run : ∀ (pins : List (Addr × Obj)) (s : Shared) (σ : St) (H : Hp) (Nx : Hp → Prop) (c : Code), Inv X pins σ H s → tb σ H Nx →
    wpAny (model X.prog X.w) X.A (rest c) (fun f s' => f = .again c ∧ ∃ H', Inv X pins (wipe σ ws) H' s' ∧ Nx H') F0 s

/-- a clause's turns: W by the turn and a measure -/
def ClStep (J : It) (g : TG) (tt : TT) (vs : List Nat) (tb : TB) (σ : St) (W : Nat → Nat → Hp → Prop) (Nx0 : Hp → Prop) : Prop :=
  ∀ i m H, W i m H → (J.stop i H ∧ Nx0 H) ∨ (J.go i H ∧ ∃ Nx : Hp → Prop, (∀ H', Nx H' → ∃ m', m' < m ∧ W (i + 1) m' H') ∧
    ∀ x H', J.yld i H x H' → g x (wipe σ vs) H' fun σ2 H2 => wipe σ2 vs = wipe σ vs ∧ tt σ2 H2 fun b H3 => if b = true then tb σ2 H3 Nx else Nx H3)

theorem weakC {X : Cx} {pins : List (Addr × Obj)} {σ σ2 : St} {H : Hp} {s : Shared} {vs ws : List Nat} (I : Inv X pins (wipe σ2 ws) H s) (e : wipe σ2 vs = wipe σ vs) (sub : ∀ j ∈ ws, j ∈ vs) : Inv X pins (wipe σ vs) H s := by
  refine I.weak (by rw [← e, wipe_length, wipe_length]) fun j v q => ?_
  rw [← e] at q
  obtain ⟨q1, q2⟩ := wipe_some q
  rw [wipe_out fun z => q2 (sub j z)]
  exact q1

section
variable {X : Cx} {elt t i : Expr} {ifs : List Expr} {gs : List Comprehension} {sc : Scope} {ps : Pos} {d : Nat} {acc : Value}
  {g : TG} {tt : TT} {tb : TB} {vs ws : List Nat} {J : It} {fp : List Addr} {it : Addr} {tn : Nat → Heap → Prop} {pins : List (Addr × Obj)} {s : Shared} {σ : St} {H : Hp} {Nx0 : Hp → Prop}

/-- the loop of a clause -/
theorem loop_run {rest : Code → Sem Fin} (hx : X.xe = F0) (hc : X.calm = true)
    (ht : ∀ it, compTurn (.ListComp elt gs sc ps) d it acc X.env = turnC t i ifs it X.env (rest (.compLoop (.ListComp elt gs sc ps) d it acc X.env)) (.compLoop (.ListComp elt gs sc ps) d it acc X.env))
    (pg : PG X t g) (pt : PTs X ifs tt) (pb : PB X rest ws tb) (sub : ∀ j ∈ ws, j ∈ vs)
    (T : Turn X.prog X.w X.K t J fp it tn) (I : Inv X pins (wipe σ vs) H s) (st : tn 0 s.heap) (hf : ∀ b ∈ fp, FpOk X pins H b)
    {W : Nat → Nat → Hp → Prop} {m : Nat} (w0 : W 0 m H) (step : ClStep J g tt vs tb σ W Nx0) :
    codeAny (model X.prog X.w) X.A (.compLoop (.ListComp elt gs sc ps) d (.ref it) acc X.env) (fun r s' => r = .ok .next ∧ ∃ H', Inv X pins (wipe σ vs) H' s' ∧ Nx0 H') s := by
  refine codeAny_loop rfl (fun m s' => ∃ k H', Inv X pins (wipe σ vs) H' s' ∧ tn k s'.heap ∧ (∀ b ∈ fp, H' b = none) ∧ W k m H') (fun m s1 hI => ?_) m ⟨0, H, I, st, fun b hb => (hf b hb).1, w0⟩
  obtain ⟨k, H1, I1, st1, n1, w1⟩ := hI
  have fok : ∀ {H' : Hp}, (∀ b ∈ fp, H' b = none) → ∀ b ∈ fp, FpOk X pins H' b := fun n b hb => ⟨n b hb, (hf b hb).2⟩
  show wpAny _ X.A (Sem.onRaise (compTurn (.ListComp elt gs sc ps) d (.ref it) acc X.env) _) _ _ s1
  refine wpAny_noted (wpAny_mono (Q := fun fin s' => match fin with
    | .done f => f = .next ∧ ∃ H', Inv X pins (wipe σ vs) H' s' ∧ Nx0 H'
    | .again c' => c' = .compLoop (.ListComp elt gs sc ps) d (.ref it) acc X.env ∧ ∃ m', m' < m ∧ ∃ k H', Inv X pins (wipe σ vs) H' s' ∧ tn k s'.heap ∧ (∀ b ∈ fp, H' b = none) ∧ W k m' H') (E := F0) ?_ (fun fin s' h => ?_) fun _ _ z => z.elim)
  · rw [ht]
    unfold turnC
    refine wpAny_bind (wpAny_standAt (wpAny_bind ?_))
    rcases step k m H1 w1 with ⟨stop, q⟩ | ⟨go, Nx, hNx, q⟩
    · refine thnF (T.done X rfl rfl rfl hc k pins s1 _ H1 F0 I1 (fok n1) st1 stop) fun r s2 ⟨hr, I2⟩ => ?_
      subst hr
      exact wpAny_pure ⟨rfl, H1, I2, q⟩
    · refine thnF (T.item X rfl rfl rfl hc k pins s1 _ H1 F0 I1 (fok n1) st1 go) fun r s2 ⟨u, hr, h2⟩ => ?_
      subst hr
      refine wpAny_bind (thnF h2 fun _ s3 ⟨x, H3, I3, r3, y3, st3, n3⟩ => ?_)
      have I3' := I3.pinned (fok n3) (T.obj _ _ st3)
      have a1 := pg.run _ s3 _ H3 x u _ I3' r3 (q x H3 y3)
      rw [hx] at a1
      refine wpAny_bind (thnF a1 fun _ s4 ⟨σ4, H4, I4, e4, q4⟩ => ?_)
      have a2 := pt.run _ s4 σ4 H4 _ I4 q4
      rw [hx] at a2
      -- behind the rest, whatever it was
      have fin : ∀ {s' : Shared} {H' : Hp}, Inv X (pins ++ pinsAt fp s3.heap) (wipe σ vs) H' s' → Nx H' → ∃ m', m' < m ∧ ∃ k H', Inv X pins (wipe σ vs) H' s' ∧ tn k s'.heap ∧ (∀ b ∈ fp, H' b = none) ∧ W k m' H' := fun {s' H'} I' nx => by
        obtain ⟨m', hm, w'⟩ := hNx H' nx
        have stay : ∀ b ∈ fp, ∀ o, s3.heap.get? b = some o → s'.heap.get? b = some o ∧ H' b = none := fun b hb o e => by
          have z := I'.pin (b, o) (List.mem_append_right _ (List.mem_append_right _ (mem_pinsAt hb e)))
          exact ⟨z.1, z.2.1⟩
        refine ⟨m', hm, k + 1, H', I'.unpinned, T.keep _ _ _ st3 fun b hb o e => (stay b hb o e).1, fun b hb => ?_, w'⟩
        obtain ⟨o, e, _⟩ := T.obj _ _ st3 b hb
        exact (stay b hb o e).2
      refine wpAny_bind (thnF a2 fun b s5 ⟨H5, I5, q5⟩ => ?_)
      cases b with
      | false =>
        simp only [Bool.false_eq_true, if_false] at q5 ⊢
        exact wpAny_pure ⟨rfl, fin (weakC (ws := []) I5 e4 (fun j z => by cases z)) q5⟩
      | true =>
        simp only [if_true] at q5 ⊢
        refine thnF (pb.run _ s5 σ4 H5 Nx _ I5 q5) fun f s6 ⟨hf6, H6, I6, nx⟩ => ?_
        subst hf6
        exact ⟨rfl, fin (weakC I6 e4 sub) nx⟩
  · cases fin with
    | done f => exact ⟨by rw [h.1], h.2⟩
    | again c' => exact h

/-- the last clause's rest: the element, appended to the list at D -/
def tElt (D : Addr) (te : TE) : TB := fun σ H Nx => te σ H fun y H' => ∃ a, H' D = some (.lst a) ∧ a.length < sizeLine ∧ Nx (upd H' D (.lst (a ++ [y])))
theorem pb_elt {D : Addr} {te : TE} (hx : X.xe = F0) (he : PE X elt te) : PB X (tailE elt (.ref D) X.env) [] (tElt D te) := by
  refine ⟨fun pins s σ H Nx c I h => ?_⟩
  unfold tailE
  have a := he.run pins s σ H _ I h
  rw [hx] at a
  refine wpAny_bind (wpAny_bind (thnF a fun u s1 ⟨y, H1, I1, r1, ac, hD, hz, nx⟩ => wpAny_bind (app_ok I1 hD hz r1 fun s2 I2 => wpAny_pure (wpAny_pure ⟨rfl, _, I2, nx⟩))))

/-- another clause within -/
def tCl (wi : TI) (g : TG) (tt : TT) (vs : List Nat) (tb : TB) : TB := fun σ H Nx => wi σ H fun J H1 => ∃ W : Nat → Nat → Hp → Prop, (∃ m, W 0 m H1) ∧ ClStep J g tt vs tb σ W Nx
theorem pb_cl {rest : Code → Sem Fin} {wi : TI} (hx : X.xe = F0) (hc : X.calm = true) (hd : gs[d]? = some ⟨t, i, ifs, 0⟩)
    (ht : ∀ it, compTurn (.ListComp elt gs sc ps) d it acc X.env = turnC t i ifs it X.env (rest (.compLoop (.ListComp elt gs sc ps) d it acc X.env)) (.compLoop (.ListComp elt gs sc ps) d it acc X.env))
    (pi : PI X t i wi) (pg : PG X t g) (pt : PTs X ifs tt) (pb : PB X rest ws tb) (sub : ∀ j ∈ ws, j ∈ vs) (hs : ∀ x, foldedSetIterable i X.env x = pure x) :
    PB X (tailN (.ListComp elt gs sc ps) d i acc X.env) vs (tCl wi g tt vs tb) := by
  refine ⟨fun pins s σ H Nx c I h => ?_⟩
  unfold tailN
  have a := pi.run pins s σ H _ I h
  rw [hx] at a
  refine wpAny_bind (thnF a fun v s1 h1 => wpAny_bind (wpAny_standAt (wpAny_bind (wpAny_of_eq (hs v) (wpAny_bind (wpAny_holding (thnF h1 fun itv s2 h2 => ?_)))))))
  obtain ⟨it, fp, tn, J, H2, e, I2, T, st2, f2, W, ⟨m, w0⟩, step⟩ := h2
  subst e
  have loop := loop_run (H := H2) hx hc ht pg pt pb sub T (I2.weak (wipe_length _ _) fun j v q => (wipe_some q).1) st2 f2 w0 step
  refine wpAny_bind (wpAny_runOwn ?_)
  rw [Around.mark_none]
  refine codeAny_of_tree ?_
  show wpAny _ _ (Sem.onRaise (compStart (.ListComp elt gs sc ps) d (.ref it) acc X.env) _) _ _ s2
  refine wpAny_notedAt ?_
  unfold compStart
  have hcl : clausesOf (.ListComp elt gs sc ps) = gs := rfl
  rw [hcl, hd]
  have done : codeAny (model X.prog X.w) X.A (.compLoop (.ListComp elt gs sc ps) d (.ref it) acc X.env) (fun r s' => match r with
      | .ok f => wpAny (model X.prog X.w) X.A (again c) (fun f s' => f = .again c ∧ ∃ H', Inv X pins (wipe σ vs) H' s' ∧ Nx H') F0 s'
      | .error e => cameBackBy (model X.prog X.w) X.A X.env F0 e s') s2 := codeAny_mono loop fun r s' ⟨hr, H', I', q⟩ => by
    subst hr
    exact wpAny_pure ⟨rfl, H', I', q⟩
  show wpAny _ _ (ask >>= _) _ _ s2
  refine wpAny_bind (wpAny_askSetting (wpAny_ite ?_))
  split
  · first
      | exact wpAny_bind (wpAny_pure (wpAny_pure (And.intro rfl done)))
      | exact wpAny_pure (And.intro rfl done)
  · refine wpAny_bind (wpAny_rule (wpAny_bind (wpAny_standAt (wpAny_bind (T.self X.A 0 s2 _ _ st2 ?_)))))
    exact wpAny_pure (And.intro rfl done)

/-- [elt for tg in iter if .. for .. ..]: D the new list, tb D what the first clause does with an item -/
def tLcN (wi : TI) (g : TG) (tt : TT) (vs : List Nat) (tb : Addr → TB) : TE := fun σ H Q => wi σ H fun J H1 => ∀ D, H1 D = none → ∃ W : Nat → Nat → Hp → Prop, (∃ m, W 0 m (upd H1 D (.lst []))) ∧ ClStep J g tt vs (tb D) σ W (fun H' => Q (.ref D) H')

/-- the block, from the state in which its list stands -/
theorem block_run {tg iter : Expr} {rs : List Comprehension} {scope : Scope} {own : List (Str × Nat)} {pos : Pos} {tb : TB} {rest : Env → Code → Sem Fin} {D : Addr} {W : Nat → Nat → Hp → Prop} {m0 : Nat} {R : Result → Shared → Prop}
    (hc : X.calm = true) (hN : X.N.Nodup) (I : Inv X pins σ H s) (ok : BlkOk X.N X.env.scope scope own)
    (ht : ∀ it env, compTurn (.ListComp elt (⟨tg, iter, ifs, 0⟩ :: rs) scope pos) 0 it (.ref D) env = turnC tg iter ifs it env (rest env (.compLoop (.ListComp elt (⟨tg, iter, ifs, 0⟩ :: rs) scope pos) 0 it (.ref D) env)) (.compLoop (.ListComp elt (⟨tg, iter, ifs, 0⟩ :: rs) scope pos) 0 it (.ref D) env))
    (hg : ∀ (s : Shared) (H : Hp) (C : Addr) (cl : List (Str × Addr)) (fp : List Addr), PG (X.blk s H scope (compEnvC scope cl C X.env) fp) tg g)
    (hp : ∀ (s : Shared) (H : Hp) (C : Addr) (cl : List (Str × Addr)) (fp : List Addr), PTs (X.blk s H scope (compEnvC scope cl C X.env) fp) ifs tt)
    (hb : ∀ (s : Shared) (H : Hp) (C : Addr) (cl : List (Str × Addr)) (fp : List Addr), PB (X.blk s H scope (compEnvC scope cl C X.env) fp) (rest (compEnvC scope cl C X.env)) ws tb) (sub : ∀ j ∈ ws, j ∈ own.map (·.2))
    (T : Turn X.prog X.w X.K tg J fp it tn) (st : tn 0 s.heap) (hf : ∀ b ∈ fp, FpOk X pins H b ∧ b < s.heap.objs.size) (w0 : W 0 m0 H) (step : ClStep J g tt (own.map (·.2)) tb σ W Nx0)
    (hR : ∀ s' m H', Inv X pins σ H' s' → Nx0 H' → s'.heap.Ns s.heap.objs.size m → FpOk X pins H' s.heap.objs.size → R (.ok .next) s') :
    codeAny (model X.prog X.w) X.A (.compStart (.ListComp elt (⟨tg, iter, ifs, 0⟩ :: rs) scope pos) 0 (.ref it) (.ref D) (compEnvC scope (cellsFrom (s.heap.objs.size + 1) scope.names (cloFrom X.env.cells scope.names [])) s.heap.objs.size X.env)) R
      { s with heap := pushCells (s.heap.push { cls := .type "dict", data := .dict #[] }) scope.names } := by
  have I4 := block_start I ok hN hf
  have qg := hg s H s.heap.objs.size (cellsFrom (s.heap.objs.size + 1) scope.names (cloFrom X.env.cells scope.names [])) fp
  have qp := hp s H s.heap.objs.size (cellsFrom (s.heap.objs.size + 1) scope.names (cloFrom X.env.cells scope.names [])) fp
  have qb := hb s H s.heap.objs.size (cellsFrom (s.heap.objs.size + 1) scope.names (cloFrom X.env.cells scope.names [])) fp
  have st4 : tn 0 (pushCells (s.heap.push { cls := .type "dict", data := .dict #[] }) scope.names) := T.keep _ _ _ st fun _ _ _ e => pushCells_keeps _ _ _ _ (Heap.get?_push_of_some _ e)
  generalize hce : compEnvC scope (cellsFrom (s.heap.objs.size + 1) scope.names (cloFrom X.env.cells scope.names [])) s.heap.objs.size X.env = ce at I4 qg qp qb ⊢
  have cL : ce.locals = s.heap.objs.size := by rw [← hce]; rfl
  have f4 : ∀ b ∈ fp, FpOk (X.blk s H scope ce fp) [] H b := fun b hb =>
    ⟨(hf b hb).1.1, (I4.ok.exf b hb).1, I4.ok.exfs b hb, .inl hb, fun x c e => (I4.ok.exf b hb).2 x c e, fun p hp => by cases hp⟩
  have loop := loop_run (X := X.blk s H scope ce fp) (it := it) rfl hc (fun it => ht it ce) qg qp qb sub T I4 st4 f4 w0 step
  have fin : codeAny (model X.prog X.w) X.A (.compLoop (.ListComp elt (⟨tg, iter, ifs, 0⟩ :: rs) scope pos) 0 (.ref it) (.ref D) ce) R { s with heap := pushCells (s.heap.push { cls := .type "dict", data := .dict #[] }) scope.names } := by
    refine codeAny_mono loop fun r s' ⟨hr, H', I', nx⟩ => ?_
    subst hr
    obtain ⟨m, hn, _⟩ := I'.loc
    have hn : s'.heap.Ns ce.locals m := hn
    have nC : H' ce.locals = none := I'.free
    rw [cL] at hn nC
    exact hR s' m H' (I.call' (ch := fp) I'.os I'.base I'.hok I'.bare fun b hb => let z := (hf b hb).1.2; ⟨z.2.2.1, z.1, z.2.2.2.1, z.2.2.2.2⟩) nx hn (I.fpOk (Nat.le_refl _) nC)
  exact codeAny_compStart_list fin (T.self X.A 0 _ _ _ st4 fin)

theorem lcN_core {tg iter : Expr} {rs : List Comprehension} {scope : Scope} {own : List (Str × Nat)} {pos pos' : Pos} {wi : TI} {tb : Addr → TB} {rest : Addr → Env → Code → Sem Fin}
    {use : Option (Value → Sem Unit)} {Qf : Value → Shared → Prop} {Q : VK}
    (hc : X.calm = true) (hN : X.N.Nodup) (I : Inv X pins σ H s) (hi : PI X tg iter wi) (ok : BlkOk X.N X.env.scope scope own) (hs : ∀ x, foldedSetIterable iter X.env x = pure x)
    (ht : ∀ it D env, compTurn (.ListComp elt (⟨tg, iter, ifs, 0⟩ :: rs) scope pos) 0 it (.ref D) env = turnC tg iter ifs it env (rest D env (.compLoop (.ListComp elt (⟨tg, iter, ifs, 0⟩ :: rs) scope pos) 0 it (.ref D) env)) (.compLoop (.ListComp elt (⟨tg, iter, ifs, 0⟩ :: rs) scope pos) 0 it (.ref D) env))
    (hg : ∀ (s : Shared) (H : Hp) (C : Addr) (cl : List (Str × Addr)) (fp : List Addr), PG (X.blk s H scope (compEnvC scope cl C X.env) fp) tg g)
    (hp : ∀ (s : Shared) (H : Hp) (C : Addr) (cl : List (Str × Addr)) (fp : List Addr), PTs (X.blk s H scope (compEnvC scope cl C X.env) fp) ifs tt)
    (hb : ∀ (s : Shared) (H : Hp) (C : Addr) (cl : List (Str × Addr)) (fp : List Addr) (D : Addr), PB (X.blk s H scope (compEnvC scope cl C X.env) fp) (rest D (compEnvC scope cl C X.env)) ws (tb D)) (sub : ∀ j ∈ ws, j ∈ own.map (·.2))
    (h : tLcN wi g tt (own.map (·.2)) tb σ H Q)
    (hR : ∀ D C s' m H', Inv X pins σ H' s' → Q (.ref D) H' → s'.heap.Ns C m → FpOk X pins H' C → compPost (model X.prog X.w) X.A X.xe use Qf (.ref D) C (.ok .next) s') :
    wpAny (model X.prog X.w) X.A (comprehension (.ListComp elt (⟨tg, iter, ifs, 0⟩ :: rs) scope pos) scope X.env pos' (newList []) false (eval iter X.env) use) Qf X.xe s := by
  have hfr : ∀ y ∈ scope.names, y.2 = .free → ∃ c, X.env.cells.lookup y.1 = some c := fun y hy e =>
    I.ok.has _ (ok.free y hy e)
  refine wpAny_comprehension_free (use := use) rfl hs (closure_ok hfr) ok.kind (fun y hy e => (ok.uniq y hy).trans (congrArg some e))
    (thn (hi.run pins s σ H _ I h) fun xv s1 h1 => thn h1 fun itv s2 ⟨it, fp, tn, J, H2, e, I2, T, st2, f2, q⟩ => ?_)
  subst e
  refine wpAny_newObj_type (newEnv_comp ?_) (Nat.zero_le _)
  have hfree : H2 s2.heap.objs.size = none := I2.hok.fresh (Nat.le_refl _)
  obtain ⟨W, ⟨m0, w0⟩, step⟩ := q _ hfree
  have small : ∀ b ∈ fp, b < s2.heap.objs.size := fun b hb => let ⟨_, e, _⟩ := T.obj _ _ st2 b hb; Heap.lt_size e
  have I3 : Inv X pins σ (upd H2 s2.heap.objs.size (.lst [])) { s2 with heap := s2.heap.push { cls := .type "list", data := .seq ([] : List Value).toArray } } :=
    I2.laid (t' := s2.toks) (fun _ _ e => Heap.get?_push_of_some _ e) (Nat.le_refl _) ⟨Nat.zero_le _, [], 0, .nil, Heap.get?_push_size _ rfl⟩
  refine block_run (T := T) (tb := tb s2.heap.objs.size) (rest := rest s2.heap.objs.size) hc hN I3 ok (fun it env => ht it _ env) hg hp (fun s H C cl fp => hb s H C cl fp _) sub (T.keep _ _ _ st2 fun _ _ _ e => Heap.get?_push_of_some _ e)
    (fun b hb => ⟨⟨(upd_ne (Nat.ne_of_lt (small b hb))).trans (f2 b hb).1, (f2 b hb).2⟩, ?_⟩) w0 step (fun s' m H' I' q hn f => hR _ _ s' m H' I' q hn f)
  show b < (s2.heap.push _).objs.size
  rw [Heap.size_push]
  exact Nat.lt_succ_of_lt (small b hb)

/-- the rule, as a value -/
theorem pe_lcN {tg iter : Expr} {rs : List Comprehension} {scope : Scope} {own : List (Str × Nat)} {pos : Pos} {wi : TI} {tb : Addr → TB} {rest : Addr → Env → Code → Sem Fin}
    (hc : X.calm = true) (hN : X.N.Nodup) (hi : PI X tg iter wi) (ok : BlkOk X.N X.env.scope scope own)
    (ht : ∀ it D env, compTurn (.ListComp elt (⟨tg, iter, ifs, 0⟩ :: rs) scope pos) 0 it (.ref D) env = turnC tg iter ifs it env (rest D env (.compLoop (.ListComp elt (⟨tg, iter, ifs, 0⟩ :: rs) scope pos) 0 it (.ref D) env)) (.compLoop (.ListComp elt (⟨tg, iter, ifs, 0⟩ :: rs) scope pos) 0 it (.ref D) env))
    (hg : ∀ (s : Shared) (H : Hp) (C : Addr) (cl : List (Str × Addr)) (fp : List Addr), PG (X.blk s H scope (compEnvC scope cl C X.env) fp) tg g)
    (hp : ∀ (s : Shared) (H : Hp) (C : Addr) (cl : List (Str × Addr)) (fp : List Addr), PTs (X.blk s H scope (compEnvC scope cl C X.env) fp) ifs tt)
    (hb : ∀ (s : Shared) (H : Hp) (C : Addr) (cl : List (Str × Addr)) (fp : List Addr) (D : Addr), PB (X.blk s H scope (compEnvC scope cl C X.env) fp) (rest D (compEnvC scope cl C X.env)) ws (tb D)) (sub : ∀ j ∈ ws, j ∈ own.map (·.2))
    (hs : ∀ x, foldedSetIterable iter X.env x = pure x := by intro _; rfl) :
    PE X (.ListComp elt (⟨tg, iter, ifs, 0⟩ :: rs) scope pos) (tLcN wi g tt (own.map (·.2)) tb) := by
  refine ⟨fun pins s σ H Q I h => ?_⟩
  rw [eval_ListComp]
  refine lcN_core hc hN I hi ok hs ht hg hp hb sub h fun D C s' m H' I' q hn f => ⟨m, hn, fun h2 same => ?_⟩
  exact ⟨.ref D, H', I'.turned (t' := s'.toks) (fun b o hb e => (same.2 b hb).trans e) f.1 f.2.1 f.2.2.2.1 f.2.2.2.2.1 f.2.2.2.2.2, rfl, q⟩
/-- y = [..] on one row, y a local in the slot k -/
theorem ps_setLcN {k : Nat} {y : Str} {py : Pos} {tg iter : Expr} {rs : List Comprehension} {scope : Scope} {own : List (Str × Nat)} {pos spos : Pos} {wi : TI} {tb : Addr → TB} {rest : Addr → Env → Code → Sem Fin}
    (hc : X.calm = true) (hN : X.N.Nodup) (hy : X.N[k]? = some y) (hl : X.env.scope.names.lookup y = some .local)
    (hw : swapsWith (.ListComp elt (⟨tg, iter, ifs, 0⟩ :: rs) scope pos) (some (.Name y py)) spos.line X.env = pure true) (hi : PI X tg iter wi) (ok : BlkOk X.N X.env.scope scope own)
    (ht : ∀ it D env, compTurn (.ListComp elt (⟨tg, iter, ifs, 0⟩ :: rs) scope pos) 0 it (.ref D) env = turnC tg iter ifs it env (rest D env (.compLoop (.ListComp elt (⟨tg, iter, ifs, 0⟩ :: rs) scope pos) 0 it (.ref D) env)) (.compLoop (.ListComp elt (⟨tg, iter, ifs, 0⟩ :: rs) scope pos) 0 it (.ref D) env))
    (hg : ∀ (s : Shared) (H : Hp) (C : Addr) (cl : List (Str × Addr)) (fp : List Addr), PG (X.blk s H scope (compEnvC scope cl C X.env) fp) tg g)
    (hp : ∀ (s : Shared) (H : Hp) (C : Addr) (cl : List (Str × Addr)) (fp : List Addr), PTs (X.blk s H scope (compEnvC scope cl C X.env) fp) ifs tt)
    (hb : ∀ (s : Shared) (H : Hp) (C : Addr) (cl : List (Str × Addr)) (fp : List Addr) (D : Addr), PB (X.blk s H scope (compEnvC scope cl C X.env) fp) (rest D (compEnvC scope cl C X.env)) ws (tb D)) (sub : ∀ j ∈ ws, j ∈ own.map (·.2))
    (hs : ∀ x, foldedSetIterable iter X.env x = pure x := by intro _; rfl) :
    PS X (.Assign [.Name y py] (.ListComp elt (⟨tg, iter, ifs, 0⟩ :: rs) scope pos) spos) (tAsg (tLcN wi g tt (own.map (·.2)) tb) (gName k)) := by
  refine ⟨fun pins s σ H D I h => ?_⟩
  rw [exec_Assign_Name_used _ _ _ _ hw]
  refine wpAny_bind (wpAny_standAt (wpAny_bind (wpAny_bind (thn (lcN_core (Qf := fun _ s' => SP X pins D .next s') (Q := fun x H1 => gName k x σ H1 D.nx) hc hN I hi ok hs ht hg hp hb sub h fun L C s' m H' I' q hn f => ?_) fun _ s' hq => wpAny_pure (wpAny_pure hq)))))
  refine wpAny_assign_Name (store_ok2 (v := V.ref L) I' hN hy (.inl hl) rfl (fun s2 I2 ⟨a, same, ha⟩ => ?_) (.inr hl))
  have apart : C ≠ a := ha.elim (fun z => z ▸ f.2.1) fun z e => f.2.2.2.2.1 y a z e.symm
  refine ⟨m, hn.sameBut same apart, fun h3 same3 => ?_⟩
  exact ⟨_, H', I2.turned (t' := s2.toks) (fun b o hb e => (same3.2 b hb).trans e) f.1 f.2.1 f.2.2.2.1 f.2.2.2.2.1 f.2.2.2.2.2, q⟩
end
end L2.Px

/-! Rules beside the hand layer: sorted of a tuple, enumerate of a tuple, repr of data. -/
namespace L2.Px
open PySem PySem.Spec PyProof.Rows

/-- the context one call of a built-in deeper -/
abbrev up1 (X : Cx) : Cx := { X with A := X.A.in1 }
theorem ok_up1 {X : Cx} (o : X.Ok) : (up1 X).Ok := ⟨o.mod, o.kind, o.glob, o.blt, o.above, o.inj, o.has, o.cab, o.hd, o.frames, o.stk, o.exf, o.bs, o.bsz, o.noex, o.exfs, o.funs, o.frf⟩
theorem inv_up1 {X : Cx} {pins : List (Addr × Obj)} {σ : St} {H : Hp} {s : Shared} (I : Inv X pins σ H s) : Inv (up1 X) pins σ H s := ⟨ok_up1 I.ok, I.os, I.bare, I.base, I.loc, I.cell, I.free, I.freeC, I.pin, I.hok, I.len⟩
theorem ok_dn1 {X : Cx} (o : (up1 X).Ok) : X.Ok := ⟨o.mod, o.kind, o.glob, o.blt, o.above, o.inj, o.has, o.cab, o.hd, o.frames, o.stk, o.exf, o.bs, o.bsz, o.noex, o.exfs, o.funs, o.frf⟩
theorem inv_dn1 {X : Cx} {pins : List (Addr × Obj)} {σ : St} {H : Hp} {s : Shared} (I : Inv (up1 X) pins σ H s) : Inv X pins σ H s := ⟨ok_dn1 I.ok, I.os, I.bare, I.base, I.loc, I.cell, I.free, I.freeC, I.pin, I.hok, I.len⟩
section
variable {X : Cx}
/-- sorted(t), t a tuple of ints: a new list -/
def rSortedTI (K : PySem.W.Frag) : List V → Hp → VK → Prop := fun vs H Q => ∃ (a : Addr) (ns : List Int), vs = [V.ref a] ∧ (SqL K H a (ns.map V.int) ∨ SqT K H a (ns.map V.int)) ∧
  ∀ (ms : List Int) (p : Addr), ms.Perm ns → ms.Pairwise (· ≤ ·) → H p = none → Q (.ref p) (upd H p (.lst (ms.map V.int)))
theorem cr_sortedTI : CallR X (.builtin "sorted") (rSortedTI X.K) := by
  intro pins s σ H vs us Q I r h
  obtain ⟨a, ns, rfl, hq, q⟩ := h
  have go : ∀ (T : String) (o : Obj) (its : List Value) (n : Nat), T = "list" ∨ T = "tuple" → Vals (ns.map V.int) its → (ns.map V.int).length ≤ sizeLine → s.heap.get? a = some o → o.cls = .type T → o.data = .seq its.toArray n →
      wpAny (model X.prog X.w) X.A (call (.builtin "sorted") us) (EP X pins σ Q) X.xe s := by
    intro T o its n hT rv hz ho hc hd
    have hi : its.length ≤ sizeLine := rv.length ▸ hz
    rw [Vals.ref1 r]
    refine Calls.call_function_entry kind_sorted plain_sorted entry_sorted (args_sorted1 _) ?_
    unfold Builtin.«sorted»
    refine wpAny_bind (m := checkCount "sorted" 1 1 _) (wpAny_pure (wpAny_bind (wpAny_collect_seq a hT ho hc hd (fun h1 kp => ?_) (by rw [List.size_toArray]; exact hi))))
    refine wpAny_bind (wpAny_newList ?_ hi)
    have I1 : Inv X pins σ H { s with heap := h1 } := I.kept (t' := s.toks) kp
    have hn : H h1.objs.size = none := I1.hok.fresh (Nat.le_refl _)
    have I2 : Inv X pins σ (upd H h1.objs.size (.lst (ns.map V.int))) { s with heap := h1.push { cls := .type "list", data := .seq its.toArray } } :=
      I1.laid (t' := s.toks) (fun _ _ e => Heap.get?_push_of_some _ e) (Nat.le_refl _) ⟨hz, its, 0, rv, Heap.get?_push_size _ rfl⟩
    have srt := mt_sortI (X := up1 X) pins { s with heap := h1.push { cls := .type "list", data := .seq its.toArray } } σ _ (.ref h1.objs.size) [] (.ref h1.objs.size) [] (fun v H' => v = .non ∧ ∃ ms : List Int, ms.Perm ns ∧ ms.Pairwise (· ≤ ·) ∧ H' = upd H h1.objs.size (.lst (ms.map V.int))) (inv_up1 I2) rfl .nil
      ⟨h1.objs.size, ns, rfl, rfl, upd_same, fun ms hp hs => ⟨rfl, ms, hp, hs, upd_upd⟩⟩
    refine wpAny_bind (wpAny_holding (thn srt fun v s3 ⟨x, H3, I3, rx, ex, ms, hp, hs, e3⟩ => ?_))
    subst e3
    exact wpAny_pure ⟨_, rfl, .ref h1.objs.size, _, inv_dn1 I3, rfl, q ms _ hp hs hn⟩
  rcases hq with hq | hq
  · obtain ⟨its, rv, pl, hz⟩ := I.list hq
    obtain ⟨o, ho, hc, n, hd⟩ := pl.isList
    exact go _ o its n (.inl rfl) rv hz ho hc hd
  · obtain ⟨its, rv, pl, hz⟩ := I.tuple hq
    obtain ⟨o, ho, hc, n, hd⟩ := pl
    exact go _ o its n (.inr rfl) rv hz ho hc hd

/-- repr(x) of data, where no repr runs -/
def rReprD (K : PySem.W.Frag) : List V → Hp → VK → Prop := fun vs H Q => ∃ (x : V) (d : PyData), vs = [x] ∧ Dp K H x d ∧ d.showable = true ∧ d.hasDict = false ∧ d.depth ≤ 60 ∧ d.shown.length ≤ sizeLine ∧ Q (.str d.shown) H
theorem cr_reprD (hg : X.A.guards = some []) (hu : X.A.units + 64 < cLine) : CallR X (.builtin "repr") (rReprD X.K) := by
  intro pins s σ H vs us Q I r h
  obtain ⟨x, d, rfl, hd, hs, hnd, hdp, hz, q⟩ := h
  cases r with
  | cons rx rr =>
    cases rr
    have hd0 := hd
    cases hd with
    | non =>
      cases rx
      exact PySem.P.repr_of_none ⟨.str ("None" : Str), H, I.tok _, ⟨_, rfl⟩, q⟩
    | bl b =>
      cases rx
      exact PySem.P.repr_of_bool ⟨.str (if b then ("True" : Str) else ("False" : Str)), H, I.tok _, ⟨_, by cases b <;> rfl⟩, by cases b <;> exact q⟩
    | int i =>
      obtain ⟨t, rfl⟩ := rx
      exact PySem.P.repr_of_int (of_decide_eq_true (by simpa [PyData.showable] using hs)) ⟨.str (toString i : String), H, I.tok _, ⟨_, rfl⟩, q⟩
    | str x =>
      obtain ⟨t, rfl⟩ := rx
      exact PySem.P.repr_of_str ⟨.str (reprText x), H, I.tok _, ⟨_, rfl⟩, q⟩ hz
    | lst hq ha =>
      cases rx
      obtain ⟨as, rd⟩ := Dp.reads I _ _ _ hd0 rfl
      exact repr_of_reads' rd hs (fun z => by rw [hnd] at z; cases z) hg (by omega) (fun _ _ e => e) (fun h' u tk kp => ⟨.str _, H, I.kept (t' := tk) kp, ⟨_, rfl⟩, q⟩) hz
    | tup hq ha =>
      cases rx
      obtain ⟨as, rd⟩ := Dp.reads I _ _ _ hd0 rfl
      exact repr_of_reads' rd hs (fun z => by rw [hnd] at z; cases z) hg (by omega) (fun _ _ e => e) (fun h' u tk kp => ⟨.str _, H, I.kept (t' := tk) kp, ⟨_, rfl⟩, q⟩) hz

/-! ### enumerate(t), t a tuple -/
theorem meets_enum_newT (t : Addr) (items : Array Value) :
    Meets (Builtin.«enumerate.__new__» ⟨[.type "enumerate", .ref t], []⟩) (fun _ R s => s.heap.IsTuple t items ∧
      R (.ok (.ret (.ref (s.heap.push { cls := .type "tuple_iterator", data := .fields #[.ref t, .int 0 0] }).objs.size)))
        { s with heap := (s.heap.push { cls := .type "tuple_iterator", data := .fields #[.ref t, .int 0 0] }).push { cls := .type "enumerate", data := .fields #[.none, .bool false, .ref s.heap.objs.size, rawInt 0, .none, .none] } }) :=
  .of_wp fun prog w A R s h => by
    obtain ⟨hp, g, d, tk, os⟩ := s
    obtain ⟨hl, h⟩ := h
    have hsub := sub_enumerate
    have hL : Heap.IsTuple (Shared.heap ⟨hp, g, d, tk, os⟩) t items := hl
    wp_walk
    refine wpAny_stack_any fun st => wpAny_pure ?_
    split
    · rename_i c _ _ _ _ _
      cases (c == Value.type "enumerate")
      all_goals
        wp_walk using wpAny_pyIter_tuple hL
        exact ⟨_, rfl, h⟩
    · wp_walk using wpAny_pyIter_tuple hL
      exact ⟨_, rfl, h⟩

theorem call_enumT {prog : Program} {w : World} {A : Around} {E : Value → Shared → Prop} {s : Shared} {t : Addr} {items : Array Value} {Q : Value → Shared → Prop} (ht : s.heap.IsTuple t items)
    (h : ∀ h', IsEnum h' (s.heap.objs.size + 1) s.heap.objs.size 0 .none → h'.IsTupleIter s.heap.objs.size t 0 →
      (∀ b o, s.heap.get? b = some o → h'.get? b = some o) → Q (.ref (s.heap.objs.size + 1)) { s with heap := h' }) : wpAny (model prog w) A (call (.type "enumerate") [.ref t]) Q E s := by
  refine callType_new F.called_enumerate (by decide) (F.typeCall_enumerate_1 _) (F.newCall_enumerate_1 _) (fun obj => F.args_object_init_2 obj _) F.entry_enumerate_new (meets_enum_newT t items) ⟨ht, ?_⟩
  have z : (s.heap.push { cls := .type "tuple_iterator", data := .fields #[.ref t, .int 0 0] }).objs.size = s.heap.objs.size + 1 := Heap.size_push ..
  have e2 := Heap.get?_push_size (s.heap.push { cls := .type "tuple_iterator", data := .fields #[.ref t, .int 0 0] }) (o := { cls := .type "enumerate", data := .fields #[.none, .bool false, .ref s.heap.objs.size, rawInt 0, .none, .none] }) rfl
  rw [z] at e2
  show _ ∧ _
  rw [z]
  exact ⟨⟨_, e2, rfl⟩, h _ e2 ⟨_, Heap.get?_push_of_some _ (Heap.get?_push_size _ rfl), rfl, rfl⟩ fun b o x => Heap.get?_push_of_some _ (Heap.get?_push_of_some _ x)⟩

/-- the pairs (i, item i) of the tuple at a, each a new tuple -/
def Itet (K : PySem.W.Frag) (a : Addr) : It :=
  ⟨fun i H => ∃ (xs : List V) (x : V), SqT K H a xs ∧ xs[i]? = some x, fun i H v H' => ∃ T x, v = .ref T ∧ H T = none ∧ H' = upd H T (.tup [.int (i : Nat), x]) ∧ ∀ xs, SqT K H a xs → xs[i]? = some x,
    fun i H => ∃ xs : List V, SqT K H a xs ∧ xs.length = i⟩
theorem turn_enumT {P : Program} {w : World} {K : PySem.W.Frag} {elts : List Expr} {kk : Nat} {tpos : Pos} (a e it : Addr) :
    Turn P w K (.Tuple elts kk tpos) (Itet K a) [e, it] e (fun i h => (∃ old, IsEnum h e it ((i : Nat) : Int) old) ∧ h.IsTupleIter it a i ∧ e ≠ it) where
  mem := List.mem_cons_self
  obj := fun i h ⟨⟨old, he⟩, ⟨o, ho, hc, hd⟩, _⟩ b hb => by
    rcases List.mem_cons.mp hb with z | z
    · subst z
      exact ⟨_, he, fun v q => nomatch q⟩
    · obtain rfl := List.mem_singleton.mp z
      exact ⟨o, ho, fun v q => by rw [hd] at q; cases q⟩
  keep := fun i h h' ⟨⟨old, he⟩, hi, hne⟩ k => ⟨⟨old, k e (by simp) _ he⟩, hi.at fun o q => k it (by simp) o q, hne⟩
  item := by
    intro X hP hw hK hc i pins s σ H E I hf st hg
    subst hP hw hK
    obtain ⟨⟨old, he⟩, hit, hne⟩ := st
    obtain ⟨xs, x, hq, hx⟩ := hg
    obtain ⟨its, rv, tp, hz⟩ := I.tuple hq
    obtain ⟨u, hu, ru⟩ := rv.get hx
    have hel : e < s.heap.objs.size := Heap.lt_size he
    have hil : it < s.heap.objs.size := by obtain ⟨_, q, _⟩ := hit; exact Heap.lt_size q
    have nit : a ≠ it := fun z => by
      subst z
      obtain ⟨o1, h1, c1, d1⟩ := hit
      obtain ⟨o2, h2, c2, n2, d2⟩ := tp
      rw [h1] at h2; cases h2
      rw [d1] at d2; cases d2
    have nea : e ≠ a := fun z => by
      subst z
      obtain ⟨o2, h2, c2, n2, d2⟩ := tp
      have he' : s.heap.get? e = _ := he
      rw [he'] at h2; cases h2; cases d2
    refine wpAny_pyNext_enum_itemD (Draws.tuple (A := X.A.in1) (I.ok.hd hc) it a nit its.toArray) he ⟨hit, tp⟩ (by rw [List.size_toArray, ← rv.length]; exact (List.getElem?_eq_some_iff.mp hx).1) hne (by simp [hne, nea]) fun y h' tk hy ho st' hT hsz hk => ?_
    have ey : y = u := by
      have : its[i]? = some y := by simpa using hy
      rw [hu] at this
      exact (Option.some.inj this).symm
    subst ey
    refine ⟨_, rfl, wpAny_letOwnedTupleGo_enum (s := { s with heap := h', toks := tk + 1 }) ho fun h2 he2 same => ?_⟩
    have hT2 : h2.get? s.heap.objs.size = some { cls := .type "tuple", data := .seq #[.int i tk, y] } := (same.2 _ (Nat.ne_of_gt hel)).trans hT
    have new : ObjOk X.prog X.w (upd H s.heap.objs.size (.tup [.int (i : Nat), x])) h2 s.heap.objs.size (.tup [.int (i : Nat), x]) :=
      ⟨(by decide : 2 ≤ sizeLine), [.int i tk, y], .cons ⟨_, rfl⟩ (.cons ru .nil), ⟨_, hT2, rfl, _, rfl⟩⟩
    have I1 := I.turnedNew (t' := tk + 1) (ch := [e, it]) (fun b ob hb q => by
      have hb1 : b ≠ e := fun z => hb (by simp [z])
      have hb2 : b ≠ it := fun z => hb (by simp [z])
      exact (same.2 b hb1).trans (hk b ob hb1 hb2 q)) hf (Nat.le_refl _) new
    refine ⟨.ref s.heap.objs.size, _, I1, rfl, ⟨_, x, rfl, I.hok.fresh (Nat.le_refl _), rfl, fun ys hy => by rw [I.tuple_inj hy hq]; exact hx⟩, ⟨⟨y, ?_⟩, st'.1.at fun o q => (same.2 it (Ne.symm hne)).trans q, hne⟩, fun b hb => ?_⟩
    · rw [show ((i + 1 : Nat) : Int) = (i : Int) + 1 by omega]
      exact he2
    · have small : b < s.heap.objs.size := by
        rcases List.mem_cons.mp hb with z | z
        · rw [z]; exact hel
        · rw [List.mem_singleton.mp z]; exact hil
      exact (upd_ne (Nat.ne_of_lt small)).trans (hf b hb).1
  done := by
    intro X hP hw hK hc i pins s σ H E I hf st hg
    subst hP hw hK
    obtain ⟨⟨old, he⟩, hit, hne⟩ := st
    obtain ⟨xs, hq, hx⟩ := hg
    obtain ⟨its, rv, tp, hz⟩ := I.tuple hq
    obtain ⟨f0, f1, f2, f3, f4, f5⟩ := hf it (by simp)
    have nit : a ≠ it := fun z => by
      subst z
      obtain ⟨o1, h1, c1, d1⟩ := hit
      obtain ⟨o2, h2, c2, n2, d2⟩ := tp
      rw [h1] at h2; cases h2
      rw [d1] at d2; cases d2
    have ei : its.toArray.size = i := by rw [List.size_toArray, ← rv.length]; exact hx
    rw [← ei] at hit
    refine wpAny_pyNext_enum_endD (Draws.tuple (A := X.A.in1) (I.ok.hd hc) it a nit its.toArray) he ⟨hit, tp⟩ fun h' eb => ?_
    exact ⟨rfl, I.turned (t' := s.toks) (fun b o hb q => eb b o hb q) f0 f1 f3 f4 f5⟩
  self := fun A i s Q E ⟨⟨_, he⟩, _⟩ h => wpAny_pyIter_enum he h

def iEnumT (K : PySem.W.Frag) (ta : TA) : TI := fun σ H R => ta σ H fun vs H1 => ∃ a xs, vs = [.ref a] ∧ SqT K H1 a xs ∧ R (Itet K a) H1
theorem pi_enumT {e : Expr} {ta : TA} {p pos tpos : Pos} {elts : List Expr} {kk : Nat} (hg : Gl X "enumerate") (hm : X.mg "enumerate" = none) (ha : PA X [e] ta) (hs : starEach [e] X.env = [(false, eval e X.env)] := by rfl) :
    PI X (.Tuple elts kk tpos) (.Call (.Name "enumerate" p) [e] [] pos) (iEnumT X.K ta) := by
  refine ⟨fun pins s σ H R I h => ?_⟩
  refine Call_ (ld_blt I hg hm boot_enumerate (PyProof.Rows.callWith_type1 (thn (ha.run pos pins s σ H _ I h) fun us s1 ⟨vs, H1, I1, r1, a, xs, ex, hq, q⟩ => ?_) hs rfl))
  subst ex
  rw [Vals.ref1 r1]
  obtain ⟨its, rv, tp, hz⟩ := I1.tuple hq
  refine call_enumT tp fun h' he hit hk => wpAny_pyIter_enum he ?_
  refine ⟨s1.heap.objs.size + 1, [s1.heap.objs.size + 1, s1.heap.objs.size], _, _, H1, rfl, I1.kept (t' := s1.toks) hk, turn_enumT a (s1.heap.objs.size + 1) s1.heap.objs.size, ⟨⟨.none, he⟩, hit, Nat.succ_ne_self _⟩, fun b hb => ?_, q⟩
  have big : s1.heap.objs.size ≤ b := by
    rcases List.mem_cons.mp hb with z | z
    · rw [z]; exact Nat.le_succ _
    · rw [List.mem_singleton.mp z]; exact Nat.le_refl _
  exact I1.fpOk big (I1.hok.fresh big)

theorem walk_enumT {K : PySem.W.Frag} {a : Addr} {xs : List V} : Walk (Itet K a) xs.length (fun H => SqT K H a xs) (YPair (fun i => some (.int (i : Nat))) (fun i => xs[i]?)) :=
  ⟨fun i H hi h => ⟨xs, xs[i], h, by simp [hi]⟩, fun H h => ⟨xs, h, rfl⟩, fun i H x H' hi h ⟨T, y, e, hT, e2, hy⟩ => ⟨T, _, y, e, hT, e2, rfl, hy xs h⟩⟩

/-- a clause's turns by an invariant -/
theorem cl_it {J : It} {n : Nat} {G : Hp → Prop} {Y : Nat → Hp → V → Hp → Prop} (w : Walk J n G Y) {g : TG} {tt : TT} {vs : List Nat} {tb : TB} {σ : St} {H1 : Hp} {Nx0 : Hp → Prop} (Pv : Nat → Hp → Prop) (h0 : Pv 0 H1) (hG : ∀ i H, i ≤ n → Pv i H → G H)
    (hs : ∀ i x H H', i < n → Pv i H → Y i H x H' → g x (wipe σ vs) H' fun σ2 H2 => wipe σ2 vs = wipe σ vs ∧ tt σ2 H2 fun b H3 => if b = true then tb σ2 H3 (Pv (i + 1)) else Pv (i + 1) H3) (hd : ∀ H, Pv n H → Nx0 H) :
    ∃ W : Nat → Nat → Hp → Prop, (∃ m, W 0 m H1) ∧ ClStep J g tt vs tb σ W Nx0 := by
  refine ⟨fun i m H => m = n - i ∧ i ≤ n ∧ Pv i H, ⟨n, rfl, Nat.zero_le _, h0⟩, fun i m H hw => ?_⟩
  obtain ⟨rfl, hi, p⟩ := hw
  rcases Nat.lt_or_eq_of_le hi with lt | e
  · refine .inr ⟨w.goes i H lt (hG i H hi p), Pv (i + 1), fun H' p' => ⟨n - (i + 1), by omega, rfl, lt, p'⟩, fun x H' y => hs i x H H' lt p (w.yields i H x H' lt (hG i H hi p) y)⟩
  · subst e
    exact .inl ⟨w.stops H (hG i H hi p), hd H p⟩
end
end L2.Px

/-! The law's own def, entered where no repr runs: its promise knows that. -/
namespace L2.Px
open PySem PySem.Spec PyProof.Rows

/-- the promise of a def that is entered where no repr runs -/
structure GFn (P : Program) (w : World) (K : PySem.W.Frag) (mg : Str → Option Value) (base : Heap) (k : Nat) (f : Addr) (fd : FuncData) (ps : List Str) (sp : Sp) : Prop where
  run : ∀ (A : Around) (outer : List Env) (s : Shared) (H : Hp) (args : Args) (us : List Value) (vs : List V) (Q : VK) (E : XK), A.guards = some [] → Room k A → Env0 P w K mg base A outer s H → BindsTo s fd args (ps.zip us) → Vals vs us → sp vs H Q E →
    codeAny (model P w) A (.call (.ref f) args) (CR CX0 outer P w H s Q E) s

theorem gfn_of {P : Program} {w : World} {K : PySem.W.Frag} {mg : Str → Option Value} {base : Heap} {k : Nat} {f : Addr} {x qual : Str} {st : Stmt} {fd : FuncData} {N ps : List Str} {sp : Sp} (F : Fun K x qual st f fd) (S : FnScope N ps (defScope st))
    (len : ∀ vs H Q E, sp vs H Q E → vs.length = ps.length)
    (body : ∀ (cdv : Value) (A : Around) (outer : List Env) (s : Shared) (H : Hp) (vs : List V) (Q : VK) (E : XK), A.guards = some [] → Room k (A.deeper (envOfC qual (defScope st) s.heap.objs.size f cdv)) → sp vs H Q E →
      ∃ t, PSs (cxOf CX0 P w K mg base N qual (defScope st) f cdv A outer s H E).nox (defBody st) t ∧ t { nx := fun _ H' => Q .non H', rt := Q } (start N vs) H) :
    GFn P w K mg base (k + 1) f fd ps sp := by
  obtain ⟨oc, od, kV, doc, pm, an, cdv, ct, osl, rfl, lk, hcd⟩ := F.ex
  refine ⟨fun A outer s H args us vs Q E hg hr e0 hb r q => ?_⟩
  have KX : K.In s.heap := e0.mod.kin.keeps fun b o e => (e0.bs b o e).1
  have lim := e0.mod.nolimit.keeps fun b o e => (e0.bs b o e).1
  refine codeAny_call_function hr.depth (KX _ _ lk) rfl S.co S.gen rfl (PySem.W.codeRec_of KX hcd) (hb _ _ _ _ (wpAny_newFunctionEnv_cells S.kind (fun y hy => ?_) fun env he s1 x => ?_))
  · rcases S.par y.1 (List.of_mem_zip (show (y.1, y.2) ∈ ps.zip us from hy)).1 with z | z
    · exact .inl z
    · exact .inr ⟨z, PySem.W.cellsFrom_some _ _ _ (.inl z)⟩
  · subst he
    refine ⟨lim.keeps x.toInCall.keep, codeAny_func ?_⟩
    obtain ⟨t, pt, tt⟩ := body cdv A outer s H vs Q E hg (hr.deeper _) q
    refine wpAny_mono (pt.nox.run [] s1 (start N vs) H _ (inv_start S hr.hd e0 (len _ _ _ _ q) r x) tt) (fun fl s' h => ?_) fun e s' h => h
    cases fl with
    | ret u => exact let ⟨v, _, H', J, rv, q'⟩ := h; ⟨v, H', J.os, J.bare, J.base, J.hok, rv, q'⟩
    | next => exact let ⟨_, H', J, q'⟩ := h; ⟨.non, H', J.os, J.bare, J.base, J.hok, rfl, q'⟩
    | brk => exact let ⟨_, _, _, q'⟩ := h; q'.elim
    | cont => exact let ⟨_, _, _, q'⟩ := h; q'.elim

/-- the heap that tracks the script alone, if it is not written -/
def scriptH (a : Addr) (o : Obj) (xs : List V) : Hp := fun b => if b = a then some (.frz o (.lst xs)) else none

theorem law_callG {P : Program} {w : World} {K : PySem.W.Frag} {mg mb : Str → Option Value} {k : Nat} {fa a : Addr} {fd : FuncData} {x : Str} {sp : Sp} {s : Shared} {vs : List Value} {ns : List Int}
    (KX : K.In s.heap) (hns : s.heap.Ns mainGlobals mg) (hb : s.heap.Ns builtinsNs mb) (hbb : ∀ x : Str, x ≠ "__name__" → mb x = bootBuiltins x) (hlim : s.heap.NoLimit) (hg : s.gens = #[])
    (ha : s.heap.get? a = some { cls := .type "list", data := .seq vs.toArray }) (hi : IntsAre vs ns) (hl : ns.length ≤ sizeLine) (hr : Room k callerA)
    (F : ∀ base : Heap, K.In base → base.Ns mainGlobals mg → GFn P w K mg base k fa fd [x] sp) (hbind : ∀ (s : Shared) (u : Value), BindsTo s fd ⟨[u], []⟩ [(x, u)])
    (hsp : ∀ H : Hp, SqL K H a (ns.map V.int) → sp [.ref a] H (fun v _ => v = .bl true) fun _ _ _ => False) :
    codeAny (model P w) callerA (.call (.ref fa) ⟨[.ref a], []⟩) (fun r s' => r = .ok (.ret (.bool true)) ∧ OldK s.heap s'.heap ∧ s'.os = s.os ∧ AllBare s'.gens) s := by
  have rv := vals_ints hi
  -- the tracked heap: what it needs
  suffices core : ∀ H : Hp, (∀ b u, H b = some u → b = a ∧ K.lookup a = none ∧ ∃ o xs, u = .frz o (.lst xs)) → SqL K H a (ns.map V.int) → HOk P w H s.heap →
      codeAny (model P w) callerA (.call (.ref fa) ⟨[.ref a], []⟩) (fun r s' => r = .ok (.ret (.bool true)) ∧ OldK s.heap s'.heap ∧ s'.os = s.os ∧ AllBare s'.gens) s by
    cases hk : K.lookup a with
    | some o =>
      have e := KX a o hk
      rw [ha] at e
      cases e
      exact core (fun _ => none) (fun b u z => by cases z) (.inr ⟨_, vs.toArray, _, hk, rfl, rfl, rfl, by rw [List.size_toArray, hi.length]; exact hl, by simpa using rv⟩) fun b u z => by cases z
    | none =>
      refine core (scriptH a { cls := .type "list", data := .seq vs.toArray } (ns.map V.int)) (fun b u z => ?_) (.inl (.inr ⟨_, if_pos rfl⟩)) fun b u z => ?_
      · unfold scriptH at z
        split at z
        · cases z
          rename_i e
          exact ⟨e, hk, _, _, rfl⟩
        · cases z
      · unfold scriptH at z
        split at z
        · cases z
          rename_i e
          subst e
          exact ⟨ha, by rw [List.length_map]; exact hl, vs, _, rv, ha⟩
        · cases z
  intro H hH hS hok
  have old : ∀ {b : Addr} {o : Obj}, s.heap.get? b = some o → (b = a → K.lookup a ≠ none) → H b = none := fun {b o} e n => by
    cases q : H b with
    | none => rfl
    | some u =>
      obtain ⟨e1, e2, _⟩ := hH b u q
      exact absurd e2 (n e1)
  have dict : ∀ {b : Addr} {o : Obj} {es : Array DictEntry} {ep : Nat}, s.heap.get? b = some o → o.data = .dict es ep → (hidT s.heap H).get? b = some o := fun {b o es ep} e d => by
    refine hidT_get e ?_
    cases q : H b with
    | none => rfl
    | some u =>
      obtain ⟨rfl, _, _⟩ := hH b u q
      rw [ha] at e
      cases e
      cases d
  have ns' : ∀ {b : Addr} {m : Str → Option Value}, s.heap.Ns b m → (hidT s.heap H).Ns b m := fun ⟨o, es, ep, e, d, r⟩ => ⟨o, es, ep, dict e d, d, r⟩
  have kin : K.In (hidT s.heap H) := fun b o e => hidT_get (KX b o e) (old (KX b o e) fun z n => by rw [z, n] at e; cases e)
  have e0 : Env0 P w K mg (hidT s.heap H) callerA [] s H := ⟨rfl, ⟨kin, ns' hns, ⟨mb, ns' hb, hbb⟩, let ⟨mc, h1, h2⟩ := hlim; ⟨mc, ns' h1, h2⟩⟩, fun b o e => of_hidT e, Nat.le_of_eq (hidT_size _ _), trivial, fun b z => (by cases z), hok, .of_eq hg⟩
  refine codeAny_mono ((F _ kin (ns' hns)).run callerA [] s H ⟨[.ref a], []⟩ [.ref a] [.ref a] _ _ rfl hr e0 (hbind s (.ref a)) (.cons rfl .nil) (hsp H hS)) fun r s' h => ?_
  match r, h with
  | .ok (.ret u), ⟨v, H', os, bare, un, hok', rr, q⟩ =>
    have q : v = .bl true := q
    subst q
    cases rr
    refine ⟨rfl, OldK.of_keep fun b o e => ?_, os, bare⟩
    cases z : H b with
    | none => exact un.keep b o e z (by intro y; cases y) (by simp)
    | some u =>
      obtain ⟨_, _, o2, xs, rfl⟩ := hH b u z
      have h1 := (hok b _ z).1
      have h2 := (hok' b _ (un.frzs b _ _ z)).1
      rw [e] at h1
      cases h1
      exact h2

/-- the goal that k_head leaves, from the law's promise -/
theorem walkG {l : PySem.W.OpenLaw} {n k : Nat} {q : Program} {loose : List Str} {XP : (Str → Option Value) → Heap → Prop} {YP : World → Heap → Prop} {d : DefRec} {K : Params → PySem.W.Frag} {sp : PySem.W.Frag → Sp} {x : Str}
    (hn : l.most = some n) (hn2 : n ≤ sizeLine) (hdf : d.params.defaults = []) (hr : Room k callerA) (hY : ∀ (w : World) (h : Heap), YP w h → (K w.params).In h)
    (F : ∀ (w : World) (mg : Str → Option Value) (fa : Addr) (h : Heap), (K w.params).In h → h.Ns mainGlobals mg → mg d.name = some (.ref fa) →
      ∃ fd : FuncData, (∀ (s : Shared) (u : Value), BindsTo s fd ⟨[u], []⟩ [(x, u)]) ∧ ∀ base : Heap, (K w.params).In base → base.Ns mainGlobals mg → GFn l.prog w (K w.params) mg base k fa fd [x] (sp (K w.params)))
    (hsp : ∀ (K : PySem.W.Frag) (H : Hp) (a : Addr) (ns : List Int), ns.length ≤ n → SqL K H a (ns.map V.int) → sp K [.ref a] H (fun v _ => v = .bl true) fun _ _ _ => False) :
    PySem.W.WalkO q loose XP YP l.row.toRowW d [] (fun f vs => PySem.call f vs) :=
  Att.attach_call hn hdf fun w s₀ s₁ mg mb fa o pm cd doc a vs ns G Y ho hd hcd hmg hobj hints hlen hg =>
    let ⟨_, hb, hF⟩ := F w mg fa _ (hY w _ Y) G.T.g hmg
    law_callG (hY w _ Y) G.T.g G.T.b G.T.builtins G.T.nolimit hg hobj hints (Nat.le_trans hlen hn2) hr hF hb fun H hS => hsp _ H a ns hlen hS
end L2.Px

namespace L2.Px
open PySem PySem.Spec PyProof.Rows
def top (i : Nat) : Stmt := PySem.Challenge.pw_wedgespace_k00_permutations.main.body.getD i (.Pass ⟨0, 0, 0, 0⟩)
abbrev sIsPerm : Stmt := top 6
abbrev sCheck : Stmt := top 7
abbrev sAfter : Stmt := top 8
abbrev sInverse : Stmt := top 9
abbrev sIsOdd : Stmt := top 10
abbrev sAll : Stmt := top 11
abbrev sIndexOf : Stmt := top 12
abbrev sProductOf : Stmt := top 13
abbrev sInverseOf : Stmt := top 14
abbrev sOddSign : Stmt := top 15
abbrev sTaking : Stmt := top 16
/-- an int as a value; a tuple of ints -/
abbrev iV (ns : List Int) : List V := ns.map V.int
abbrev iD (ns : List Int) : List PyData := ns.map PyData.int

/-! ### what is true of data of ints -/
theorem dp_ints {K : PySem.W.Frag} {H : Hp} : ∀ ns : List Int, DpAll K H (iV ns) (iD ns)
  | [] => .nil
  | n :: r => .cons (.int n) (dp_ints r)
theorem lay_ints : ∀ ns : List Int, PyData.canLayAll0 (iD ns) = true
  | [] => rfl
  | n :: r => by
    show (PyData.canLay0 (.int n) && PyData.canLayAll0 (iD r)) = true
    rw [lay_ints r]
    rfl
theorem dep_ints : ∀ ns : List Int, PyData.depthAll (iD ns) = 0
  | [] => rfl
  | n :: r => by
    show max (PyData.depth (.int n)) (PyData.depthAll (iD r)) = 0
    rw [dep_ints r]
    rfl
theorem shaped_li (ns : List Int) : SeqAt.shaped (.list (iD ns)) = true := by
  show (PyData.canLayAll0 (iD ns) && decide (PyData.depthAll (iD ns) + 1 ≤ 64)) = true
  rw [lay_ints, dep_ints]
  rfl
theorem shaped_ti (ns : List Int) : SeqAt.shaped (.tuple (iD ns)) = true := by
  show (PyData.canLayAll0 (iD ns) && decide (PyData.depthAll (iD ns) + 1 ≤ 64)) = true
  rw [lay_ints, dep_ints]
  rfl
theorem _root_.L2.Same.upd {H : Hp} {p : Addr} {o : HO} (h : H p = none) : Same H (upd H p o) := fun b x e => (upd_ne (ne_of_none e h)).trans e
theorem _root_.L2.Same.tup {K : PySem.W.Frag} {H H' : Hp} {a : Addr} {xs : List V} (e : Same H H') (h : SqT K H a xs) : SqT K H' a xs := by
  rcases h with (h | ⟨o, h⟩) | h
  · exact .inl (.inl (e _ _ h))
  · exact .inl (.inr ⟨o, e _ _ h⟩)
  · exact .inr h

/-! ### the mirror -/
/-- is a list of ints a permutation of 0, 1, 2, 3 -/
def isP (ns : List Int) : Bool := ns.isPerm [0, 1, 2, 3]
theorem isP_sorted {ns ms : List Int} (hp : ms.Perm ns) (hs : ms.Pairwise (· ≤ ·)) : decide (ms = [0, 1, 2, 3]) = isP ns := by
  unfold isP
  cases e : ns.isPerm [0, 1, 2, 3] with
  | true => exact decide_eq_true (PySem.W.ksm_same (hp.trans (List.isPerm_iff.mp e)) hs (by decide))
  | false =>
    refine decide_eq_false fun z => ?_
    subst z
    have := List.isPerm_iff.mpr hp.symm
    rw [e] at this
    cases this
section
variable {P : Program} {w : World} {K : PySem.W.Frag} {mg : Str → Option Value} {base : Heap}
/-- an argument that is a tuple of ints -/
def spIsPerm (K : PySem.W.Frag) : Sp := fun vs H Q _ => ∃ (a : Addr) (ns : List Int), vs = [.ref a] ∧ SqT K H a (iV ns) ∧ ∀ H', Same H H' → Q (.bl (isP ns)) H'
theorem scIsPerm : FnScope ["entries"] ["entries"] (defScope sIsPerm) := ⟨rfl, rfl, rfl, by decide +kernel, rfl, by decide +kernel, by decide +kernel⟩
theorem ok_isperm {f : Addr} {fd : FuncData} (F : Fun K "is_permutation" "is_permutation" sIsPerm f fd) (mS : mg "sorted" = none) : FnOk P w K mg base CX0 1 f fd ["entries"] (spIsPerm K) := by
  refine F.ok scIsPerm (fun vs H Q E h => ?_) (fun cdv A outer s H vs Q E hr h => ?_)
  · obtain ⟨a, ns, rfl, _⟩ := h
    rfl
  · obtain ⟨a, ns, rfl, hS, k⟩ := h
    refine ⟨_, pss_one (ps_ret (pe_cmpR (op_eqD hr.units) (pe_callB cr_sortedTI (by rfl) mS (by decide +kernel) (pa_cons (pv 0) pa_nil)) (pe_lst (pa_cons pe_int (pa_cons pe_int (pa_cons pe_int (pa_cons pe_int pa_nil))))) (nomark _))), ?_⟩
    refine ⟨.ref a, rfl, a, ns, rfl, .inr hS, fun ms p hp hs np => ?_⟩
    refine ⟨by show 4 ≤ sizeLine; decide, fun q nq => ?_⟩
    have s1 : Same H (upd H p (.lst (iV ms))) := Same.upd np
    have s2 : Same (upd H p (.lst (iV ms))) (upd (upd H p (.lst (iV ms))) q (.lst (iV [0, 1, 2, 3]))) := Same.upd nq
    refine ⟨.list (iD ms), .list (iD [0, 1, 2, 3]), .lst (.of (s2 _ _ upd_same)) (dp_ints ms), .lst (.of upd_same) (dp_ints [0, 1, 2, 3]), shaped_li _, shaped_li _, ?_⟩
    have e : PyData.eqv (.list (iD ms)) (.list (iD [0, 1, 2, 3])) = isP ns := (PySem.W.ked_eqvAll ms [0, 1, 2, 3]).trans (isP_sorted hp hs)
    rw [e]
    exact k _ (s1.trans s2)

/-- the built-in names that the text leaves alone -/
structure Nm (mg : Str → Option Value) : Prop where
  srt : mg "sorted" = none
  rng : mg "range" = none
  ln : mg "len" = none
  enm : mg "enumerate" = none
  tpl : mg "tuple" = none

/-! ### product_of -/
def prodL (one other : List Int) : List Int := one.map fun i => other.getD i.toNat 0
def spProd (K : PySem.W.Frag) : Sp := fun vs H Q _ => ∃ (a b : Addr) (ns ms : List Int), vs = [.ref a, .ref b] ∧ SqT K H a (iV ns) ∧ SqT K H b (iV ms) ∧ ns.length ≤ 1000 ∧ (∀ n ∈ ns, 0 ≤ n ∧ n < (ms.length : Int)) ∧
  ∀ H' p, Same H H' → H' p = some (.tup (iV (prodL ns ms))) → Q (.ref p) H'
theorem scProd : FnScope ["one", "other", "i"] ["one", "other"] (defScope sProductOf) := ⟨rfl, rfl, rfl, by decide +kernel, rfl, by decide +kernel, by decide +kernel⟩
theorem getD_at {l : List Int} {n : Int} (h0 : 0 ≤ n) (h1 : n < (l.length : Int)) : atI (iV l) n = some (V.int (l.getD n.toNat 0)) := by
  obtain ⟨k, rfl⟩ : ∃ k : Nat, n = (k : Int) := ⟨n.toNat, by omega⟩
  refine atI_nat ?_
  have hk : k < l.length := by omega
  rw [List.getElem?_map, List.getElem?_eq_getElem hk, Int.toNat_natCast, List.getD_eq_getElem?_getD, List.getElem?_eq_getElem hk]
  rfl
theorem iV_get {l : List Int} {i : Nat} {x : V} (h : (iV l)[i]? = some x) : ∃ n, l[i]? = some n ∧ x = .int n := by
  rw [List.getElem?_map] at h
  cases e : l[i]? with
  | none => rw [e] at h; cases h
  | some n => rw [e] at h; exact ⟨n, rfl, (Option.some.inj h).symm⟩
theorem iV_app (a b : List Int) : iV (a ++ b) = iV a ++ iV b := List.map_append
theorem iV_set (a : List Int) (k : Nat) (n : Int) : iV (a.set k n) = (iV a).set k (.int n) := List.map_set
theorem take_snoc {α : Type} {l : List α} {i : Nat} {x : α} (h : l[i]? = some x) : l.take (i + 1) = l.take i ++ [x] := by
  rw [List.take_add_one, h]
  rfl
theorem ok_prod {f : Addr} {fd : FuncData} (F : Fun K "product_of" "product_of" sProductOf f fd) (N : Nm mg) : FnOk P w K mg base CX0 1 f fd ["one", "other"] (spProd K) := by
  refine F.ok scProd (fun vs H Q E h => ?_) (fun cdv A outer s H vs Q E hr h => ?_)
  · obtain ⟨a, b, ns, ms, rfl, _⟩ := h
    rfl
  · obtain ⟨a, b, ns, ms, rfl, hA, hB, hl, hb, k⟩ := h
    refine ⟨_, pss_one (ps_ret (pe_callTy call_tuple_of (by rfl) N.tpl (by decide +kernel) (pa_cons
      (pe_lc (own := [("i", 2)]) (g := gName 2) (tt := tYes) (te := tOp (rIxT K) (tVar 1) (tVar 2)) rfl scProd.nd (pi_tup (pv 0)) (blkOk_by (N := ["one", "other", "i"]) (sc := defScope sProductOf) (by decide +kernel)) (fun _ _ _ _ _ => pg_name (i := 2) scProd.nd rfl (.inl rfl)) (fun _ _ _ _ _ => pts_nil) (fun _ _ _ _ _ => pe_ix ix_tup (pv 1) (pv 2) (fun _ _ => rfl))) pa_nil))), ?_⟩
    refine ⟨.ref a, rfl, a, rfl, ⟨_, hA⟩, fun D hD => lc_tup (K := K) (a := a) (xs := iV ns) (fun i H' => Same H H' ∧ H' D = some (.lst (iV (prodL (ns.take i) ms)))) ⟨Same.upd hD, upd_same⟩ (fun i H' _ h' => h'.1.tup hA) ?_ ?_⟩
    · rintro i x H' hi ⟨sm, hd⟩
      obtain ⟨n, hn, rfl⟩ := iV_get hi
      obtain ⟨h0, h1⟩ := hb n (List.mem_of_getElem? hn)
      refine ⟨rfl, .ref b, rfl, .int n, rfl, b, _, n, _, rfl, rfl, sm.tup hB, getD_at h0 h1, _, hd, ?_, fun c o e => ?_, ?_⟩
      · rw [List.length_map]
        unfold prodL
        rw [List.length_map, List.length_take]
        exact small1000 (by omega)
      · rw [upd_ne (ne_of_none e hD)]
        exact sm c o e
      · rw [upd_same, take_snoc hn]
        unfold prodL
        rw [List.map_append, iV_app]
        rfl
    · rintro H' ⟨sm, hd⟩
      refine ⟨D, _, rfl, .inl ⟨.of hd, fun p hp => k _ p (sm.trans (Same.upd hp)) ?_⟩⟩
      show upd H' p _ p = _
      rw [upd_same]
      simp only [List.length_map, List.take_length]

/-! ### taking -/
def takeL (ns ms : List Int) : Nat → List Int
  | 0 => [0, 0, 0, 0]
  | i + 1 => (takeL ns ms i).set (ns.getD i 0).toNat (ms.getD i 0)
theorem takeL_len (ns ms : List Int) : ∀ i, (takeL ns ms i).length = 4
  | 0 => rfl
  | i + 1 => (List.length_set ..).trans (takeL_len ns ms i)
def spTaking (K : PySem.W.Frag) : Sp := fun vs H Q _ => ∃ (a b : Addr) (ns ms : List Int), vs = [.ref a, .ref b] ∧ SqT K H a (iV ns) ∧ SqT K H b (iV ms) ∧ ns.length ≤ ms.length ∧ (∀ n ∈ ns, 0 ≤ n ∧ n < 4) ∧
  ∀ H' p, Same H H' → H' p = some (.tup (iV (takeL ns ms ns.length))) → Q (.ref p) H'
theorem scTaking : FnScope ["places", "images", "taken", "at", "place"] ["places", "images"] (defScope sTaking) := ⟨rfl, rfl, rfl, by decide +kernel, rfl, by decide +kernel, by decide +kernel⟩
theorem ixN_nat {l k : Nat} (h : k < l) : ixN l (k : Int) = some k := by
  have h2 : atI (List.range l) (k : Int) = some k := atI_nat (by rw [List.getElem?_range h])
  unfold atI at h2
  cases e : ixN l (k : Int) with
  | none => rw [List.length_range, e] at h2; cases h2
  | some j =>
    rw [List.length_range, e] at h2
    have h3 : (List.range l)[j]? = some k := h2
    rw [List.getElem?_range] at h3
    · exact h3
    · exact Nat.lt_of_lt_of_eq (List.getElem?_eq_some_iff.mp h3).1 List.length_range
theorem ok_taking {f : Addr} {fd : FuncData} (F : Fun K "taking" "taking" sTaking f fd) (N : Nm mg) : FnOk P w K mg base CX0 1 f fd ["places", "images"] (spTaking K) := by
  refine F.ok scTaking (fun vs H Q E h => ?_) (fun cdv A outer s H vs Q E hr h => ?_)
  · obtain ⟨a, b, ns, ms, rfl, _⟩ := h
    rfl
  · obtain ⟨a, b, ns, ms, rfl, hA, hB, hl, hb, k⟩ := h
    refine ⟨_, pss_cons (ps_set (i := 2) scTaking.nd rfl (.inl rfl) (pe_lst (pa_cons pe_int (pa_cons pe_int (pa_cons pe_int (pa_cons pe_int pa_nil))))))
      (pss_cons (ps_for PassesOwn.never rfl (pi_enumT (by rfl) N.enm (pa_cons (pv 0) pa_nil)) (pg_tup rfl (pgs_cons (pg_name (i := 3) scTaking.nd rfl (.inl rfl)) (pgs_cons (pg_name (i := 4) scTaking.nd rfl (.inl rfl)) pgs_nil)))
        (pss_one (ps_asg (pe_ix ix_tup (pv 1) (pv 3) (fun _ _ => rfl)) (pg_sub (pv 2) (pv 4) set_list))))
      (pss_one (ps_ret (pe_callTy call_tuple_of (by rfl) N.tpl (by decide +kernel) (pa_cons (pv 2) pa_nil))))), ?_⟩
    refine ⟨by show 4 ≤ sizeLine; decide, fun p hp => ?_⟩
    have s1 : Same H (upd H p (.lst [.int 0, .int 0, .int 0, .int 0])) := Same.upd hp
    refine ⟨.ref a, rfl, a, _, rfl, s1.tup hA, for_it walk_enumT (fun i σ H' => ∃ y3 y4, σ = [some (.ref a), some (.ref b), some (.ref p), y3, y4] ∧ Same H H' ∧ H' p = some (.lst (iV (takeL ns ms i)))) ⟨none, none, rfl, s1, upd_same⟩ (fun i σ H' _ ⟨_, _, _, sm, _⟩ => sm.tup hA) ?_ ?_⟩
    · rintro i x σ H1 H2 hi ⟨y3, y4, rfl, sm, hd⟩ ⟨T, x1, x2, rfl, nT, rfl, e1, e2⟩
      cases e1
      obtain ⟨n, hn, rfl⟩ := iV_get e2
      rw [List.length_map] at hi
      obtain ⟨h0, h1⟩ := hb n (List.mem_of_getElem? hn)
      have sT : Same H1 (upd H1 T (.tup [.int (i : Nat), .int n])) := Same.upd nT
      have sm2 := sm.trans sT
      have hd2 := sT _ _ hd
      refine ⟨T, _, rfl, .of upd_same, rfl, _, _, rfl, _, _, rfl, rfl, ?_⟩
      refine ⟨_, rfl, _, rfl, b, _, (i : Int), _, rfl, rfl, sm2.tup hB, getD_at (by omega) (by omega), _, rfl, _, rfl, p, _, n, n.toNat, rfl, rfl, hd2, ?_, ?_⟩
      · rw [List.length_map, takeL_len]
        have : ixN 4 ((n.toNat : Nat) : Int) = some n.toNat := ixN_nat (by omega)
        rwa [Int.toNat_of_nonneg h0] at this
      · refine ⟨_, _, rfl, fun c o e => ?_, ?_⟩
        · rw [upd_ne (ne_of_none e hp)]
          exact sm2 c o e
        · rw [upd_same]
          show _ = some (HO.lst (iV ((takeL ns ms i).set (ns.getD i 0).toNat (ms.getD i 0))))
          rw [iV_set, List.getD_eq_getElem?_getD (l := ns), hn]
          rfl
    · rintro σ H' ⟨y3, y4, rfl, sm, hd⟩
      refine ⟨_, rfl, p, _, rfl, .inl ⟨.of hd, fun q hq => k _ q (sm.trans (Same.upd hq)) ?_⟩⟩
      rw [upd_same, List.length_map]
end
end L2.Px

namespace L2.Px
open PySem PySem.Spec PyProof.Rows
section
variable {P : Program} {w : World} {K : PySem.W.Frag} {mg : Str → Option Value} {base : Heap}
/-! ### has_odd_sign -/
/-- how many k below i have a greater entry than j has -/
def cIn (ns : List Int) (j : Nat) : Nat → Nat
  | 0 => 0
  | i + 1 => cIn ns j i + (if ns.getD j 0 < ns.getD i 0 then 1 else 0)
def cOut (ns : List Int) : Nat → Nat
  | 0 => 0
  | j + 1 => cOut ns j + cIn ns j j
theorem cIn_le (ns : List Int) (j : Nat) : ∀ i, cIn ns j i ≤ i
  | 0 => Nat.le_refl _
  | i + 1 => by
    have := cIn_le ns j i
    unfold cIn
    split <;> omega
theorem cOut_le (ns : List Int) : ∀ j, j ≤ 4 → cOut ns j ≤ 4 * j
  | 0, _ => Nat.le_refl _
  | j + 1, h => by
    have h1 := cOut_le ns j (by omega)
    have h2 := cIn_le ns j j
    unfold cOut
    omega
def oddL (ns : List Int) : Bool := decide (((cOut ns 4 : Nat) : Int) % 2 = 1)
def spOdd (K : PySem.W.Frag) : Sp := fun vs H Q _ => ∃ (a : Addr) (ns : List Int), vs = [.ref a] ∧ SqT K H a (iV ns) ∧ ns.length = 4 ∧ ∀ H', Same H H' → Q (.bl (oddL ns)) H'
theorem scOdd : FnScope ["one", "turned", "j", "i"] ["one"] (defScope sOddSign) := ⟨rfl, rfl, rfl, by decide +kernel, rfl, by decide +kernel, by decide +kernel⟩
abbrev rGt : R2 := rI0 fun i j => .bl (decide (j < i))
theorem ok_odd {f : Addr} {fd : FuncData} (F : Fun K "has_odd_sign" "has_odd_sign" sOddSign f fd) (N : Nm mg) : FnOk P w K mg base CX0 1 f fd ["one"] (spOdd K) := by
  refine F.ok scOdd (fun vs H Q E h => ?_) (fun cdv A outer s H vs Q E hr h => ?_)
  · obtain ⟨a, ns, rfl, _⟩ := h
    rfl
  · obtain ⟨a, ns, rfl, hA, hl, k⟩ := h
    refine ⟨_, pss_cons (ps_setLcN (k := 1) (own := [("j", 2), ("i", 3)]) (g := gName 2) (tt := tYes) (ws := [3])
        (tb := fun D => tCl (iRng1 (tCons (tVar 2) tNil)) (gName 3) (tTest (tOp rGt (tOp (rIxT K) (tVar 0) (tVar 3)) (tOp (rIxT K) (tVar 0) (tVar 2)))) [3] (tElt D (tTup (tCons (tVar 3) (tCons (tVar 2) tNil)))))
        rfl scOdd.nd rfl rfl (sw_true rfl rfl rfl (by decide +kernel)) (pi_range1 (by rfl) N.rng (pa_cons (pe_callB call_len_seq (by rfl) N.ln PySem.boot_len (pa_cons (pv 0) pa_nil)) pa_nil)) (blkOk_by (N := ["one", "turned", "j", "i"]) (sc := defScope sOddSign) (by decide +kernel))
        (fun it D env => turn_next rfl rfl) (fun _ _ _ _ _ => pg_name (i := 2) scOdd.nd rfl (.inl rfl)) (fun _ _ _ _ _ => pts_nil)
        (fun s' H' C cl fp D => pb_cl rfl rfl rfl (fun it => turn_last rfl rfl) (pi_range1 (by rfl) N.rng (pa_cons (pv 2) pa_nil)) (pg_name (i := 3) scOdd.nd rfl (.inl rfl))
          (pts_one (pt_cmpR op_gt (pe_ix ix_tup (pv 0) (pv 3) (fun _ _ => rfl)) (pe_ix ix_tup (pv 0) (pv 2) (fun _ _ => rfl)) (nomark _)))
          (pb_elt rfl (pe_tup (pa_cons (pv 3) (pa_cons (pv 2) pa_nil)))) (by simp) (by intro _; rfl)) (by decide))
      (pss_one (ps_ret (pe_cmpR op_eq (pe_op op_mod (pe_callB call_len_seq (by rfl) N.ln PySem.boot_len (pa_cons (pv 1) pa_nil)) pe_int) pe_int (nomark _)))), ?_⟩
    refine ⟨.ref a, rfl, a, _, rfl, .inr hA, _, rfl, by rw [List.length_map, hl]; decide, by rw [List.length_map, hl]; decide, ?_⟩
    rw [List.length_map, hl]
    intro D hD
    refine cl_it (walk_range (lo := 0)) (fun j H' => Same H H' ∧ ∃ acc, H' D = some (.lst acc) ∧ acc.length = cOut ns j) ⟨Same.upd hD, [], upd_same, rfl⟩ (fun _ _ _ _ => trivial) ?_ ?_
    · rintro j x H1 H2 hj ⟨sm, acc, hd, hc⟩ ⟨rfl, rfl⟩
      have hj : j < 4 := hj
      refine ⟨rfl, _, rfl, _, rfl, by omega, by omega, ?_⟩
      refine cl_it (walk_range (lo := 0)) (fun i H' => Same H H' ∧ ∃ acc, H' D = some (.lst acc) ∧ acc.length = cOut ns j + cIn ns j i) ⟨sm, acc, hd, hc⟩ (fun _ _ _ _ => trivial) ?_ ?_
      · rintro i x H3 H4 hi ⟨sm3, ac3, hd3, hc3⟩ ⟨rfl, rfl⟩
        have hi : i < j := by omega
        have hij : cOut ns j + cIn ns j i ≤ 100 := by
          have h1 := cOut_le ns j (by omega)
          have h2 := cIn_le ns j i
          omega
        refine ⟨rfl, .ref a, rfl, _, rfl, a, _, _, _, rfl, rfl, sm3.tup hA, getD_at (by omega) (by omega), .ref a, rfl, _, rfl, a, _, _, _, rfl, rfl, sm3.tup hA, getD_at (by omega) (by omega), _, _, rfl, rfl, _, rfl, ?_⟩
        have ei : (0 + (i : Int)).toNat = i := by omega
        have ej : (0 + (j : Int)).toNat = j := by omega
        rw [ei, ej]
        refine ite2 (fun c => ?_) (fun c => ?_)
        · have c : ns.getD j 0 < ns.getD i 0 := of_decide_eq_true c
          refine ⟨_, rfl, _, rfl, by show 2 ≤ sizeLine; decide, fun T hT => ?_⟩
          have hd4 := (Same.upd (o := .tup [V.int (0 + i), V.int (0 + j)]) hT) _ _ hd3
          refine ⟨ac3, hd4, small1000 (by omega), fun c o e => ?_, _, upd_same, ?_⟩
          · rw [upd_ne (ne_of_none e hD)]
            exact (Same.upd hT) _ _ (sm3 c o e)
          · rw [List.length_append, hc3]
            show _ = cOut ns j + (cIn ns j i + (if ns.getD j 0 < ns.getD i 0 then 1 else 0))
            rw [if_pos c]
            rfl
        · have c : ¬ ns.getD j 0 < ns.getD i 0 := fun z => c (decide_eq_true z)
          refine ⟨sm3, ac3, hd3, ?_⟩
          rw [hc3]
          show _ = cOut ns j + (cIn ns j i + (if ns.getD j 0 < ns.getD i 0 then 1 else 0))
          rw [if_neg c]
          rfl
      · rintro H3 ⟨sm3, ac3, hd3, hc3⟩
        have ej : (0 + (j : Int)).toNat = j := by omega
        rw [ej] at hc3
        exact ⟨sm3, ac3, hd3, hc3⟩
    · rintro H1 ⟨sm, acc, hd, hc⟩
      have hc : acc.length = cOut ns 4 := hc
      refine ⟨.ref D, rfl, D, acc, rfl, .inl (.of hd), _, _, rfl, rfl, (by decide : (0 : Int) < 2), rfl, ?_⟩
      have e : decide (V.int ((acc.length : Int) % 2) = V.int 1) = oddL ns := by
        rw [hc]
        unfold oddL
        simp
      rw [e]
      exact k H1 sm
end
end L2.Px

namespace L2.Px
open PySem PySem.Spec PyProof.Rows
/-- a def of the text, where it stands -/
structure At (K : PySem.W.Frag) (mg : Str → Option Value) (x : Str) (st : Stmt) (ps : List Str) (f : Addr) (fd : FuncData) : Prop where
  F : Fun K x x st f fd
  g : mg x = some (.ref f)
  b : Binds K fd ps []
/-- the class BadNumber, at C -/
structure Bad (K : PySem.W.Frag) (mg : Str → Option Value) (C : Addr) : Prop where
  g : mg "BadNumber" = some (.ref C)
  k : PySem.W.keepIn K (.ref C) = true
  x : PySem.W.excIn K C [.type "ValueError", .type "Exception", .type "BaseException", .type "object"] "ValueError.__new__" = true
  b : PySem.W.subIn K (.ref C) (.type "BaseException") = some true
  t : PySem.W.typeIn K (.ref C) = some (.type "type")
/-- the constant IDENTITY, at a -/
structure Idn (K : PySem.W.Frag) (mg : Str → Option Value) (a : Addr) : Prop where
  g : mg "IDENTITY" = some (.ref a)
  t : ∀ H, SqT K H a (iV [0, 1, 2, 3])
/-- the inverse, as `taking` makes it -/
def invL (ns : List Int) : List Int := takeL ns [0, 1, 2, 3] ns.length
theorem isP_len {ns : List Int} (h : isP ns = true) : ns.length = 4 := (List.isPerm_iff.mp h).length_eq
theorem isP_bd {ns : List Int} (h : isP ns = true) : ∀ n ∈ ns, 0 ≤ n ∧ n < 4 := fun n hn => by
  have := (List.isPerm_iff.mp h).mem_iff.mp hn
  simp at this
  omega
section
variable {P : Program} {w : World} {K : PySem.W.Frag} {mg : Str → Option Value} {base : Heap}
/-! ### inverse_of -/
def spInvOf (K : PySem.W.Frag) : Sp := fun vs H Q _ => ∃ (a : Addr) (ns : List Int), vs = [.ref a] ∧ SqT K H a (iV ns) ∧ isP ns = true ∧ ∀ H' p, Same H H' → H' p = some (.tup (iV (invL ns))) → Q (.ref p) H'
theorem scInvOf : FnScope ["one"] ["one"] (defScope sInverseOf) := ⟨rfl, rfl, rfl, by decide +kernel, rfl, by decide +kernel, by decide +kernel⟩
theorem ok_invof {f fT aI : Addr} {fd fdT : FuncData} (F : Fun K "inverse_of" "inverse_of" sInverseOf f fd) (N : Nm mg) (I : Idn K mg aI) (T : At K mg "taking" sTaking ["places", "images"] fT fdT) : FnOk P w K mg base CX0 2 f fd ["one"] (spInvOf K) := by
  have G : FnOk P w K mg base CX0 1 fT fdT ["places", "images"] (spTaking K) := ok_taking T.F N
  refine F.ok scInvOf (fun vs H Q E h => ?_) (fun cdv A outer s H vs Q E hr h => ?_)
  · obtain ⟨a, ns, rfl, _⟩ := h
    rfl
  · obtain ⟨a, ns, rfl, hA, hp, k⟩ := h
    refine ⟨_, pss_one (ps_ret (pe_call G hr rfl T.g T.F.kp T.b .nil pass0 (pa_cons (pv 0) (pa_cons (pe_glob rfl I.g (v := .ref aI) rfl) pa_nil)))), ?_⟩
    exact ⟨.ref a, rfl, a, aI, ns, [0, 1, 2, 3], rfl, hA, I.t _, Nat.le_of_eq (isP_len hp), isP_bd hp, fun H' p sm hd => k H' p sm hd⟩

/-! ### check_permutation -/
def spCheck (K : PySem.W.Frag) (C : Addr) : Sp := fun vs H Q E => ∃ (a : Addr) (ns : List Int), vs = [.ref a] ∧ SqT K H a (iV ns) ∧ (isP ns = true → ∀ H', Same H H' → Q .non H') ∧ (isP ns = false → ∀ H', Same H H' → E (.ref C) none H')
theorem scCheck : FnScope ["entries"] ["entries"] (defScope sCheck) := ⟨rfl, rfl, rfl, by decide +kernel, rfl, by decide +kernel, by decide +kernel⟩
theorem ok_check {f fI C : Addr} {fd fdI : FuncData} (F : Fun K "check_permutation" "check_permutation" sCheck f fd) (N : Nm mg) (B : Bad K mg C) (T : At K mg "is_permutation" sIsPerm ["entries"] fI fdI) : FnOk P w K mg base (L2.CX P w) 2 f fd ["entries"] (spCheck K C) := by
  have G : FnOk P w K mg base CX0 1 fI fdI ["entries"] (spIsPerm K) := ok_isperm T.F N.srt
  refine F.okX scCheck (fun vs H Q E h => ?_) (fun cdv A outer s H vs Q E hr h => ?_)
  · obtain ⟨a, ns, rfl, _⟩ := h
    rfl
  · obtain ⟨a, ns, rfl, hA, k1, k2⟩ := h
    refine ⟨_, pss_one (ps_if (pt_not (pt_val (pe_call G hr rfl T.g T.F.kp T.b .nil pass0 (pa_cons (pv 0) pa_nil)))) (pss_one (ps_raise rfl (takes_of rfl rfl rfl rfl) (pmk_own PySem.F.excBase_ValueError B.x B.g B.k (raises_own B.b B.t) rfl))) pss_nil), ?_⟩
    refine ⟨.ref a, rfl, a, ns, rfl, hA, fun H' sm => ⟨_, rfl, ?_⟩⟩
    cases e : isP ns with
    | true => exact iteF (k1 e H' sm)
    | false => exact iteT (k2 e H' sm)

/-! ### after, inverse, is_odd -/
def spAfter (K : PySem.W.Frag) (C : Addr) : Sp := fun vs H Q E => ∃ (a b : Addr) (ns ms : List Int), vs = [.ref a, .ref b] ∧ SqT K H a (iV ns) ∧ SqT K H b (iV ms) ∧
  (isP ns = true → isP ms = true → ∀ H' p, Same H H' → H' p = some (.tup (iV (prodL ns ms))) → Q (.ref p) H') ∧ (¬ (isP ns = true ∧ isP ms = true) → ∀ H', Same H H' → E (.ref C) none H')
theorem scAfter : FnScope ["one", "other"] ["one", "other"] (defScope sAfter) := ⟨rfl, rfl, rfl, by decide +kernel, rfl, by decide +kernel, by decide +kernel⟩
theorem ok_after {f fI fC fP C : Addr} {fd fdI fdC fdP : FuncData} (F : Fun K "after" "after" sAfter f fd) (N : Nm mg) (B : Bad K mg C) (T : At K mg "is_permutation" sIsPerm ["entries"] fI fdI) (TC : At K mg "check_permutation" sCheck ["entries"] fC fdC) (TP : At K mg "product_of" sProductOf ["one", "other"] fP fdP) :
    FnOk P w K mg base (L2.CX P w) 3 f fd ["one", "other"] (spAfter K C) := by
  have G : FnOk P w K mg base (L2.CX P w) 2 fC fdC ["entries"] (spCheck K C) := ok_check TC.F N B T
  have GP : FnOk P w K mg base CX0 1 fP fdP ["one", "other"] (spProd K) := ok_prod TP.F N
  refine F.okX scAfter (fun vs H Q E h => ?_) (fun cdv A outer s H vs Q E hr h => ?_)
  · obtain ⟨a, b, ns, ms, rfl, _⟩ := h
    rfl
  · obtain ⟨a, b, ns, ms, rfl, hA, hB, k1, k2⟩ := h
    refine ⟨_, pss_cons (ps_expr (pe_call (E := E) G hr rfl TC.g TC.F.kp TC.b .nil (passes_call (takes_of rfl rfl rfl rfl) fun _ _ _ _ z => z) (pa_cons (pv 0) pa_nil)))
      (pss_cons (ps_expr (pe_call (E := E) G hr rfl TC.g TC.F.kp TC.b .nil (passes_call (takes_of rfl rfl rfl rfl) fun _ _ _ _ z => z) (pa_cons (pv 1) pa_nil)))
      (pss_one (ps_ret (pe_call GP (hr.mono (by decide)) rfl TP.g TP.F.kp TP.b .nil pass0 (pa_cons (pv 0) (pa_cons (pv 1) pa_nil)))))), ?_⟩
    refine ⟨.ref a, rfl, a, ns, rfl, hA, fun h1 H1 s1 => ?_, fun h1 H1 s1 => k2 (fun z => by rw [h1] at z; cases z.1) H1 s1⟩
    refine ⟨.ref b, rfl, b, ms, rfl, s1.tup hB, fun h2 H2 s2 => ?_, fun h2 H2 s2 => k2 (fun z => by rw [h2] at z; cases z.2) H2 (s1.trans s2)⟩
    have l1 := isP_len h1
    have l2 := isP_len h2
    exact ⟨.ref a, rfl, .ref b, rfl, a, b, ns, ms, rfl, (s1.trans s2).tup hA, (s1.trans s2).tup hB, by omega, fun n hn => by have := isP_bd h1 n hn; omega, fun H' p s3 hd => k1 h1 h2 H' p ((s1.trans s2).trans s3) hd⟩
def spInverse (K : PySem.W.Frag) (C : Addr) : Sp := fun vs H Q E => ∃ (a : Addr) (ns : List Int), vs = [.ref a] ∧ SqT K H a (iV ns) ∧
  (isP ns = true → ∀ H' p, Same H H' → H' p = some (.tup (iV (invL ns))) → Q (.ref p) H') ∧ (isP ns = false → ∀ H', Same H H' → E (.ref C) none H')
theorem scInverse : FnScope ["one"] ["one"] (defScope sInverse) := ⟨rfl, rfl, rfl, by decide +kernel, rfl, by decide +kernel, by decide +kernel⟩
theorem ok_inverse {f fI fC fV fT aI C : Addr} {fd fdI fdC fdV fdT : FuncData} (F : Fun K "inverse" "inverse" sInverse f fd) (N : Nm mg) (B : Bad K mg C) (I : Idn K mg aI) (T : At K mg "is_permutation" sIsPerm ["entries"] fI fdI) (TC : At K mg "check_permutation" sCheck ["entries"] fC fdC)
    (TV : At K mg "inverse_of" sInverseOf ["one"] fV fdV) (TT : At K mg "taking" sTaking ["places", "images"] fT fdT) : FnOk P w K mg base (L2.CX P w) 3 f fd ["one"] (spInverse K C) := by
  have G : FnOk P w K mg base (L2.CX P w) 2 fC fdC ["entries"] (spCheck K C) := ok_check TC.F N B T
  have GV : FnOk P w K mg base CX0 2 fV fdV ["one"] (spInvOf K) := ok_invof TV.F N I TT
  refine F.okX scInverse (fun vs H Q E h => ?_) (fun cdv A outer s H vs Q E hr h => ?_)
  · obtain ⟨a, ns, rfl, _⟩ := h
    rfl
  · obtain ⟨a, ns, rfl, hA, k1, k2⟩ := h
    refine ⟨_, pss_cons (ps_expr (pe_call (E := E) G hr rfl TC.g TC.F.kp TC.b .nil (passes_call (takes_of rfl rfl rfl rfl) fun _ _ _ _ z => z) (pa_cons (pv 0) pa_nil)))
      (pss_one (ps_ret (pe_call GV hr rfl TV.g TV.F.kp TV.b .nil pass0 (pa_cons (pv 0) pa_nil)))), ?_⟩
    refine ⟨.ref a, rfl, a, ns, rfl, hA, fun h1 H1 s1 => ?_, fun h1 H1 s1 => k2 h1 H1 s1⟩
    exact ⟨.ref a, rfl, a, ns, rfl, s1.tup hA, h1, fun H' p s3 hd => k1 h1 H' p (s1.trans s3) hd⟩
def spIsOdd (K : PySem.W.Frag) (C : Addr) : Sp := fun vs H Q E => ∃ (a : Addr) (ns : List Int), vs = [.ref a] ∧ SqT K H a (iV ns) ∧
  (isP ns = true → ∀ H', Same H H' → Q (.bl (oddL ns)) H') ∧ (isP ns = false → ∀ H', Same H H' → E (.ref C) none H')
theorem scIsOdd : FnScope ["one"] ["one"] (defScope sIsOdd) := ⟨rfl, rfl, rfl, by decide +kernel, rfl, by decide +kernel, by decide +kernel⟩
theorem ok_isodd {f fI fC fV C : Addr} {fd fdI fdC fdV : FuncData} (F : Fun K "is_odd" "is_odd" sIsOdd f fd) (N : Nm mg) (B : Bad K mg C) (T : At K mg "is_permutation" sIsPerm ["entries"] fI fdI) (TC : At K mg "check_permutation" sCheck ["entries"] fC fdC)
    (TV : At K mg "has_odd_sign" sOddSign ["one"] fV fdV) : FnOk P w K mg base (L2.CX P w) 3 f fd ["one"] (spIsOdd K C) := by
  have G : FnOk P w K mg base (L2.CX P w) 2 fC fdC ["entries"] (spCheck K C) := ok_check TC.F N B T
  have GV : FnOk P w K mg base CX0 1 fV fdV ["one"] (spOdd K) := ok_odd TV.F N
  refine F.okX scIsOdd (fun vs H Q E h => ?_) (fun cdv A outer s H vs Q E hr h => ?_)
  · obtain ⟨a, ns, rfl, _⟩ := h
    rfl
  · obtain ⟨a, ns, rfl, hA, k1, k2⟩ := h
    refine ⟨_, pss_cons (ps_expr (pe_call (E := E) G hr rfl TC.g TC.F.kp TC.b .nil (passes_call (takes_of rfl rfl rfl rfl) fun _ _ _ _ z => z) (pa_cons (pv 0) pa_nil)))
      (pss_one (ps_ret (pe_call GV (hr.mono (by decide)) rfl TV.g TV.F.kp TV.b .nil pass0 (pa_cons (pv 0) pa_nil)))), ?_⟩
    refine ⟨.ref a, rfl, a, ns, rfl, hA, fun h1 H1 s1 => ?_, fun h1 H1 s1 => k2 h1 H1 s1⟩
    exact ⟨.ref a, rfl, a, ns, rfl, s1.tup hA, isP_len h1, fun H' s3 => k1 h1 H' (s1.trans s3)⟩
end
end L2.Px

namespace L2.Px
open PySem PySem.Spec PyProof.Rows
/-! ### all_permutations -/
def t3 (a b : Nat) : Nat → List (List Int)
  | 0 => []
  | c + 1 => t3 a b c ++ [[0 + (a : Int), 0 + (b : Int), 0 + (c : Int), 6 - (0 + (a : Int)) - (0 + (b : Int)) - (0 + (c : Int))]]
def t2 (a : Nat) : Nat → List (List Int)
  | 0 => []
  | b + 1 => t2 a b ++ t3 a b 4
def t1 : Nat → List (List Int)
  | 0 => []
  | a + 1 => t1 a ++ t2 a 4
def allP : List (List Int) := (t1 4).filter isP
theorem t3_len (a b : Nat) : ∀ c, (t3 a b c).length = c
  | 0 => rfl
  | c + 1 => by
    show (t3 a b c ++ [_]).length = c + 1
    rw [List.length_append, t3_len a b c]
    rfl
theorem t2_len (a : Nat) : ∀ b, (t2 a b).length = 4 * b
  | 0 => rfl
  | b + 1 => by
    show (t2 a b ++ t3 a b 4).length = 4 * (b + 1)
    rw [List.length_append, t2_len a b, t3_len]
    omega
theorem t1_len : ∀ a, (t1 a).length = 16 * a
  | 0 => rfl
  | a + 1 => by
    show (t1 a ++ t2 a 4).length = 16 * (a + 1)
    rw [List.length_append, t1_len a, t2_len]
    omega
/-- tuples of ints at the addresses ts -/
abbrev TupsAt (H : Hp) (ts : List Addr) (nss : List (List Int)) : Prop := Paired (fun (t : Addr) (ns : List Int) => H t = some (.tup (iV ns))) ts nss
theorem TupsAt.mono {H H' : Hp} {ts : List Addr} {nss : List (List Int)} (h : TupsAt H ts nss) (k : ∀ t xs, H t = some (.tup xs) → H' t = some (.tup xs)) : TupsAt H' ts nss := Paired.mapP h fun _ _ e => k _ _ e
theorem paired_snoc {α β : Type} {R : α → β → Prop} {x : α} {y : β} (r : R x y) : ∀ {xs : List α} {ys : List β}, Paired R xs ys → Paired R (xs ++ [x]) (ys ++ [y])
  | _, _, .nil => .cons r .nil
  | _, _, .cons q t => .cons q (paired_snoc r t)
theorem paired_get {α β : Type} {R : α → β → Prop} : ∀ {xs : List α} {ys : List β} {i : Nat} {x : α}, Paired R xs ys → xs[i]? = some x → ∃ y, ys[i]? = some y ∧ R x y
  | _, _, _, _, .nil, e => by simp at e
  | _, _, 0, _, .cons r _, e => by simp at e; subst e; exact ⟨_, rfl, r⟩
  | _, _, i + 1, x, .cons _ t, e => by
    obtain ⟨u, h1, h2⟩ := paired_get (i := i) (x := x) t (by simpa using e)
    exact ⟨u, by simpa using h1, h2⟩
theorem upd_tup {H : Hp} {D : Addr} {l : List V} {o : HO} (hd : H D = some (.lst l)) {t : Addr} {xs : List V} (h : H t = some (.tup xs)) : upd H D o t = some (.tup xs) := by
  rw [upd_ne (fun z => by rw [z, hd] at h; cases h)]
  exact h
/-- a list of tuples of ints at D -/
structure LT (H : Hp) (D : Addr) (nss : List (List Int)) : Prop where
  ex : ∃ ts : List Addr, H D = some (.lst (ts.map V.ref)) ∧ TupsAt H ts nss
theorem LT.push {H : Hp} {D T : Addr} {nss : List (List Int)} {ns : List Int} (h : LT H D nss) (hT : H T = some (.tup (iV ns))) : ∃ l, H D = some (.lst l) ∧ l.length = nss.length ∧ LT (upd H D (.lst (l ++ [V.ref T]))) D (nss ++ [ns]) := by
  obtain ⟨ts, hd, hp⟩ := h.ex
  refine ⟨_, hd, by rw [List.length_map, Paired.length hp], ⟨ts ++ [T], ?_, ?_⟩⟩
  · rw [upd_same, List.map_append]
    rfl
  · exact paired_snoc (R := fun (t : Addr) (ns : List Int) => upd H D _ t = some (.tup (iV ns))) (upd_tup hd hT) (TupsAt.mono hp fun _ _ e => upd_tup hd e)
theorem LT.mono {H H' : Hp} {D : Addr} {nss : List (List Int)} (h : LT H D nss) (k : Same H H') : LT H' D nss := by
  obtain ⟨ts, hd, hp⟩ := h.ex
  exact ⟨ts, k _ _ hd, TupsAt.mono hp fun _ _ e => k _ _ e⟩
section
variable {P : Program} {w : World} {K : PySem.W.Frag} {mg : Str → Option Value} {base : Heap}
def spAll : Sp := fun vs H Q _ => vs = [] ∧ ∀ H' p, Same H H' → LT H' p allP → Q (.ref p) H'
theorem scAll : FnScope ["tuples", "a", "b", "c", "entries"] [] (defScope sAll) := ⟨rfl, rfl, rfl, by decide +kernel, rfl, by decide +kernel, by decide +kernel⟩
abbrev rSub : R2 := rI0 fun i j => .int (i - j)
abbrev wR4 : TI := iRng1 (tCons (tC (.int 4)) tNil)
theorem ok_all {f fI : Addr} {fd fdI : FuncData} (F : Fun K "all_permutations" "all_permutations" sAll f fd) (N : Nm mg) (T : At K mg "is_permutation" sIsPerm ["entries"] fI fdI) : FnOk P w K mg base CX0 2 f fd [] spAll := by
  have G : FnOk P w K mg base CX0 1 fI fdI ["entries"] (spIsPerm K) := ok_isperm T.F N.srt
  refine F.ok scAll (fun vs H Q E h => ?_) (fun cdv A outer s H vs Q E hr h => ?_)
  · rw [h.1]
    rfl
  · obtain ⟨rfl, k⟩ := h
    refine ⟨_, pss_cons (ps_setLcN (k := 0) (own := [("a", 1), ("b", 2), ("c", 3)]) (g := gName 1) (tt := tYes) (ws := [2, 3])
        (tb := fun D => tCl wR4 (gName 2) tYes [2, 3] (tCl wR4 (gName 3) tYes [3] (tElt D (tTup (tCons (tVar 1) (tCons (tVar 2) (tCons (tVar 3) (tCons (tOp rSub (tOp rSub (tOp rSub (tC (.int 6)) (tVar 1)) (tVar 2)) (tVar 3)) tNil))))))))
        rfl scAll.nd rfl rfl (sw_true rfl rfl rfl (by decide +kernel)) (pi_range1 (by rfl) N.rng (pa_cons pe_int pa_nil)) (blkOk_by (N := ["tuples", "a", "b", "c", "entries"]) (sc := defScope sAll) (by decide +kernel))
        (fun it D env => turn_next rfl rfl) (fun _ _ _ _ _ => pg_name (i := 1) scAll.nd rfl (.inl rfl)) (fun _ _ _ _ _ => pts_nil)
        (fun s' H' C cl fp D => pb_cl rfl rfl rfl (fun it => turn_next rfl rfl) (pi_range1 (by rfl) N.rng (pa_cons pe_int pa_nil)) (pg_name (i := 2) scAll.nd rfl (.inl rfl)) pts_nil
          (pb_cl rfl rfl rfl (fun it => turn_last rfl rfl) (pi_range1 (by rfl) N.rng (pa_cons pe_int pa_nil)) (pg_name (i := 3) scAll.nd rfl (.inl rfl)) pts_nil
            (pb_elt rfl (pe_tup (pa_cons (pv 1) (pa_cons (pv 2) (pa_cons (pv 3) (pa_cons (pe_op op_sub (pe_op op_sub (pe_op op_sub pe_int (pv 1)) (pv 2)) (pv 3)) pa_nil)))))) (by simp) (by intro _; rfl)) (by decide) (by intro _; rfl)) (by decide))
      (pss_one (ps_ret (pe_lc (own := [("entries", 4)]) (g := gName 4) (tt := tB (tCall (spIsPerm K) [] E0 (tCons (tVar 4) tNil))) (te := tVar 4) rfl scAll.nd (pi_list (pv 0)) (blkOk_by (N := ["tuples", "a", "b", "c", "entries"]) (sc := defScope sAll) (by decide +kernel))
        (fun _ _ _ _ _ => pg_name (i := 4) scAll.nd rfl (.inl rfl)) (fun _ _ _ _ _ => pts_one (pt_val (pe_call G hr rfl T.g T.F.kp T.b .nil pass0 (pa_cons (pv 4) pa_nil)))) (fun _ _ _ _ _ => pv 4)))), ?_⟩
    refine ⟨4, rfl, by decide, by decide, fun D hD => ?_⟩
    refine cl_it (walk_range (lo := 0)) (fun a H' => Same H H' ∧ LT H' D (t1 a)) ⟨Same.upd hD, ⟨[], upd_same, .nil⟩⟩ (fun _ _ _ _ => trivial) ?_ ?_
    · rintro a x H1 H2 ha ⟨sm, ht⟩ ⟨rfl, rfl⟩
      have ha : a < 4 := ha
      refine ⟨rfl, 4, rfl, by decide, by decide, ?_⟩
      refine cl_it (walk_range (lo := 0)) (fun b H' => Same H H' ∧ LT H' D (t1 a ++ t2 a b)) ⟨sm, by show LT _ D (t1 a ++ []); rw [List.append_nil]; exact ht⟩ (fun _ _ _ _ => trivial) ?_ (fun _ q => q)
      rintro b x H3 H4 hb ⟨sm3, ht3⟩ ⟨rfl, rfl⟩
      have hb : b < 4 := hb
      refine ⟨rfl, 4, rfl, by decide, by decide, ?_⟩
      refine cl_it (walk_range (lo := 0)) (fun c H' => Same H H' ∧ LT H' D (t1 a ++ t2 a b ++ t3 a b c)) ⟨sm3, by show LT _ D (t1 a ++ t2 a b ++ []); rw [List.append_nil]; exact ht3⟩ (fun _ _ _ _ => trivial) ?_ (fun H' q => ⟨q.1, by have := q.2; rw [List.append_assoc] at this; exact this⟩)
      rintro c x H5 H6 hc ⟨sm5, ht5⟩ ⟨rfl, rfl⟩
      have hc : c < 4 := hc
      refine ⟨rfl, _, rfl, _, rfl, _, rfl, _, rfl, _, _, rfl, rfl, _, rfl, _, _, rfl, rfl, _, rfl, _, _, rfl, rfl, by show 4 ≤ sizeLine; decide, fun T hT => ?_⟩
      obtain ⟨l, e1, e2, e3⟩ := (ht5.mono (Same.upd hT)).push (T := T) (ns := [0 + (a : Int), 0 + (b : Int), 0 + (c : Int), 6 - (0 + (a : Int)) - (0 + (b : Int)) - (0 + (c : Int))]) upd_same
      refine ⟨l, e1, ?_, fun y o e => ?_, ?_⟩
      · rw [e2, List.length_append, List.length_append, t1_len, t2_len, t3_len]
        exact small1000 (by omega)
      · rw [upd_ne (ne_of_none e hD)]
        exact Same.upd hT _ _ (sm5 _ _ e)
      · have : t3 a b (c + 1) = t3 a b c ++ [[0 + (a : Int), 0 + (b : Int), 0 + (c : Int), 6 - (0 + (a : Int)) - (0 + (b : Int)) - (0 + (c : Int))]] := rfl
        rw [this, ← List.append_assoc]
        exact e3
    · rintro H1 ⟨sm, ht⟩
      obtain ⟨ts, hd, hp⟩ := ht.ex
      have hp : TupsAt H1 ts (t1 4) := hp
      refine ⟨.ref D, rfl, D, rfl, ⟨_, .of hd⟩, fun D2 hD2 => lc_list (K := K) (a := D) (xs := ts.map V.ref) (fun i H' => Same H1 H' ∧ LT H' D2 (((t1 4).take i).filter isP)) ⟨Same.upd hD2, ⟨[], upd_same, .nil⟩⟩ (fun i H' _ h' => .of (h'.1 _ _ hd)) ?_ ?_⟩
      · rintro i x H' hi ⟨sm2, ht2⟩
        rw [List.getElem?_map] at hi
        cases et : ts[i]? with
        | none => rw [et] at hi; cases hi
        | some t =>
          rw [et] at hi
          cases hi
          obtain ⟨ns, hn, hq⟩ := paired_get hp et
          refine ⟨rfl, .ref t, rfl, t, ns, rfl, .of (sm2 _ _ hq), fun H3 s3 => ⟨_, rfl, ?_⟩⟩
          rw [take_snoc hn, List.filter_append]
          cases ep : isP ns with
          | true =>
            refine iteT ?_
            obtain ⟨l, e1, e2, e3⟩ := (ht2.mono s3).push (T := t) (ns := ns) (s3 _ _ (sm2 _ _ hq))
            refine ⟨.ref t, rfl, l, e1, ?_, fun y o e => ?_, ?_⟩
            · rw [e2]
              have h1 := List.length_filter_le isP ((t1 4).take i)
              have h2 : ((t1 4).take i).length ≤ (t1 4).length := by rw [List.length_take]; exact Nat.min_le_right _ _
              have h3 := t1_len 4
              exact small1000 (by omega)
            · rw [upd_ne (ne_of_none e hD2)]
              exact s3 _ _ (sm2 _ _ e)
            · rw [List.filter_cons_of_pos ep]
              exact e3
          | false =>
            refine iteF ?_
            rw [List.filter_cons_of_neg (by rw [ep]; decide), List.filter_nil, List.append_nil]
            exact ⟨sm2.trans s3, ht2.mono s3⟩
      · rintro H' ⟨sm2, ht2⟩
        refine k H' D2 (sm.trans sm2) ?_
        have hl : ts.length = (t1 4).length := Paired.length hp
        rw [List.length_map, hl, List.take_length] at ht2
        exact ht2
end
end L2.Px

namespace L2.Px
open PySem PySem.Spec PyProof.Rows
/-! ### data: a list of tuples of ints -/
abbrev tD (nss : List (List Int)) : List PyData := nss.map fun ns => .tuple (iD ns)
theorem dp_tups {K : PySem.W.Frag} {H : Hp} : ∀ {ts : List Addr} {nss : List (List Int)}, TupsAt H ts nss → DpAll K H (ts.map V.ref) (tD nss)
  | _, _, .nil => .nil
  | _, _, .cons h t => .cons (.tup (.of h) (dp_ints _)) (dp_tups t)
theorem LT.dp {K : PySem.W.Frag} {H : Hp} {D : Addr} {nss : List (List Int)} (h : LT H D nss) : Dp K H (.ref D) (.list (tD nss)) := by
  obtain ⟨ts, hd, hp⟩ := h.ex
  exact .lst (.of hd) (dp_tups hp)
theorem lay_tups : ∀ nss : List (List Int), PyData.canLayAll0 (tD nss) = true
  | [] => rfl
  | n :: r => by
    show (PyData.canLayAll0 (iD n) && PyData.canLayAll0 (tD r)) = true
    rw [lay_tups r, lay_ints]
    rfl
theorem dep_tups : ∀ nss : List (List Int), PyData.depthAll (tD nss) ≤ 1
  | [] => Nat.zero_le _
  | n :: r => by
    show max (PyData.depthAll (iD n) + 1) (PyData.depthAll (tD r)) ≤ 1
    rw [dep_ints]
    have := dep_tups r
    omega
theorem shaped_lt (nss : List (List Int)) : SeqAt.shaped (.list (tD nss)) = true := by
  show (PyData.canLayAll0 (tD nss) && decide (PyData.depthAll (tD nss) + 1 ≤ 64)) = true
  rw [lay_tups, decide_eq_true (by have := dep_tups nss; omega)]
  rfl
theorem eqv_tup (a b : List Int) : PyData.eqv (.tuple (iD a)) (.tuple (iD b)) = decide (a = b) := PySem.W.ked_eqvAll a b
theorem u65 {A : Around} {k : Nat} (hr : Room k A) : A.units + 65 < cLine := by have := hr.un; omega
/-! ### every permutation is among them -/
theorem perm_in {ns : List Int} (h : isP ns = true) : ns ∈ allP := by
  have l := isP_len h
  have b := isP_bd h
  match ns, l with
  | [x, y, z, u], _ =>
    have m : ∀ n ∈ [x, y, z, u], n ∈ [(0 : Int), 1, 2, 3] := fun n hn => by
      have := b n hn
      simp
      omega
    have all : ∀ x ∈ [(0 : Int), 1, 2, 3], ∀ y ∈ [(0 : Int), 1, 2, 3], ∀ z ∈ [(0 : Int), 1, 2, 3], ∀ u ∈ [(0 : Int), 1, 2, 3], isP [x, y, z, u] = true → [x, y, z, u] ∈ allP := by decide +kernel
    exact all x (m x (by simp)) y (m y (by simp)) z (m z (by simp)) u (m u (by simp)) h
theorem in_perm {ns : List Int} (h : ns ∈ allP) : isP ns = true := (List.mem_filter.mp h).2
def idxL (ns : List Int) : Nat := allP.idxOf ns
theorem idx_all : ∀ ns ∈ allP, allP[idxL ns]? = some ns ∧ ∀ m < idxL ns, allP[m]? ≠ some ns := by decide +kernel
section
variable {P : Program} {w : World} {K : PySem.W.Frag} {mg : Str → Option Value} {base : Heap}
/-! ### index_of -/
def spIdx (K : PySem.W.Frag) (C : Addr) : Sp := fun vs H Q E => ∃ (a : Addr) (ns : List Int), vs = [.ref a] ∧ SqT K H a (iV ns) ∧
  (isP ns = true → ∀ H', Same H H' → Q (.int (idxL ns : Nat)) H') ∧ (isP ns = false → ∀ H', Same H H' → E (.ref C) none H')
theorem scIdx : FnScope ["one"] ["one"] (defScope sIndexOf) := ⟨rfl, rfl, rfl, by decide +kernel, rfl, by decide +kernel, by decide +kernel⟩
theorem dp_ti {K : PySem.W.Frag} {H : Hp} {a : Addr} {ns : List Int} (h : SqT K H a (iV ns)) : Dp K H (.ref a) (.tuple (iD ns)) := .tup h (dp_ints ns)
theorem index_ok {K : PySem.W.Frag} {H : Hp} {D a : Addr} {ns : List Int} {Q : VK} (hD : LT H D allP) (ha : SqT K H a (iV ns)) (hp : isP ns = true) (q : Q (.int (idxL ns : Nat)) H) : rIndexD K (.ref D) [.ref a] H Q := by
  obtain ⟨i1, i2⟩ := idx_all ns (perm_in hp)
  refine ⟨D, .ref a, .tuple (iD ns), tD allP, idxL ns, .tuple (iD ns), rfl, rfl, hD.dp, dp_ti ha, shaped_lt _, shaped_ti _, ?_, ?_, fun m z hm hz => ?_, q⟩
  · rw [List.getElem?_map, i1]
    rfl
  · rw [eqv_tup]
    exact decide_eq_true rfl
  · rw [List.getElem?_map] at hz
    cases e : allP[m]? with
    | none => rw [e] at hz; cases hz
    | some ms =>
      rw [e] at hz
      cases hz
      show PyData.eqv (.tuple (iD ms)) (.tuple (iD ns)) = false
      rw [eqv_tup]
      exact decide_eq_false fun z => i2 m hm (by rw [e, z])
theorem ok_idx {f fI fC fA C : Addr} {fd fdI fdC fdA : FuncData} (F : Fun K "index_of" "index_of" sIndexOf f fd) (N : Nm mg) (B : Bad K mg C) (T : At K mg "is_permutation" sIsPerm ["entries"] fI fdI) (TC : At K mg "check_permutation" sCheck ["entries"] fC fdC)
    (TA : At K mg "all_permutations" sAll [] fA fdA) : FnOk P w K mg base (L2.CX P w) 3 f fd ["one"] (spIdx K C) := by
  have G : FnOk P w K mg base (L2.CX P w) 2 fC fdC ["entries"] (spCheck K C) := ok_check TC.F N B T
  have GA : FnOk P w K mg base CX0 2 fA fdA [] spAll := ok_all TA.F N T
  refine F.okX scIdx (fun vs H Q E h => ?_) (fun cdv A outer s H vs Q E hr h => ?_)
  · obtain ⟨a, ns, rfl, _⟩ := h
    rfl
  · obtain ⟨a, ns, rfl, hA, k1, k2⟩ := h
    refine ⟨_, pss_cons (ps_expr (pe_call (E := E) G hr rfl TC.g TC.F.kp TC.b .nil (passes_call (takes_of rfl rfl rfl rfl) fun _ _ _ _ z => z) (pa_cons (pv 0) pa_nil)))
      (pss_one (ps_ret (pe_bm PySem.F.plainAttrs_list PySem.F.slot_list_index PySem.F.type_list_index (mt_indexD (u65 hr)) (pe_call0 (E := E0) GA hr rfl TA.g TA.F.kp TA.b .nil pass0) (pa_cons (pv 0) pa_nil)))), ?_⟩
    refine ⟨.ref a, rfl, a, ns, rfl, hA, fun h1 H1 s1 => ?_, fun h1 H1 s1 => k2 h1 H1 s1⟩
    refine ⟨rfl, fun H2 p s2 hL => ⟨?_, .ref a, rfl, index_ok hL ((s1.trans s2).tup hA) h1 (k1 h1 _ (s1.trans s2))⟩⟩
    obtain ⟨ts, hd, _⟩ := hL.ex
    exact .inl ⟨rfl, _, .of hd⟩
end
end L2.Px

namespace L2.Px
open PySem PySem.Spec PyProof.Rows
/-- tuple(l), l a list: the new tuple's object has no dict -/
theorem call_tuple_ofF {X : Cx} : CallR X (.type "tuple") (fun xs H Q => ∃ p ys, xs = [.ref p] ∧ SqL X.K H p ys ∧ ∀ l o, H l = none → o.dict = none → Q (.ref l) (upd H l (.frz o (.tup ys)))) := by
  intro pins s σ H xs us Q I r h
  obtain ⟨p, ys, rfl, hq, q⟩ := h
  rw [Vals.ref1 r]
  obtain ⟨its, rv, pl, hz⟩ := I.list hq
  refine call_tuple_list pl.isList (fun h1 kp => ?_) (by rw [List.size_toArray, ← rv.length]; exact hz)
  have I1 : Inv X pins σ H { s with heap := h1 } := I.kept (t' := s.toks) kp
  have e1 : (h1.push { cls := .type "tuple", data := .seq its.toArray }).get? h1.objs.size = some { cls := .type "tuple", data := .seq its.toArray } := Heap.get?_push_size _ rfl
  exact ⟨.ref h1.objs.size, _, I1.laid (t' := s.toks) (fun _ _ e => Heap.get?_push_of_some _ e) (Nat.le_refl _) (show ObjOk X.prog X.w _ _ _ (.frz { cls := .type "tuple", data := .seq its.toArray } (.tup ys)) from ⟨e1, hz, its, rv, _, e1, rfl, _, rfl⟩), rfl, q _ _ (I1.hok.fresh (Nat.le_refl _)) rfl⟩
/-- o.name(e, ..), a method of a tuple whose object has no dict -/
def tBMT (r : V → List V → Hp → VK → Prop) (to : TE) (t : TA) : TE := fun σ H Q => to σ H fun x H1 => (∃ p o xs, x = .ref p ∧ H1 p = some (.frz o (.tup xs)) ∧ o.dict = none) ∧ t σ H1 fun ys H2 => r x ys H2 Q
theorem pe_bmT {X : Cx} {o e : Expr} {es : List Expr} {to : TE} {t : TA} {name : Str} {apos cpos : Pos} {id : String} {r : V → List V → Hp → VK → Prop} (slot : Slot "tuple" name id) (ty : typeOf (.builtin id) = pure (.type "method_descriptor")) (hm : MtR X id r) (ho : PE X o to) (ha : PA X (e :: es) t)
    (hb : attributeBase o name X.env (eval o X.env) = eval o X.env := by rfl)
    (hf : ((backTo cpos (starEach (e :: es) X.env)).all (fun x => !x.1) && (backToKw cpos (keywordEach [] X.env)).all (fun x => x.1.isSome) && decide ((e :: es).length + ([] : List Keyword).length + (if ([] : List Keyword).isEmpty then 0 else 1) < 30)) = true := by rfl)
    (hl : (apos.endLine == cpos.line) = true := by rfl) (hs : starEach (e :: es) X.env = (false, eval e X.env) :: starEach es X.env := by rfl) (hp : (backTo cpos (starEach es X.env)).any (·.1) = false := by rfl) :
    PE X (.Call (.Attribute o name apos) (e :: es) [] cpos) (tBMT r to t) := by
  refine ⟨fun pins s σ H Q I h => wpAny_Call_method_late hb hf hl rfl (thn (ho.run pins s σ H _ I h) fun v s1 ⟨x, H1, I1, r1, ⟨p, ob, xs, ex, ep, ed⟩, q⟩ => ?_)⟩
  subst ex
  cases r1
  obtain ⟨e1, _, its, _, o2, e2, c2, _⟩ := I1.hok p _ ep
  have arg := ha.run cpos pins s1 σ H1 _ I1 q
  rw [hs] at arg ⊢
  refine ⟨"tuple", id, PySem.F.plainAttrs_tuple, slot, ty, ⟨o2, e2, c2⟩, fun a z => ?_, Calls.callWith_builtin ?_ (Calls.evalArgs_plain (thn arg fun us s2 ⟨ys, H2, I2, r2, q2⟩ => hm pins s2 σ H2 (.ref p) ys _ us Q I2 rfl r2 q2))⟩
  · cases z
    exact ⟨ob, e1, ed⟩
  · show (false || (backTo cpos (starEach es X.env)).any (·.1)) = false
    rw [hp]
    rfl
abbrev sCell : Stmt := top 18
abbrev sPerm : Stmt := top 20
abbrev sLAfter : Stmt := top 21
abbrev sLTurned : Stmt := top 22
abbrev sLOdd : Stmt := top 23
abbrev sTold : Stmt := top 24
abbrev sLaw : Stmt := top 25
section
variable {P : Program} {w : World} {K : PySem.W.Frag} {mg : Str → Option Value} {base : Heap}
/-! ### _law_cell -/
def spCell (K : PySem.W.Frag) : Sp := fun vs H Q _ => ∃ (a : Addr) (ns : List Int) (k : Nat), vs = [.ref a, .int (k : Int)] ∧ SqL K H a (iV ns) ∧ Q (.int (ns.getD k 0)) H
theorem scCell : FnScope ["script", "k"] ["script", "k"] (defScope sCell) := ⟨rfl, rfl, rfl, by decide +kernel, rfl, by decide +kernel, by decide +kernel⟩
theorem ok_cell {f : Addr} {fd : FuncData} (F : Fun K "_law_cell" "_law_cell" sCell f fd) (N : Nm mg) : FnOk P w K mg base CX0 1 f fd ["script", "k"] (spCell K) := by
  refine F.ok scCell (fun vs H Q E h => ?_) (fun cdv A outer s H vs Q E hr h => ?_)
  · obtain ⟨a, ns, k, rfl, _⟩ := h
    rfl
  · obtain ⟨a, ns, k, rfl, hS, q⟩ := h
    refine ⟨_, pss_cons (ps_if (pt_cmpR op_lt (pv 1) (pe_callB call_len_seq (by rfl) N.ln PySem.boot_len (pa_cons (pv 0) pa_nil)) (nomark _)) (pss_one (ps_ret (pe_ix ix_list (pv 0) (pv 1) (fun _ _ => rfl)))) pss_nil)
      (pss_one (ps_ret pe_int)), ?_⟩
    refine ⟨_, rfl, .ref a, rfl, a, _, rfl, .inl hS, _, _, rfl, rfl, _, rfl, ?_⟩
    rw [List.length_map]
    refine ite2 (fun c => ?_) (fun c => ?_)
    · have c : (k : Int) < (ns.length : Int) := of_decide_eq_true c
      refine ⟨.ref a, rfl, _, rfl, a, _, (k : Int), _, rfl, rfl, hS, getD_at (by omega) c, ?_⟩
      rw [Int.toNat_natCast]
      exact q
    · have c : ¬ (k : Int) < (ns.length : Int) := fun z => c (decide_eq_true z)
      have e : ns.getD k 0 = 0 := by
        rw [List.getD_eq_getElem?_getD, List.getElem?_eq_none (by omega)]
        rfl
      rw [e] at q
      exact q

/-! ### _law_permutation -/
/-- behind k turns: what is left of the value, the entries, the corners left -/
def pst (v : Int) : Nat → Int × List Int × List Int
  | 0 => (v, [], [0, 1, 2, 3])
  | k + 1 =>
    let s := pst v k
    let i := (s.1 % (s.2.2.length : Int)).toNat
    (s.1 / (s.2.2.length : Int), s.2.1 ++ [s.2.2.getD i 0], s.2.2.take i ++ s.2.2.drop (i + 1))
def lawP (v : Int) : List Int := (pst v 4).2.1
theorem pst_left (v : Int) : ∀ k, k ≤ 4 → (pst v k).2.2.length = 4 - k
  | 0, _ => rfl
  | k + 1, h => by
    have ih := pst_left v k (by omega)
    show (List.take _ (pst v k).2.2 ++ List.drop _ (pst v k).2.2).length = 4 - (k + 1)
    have h1 : (pst v k).1 % ((pst v k).2.2.length : Int) < ((pst v k).2.2.length : Int) := Int.emod_lt_of_pos _ (by omega)
    have h0 : 0 ≤ (pst v k).1 % ((pst v k).2.2.length : Int) := Int.emod_nonneg _ (by omega)
    rw [List.length_append, List.length_take, List.length_drop]
    omega
theorem pst_made (v : Int) : ∀ k, (pst v k).2.1.length = k
  | 0 => rfl
  | k + 1 => by
    show ((pst v k).2.1 ++ [_]).length = k + 1
    rw [List.length_append, pst_made v k]
    rfl
theorem cut_to (l : List Int) (k : Nat) (h : k ≤ l.length) : cutV (iV l) none (some (k : Int)) = iV (l.take k) := by
  unfold cutV
  rw [HT.sIx_none, HT.sIx_nat, List.drop_zero, List.length_map, Nat.min_eq_left h, Nat.sub_zero]
  exact List.map_take.symm
theorem cut_from (l : List Int) (k : Nat) (h : k ≤ l.length) : cutV (iV l) (some (k : Int)) none = iV (l.drop k) := by
  unfold cutV
  rw [HT.sIx_none, HT.sIx_nat, List.length_map, Nat.min_eq_left h]
  rw [List.take_of_length_le (by rw [List.length_drop, List.length_map]; omega)]
  exact List.map_drop.symm
def spPerm : Sp := fun vs H Q _ => ∃ (v : Int), vs = [.int v] ∧ ∀ H' p o, Same H H' → H' p = some (.frz o (.tup (iV (lawP v)))) → o.dict = none → Q (.ref p) H'
theorem scPerm : FnScope ["value", "left", "entries", "k", "at"] ["value"] (defScope sPerm) := ⟨rfl, rfl, rfl, by decide +kernel, rfl, by decide +kernel, by decide +kernel⟩
theorem ok_perm {f : Addr} {fd : FuncData} (F : Fun K "_law_permutation" "_law_permutation" sPerm f fd) (N : Nm mg) : FnOk P w K mg base CX0 1 f fd ["value"] spPerm := by
  refine F.ok scPerm (fun vs H Q E h => ?_) (fun cdv A outer s H vs Q E hr h => ?_)
  · obtain ⟨v, rfl, _⟩ := h
    rfl
  · obtain ⟨v, rfl, k⟩ := h
    refine ⟨_, pss_cons (ps_set (i := 1) scPerm.nd rfl (.inl rfl) (pe_lst (pa_cons pe_int (pa_cons pe_int (pa_cons pe_int (pa_cons pe_int pa_nil))))))
      (pss_cons (ps_set (i := 2) scPerm.nd rfl (.inl rfl) (pe_lst pa_nil))
      (pss_cons (ps_for PassesOwn.never rfl (pi_range1 (by rfl) N.rng (pa_cons pe_int pa_nil)) (pg_name (i := 3) scPerm.nd rfl (.inl rfl))
        (pss_cons (ps_set (i := 4) scPerm.nd rfl (.inl rfl) (pe_op op_mod (pv 0) (pe_callB call_len_seq (by rfl) N.ln PySem.boot_len (pa_cons (pv 1) pa_nil))))
        (pss_cons (ps_set (i := 0) scPerm.nd rfl (.inl rfl) (pe_op op_fdiv (pv 0) (pe_callB call_len_seq (by rfl) N.ln PySem.boot_len (pa_cons (pv 1) pa_nil))))
        (pss_cons (ps_expr (pe_bm PySem.F.plainAttrs_list PySem.F.slot_list_append PySem.F.type_list_append mt_append (pv 2) (pa_cons (pe_ix ix_list (pv 1) (pv 4) (fun _ _ => rfl)) pa_nil)))
        (pss_one (ps_set (i := 1) scPerm.nd rfl (.inl rfl) (pe_op op_cat (pe_slice sl_list (pv 1) po_none (po_some (pv 4))) (pe_slice sl_list (pv 1) (po_some (pe_op op_add (pv 4) pe_int)) po_none))))))))
      (pss_one (ps_ret (pe_callTy call_tuple_ofF (by rfl) N.tpl (by decide +kernel) (pa_cons (pv 2) pa_nil)))))), ?_⟩
    refine ⟨by show 4 ≤ sizeLine; decide, fun l hl => ⟨by show 0 ≤ sizeLine; exact Nat.zero_le _, fun o ho => ?_⟩⟩
    refine ⟨4, rfl, by decide, by decide, for_it (walk_range (lo := 0)) (fun i σ H' => ∃ (q : Addr) (y3 y4 : Option V), σ = [some (.int (pst v i).1), some (.ref q), some (.ref o), y3, y4] ∧ Same H H' ∧ q ≠ o ∧ H' q = some (.lst (iV (pst v i).2.2)) ∧ H' o = some (.lst (iV (pst v i).2.1)))
      ⟨l, none, none, rfl, (Same.upd hl).trans (Same.upd ho), ne_of_none upd_same ho, Same.upd ho _ _ upd_same, upd_same⟩ (fun _ _ _ _ _ => trivial) ?_ ?_⟩
    · rintro i x σ H1 H2 hi ⟨q, y3, y4, rfl, sm, qo, hq, hd⟩ ⟨rfl, rfl⟩
      have hi : i < 4 := hi
      have hll := pst_left v i (by omega)
      have hml := pst_made v i
      have hpos : (0 : Int) < ((pst v i).2.2.length : Int) := by omega
      have h1 : (pst v i).1 % ((pst v i).2.2.length : Int) < ((pst v i).2.2.length : Int) := Int.emod_lt_of_pos _ hpos
      have h0 : 0 ≤ (pst v i).1 % ((pst v i).2.2.length : Int) := Int.emod_nonneg _ (by omega)
      obtain ⟨m, hm⟩ : ∃ m : Nat, (pst v i).1 % ((pst v i).2.2.length : Int) = (m : Int) := ⟨_, (Int.toNat_of_nonneg h0).symm⟩
      have lenE : ((iV (pst v i).2.2).length : Int) = ((pst v i).2.2.length : Int) := by rw [List.length_map]
      -- at = value % len(left)
      refine ⟨_, rfl, .ref q, rfl, q, _, rfl, .inl (.of hq), _, _, rfl, rfl, (by show (0 : Int) < _; rw [lenE]; exact hpos), ?_⟩
      simp only [lenE, hm]
      -- value = value // len(left)
      refine ⟨_, rfl, .ref q, rfl, q, _, rfl, .inl (.of hq), _, _, rfl, rfl, (by show (0 : Int) < _ ∧ _ < (1073741824 : Int); rw [lenE]; omega), ?_⟩
      simp only [lenE]
      -- entries.append(left[at])
      refine ⟨.ref o, rfl, .inl ⟨rfl, _, .of hd⟩, .ref q, rfl, _, rfl, q, _, (m : Int), _, rfl, rfl, .of hq, getD_at (by omega) (by omega), o, _, _, rfl, rfl, hd, (by rw [List.length_map, hml]; exact small1000 (by omega)), ?_⟩
      have hq2 : upd H2 o (.lst (iV (pst v i).2.1 ++ [V.int ((pst v i).2.2.getD ((m : Int)).toNat 0)])) q = some (.lst (iV (pst v i).2.2)) := (upd_ne qo).trans hq
      have sm2 : Same H (upd H2 o (.lst (iV (pst v i).2.1 ++ [V.int ((pst v i).2.2.getD ((m : Int)).toNat 0)]))) := fun c u e => by
        have ho2 : H o = none := (Same.upd hl).free ho
        exact (upd_ne (ne_of_none e ho2)).trans (sm c u e)
      -- left = left[:at] + left[at + 1:]
      refine ⟨.ref q, rfl, _, rfl, _, rfl, q, _, rfl, .of hq2, fun p1 hp1 => ?_⟩
      refine ⟨.ref q, rfl, _, rfl, _, _, rfl, rfl, _, rfl, q, _, rfl, .of (Same.upd hp1 _ _ hq2), fun p2 hp2 => ?_⟩
      refine ⟨p1, p2, _, _, rfl, rfl, Same.upd hp2 _ _ upd_same, upd_same, ?_, fun p3 hp3 => ?_⟩
      · have c1 := cutV_length (iV (pst v i).2.2) none (some (m : Int))
        have c2 := cutV_length (iV (pst v i).2.2) (some ((m : Int) + 1)) none
        rw [List.length_map] at c1 c2
        exact Nat.le_of_lt (small1000 (by omega))
      · refine ⟨p3, _, _, rfl, (sm2.trans (Same.upd hp1)).trans ((Same.upd hp2).trans (Same.upd hp3)), (ne_of_none (Same.upd hp2 _ _ (Same.upd hp1 _ _ upd_same)) hp3).symm, ?_, ?_⟩
        · rw [upd_same]
          have e1 : ((m : Int) + 1) = ((m + 1 : Nat) : Int) := by omega
          rw [cut_to _ _ (by omega), e1, cut_from _ _ (by omega), ← iV_app]
          show _ = some (HO.lst (iV ((pst v i).2.2.take ((pst v i).1 % ((pst v i).2.2.length : Int)).toNat ++ (pst v i).2.2.drop (((pst v i).1 % ((pst v i).2.2.length : Int)).toNat + 1))))
          rw [hm, Int.toNat_natCast]
        · have := (Same.upd hp3 (o := .lst (cutV (iV (pst v i).2.2) none (some (m : Int)) ++ cutV (iV (pst v i).2.2) (some ((m : Int) + 1)) none))) _ _ (Same.upd hp2 _ _ (Same.upd hp1 _ _ (upd_same (H := H2) (a := o) (o := .lst (iV (pst v i).2.1 ++ [V.int ((pst v i).2.2.getD ((m : Int)).toNat 0)])))))
          rw [this]
          show _ = some (HO.lst (iV ((pst v i).2.1 ++ [(pst v i).2.2.getD ((pst v i).1 % ((pst v i).2.2.length : Int)).toNat 0])))
          rw [hm, iV_app]
          rfl
    · rintro σ H1 ⟨q, y3, y4, rfl, sm, qo, hq, hd⟩
      exact ⟨.ref o, rfl, o, _, rfl, .of hd, fun p ob hp hn => k _ p ob (sm.trans (Same.upd hp)) upd_same hn⟩
end
end L2.Px

namespace L2.Px
open PySem PySem.Spec PyProof.Rows
/-- t.index(n), a tuple of ints -/
theorem mt_tidxI {X : Cx} : MtR X "tuple.index" (fun x xs H Q => ∃ (p : Addr) (ys : List Int) (n : Int), x = .ref p ∧ xs = [.int n] ∧ SqT X.K H p (iV ys) ∧ n ∈ ys ∧ Q (.int (ys.idxOf n : Nat)) H) := by
  intro pins s σ H x xs v us Q I rx rs h
  obtain ⟨p, ys, n, rfl, rfl, hq, hn, q⟩ := h
  cases rx
  obtain ⟨its, r, tp, hz⟩ := I.tuple hq
  cases rs with
  | cons ru rn =>
    cases rn
    obtain ⟨t, rfl⟩ := ru
    exact PySem.SeqAt.tuple_index_ints tp r.ints hn ⟨.int _, H, I.tok _, ⟨_, rfl⟩, q⟩
section
variable {P : Program} {w : World} {K : PySem.W.Frag} {mg : Str → Option Value} {base : Heap}
/-! ### _law_after -/
theorem scLA : FnScope ["one", "other", "corner"] ["one", "other"] (defScope sLAfter) := ⟨rfl, rfl, rfl, by decide +kernel, rfl, by decide +kernel, by decide +kernel⟩
theorem ok_lafter {f : Addr} {fd : FuncData} (F : Fun K "_law_after" "_law_after" sLAfter f fd) (N : Nm mg) : FnOk P w K mg base CX0 1 f fd ["one", "other"] (spProd K) := by
  refine F.ok scLA (fun vs H Q E h => ?_) (fun cdv A outer s H vs Q E hr h => ?_)
  · obtain ⟨a, b, ns, ms, rfl, _⟩ := h
    rfl
  · obtain ⟨a, b, ns, ms, rfl, hA, hB, hl, hb, k⟩ := h
    refine ⟨_, pss_one (ps_ret (pe_callTy call_tuple_of (by rfl) N.tpl (by decide +kernel) (pa_cons
      (pe_lc (own := [("corner", 2)]) (g := gName 2) (tt := tYes) (te := tOp (rIxT K) (tVar 1) (tVar 2)) rfl scLA.nd (pi_tup (pv 0)) (blkOk_by (N := ["one", "other", "corner"]) (sc := defScope sLAfter) (by decide +kernel)) (fun _ _ _ _ _ => pg_name (i := 2) scLA.nd rfl (.inl rfl)) (fun _ _ _ _ _ => pts_nil) (fun _ _ _ _ _ => pe_ix ix_tup (pv 1) (pv 2) (fun _ _ => rfl))) pa_nil))), ?_⟩
    refine ⟨.ref a, rfl, a, rfl, ⟨_, hA⟩, fun D hD => lc_tup (K := K) (a := a) (xs := iV ns) (fun i H' => Same H H' ∧ H' D = some (.lst (iV (prodL (ns.take i) ms)))) ⟨Same.upd hD, upd_same⟩ (fun i H' _ h' => h'.1.tup hA) ?_ ?_⟩
    · rintro i x H' hi ⟨sm, hd⟩
      obtain ⟨n, hn, rfl⟩ := iV_get hi
      obtain ⟨h0, h1⟩ := hb n (List.mem_of_getElem? hn)
      refine ⟨rfl, .ref b, rfl, .int n, rfl, b, _, n, _, rfl, rfl, sm.tup hB, getD_at h0 h1, _, hd, ?_, fun c o e => ?_, ?_⟩
      · rw [List.length_map]
        unfold prodL
        rw [List.length_map, List.length_take]
        exact small1000 (by omega)
      · rw [upd_ne (ne_of_none e hD)]
        exact sm c o e
      · rw [upd_same, take_snoc hn]
        unfold prodL
        rw [List.map_append, iV_app]
        rfl
    · rintro H' ⟨sm, hd⟩
      refine ⟨D, _, rfl, .inl ⟨.of hd, fun p hp => k _ p (sm.trans (Same.upd hp)) ?_⟩⟩
      show upd H' p _ p = _
      rw [upd_same]
      simp only [List.length_map, List.take_length]
/-! ### _law_turned -/
def turnedL (ns : List Int) (k : Nat) : List Int := (List.range k).map fun (i : Nat) => ((ns.idxOf (0 + (i : Int)) : Nat) : Int)
def spTurned (K : PySem.W.Frag) : Sp := fun vs H Q _ => ∃ (a : Addr) (ns : List Int), ∃ o, vs = [.ref a] ∧ H a = some (.frz o (.tup (iV ns))) ∧ o.dict = none ∧ isP ns = true ∧ ∀ H' p, Same H H' → H' p = some (.tup (iV (turnedL ns 4))) → Q (.ref p) H'
theorem scLT : FnScope ["one", "corner"] ["one"] (defScope sLTurned) := ⟨rfl, rfl, rfl, by decide +kernel, rfl, by decide +kernel, by decide +kernel⟩
theorem isP_all {ns : List Int} (h : isP ns = true) {i : Nat} (hi : i < 4) : (0 + (i : Int)) ∈ ns := by
  refine (List.isPerm_iff.mp h).mem_iff.mpr ?_
  simp
  omega
theorem ok_lturned {f : Addr} {fd : FuncData} (F : Fun K "_law_turned" "_law_turned" sLTurned f fd) (N : Nm mg) : FnOk P w K mg base CX0 1 f fd ["one"] (spTurned K) := by
  refine F.ok scLT (fun vs H Q E h => ?_) (fun cdv A outer s H vs Q E hr h => ?_)
  · obtain ⟨a, ns, o, rfl, _⟩ := h
    rfl
  · obtain ⟨a, ns, ob, rfl, hF, hN, hp, k⟩ := h
    have hA : SqT K H a (iV ns) := .inl (.inr ⟨ob, hF⟩)
    refine ⟨_, pss_one (ps_ret (pe_callTy call_tuple_of (by rfl) N.tpl (by decide +kernel) (pa_cons
      (pe_lc (own := [("corner", 1)]) (g := gName 1) (tt := tYes) (te := tBMT (fun x xs H Q => ∃ (p : Addr) (ys : List Int) (n : Int), x = .ref p ∧ xs = [.int n] ∧ SqT K H p (iV ys) ∧ n ∈ ys ∧ Q (.int (ys.idxOf n : Nat)) H) (tVar 0) (tCons (tVar 1) tNil)) rfl scLT.nd (pi_range1 (by rfl) N.rng (pa_cons pe_int pa_nil)) (blkOk_by (N := ["one", "corner"]) (sc := defScope sLTurned) (by decide +kernel)) (fun _ _ _ _ _ => pg_name (i := 1) scLT.nd rfl (.inl rfl)) (fun _ _ _ _ _ => pts_nil)
        (fun _ _ _ _ _ => pe_bmT PySem.F.slot_tuple_index PySem.F.type_tuple_index mt_tidxI (pv 0) (pa_cons (pv 1) pa_nil))) pa_nil))), ?_⟩
    refine ⟨4, rfl, by decide, by decide, fun D hD => lc_range (lo := 0) (fun i H' => Same H H' ∧ H' D = some (.lst (iV (turnedL ns i)))) ⟨Same.upd hD, upd_same⟩ ?_ ?_⟩
    · rintro i H' hi ⟨sm, hd⟩
      have hi : i < 4 := hi
      refine ⟨rfl, .ref a, rfl, ⟨a, ob, _, rfl, sm _ _ hF, hN⟩, _, rfl, a, ns, _, rfl, rfl, sm.tup hA, isP_all hp hi, _, hd, ?_, fun c o e => ?_, ?_⟩
      · unfold turnedL
        rw [List.length_map, List.length_map, List.length_range]
        exact small1000 (by omega)
      · rw [upd_ne (ne_of_none e hD)]
        exact sm c o e
      · rw [upd_same]
        unfold turnedL
        rw [List.range_succ, List.map_append, iV_app]
        rfl
    · rintro H' ⟨sm, hd⟩
      exact ⟨D, _, rfl, .inl ⟨.of hd, fun p hp => k _ p (sm.trans (Same.upd hp)) upd_same⟩⟩
end
end L2.Px

namespace L2.Px
open PySem PySem.Spec PyProof.Rows
section
variable {P : Program} {w : World} {K : PySem.W.Frag} {mg : Str → Option Value} {base : Heap}
/-! ### _law_is_odd -/
def cLess (ns : List Int) (i : Nat) : Nat := (ns.drop (i + 1)).countP fun n => decide (n < ns.getD i 0)
def cSum (ns : List Int) : Nat → Nat
  | 0 => 0
  | i + 1 => cSum ns i + cLess ns i
def lawOdd (ns : List Int) : Bool := decide (((cSum ns 4 : Nat) : Int) % 2 = 1)
def spLOdd (K : PySem.W.Frag) : Sp := fun vs H Q _ => ∃ (a : Addr) (ns : List Int), vs = [.ref a] ∧ SqT K H a (iV ns) ∧ ns.length = 4 ∧ ∀ H', Same H H' → Q (.bl (lawOdd ns)) H'
theorem scLO : FnScope ["one", "count", "i", "corner"] ["one"] (defScope sLOdd) := ⟨rfl, rfl, rfl, by decide +kernel, rfl, by decide +kernel, by decide +kernel⟩
abbrev rLt : R2 := rI0 fun i j => .bl (decide (i < j))
theorem ok_lodd {f : Addr} {fd : FuncData} (F : Fun K "_law_is_odd" "_law_is_odd" sLOdd f fd) (N : Nm mg) : FnOk P w K mg base CX0 1 f fd ["one"] (spLOdd K) := by
  refine F.ok scLO (fun vs H Q E h => ?_) (fun cdv A outer s H vs Q E hr h => ?_)
  · obtain ⟨a, ns, rfl, _⟩ := h
    rfl
  · obtain ⟨a, ns, rfl, hA, hl, k⟩ := h
    refine ⟨_, pss_cons (ps_set (i := 1) scLO.nd rfl (.inl rfl) pe_int)
      (pss_cons (ps_for PassesOwn.never rfl (pi_range1 (by rfl) N.rng (pa_cons pe_int pa_nil)) (pg_name (i := 2) scLO.nd rfl (.inr rfl))
        (pss_one (ps_set (i := 1) scLO.nd rfl (.inl rfl) (pe_op op_add (pv 1) (pe_callB call_len_seq (by rfl) N.ln PySem.boot_len (pa_cons
          (pe_lc (own := [("corner", 3)]) (g := gName 3) (tt := tTest (tOp rLt (tVar 3) (tOp (rIxT K) (tVar 0) (tVar 2)))) (te := tVar 3) rfl scLO.nd (pi_tup (pe_slice sl_tupA (pv 0) (po_some (pe_op op_add (pv 2) pe_int)) po_none)) (blkOk_by (N := ["one", "count", "i", "corner"]) (sc := defScope sLOdd) (by decide +kernel))
            (fun _ _ _ _ _ => pg_name (i := 3) scLO.nd rfl (.inl rfl)) (fun _ _ _ _ _ => pts_one (pt_cmpR op_lt (pv 3) (pe_ix ix_tup (pv 0) (pv 2) (fun _ _ => rfl)) (nomark _))) (fun _ _ _ _ _ => pv 3)) pa_nil))))))
      (pss_one (ps_ret (pe_cmpR op_eq (pe_op op_mod (pv 1) pe_int) pe_int (nomark _))))), ?_⟩
    refine ⟨4, rfl, by decide, by decide, for_it (walk_range (lo := 0)) (fun i σ H' => ∃ (y2 y3 : Option V), σ = [some (.ref a), some (.int ((cSum ns i : Nat) : Int)), y2, y3] ∧ Same H H') ⟨none, none, rfl, Same.refl H⟩ (fun _ _ _ _ _ => trivial) ?_ ?_⟩
    · rintro i x σ H1 H2 hi ⟨y2, y3, rfl, sm⟩ ⟨rfl, rfl⟩
      have hi : i < 4 := hi
      refine ⟨_, rfl, .ref a, rfl, _, rfl, _, _, rfl, rfl, _, rfl, a, _, rfl, sm.tup hA, fun c => ?_, fun _ p hp => ?_⟩
      · exfalso
        have e : (0 + (i : Int) + 1) = ((i + 1 : Nat) : Int) := by omega
        rw [e, HT.sIx_nat, List.length_map] at c
        omega
      · have eC : cutV (iV ns) (some (0 + (i : Int) + 1)) none = iV (ns.drop (i + 1)) := by
          have e : (0 + (i : Int) + 1) = ((i + 1 : Nat) : Int) := by omega
          rw [e]
          exact cut_from ns (i + 1) (by omega)
        have hp1 : SqT K (upd H2 p (.tup (cutV (iV ns) (some (0 + (i : Int) + 1)) none))) p (iV (ns.drop (i + 1))) := by
          rw [← eC]
          exact .of upd_same
        have sp : Same H (upd H2 p (.tup (cutV (iV ns) (some (0 + (i : Int) + 1)) none))) := sm.trans (Same.upd hp)
        refine ⟨p, rfl, ⟨_, hp1⟩, fun D hD => lc_tup (K := K) (a := p) (xs := iV (ns.drop (i + 1))) (fun j H' => Same (upd H2 p (.tup (cutV (iV ns) (some (0 + (i : Int) + 1)) none))) H' ∧ ∃ acc, H' D = some (.lst acc) ∧ acc.length = ((ns.drop (i + 1)).take j).countP fun n => decide (n < ns.getD i 0))
          ⟨Same.upd hD, [], upd_same, rfl⟩ (fun j H' _ h' => h'.1.tup hp1) ?_ ?_⟩
        · rintro j x H' hj ⟨s2, acc, hd, hc⟩
          obtain ⟨n, hn, rfl⟩ := iV_get hj
          refine ⟨rfl, _, rfl, .ref a, rfl, _, rfl, a, _, _, _, rfl, rfl, (sp.trans s2).tup hA, getD_at (by omega) (by omega), _, _, rfl, rfl, _, rfl, ?_⟩
          have ei : (0 + (i : Int)).toNat = i := by omega
          rw [ei, take_snoc hn, List.countP_append]
          refine ite2 (fun c => ?_) (fun c => ?_)
          · refine ⟨_, rfl, acc, hd, ?_, fun y o e => ?_, _, upd_same, ?_⟩
            · rw [hc]
              have h1 : ((ns.drop (i + 1)).take j).countP (fun n => decide (n < ns.getD i 0)) ≤ ((ns.drop (i + 1)).take j).length := List.countP_le_length
              rw [List.length_take, List.length_drop] at h1
              exact small1000 (by omega)
            · rw [upd_ne (ne_of_none e hD)]
              exact s2 _ _ e
            · rw [List.length_append, hc, List.countP_cons_of_pos (by exact c)]
              rfl
          · refine ⟨s2, acc, hd, ?_⟩
            rw [hc, List.countP_cons_of_neg (by exact c)]
            rfl
        · rintro H' ⟨s2, acc, hd, hc⟩
          rw [List.length_map, List.take_length] at hc
          refine ⟨D, acc, rfl, .inl (.of hd), _, _, rfl, rfl, ?_⟩
          refine ⟨some (V.int (0 + (i : Int))), y3, ?_, sp.trans s2⟩
          show [some (V.ref a), some (V.int (((cSum ns i : Nat) : Int) + (acc.length : Int))), some (V.int (0 + (i : Int))), y3] = [some (V.ref a), some (V.int ((cSum ns (i + 1) : Nat) : Int)), some (V.int (0 + (i : Int))), y3]
          rw [hc]
          rfl
    · rintro σ H1 ⟨y2, y3, rfl, sm⟩
      refine ⟨_, rfl, _, _, rfl, rfl, (by decide : (0 : Int) < 2), rfl, ?_⟩
      have e : decide (V.int (((cSum ns 4 : Nat) : Int) % 2) = V.int 1) = lawOdd ns := by
        unfold lawOdd
        simp
      have g := k H1 sm
      rw [← e] at g
      exact g

/-! ### _law_told -/
/-- isinstance(e, c), e what the suite holds: its class and dict told apart -/
theorem call_isE2 {X : Cx} {a D : Addr} {oe : Obj} {cls : Value} {d : Option Addr} {pn : List (Addr × Obj)} (C : ExcC X.K D) (hz : Zc cls d oe) (hf : ∃ vs, oe.data = .fields vs) :
    CallR (X.suite a ((a, oe) :: pn)) (.builtin "isinstance") (fun xs H Q => cls = .ref D ∧ d = none ∧ rIsE X.K D a xs H Q) := by
  intro pins s σ H xs us Q I r h
  obtain ⟨e1, e2, q⟩ := h
  subst e1 e2
  exact call_isE C hz hf pins s σ H xs us Q I r q
def toldD (wh : Nat) (ns ms : List Int) : PyData :=
  if wh = 0 then (if isP ns = true ∧ isP ms = true then .tuple (iD (prodL ns ms)) else .str "bad")
  else if isP ns = true then (if wh = 1 then .tuple (iD (invL ns)) else if wh = 2 then .bool (oddL ns) else .int (idxL ns : Nat)) else .str "bad"
def spTold (K : PySem.W.Frag) : Sp := fun vs H Q _ => ∃ (a b : Addr) (ns ms : List Int) (wh : Nat), vs = [.int (wh : Int), .ref a, .ref b] ∧ SqT K H a (iV ns) ∧ SqT K H b (iV ms) ∧ ∀ H' v, Same H H' → Dp K H' v (toldD wh ns ms) → Q v H'
theorem scTold : FnScope ["which", "one", "other", "e"] ["which", "one", "other"] (defScope sTold) := ⟨rfl, rfl, rfl, by decide +kernel, rfl, by decide +kernel, by decide +kernel⟩
/-- the classes for the except clause -/
structure Wed (K : PySem.W.Frag) (mg : Str → Option Value) (C W G : Addr) : Prop where
  e : ExcC K C
  m : PySem.W.exmOne K (.ref C) (.ref C) = some true
  gW : mg "WedgeError" = some (.ref W)
  gG : mg "NotGluing" = some (.ref G)
  kW : PySem.W.kitOne K (.ref C) (.ref W) = some true
  kG : PySem.W.kitOne K (.ref C) (.ref G) = some false
  mi : mg "isinstance" = none
abbrev rEqV : R2 := fun x y H Q => flatV x = true ∧ flatV y = true ∧ Q (.bl (decide (x = y))) H
end
end L2.Px

namespace L2.Px
open PySem PySem.Spec PyProof.Rows
section
variable {P : Program} {w : World} {K : PySem.W.Frag} {mg : Str → Option Value} {base : Heap}
/-- the addresses of the program's defs -/
structure Defs (K : PySem.W.Frag) (mg : Str → Option Value) (C aI fI fC fA fV fO fL fX fP fQ fS fT : Addr) (dI dC dA dV dO dL dX dP dQ dS dT : FuncData) : Prop where
  N : Nm mg
  B : Bad K mg C
  I : Idn K mg aI
  tI : At K mg "is_permutation" sIsPerm ["entries"] fI dI
  tC : At K mg "check_permutation" sCheck ["entries"] fC dC
  tA : At K mg "after" sAfter ["one", "other"] fA dA
  tV : At K mg "inverse" sInverse ["one"] fV dV
  tO : At K mg "is_odd" sIsOdd ["one"] fO dO
  tL : At K mg "all_permutations" sAll [] fL dL
  tX : At K mg "index_of" sIndexOf ["one"] fX dX
  tP : At K mg "product_of" sProductOf ["one", "other"] fP dP
  tQ : At K mg "inverse_of" sInverseOf ["one"] fQ dQ
  tS : At K mg "has_odd_sign" sOddSign ["one"] fS dS
  tT : At K mg "taking" sTaking ["places", "images"] fT dT
/-- the suite: which text is told -/
def sTold0 (K : PySem.W.Frag) (C W G : Addr) : Addr → Value → Option Addr → TS := fun a cls d =>
  tRet (tIf (tAnd (tB (tCB (fun xs H Q => cls = .ref C ∧ d = none ∧ rIsE K C a xs H Q) (tCons (tVar 3) (tCons (L2.tC (.ref W)) tNil)))) (tNot (tB (tCB (fun xs H Q => cls = .ref C ∧ d = none ∧ rIsE K C a xs H Q) (tCons (tVar 3) (tCons (L2.tC (.ref G)) tNil)))))) (L2.tC (.str "bad")) (L2.tC (.str "other")))
def bTold0 (K : PySem.W.Frag) (C : Addr) : WX → TS := fun W =>
  tSeq (tIfS (tTest (tOp rEq (tVar 0) (L2.tC (.int 0)))) (tRet (tCallS (spAfter K C) (WE W) (tCons (tVar 1) (tCons (tVar 2) tNil)))) tNext)
  (tSeq (tIfS (tTest (tOp rEq (tVar 0) (L2.tC (.int 1)))) (tRet (tCallS (spInverse K C) (WE W) (tCons (tVar 1) tNil))) tNext)
  (tSeq (tIfS (tTest (tOp rEq (tVar 0) (L2.tC (.int 2)))) (tRet (tCallS (spIsOdd K C) (WE W) (tCons (tVar 1) tNil))) tNext)
  (tRet (tCallS (spIdx K C) (WE W) (tCons (tVar 1) tNil)))))
theorem nat_eq0 (wh : Nat) (n : Nat) : decide (V.int (wh : Int) = V.int (n : Int)) = decide (wh = n) := by
  by_cases e : wh = n
  · subst e; simp
  · rw [decide_eq_false e, decide_eq_false]
    intro z
    injection z with z
    omega
theorem ok_told {f C W G aI fI fC fA fV fO fL fX fP fQ fS fT : Addr} {fd dI dC dA dV dO dL dX dP dQ dS dT : FuncData} (F : Fun K "_law_told" "_law_told" sTold f fd) (D : Defs K mg C aI fI fC fA fV fO fL fX fP fQ fS fT dI dC dA dV dO dL dX dP dQ dS dT) (Wd : Wed K mg C W G) :
    FnOk P w K mg base CX0 4 f fd ["which", "one", "other"] (spTold K) := by
  have GA : FnOk P w K mg base (L2.CX P w) 3 fA dA ["one", "other"] (spAfter K C) := ok_after D.tA.F D.N D.B D.tI D.tC D.tP
  have GV : FnOk P w K mg base (L2.CX P w) 3 fV dV ["one"] (spInverse K C) := ok_inverse D.tV.F D.N D.B D.I D.tI D.tC D.tQ D.tT
  have GO : FnOk P w K mg base (L2.CX P w) 3 fO dO ["one"] (spIsOdd K C) := ok_isodd D.tO.F D.N D.B D.tI D.tC D.tS
  have GX : FnOk P w K mg base (L2.CX P w) 3 fX dX ["one"] (spIdx K C) := ok_idx D.tX.F D.N D.B D.tI D.tC D.tL
  refine F.ok scTold (fun vs H Q E h => ?_) (fun cdv A outer s H vs Q E hr h => ?_)
  · obtain ⟨a, b, ns, ms, wh, rfl, _⟩ := h
    rfl
  · obtain ⟨a, b, ns, ms, wh, rfl, hA, hB, k⟩ := h
    refine ⟨_, pss_one (ps_try_as (i := 3) (tb := bTold0 K C) (ts := sTold0 K C W G) (Wout := fun _ _ _ _ => False) rfl rfl scTold.nd rfl rfl ⟨rfl, by decide, .inl D.B.g⟩ takes0
      (fun W pn xe tk _ => pss_cons (ps_if (pt_cmpR op_eq (pv 0) pe_int (nomark _)) (pss_one (ps_ret (by exact (pe_callS GA hr rfl D.tA.g D.tA.F.kp D.tA.b (fun σ => passAt tk σ) (pa_cons (pv 1) (pa_cons (pv 2) pa_nil)))))) pss_nil)
        (pss_cons (ps_if (pt_cmpR op_eq (pv 0) pe_int (nomark _)) (pss_one (ps_ret (by exact (pe_callS GV hr rfl D.tV.g D.tV.F.kp D.tV.b (fun σ => passAt tk σ) (pa_cons (pv 1) pa_nil))))) pss_nil)
        (pss_cons (ps_if (pt_cmpR op_eq (pv 0) pe_int (nomark _)) (pss_one (ps_ret (by exact (pe_callS GO hr rfl D.tO.g D.tO.F.kp D.tO.b (fun σ => passAt tk σ) (pa_cons (pv 1) pa_nil))))) pss_nil)
        (pss_one (ps_ret (by exact (pe_callS GX hr rfl D.tX.g D.tX.F.kp D.tX.b (fun σ => passAt tk σ) (pa_cons (pv 1) pa_nil))))))))
      (fun a oe cls d pn hz hf => pss_one (ps_ret (pe_ifExp (PW.pt (pw_and (pt_val (by exact (pe_callB (call_isE2 Wd.e hz hf) (by rfl) Wd.mi (by decide +kernel) (pa_cons (pv 3) (pa_cons (pe_glob rfl Wd.gW (v := .ref W) rfl) pa_nil))))) (pw_and1 (pt_not (pt_val (by exact (pe_callB (call_isE2 Wd.e hz hf) (by rfl) Wd.mi (by decide +kernel) (pa_cons (pv 3) (pa_cons (pe_glob rfl Wd.gG (v := .ref G) rfl) pa_nil))))))))) pe_str pe_str)))), ?_⟩
    -- the suite, whatever stands in the heap
    have suite : ∀ (Wn : St → Hp → Prop) (H' : Hp), Same H H' → toldD wh ns ms = .str "bad" → wAs K (.ref C) 3 (sTold0 K C W G) (fun _ _ _ _ => False) { nx := fun _ H' => Q .non H', rt := Q } (.ref C) none [some (.int (wh : Int)), some (.ref a), some (.ref b), none] H' := by
      intro _ H' sm e
      refine ⟨true, Wd.m, fun _ x hx => ?_, fun z => by cases z⟩
      refine ⟨.ref x, rfl, rfl, rfl, .ref W, .ref W, true, rfl, fun u hu => hu, Wd.kW, true, rfl, ?_⟩
      refine ⟨.ref x, rfl, rfl, rfl, .ref G, .ref G, false, rfl, fun u hu => hu, Wd.kG, false, rfl, ?_⟩
      exact k H' (.str "bad") sm (by rw [e]; exact .str _)
    refine ⟨_, rfl, rfl, _, rfl, ?_⟩
    rw [show decide (V.int (wh : Int) = V.int 0) = decide (wh = 0) from nat_eq0 wh 0]
    refine ite2 (fun c => ?_) (fun c => ?_)
    · have c : wh = 0 := of_decide_eq_true c
      refine ⟨_, rfl, _, rfl, a, b, ns, ms, rfl, hA, hB, fun h1 h2 H' p sm hp => k H' _ sm ?_, fun hn H' sm => suite (fun _ _ => False) H' sm ?_⟩
      · unfold toldD
        rw [if_pos c, if_pos ⟨h1, h2⟩]
        exact dp_ti (.of hp)
      · unfold toldD
        rw [if_pos c, if_neg hn]
    · have c : ¬ wh = 0 := fun z => c (decide_eq_true z)
      refine ⟨_, rfl, rfl, _, rfl, ?_⟩
      rw [show decide (V.int (wh : Int) = V.int 1) = decide (wh = 1) from nat_eq0 wh 1]
      refine ite2 (fun c1 => ?_) (fun c1 => ?_)
      · have c1 : wh = 1 := of_decide_eq_true c1
        refine ⟨_, rfl, a, ns, rfl, hA, fun h1 H' p sm hp => k H' _ sm ?_, fun hn H' sm => suite (fun _ _ => False) H' sm ?_⟩
        · unfold toldD
          rw [if_neg c, if_pos h1, if_pos c1]
          exact dp_ti (.of hp)
        · unfold toldD
          rw [if_neg c, if_neg (by rw [hn]; decide)]
      · have c1 : ¬ wh = 1 := fun z => c1 (decide_eq_true z)
        refine ⟨_, rfl, rfl, _, rfl, ?_⟩
        rw [show decide (V.int (wh : Int) = V.int 2) = decide (wh = 2) from nat_eq0 wh 2]
        refine ite2 (fun c2 => ?_) (fun c2 => ?_)
        · have c2 : wh = 2 := of_decide_eq_true c2
          refine ⟨_, rfl, a, ns, rfl, hA, fun h1 H' sm => k H' _ sm ?_, fun hn H' sm => suite (fun _ _ => False) H' sm ?_⟩
          · unfold toldD
            rw [if_neg c, if_pos h1, if_neg c1, if_pos c2]
            exact .bl _
          · unfold toldD
            rw [if_neg c, if_neg (by rw [hn]; decide)]
        · have c2 : ¬ wh = 2 := fun z => c2 (decide_eq_true z)
          refine ⟨_, rfl, a, ns, rfl, hA, fun h1 H' sm => k H' _ sm ?_, fun hn H' sm => suite (fun _ _ => False) H' sm ?_⟩
          · unfold toldD
            rw [if_neg c, if_pos h1, if_neg c1, if_neg c2]
            exact .int _
          · unfold toldD
            rw [if_neg c, if_neg (by rw [hn]; decide)]
end
end L2.Px

namespace L2.Px
open PySem PySem.Spec PyProof.Rows
/-! ### small data and their texts -/
mutual
def sm : PyData → Bool
  | .none => true
  | .bool _ => true
  | .int i => decide (i.natAbs < 1000000000)
  | .str x => x.cps.toList.all fun c => decide (c < 16 ^ 8)
  | .list xs => smAll xs
  | .tuple xs => smAll xs
  | .dict _ => false
def smAll : List PyData → Bool
  | [] => true
  | x :: r => sm x && smAll r
end
theorem int_short {i : Int} (h : i.natAbs < 1000000000) : (PyData.shown (.int i)).length ≤ 20 := by
  show (Str.ofString (toString i)).length ≤ 20
  rw [PySem.ofString_length]
  have := int_text_length_le10 (a := i) (k := 9) (by decide) h
  omega
mutual
theorem sm_ok : ∀ d : PyData, sm d = true → d.showable = true ∧ d.hasDict = false ∧ d.leavesShort 20 = true
  | .none, _ => ⟨rfl, rfl, rfl⟩
  | .bool _, _ => ⟨rfl, rfl, rfl⟩
  | .int i, h => by
    have h : i.natAbs < 1000000000 := of_decide_eq_true h
    refine ⟨decide_eq_true ?_, rfl, decide_eq_true (int_short h)⟩
    by_cases z : i.natAbs = 0
    · rw [z]
      decide
    · exact Nat.lt_of_lt_of_le ((Nat.log2_lt z).mpr (Nat.lt_of_lt_of_le h (by decide : 1000000000 ≤ 2 ^ 30))) (by decide)
  | .str x, h => ⟨rfl, rfl, h⟩
  | .list xs, h => smAll_ok xs h
  | .tuple xs, h => smAll_ok xs h
  | .dict _, h => by cases h
theorem smAll_ok : ∀ xs : List PyData, smAll xs = true → PyData.showableAll xs = true ∧ PyData.hasDictAll xs = false ∧ PyData.leavesShortAll 20 xs = true
  | [], _ => ⟨rfl, rfl, rfl⟩
  | x :: r, h => by
    have h : (sm x && smAll r) = true := h
    rw [Bool.and_eq_true] at h
    obtain ⟨a1, a2, a3⟩ := sm_ok x h.1
    obtain ⟨b1, b2, b3⟩ := smAll_ok r h.2
    refine ⟨?_, ?_, ?_⟩
    · show (PyData.showable x && PyData.showableAll r) = true
      rw [a1, b1]
      rfl
    · show (PyData.hasDict x || PyData.hasDictAll r) = false
      rw [a2, b2]
      rfl
    · show (PyData.leavesShort 20 x && PyData.leavesShortAll 20 r) = true
      rw [a3, b3]
      rfl
end
section
variable {X : Cx}
/-- repr(x) of small data -/
def rReprS (K : PySem.W.Frag) : List V → Hp → VK → Prop := fun vs H Q => ∃ (x : V) (d : PyData), vs = [x] ∧ Dp K H x d ∧ sm d = true ∧ d.depth ≤ 60 ∧ d.weight ≤ 700000 ∧ Q (.str d.shown) H
theorem cr_reprS (hg : X.A.guards = some []) (hu : X.A.units + 64 < cLine) : CallR X (.builtin "repr") (rReprS X.K) := by
  intro pins s σ H vs us Q I r h
  obtain ⟨x, d, e, hd, hs, hp, hw, q⟩ := h
  obtain ⟨s1, s2, s3⟩ := sm_ok d hs
  refine cr_reprD hg hu pins s σ H vs us Q I r ⟨x, d, e, hd, s1, s2, hp, ?_, q⟩
  have := PyData.shown_le 20 (by decide) d s3
  have z : sizeLine = 16777216 := sizeLine_eq
  omega
end
theorem sm_ints : ∀ ns : List Int, (∀ n ∈ ns, n.natAbs < 1000000000) → smAll (iD ns) = true
  | [], _ => rfl
  | n :: r, h => by
    show (decide (n.natAbs < 1000000000) && smAll (iD r)) = true
    rw [decide_eq_true (h n (by simp)), sm_ints r fun m hm => h m (by simp [hm])]
    rfl
theorem wt_int {n : Int} (h : n.natAbs < 1000000000) : PyData.weight (.int n) ≤ 30 := by
  show (if n == 0 then 0 else n.natAbs.log2 + 1) ≤ 30
  split
  · exact Nat.zero_le _
  · rename_i z
    have z : n.natAbs ≠ 0 := fun e => z (by have := Int.natAbs_eq_zero.mp e; simp [this])
    exact (Nat.log2_lt z).mpr (Nat.lt_of_lt_of_le h (by decide : 1000000000 ≤ 2 ^ 30))
theorem wt_ints : ∀ ns : List Int, (∀ n ∈ ns, n.natAbs < 1000000000) → PyData.weightAll (iD ns) ≤ 31 * ns.length
  | [], _ => Nat.le_refl _
  | n :: r, h => by
    have h1 := wt_ints r fun m hm => h m (by simp [hm])
    have h2 := wt_int (h n (by simp))
    show PyData.weight (.int n) + 1 + PyData.weightAll (iD r) ≤ _
    simp only [List.length_cons]
    omega
/-! ### the mathematics of the law -/
theorem law_perm : ∀ v : Nat, v < 24 → isP (lawP (v : Int)) = true := by decide +kernel
theorem law_turned : ∀ ns ∈ allP, turnedL ns 4 = invL ns := by decide +kernel
theorem law_odd : ∀ ns ∈ allP, lawOdd ns = oddL ns := by decide +kernel
theorem law_count : ∀ ns ∈ allP, (allP.countP fun m => decide (m = ns)) = 1 := by decide +kernel
theorem allP_len : allP.length = 24 := by decide +kernel
theorem allP_bd : ∀ ns ∈ allP, ns.length = 4 ∧ ∀ n ∈ ns, 0 ≤ n ∧ n < 4 := by decide +kernel
theorem allP_codes : ∀ i < 24, ∀ j < i, TS.code 4 (allP.getD j []) < TS.code 4 (allP.getD i []) := by decide +kernel
theorem allP_sm : smAll (tD allP) = true := by decide +kernel
theorem allP_wt : PyData.weightAll (tD allP) ≤ 1000 := by decide +kernel
end L2.Px

namespace L2.Px
open PySem PySem.Spec PyProof.Rows
theorem index_parts {ns : List Int} (hp : isP ns = true) : (tD allP)[idxL ns]? = some (.tuple (iD ns)) ∧ PyData.eqv (.tuple (iD ns)) (.tuple (iD ns)) = true ∧ ∀ (m : Nat) (z : PyData), m < idxL ns → (tD allP)[m]? = some z → PyData.eqv z (.tuple (iD ns)) = false := by
  obtain ⟨i1, i2⟩ := idx_all ns (perm_in hp)
  refine ⟨by rw [List.getElem?_map, i1]; rfl, by rw [eqv_tup]; exact decide_eq_true rfl, fun m z hm hz => ?_⟩
  rw [List.getElem?_map] at hz
  cases e : allP[m]? with
  | none => rw [e] at hz; cases hz
  | some ms =>
    rw [e] at hz
    cases hz
    show PyData.eqv (.tuple (iD ms)) (.tuple (iD ns)) = false
    rw [eqv_tup]
    exact decide_eq_false fun z => i2 m hm (by rw [e, z])
/-! ### slices and sums of tuples, whatever they are -/
theorem sl_any {K : PySem.W.Frag} {H : Hp} {a : Addr} {xs : List V} {lo hi : Option Int} {Q : VK} (h : SqT K H a xs) (k : ∀ H' p, Same H H' → SqT K H' p (cutV xs lo hi) → Q (.ref p) H') : rSlA K (.ref a) lo hi H Q := by
  refine ⟨a, xs, rfl, h, fun c => k H a (Same.refl H) ?_, fun _ p hp => k _ p (Same.upd hp) (.of upd_same)⟩
  unfold cutV
  rw [c.1, c.2, List.drop_zero, Nat.sub_zero, List.take_length]
  exact h
theorem cat_any {K : PySem.W.Frag} {H : Hp} {a b : Addr} {xs ys : List V} {Q : VK} (h1 : SqT K H a xs) (h2 : SqT K H b ys) (hz : xs.length + ys.length ≤ sizeLine) (k : ∀ H' p, Same H H' → SqT K H' p (xs ++ ys) → Q (.ref p) H') : rCatA K (.ref a) (.ref b) H Q := by
  refine ⟨a, b, xs, ys, rfl, rfl, h1, h2, hz, fun e => k H b (Same.refl H) ?_, fun _ e => k H a (Same.refl H) ?_, fun _ _ p hp => k _ p (Same.upd hp) (.of upd_same)⟩
  · rw [e, List.nil_append]
    exact h2
  · rw [e, List.append_nil]
    exact h1
section
variable {X : Cx}
/-- t + u, in one: some tuple of both, all else as it was -/
def rCatS (K : PySem.W.Frag) : R2 := fun x y H Q => ∃ a b xs ys, x = .ref a ∧ y = .ref b ∧ SqT K H a xs ∧ SqT K H b ys ∧ xs.length + ys.length ≤ sizeLine ∧ ∀ H' p, Same H H' → SqT K H' p (xs ++ ys) → Q (.ref p) H'
theorem op_catS : OpR X (binaryOp .Add) (rCatS X.K) := by
  intro pins s σ H x y v u Q I rx ry h
  obtain ⟨a, b, xs, ys, rfl, rfl, h1, h2, hz, k⟩ := h
  exact op_catA pins s σ H _ _ v u Q I rx ry (cat_any h1 h2 hz k)
/-- t[lo:hi], in one -/
def rSlS (K : PySem.W.Frag) : V → Option Int → Option Int → Hp → VK → Prop := fun x lo hi H Q => ∃ a xs, x = .ref a ∧ SqT K H a xs ∧ ∀ H' p, Same H H' → SqT K H' p (cutV xs lo hi) → Q (.ref p) H'
theorem sl_tupS : SlR X (rSlS X.K) := by
  intro pins s σ H x v vl vu lo hi sl Q I rx hs pl pu h
  obtain ⟨a, xs, rfl, h1, k⟩ := h
  exact sl_tupA pins s σ H _ v vl vu lo hi sl Q I rx hs pl pu (sl_any h1 k)
end
theorem small_cat {xs ys : List Int} (h : xs.length + ys.length ≤ 100) : (iV xs).length + (iV ys).length ≤ sizeLine := by
  rw [List.length_map, List.length_map]
  exact Nat.le_of_lt (small1000 (by omega))
/-! ### what is told, and that it is small -/
theorem prod_bd : ∀ ns ∈ allP, ∀ ms ∈ allP, (prodL ns ms).length = 4 ∧ ∀ n ∈ prodL ns ms, 0 ≤ n ∧ n < 4 := by decide +kernel
theorem inv_bd : ∀ ns ∈ allP, (invL ns).length = 4 ∧ ∀ n ∈ invL ns, 0 ≤ n ∧ n < 4 := by decide +kernel
theorem idx_bd : ∀ ns ∈ allP, idxL ns < 24 := by decide +kernel
structure Sml (d : PyData) : Prop where
  a : sm d = true
  b : d.depth ≤ 60
  c : d.weight ≤ 700000
theorem sml_tup {ns : List Int} (hl : ns.length = 4) (hb : ∀ n ∈ ns, 0 ≤ n ∧ n < 4) : Sml (.tuple (iD ns)) := by
  have h : ∀ n ∈ ns, n.natAbs < 1000000000 := fun n hn => by have := hb n hn; omega
  refine ⟨sm_ints ns h, ?_, ?_⟩
  · show PyData.depthAll (iD ns) + 1 ≤ 60
    rw [dep_ints]
    decide
  · have := wt_ints ns h
    show PyData.weightAll (iD ns) ≤ 700000
    omega
theorem told0 {ns ms : List Int} (h1 : isP ns = true) (h2 : isP ms = true) : toldD 0 ns ms = .tuple (iD (prodL ns ms)) := by
  unfold toldD
  rw [if_pos rfl, if_pos ⟨h1, h2⟩]
theorem toldS {ns ms : List Int} {i : Nat} (hi : i ≠ 0) (h1 : isP ns = true) : toldD i ns ms = (if i = 1 then .tuple (iD (invL ns)) else if i = 2 then .bool (oddL ns) else .int (idxL ns : Nat)) := by
  unfold toldD
  rw [if_neg hi, if_pos h1]
theorem sml_told {ns ms : List Int} (h1 : ns ∈ allP) (h2 : ms ∈ allP) (i : Nat) : Sml (toldD i ns ms) := by
  by_cases hi : i = 0
  · subst hi
    rw [told0 (in_perm h1) (in_perm h2)]
    exact sml_tup (prod_bd ns h1 ms h2).1 (prod_bd ns h1 ms h2).2
  · rw [toldS hi (in_perm h1)]
    split
    · exact sml_tup (inv_bd ns h1).1 (inv_bd ns h1).2
    · split
      · exact ⟨rfl, (by decide : 0 ≤ 60), Nat.zero_le _⟩
      · have := idx_bd ns h1
        refine ⟨decide_eq_true (by omega), (by decide : 0 ≤ 60), ?_⟩
        have := wt_int (n := (idxL ns : Nat)) (by omega)
        omega
theorem told_bad0 {S ms : List Int} (h : isP S = false) (i : Nat) : toldD i S ms = .str "bad" := by
  unfold toldD
  have h1 : ¬ isP S = true := by rw [h]; decide
  by_cases hi : i = 0
  · rw [if_pos hi, if_neg fun z => h1 z.1]
  · rw [if_neg hi, if_neg h1]
theorem told_bad1 {S ms : List Int} (h : isP S = false) : toldD 0 ms S = .str "bad" := by
  have h1 : ¬ isP S = true := by rw [h]; decide
  unfold toldD
  rw [if_pos rfl, if_neg fun z => h1 z.2]
theorem dp_bad {K : PySem.W.Frag} {H : Hp} {v : V} {d : PyData} (h : Dp K H v d) (e : d = .str "bad") : v = .str "bad" := by
  subst e
  cases h
  rfl
/-- what the law expects, in the list `due` -/
theorem due_at {K : PySem.W.Frag} {H : Hp} {p5 p6 : Addr} {ns ms : List Int} (h1 : ns ∈ allP) (h2 : ms ∈ allP) (e5 : H p5 = some (.tup (iV (prodL ns ms)))) (e6 : H p6 = some (.tup (iV (turnedL ns 4)))) :
    ∀ i : Nat, i < 4 → ∃ v, atI [V.ref p5, V.ref p6, V.bl (lawOdd ns), V.int (idxL ns : Nat)] (0 + (i : Int)) = some v ∧ Dp K H v (toldD i ns ms) := by
  intro i hi
  have ei : (0 + (i : Int)) = ((i : Nat) : Int) := by omega
  rw [ei]
  have t1 := in_perm h1
  have t2 := in_perm h2
  match i, hi with
  | 0, _ => exact ⟨_, atI_nat rfl, by rw [told0 t1 t2]; exact dp_ti (.of e5)⟩
  | 1, _ => exact ⟨_, atI_nat rfl, by rw [toldS (by decide) t1, if_pos rfl, ← law_turned ns h1]; exact dp_ti (.of e6)⟩
  | 2, _ => exact ⟨_, atI_nat rfl, by rw [toldS (by decide) t1, if_neg (by decide), if_pos rfl, law_odd ns h1]; exact .bl _⟩
  | 3, _ => exact ⟨_, atI_nat rfl, by rw [toldS (by decide) t1, if_neg (by decide), if_neg (by decide)]; exact .int _⟩
mutual
theorem dp_same {K : PySem.W.Frag} {H H' : Hp} (h : Same H H') : ∀ {d : PyData} {v : V}, Dp K H v d → Dp K H' v d
  | .none, _, .non => .non
  | .bool _, _, .bl b => .bl b
  | .int _, _, .int i => .int i
  | .str _, _, .str x => .str x
  | .list _, _, .lst a b => .lst (h.seq a) (dpAll_same h b)
  | .tuple _, _, .tup a b => .tup (h.tup a) (dpAll_same h b)
theorem dpAll_same {K : PySem.W.Frag} {H H' : Hp} (h : Same H H') : ∀ {ds : List PyData} {vs : List V}, DpAll K H vs ds → DpAll K H' vs ds
  | [], _, .nil => .nil
  | _ :: _, _, .cons a b => .cons (dp_same h a) (dpAll_same h b)
end
/-- one of three -/
theorem one_of3 {K : PySem.W.Frag} {H : Hp} {q0 q1 q2 : Addr} {S0 S1 S2 : List Int} (z : Int) (h0 : SqT K H q0 (iV S0)) (h1 : SqT K H q1 (iV S1)) (h2 : SqT K H q2 (iV S2)) : ∃ q S, atI [V.ref q0, V.ref q1, V.ref q2] (z % 3) = some (.ref q) ∧ SqT K H q (iV S) := by
  have b0 : 0 ≤ z % 3 := Int.emod_nonneg _ (by decide)
  have b1 : z % 3 < 3 := Int.emod_lt_of_pos _ (by decide)
  obtain ⟨j, hj⟩ : ∃ j : Nat, z % 3 = (j : Int) := ⟨_, (Int.toNat_of_nonneg b0).symm⟩
  rw [hj]
  have : j < 3 := by omega
  match j, this with
  | 0, _ => exact ⟨_, _, atI_nat rfl, h0⟩
  | 1, _ => exact ⟨_, _, atI_nat rfl, h1⟩
  | 2, _ => exact ⟨_, _, atI_nat rfl, h2⟩
end L2.Px

namespace L2.Px
open PySem PySem.Spec PyProof.Rows
/-! ### a sorted list of tuples that was sorted -/
def toI : V → Int
  | .int i => i
  | _ => 0
theorem toI_iV : ∀ ns : List Int, (iV ns).map toI = ns
  | [] => rfl
  | n :: r => congrArg (n :: ·) (toI_iV r)
def keyV (B : Int) (H : Hp) : V → Int
  | .ref t => (match H t with | some (.tup l) => TS.code B (l.map toI) | _ => 0)
  | _ => 0
theorem keyV_at {B : Int} {H : Hp} {t : Addr} {ns : List Int} (h : H t = some (.tup (iV ns))) : keyV B H (.ref t) = TS.code B ns := by
  show (match H t with | some (.tup l) => TS.code B (l.map toI) | _ => 0) = _
  rw [h]
  show TS.code B ((iV ns).map toI) = _
  rw [toI_iV]
theorem sort_same {K : PySem.W.Frag} {H : Hp} {B : Int} {ts : List Addr} {nss : List (List Int)} {ys : List V} (hp : TupsAt H ts nss) (hc : ∀ i < nss.length, ∀ j < i, TS.code B (nss.getD j []) < TS.code B (nss.getD i []))
    (pm : ys.Perm (ts.map V.ref)) (st : ys.Pairwise (fun x y => ∀ n m, TupI K H x n → TupI K H y m → TS.code B n ≤ TS.code B m)) : ys = ts.map V.ref := by
  have hl : ts.length = nss.length := Paired.length hp
  have key : ∀ (i : Nat) (x : V), (ts.map V.ref)[i]? = some x → ∃ t, x = V.ref t ∧ i < nss.length ∧ H t = some (.tup (iV (nss.getD i []))) := fun i x e => by
    rw [List.getElem?_map] at e
    cases et : ts[i]? with
    | none => rw [et] at e; cases e
    | some t =>
      rw [et] at e
      obtain ⟨ns, h1, h2⟩ := paired_get hp et
      refine ⟨t, (Option.some.inj e).symm, (List.getElem?_eq_some_iff.mp h1).1, ?_⟩
      rw [List.getD_eq_getElem?_getD, h1]
      exact h2
  have mem : ∀ x ∈ ts.map V.ref, ∃ i t, (ts.map V.ref)[i]? = some x ∧ x = V.ref t ∧ i < nss.length ∧ H t = some (.tup (iV (nss.getD i []))) := fun x hx => by
    obtain ⟨i, hi, e⟩ := List.getElem_of_mem hx
    have e2 : (ts.map V.ref)[i]? = some x := by rw [List.getElem?_eq_getElem hi, e]
    obtain ⟨t, h1, h2, h3⟩ := key i x e2
    exact ⟨i, t, e2, h1, h2, h3⟩
  refine List.Perm.eq_of_pairwise (le := fun x y => keyV B H x ≤ keyV B H y) (fun x y hx hy h1 h2 => ?_) ?_ ?_ pm
  · obtain ⟨i, t, e1, rfl, li, q1⟩ := mem x (pm.mem_iff.mp hx)
    obtain ⟨j, u, e2, rfl, lj, q2⟩ := mem y hy
    rw [keyV_at q1, keyV_at q2] at h1 h2
    rcases Nat.lt_trichotomy i j with c | c | c
    · have := hc j lj i c
      omega
    · subst c
      rw [e1] at e2
      exact Option.some.inj e2
    · have := hc i li j c
      omega
  · refine (List.pairwise_iff_forall_sublist.mpr fun {x y} sl => ?_)
    have hx := pm.mem_iff.mp (sl.subset (by simp : x ∈ [x, y]))
    have hy := pm.mem_iff.mp (sl.subset (by simp : y ∈ [x, y]))
    obtain ⟨i, t, e1, rfl, li, q1⟩ := mem x hx
    obtain ⟨j, u, e2, rfl, lj, q2⟩ := mem y hy
    rw [keyV_at q1, keyV_at q2]
    exact (List.pairwise_iff_forall_sublist.mp st sl) _ _ ⟨t, rfl, .of q1⟩ ⟨u, rfl, .of q2⟩
  · refine List.pairwise_iff_getElem.mpr fun i j hi hj lt => ?_
    obtain ⟨t, e1, li, q1⟩ := key i _ (List.getElem?_eq_getElem hi)
    obtain ⟨u, e2, lj, q2⟩ := key j _ (List.getElem?_eq_getElem hj)
    rw [e1, e2, keyV_at q1, keyV_at q2]
    have := hc j lj i lt
    omega
section
variable {P : Program} {w : World} {K : PySem.W.Frag} {mg : Str → Option Value} {base : Heap}
def spLaw (K : PySem.W.Frag) : Sp := fun vs H Q _ => ∃ (a : Addr) (ns : List Int), vs = [.ref a] ∧ SqL K H a (iV ns) ∧ ∀ H', Q (.bl true) H'
/-- the law's own defs, and what else it names -/
structure LDefs (K : PySem.W.Frag) (mg : Str → Option Value) (fc fp fa ft fo fd : Addr) (dc dp da dt do' dd : FuncData) : Prop where
  c : At K mg "_law_cell" sCell ["script", "k"] fc dc
  p : At K mg "_law_permutation" sPerm ["value"] fp dp
  a : At K mg "_law_after" sLAfter ["one", "other"] fa da
  t : At K mg "_law_turned" sLTurned ["one"] ft dt
  o : At K mg "_law_is_odd" sLOdd ["one"] fo do'
  d : At K mg "_law_told" sTold ["which", "one", "other"] fd dd
  rp : mg "repr" = none
  ls : mg "list" = none
theorem scLaw : FnScope ["script", "one", "other", "rows", "due", "which", "at", "strange", "good", "row"] ["script"] (defScope sLaw) := ⟨rfl, rfl, rfl, by decide +kernel, rfl, by decide +kernel, by decide +kernel⟩
theorem ok_law {f C W G aI fI fC fA fV fO fL fX fP fQ fS fT fc fp fa ft fo fd' : Addr} {fd dI dC dA dV dO dL dX dP dQ dS dT dc dp da dt do' dd : FuncData} (F : Fun K "law" "law" sLaw f fd) (D : Defs K mg C aI fI fC fA fV fO fL fX fP fQ fS fT dI dC dA dV dO dL dX dP dQ dS dT) (Wd : Wed K mg C W G) (L : LDefs K mg fc fp fa ft fo fd' dc dp da dt do' dd) :
    GFn P w K mg base 5 f fd ["script"] (spLaw K) := by
  have Gc : FnOk P w K mg base CX0 1 fc dc ["script", "k"] (spCell K) := ok_cell L.c.F D.N
  have Gp : FnOk P w K mg base CX0 1 fp dp ["value"] spPerm := ok_perm L.p.F D.N
  have Ga : FnOk P w K mg base CX0 1 fa da ["one", "other"] (spProd K) := ok_lafter L.a.F D.N
  have Gt : FnOk P w K mg base CX0 1 ft dt ["one"] (spTurned K) := ok_lturned L.t.F D.N
  have Go : FnOk P w K mg base CX0 1 fo do' ["one"] (spLOdd K) := ok_lodd L.o.F D.N
  have Gd : FnOk P w K mg base CX0 4 fd' dd ["which", "one", "other"] (spTold K) := ok_told L.d.F D Wd
  have GL : FnOk P w K mg base CX0 2 fL dL [] spAll := ok_all D.tL.F D.N D.tI
  have GI : FnOk P w K mg base CX0 1 fI dI ["entries"] (spIsPerm K) := ok_isperm D.tI.F D.N.srt
  refine gfn_of F scLaw (fun vs H Q E h => ?_) (fun cdv A outer s H vs Q E hg hr h => ?_)
  · obtain ⟨a, ns, rfl, _⟩ := h
    rfl
  · obtain ⟨a, ns, rfl, hS, k⟩ := h
    have r1 : Room 1 _ := hr.mono (by decide)
    have r2 : Room 2 _ := hr.mono (by decide)
    have hu := hr.units
    refine ⟨_, pss_cons (ps_set (i := 1) scLaw.nd rfl (.inr rfl) (pe_call Gp r1 rfl L.p.g L.p.F.kp L.p.b .nil pass0 (pa_cons (pe_op op_mod (pe_call Gc r1 rfl L.c.g L.c.F.kp L.c.b .nil pass0 (pa_cons (pv 0) (pa_cons pe_int pa_nil))) pe_int) pa_nil)))
      (pss_cons (ps_set (i := 2) scLaw.nd rfl (.inl rfl) (pe_call Gp r1 rfl L.p.g L.p.F.kp L.p.b .nil pass0 (pa_cons (pe_op op_mod (pe_call Gc r1 rfl L.c.g L.c.F.kp L.c.b .nil pass0 (pa_cons (pv 0) (pa_cons pe_int pa_nil))) pe_int) pa_nil)))
      (pss_cons (ps_set (i := 3) scLaw.nd rfl (.inl rfl) (pe_call0 (E := E0) GL r2 rfl D.tL.g D.tL.F.kp D.tL.b .nil pass0))
      (pss_cons (ps_if (PW.pt (pw_or (pt_not (pt_val (pe_callB RZ.call_isTy (by rfl) Wd.mi (by decide +kernel) (pa_cons (pv 3) (pa_cons (pe_bltn (v := .ty "list") (by rfl) L.ls (by decide +kernel) rfl) pa_nil)))))
          (pw_or (pt_cmpR op_ne (pe_callB call_len_seq (by rfl) D.N.ln PySem.boot_len (pa_cons (pv 3) pa_nil)) pe_int (nomark _))
            (pw_or1 (pt_cmpR op_ne (pe_callB (cr_reprS hg hu) (by rfl) L.rp (by decide +kernel) (pa_cons (pe_callB (cr_sortT (d := 4) (B := 4) (by decide)) (by rfl) D.N.srt (by decide +kernel) (pa_cons (pv 3) pa_nil)) pa_nil)) (pe_callB (cr_reprS hg hu) (by rfl) L.rp (by decide +kernel) (pa_cons (pv 3) pa_nil)) (nomark _)))))) (pss_one (ps_ret pe_bl)) pss_nil)
      (pss_cons (ps_if (PW.pt (pw_or (pt_cmpR (op_neD hu) (pe_lc (own := [("row", 9)]) (g := gName 9) (tt := tTest (tOp (rNeD K) (tCB (rSortedTI K) (tCons (tVar 9) tNil)) (tLst (tCons (tC (.int 0)) (tCons (tC (.int 1)) (tCons (tC (.int 2)) (tCons (tC (.int 3)) tNil))))))) (te := tVar 9) rfl scLaw.nd (pi_list (pv 3)) (blkOk_by (N := ["script", "one", "other", "rows", "due", "which", "at", "strange", "good", "row"]) (sc := defScope sLaw) (by decide +kernel)) (fun _ _ _ _ _ => pg_name (i := 9) scLaw.nd rfl (.inl rfl))
              (fun _ _ _ _ _ => pts_one (pt_cmpR (op_neD hu) (pe_callB cr_sortedTI (by rfl) D.N.srt (by decide +kernel) (pa_cons (pv 9) pa_nil)) (pe_lst (pa_cons pe_int (pa_cons pe_int (pa_cons pe_int (pa_cons pe_int pa_nil))))) (nomark _))) (fun _ _ _ _ _ => pv 9)) (pe_lst pa_nil) (nomark _))
          (pw_or1 (pt_cmpR op_ne (pe_callB call_len_seq (by rfl) D.N.ln PySem.boot_len (pa_cons (pe_lc (own := [("row", 9)]) (g := gName 9) (tt := tTest (tOp (rEqD K) (tVar 9) (tVar 1))) (te := tVar 9) rfl scLaw.nd (pi_list (pv 3)) (blkOk_by (N := ["script", "one", "other", "rows", "due", "which", "at", "strange", "good", "row"]) (sc := defScope sLaw) (by decide +kernel)) (fun _ _ _ _ _ => pg_name (i := 9) scLaw.nd rfl (.inl rfl))
              (fun _ _ _ _ _ => pts_one (pt_cmpR (op_eqD hu) (pv 9) (pv 1) (nomark _))) (fun _ _ _ _ _ => pv 9)) pa_nil)) pe_int (nomark _))))) (pss_one (ps_ret pe_bl)) pss_nil)
      (pss_cons (ps_set (i := 4) scLaw.nd rfl (.inl rfl) (pe_lst (pa_cons (pe_call Ga r1 rfl L.a.g L.a.F.kp L.a.b .nil pass0 (pa_cons (pv 1) (pa_cons (pv 2) pa_nil))) (pa_cons (pe_call Gt r1 rfl L.t.g L.t.F.kp L.t.b .nil pass0 (pa_cons (pv 1) pa_nil)) (pa_cons (pe_call Go r1 rfl L.o.g L.o.F.kp L.o.b .nil pass0 (pa_cons (pv 1) pa_nil))
          (pa_cons (pe_bm PySem.F.plainAttrs_list PySem.F.slot_list_index PySem.F.type_list_index (mt_indexD (u65 hr)) (pv 3) (pa_cons (pv 1) pa_nil)) pa_nil))))))
      (pss_cons (ps_for PassesOwn.never rfl (pi_range1 (by rfl) D.N.rng (pa_cons pe_int pa_nil)) (pg_name (i := 5) scLaw.nd rfl (.inl rfl))
        (pss_one (ps_if (pt_cmpR op_ne (pe_callB (cr_reprS hg hu) (by rfl) L.rp (by decide +kernel) (pa_cons (pe_call Gd hr rfl L.d.g L.d.F.kp L.d.b .nil pass0 (pa_cons (pv 5) (pa_cons (pv 1) (pa_cons (pv 2) pa_nil)))) pa_nil)) (pe_callB (cr_reprS hg hu) (by rfl) L.rp (by decide +kernel) (pa_cons (pe_ix ix_list (pv 4) (pv 5) (fun _ _ => rfl)) pa_nil)) (nomark _)) (pss_one (ps_ret pe_bl)) pss_nil)))
      (pss_cons (ps_set (i := 6) scLaw.nd rfl (.inl rfl) (pe_op op_mod (pe_call Gc r1 rfl L.c.g L.c.F.kp L.c.b .nil pass0 (pa_cons (pv 0) (pa_cons pe_int pa_nil))) pe_int))
      (pss_cons (ps_set (i := 7) scLaw.nd rfl (.inl rfl) (pe_lst (pa_cons
          (pe_op op_catS (pe_op op_catS (pe_slice sl_tupS (pv 1) po_none (po_some (pv 6))) (pe_tup (pa_cons (pe_op op_sub (pe_op op_mod (pe_call Gc r1 rfl L.c.g L.c.F.kp L.c.b .nil pass0 (pa_cons (pv 0) (pa_cons pe_int pa_nil))) pe_int) pe_int) pa_nil))) (pe_slice sl_tupS (pv 1) (po_some (pe_op op_add (pv 6) pe_int)) po_none)) (pa_cons
          (pe_op op_catS (pe_slice sl_tupS (pv 1) po_none (po_some (pv 6))) (pe_slice sl_tupS (pv 1) (po_some (pe_op op_add (pv 6) pe_int)) po_none)) (pa_cons
          (pe_op op_catS (pv 1) (pe_tup (pa_cons pe_int pa_nil))) pa_nil)))))
      (pss_cons (ps_set (i := 7) scLaw.nd rfl (.inl rfl) (pe_ix ix_list (pv 7) (pe_op op_mod (pe_call Gc r1 rfl L.c.g L.c.F.kp L.c.b .nil pass0 (pa_cons (pv 0) (pa_cons pe_int pa_nil))) pe_int) (fun _ _ => rfl)))
      (pss_cons (ps_set (i := 8) scLaw.nd rfl (.inl rfl) (pe_cmpR (op_eqD hu) (pe_callB cr_sortedTI (by rfl) D.N.srt (by decide +kernel) (pa_cons (pv 7) pa_nil)) (pe_lst (pa_cons pe_int (pa_cons pe_int (pa_cons pe_int (pa_cons pe_int pa_nil))))) (nomark _)))
      (pss_cons (ps_if (PW.pt (pw_or (pt_cmpR op_ne (pe_callB (cr_reprS hg hu) (by rfl) L.rp (by decide +kernel) (pa_cons (pe_call GI r1 rfl D.tI.g D.tI.F.kp D.tI.b .nil pass0 (pa_cons (pv 7) pa_nil)) pa_nil)) (pe_callB (cr_reprS hg hu) (by rfl) L.rp (by decide +kernel) (pa_cons (pv 8) pa_nil)) (nomark _))
          (pw_or1 (pt_cmpR op_notBl (pe_call GI r1 rfl D.tI.g D.tI.F.kp D.tI.b .nil pass0 (pa_cons (pv 1) pa_nil)) pe_bl (nomark _))))) (pss_one (ps_ret pe_bl)) pss_nil)
      (pss_cons (ps_if (pt_val (pv 8)) (pss_one (ps_ret (pe_cmpR op_eq (pe_callB (cr_reprS hg hu) (by rfl) L.rp (by decide +kernel) (pa_cons (pe_call Gd hr rfl L.d.g L.d.F.kp L.d.b .nil pass0 (pa_cons pe_int (pa_cons (pv 7) (pa_cons (pv 1) pa_nil)))) pa_nil)) (pe_callB (cr_reprS hg hu) (by rfl) L.rp (by decide +kernel) (pa_cons (pe_call Ga r1 rfl L.a.g L.a.F.kp L.a.b .nil pass0 (pa_cons (pv 7) (pa_cons (pv 1) pa_nil))) pa_nil)) (nomark _)))) pss_nil)
      (pss_cons (ps_for PassesOwn.never rfl (pi_range1 (by rfl) D.N.rng (pa_cons pe_int pa_nil)) (pg_name (i := 5) scLaw.nd rfl (.inl rfl))
        (pss_one (ps_if (pt_cmpR op_ne (pe_call Gd hr rfl L.d.g L.d.F.kp L.d.b .nil pass0 (pa_cons (pv 5) (pa_cons (pv 7) (pa_cons (pv 1) pa_nil)))) pe_str (nomark _)) (pss_one (ps_ret pe_bl)) pss_nil)))
      (pss_one (ps_ret (pe_cmpR op_eq (pe_call Gd hr rfl L.d.g L.d.F.kp L.d.b .nil pass0 (pa_cons pe_int (pa_cons (pv 1) (pa_cons (pv 7) pa_nil)))) pe_str (nomark _))))))))))))))))), ?_⟩
    have c24 : ∀ z : Int, isP (lawP (z % 24)) = true := fun z => by
      have h0 : 0 ≤ z % 24 := Int.emod_nonneg _ (by decide)
      have h1 : z % 24 < 24 := Int.emod_lt_of_pos _ (by decide)
      have := law_perm (z % 24).toNat (by omega)
      rwa [Int.toNat_of_nonneg h0] at this
    -- one, other, rows
    refine ⟨.ref a, rfl, a, ns, 0, rfl, hS, _, _, rfl, rfl, (by decide : (0 : Int) < 24), _, rfl, fun H1 p1 o1 s1 e1 d1 => ?_⟩
    have q1 := c24 (ns.getD 0 0)
    generalize lawP (ns.getD 0 0 % 24) = A1 at e1 q1
    refine ⟨.ref a, rfl, a, ns, 1, rfl, s1.seq hS, _, _, rfl, rfl, (by decide : (0 : Int) < 24), _, rfl, fun H2 p2 o2 s2 e2 d2 => ?_⟩
    have q2 := c24 (ns.getD 1 0)
    generalize lawP (ns.getD 1 0 % 24) = A2 at e2 q2
    refine ⟨rfl, fun H3 p3 s3 h3 => ?_⟩
    have in1 := perm_in q1
    have in2 := perm_in q2
    obtain ⟨ts, hd3, tp3⟩ := h3.ex
    have len3 : ts.length = 24 := (Paired.length tp3).trans allP_len
    have f1 : H3 p1 = some (.frz o1 (.tup (iV A1))) := s3 _ _ (s2 _ _ e1)
    have f2 : H3 p2 = some (.frz o2 (.tup (iV A2))) := s3 _ _ e2
    have g3 : SqL K H3 a (iV ns) := s3.seq (s2.seq (s1.seq hS))
    -- isinstance, len, repr
    refine ⟨.ref p3, rfl, _, _, rfl, .lst hd3, true, rfl, ?_⟩
    refine ⟨.ref p3, rfl, p3, _, rfl, .inl (.of hd3), rfl, _, rfl, ?_⟩
    refine iteNS (by rw [List.length_map, len3]; rfl) ?_
    refine ⟨.ref p3, rfl, p3, _, rfl, .of hd3, by rw [List.length_map, len3]; decide, ?_, fun ys p4 pm st np4 => ?_⟩
    · intro x hx
      obtain ⟨t, ht, rfl⟩ := List.mem_map.mp hx
      obtain ⟨i, hi, et⟩ := List.getElem_of_mem ht
      obtain ⟨l, hl1, hl2⟩ := paired_get tp3 (i := i) (x := t) (by rw [List.getElem?_eq_getElem hi, et])
      obtain ⟨b1, b2⟩ := allP_bd l (List.mem_of_getElem? hl1)
      exact ⟨l, ⟨t, rfl, .of hl2⟩, b1, fun m hm => b2 m hm⟩
    · have ey : ys = ts.map V.ref := sort_same tp3 (fun i hi j hj => allP_codes i (by rw [allP_len] at hi; exact hi) j hj) pm st
      subst ey
      have h4 : LT (upd H3 p4 (.lst (ts.map V.ref))) p4 allP := ⟨ts, upd_same, TupsAt.mono tp3 fun _ _ e => Same.upd np4 _ _ e⟩
      have dpt : (PyData.list (tD allP)).depth ≤ 60 := by
        have := dep_tups allP
        show PyData.depthAll (tD allP) + 1 ≤ 60
        omega
      have wgt : (PyData.list (tD allP)).weight ≤ 700000 := Nat.le_trans allP_wt (by decide)
      refine ⟨_, .list (tD allP), rfl, h4.dp, allP_sm, dpt, wgt, ?_⟩
      refine ⟨.ref p3, rfl, _, .list (tD allP), rfl, (h3.mono (Same.upd np4)).dp, allP_sm, dpt, wgt, rfl, _, rfl, ?_⟩
      refine iteNS rfl ?_
      have s4 : Same H3 (upd H3 p4 (.lst (ts.map V.ref))) := Same.upd np4
      generalize upd H3 p4 (.lst (ts.map V.ref)) = H4 at s4
      have g4 := s4.seq g3
      have f14 := s4 _ _ f1
      have f24 := s4 _ _ f2
      have hd4 := s4 _ _ hd3
      have tp4 : TupsAt H4 ts allP := TupsAt.mono tp3 fun _ _ e => s4 _ _ e
      have h34 : LT H4 p3 allP := ⟨ts, hd4, tp4⟩
      clear h4
      -- no row is none
      refine ⟨.ref p3, rfl, p3, rfl, ⟨_, .of hd4⟩, fun D1 hD1 => lc_list (K := K) (a := p3) (xs := ts.map V.ref) (fun i H' => Same H4 H' ∧ H' D1 = some (.lst [])) ⟨Same.upd hD1, upd_same⟩ (fun i H' _ h' => .of (h'.1 _ _ hd4)) ?_ ?_⟩
      · rintro i x H' hi ⟨sm, hd⟩
        rw [List.getElem?_map] at hi
        cases et : ts[i]? with
        | none => rw [et] at hi; cases hi
        | some t =>
          rw [et] at hi
          cases hi
          obtain ⟨l, hl1, hl2⟩ := paired_get tp4 et
          refine ⟨rfl, .ref t, rfl, t, l, rfl, .inr (.of (sm _ _ hl2)), fun ms q pm st nq => ?_⟩
          refine ⟨by show 4 ≤ sizeLine; decide, fun r nr => ?_⟩
          refine ⟨.list (iD ms), .list (iD [0, 1, 2, 3]), .lst (.of (Same.upd nr _ _ upd_same)) (dp_ints ms), .lst (.of upd_same) (dp_ints [0, 1, 2, 3]), shaped_li _, shaped_li _, _, rfl, ?_⟩
          have e : PyData.eqv (.list (iD ms)) (.list (iD [0, 1, 2, 3])) = true := ((PySem.W.ked_eqvAll ms [0, 1, 2, 3]).trans (isP_sorted pm st)).trans (in_perm (List.mem_of_getElem? hl1))
          rw [e]
          exact iteF ⟨sm.trans ((Same.upd nq).trans (Same.upd nr)), Same.upd nr _ _ (Same.upd nq _ _ hd)⟩
      · rintro H5 ⟨s5, hd5⟩
        refine ⟨Nat.zero_le _, fun D2 hD2 => ?_⟩
        refine ⟨.list [], .list [], .lst (.of (Same.upd hD2 _ _ hd5)) .nil, .lst (.of upd_same) .nil, rfl, rfl, false, rfl, ?_⟩
        have s6 : Same H4 (upd H5 D2 (.lst [])) := s5.trans (Same.upd hD2)
        generalize upd H5 D2 (.lst []) = H6 at s6
        -- the count
        refine ⟨.ref p3, rfl, p3, rfl, ⟨_, .of (s6 _ _ hd4)⟩, fun D3 hD3 => lc_list (K := K) (a := p3) (xs := ts.map V.ref) (fun i H' => Same H6 H' ∧ ∃ acc, H' D3 = some (.lst acc) ∧ acc.length = (allP.take i).countP fun m => decide (m = A1)) ⟨Same.upd hD3, [], upd_same, rfl⟩ (fun i H' _ h' => .of (h'.1 _ _ (s6 _ _ hd4))) ?_ ?_⟩
        · rintro i x H' hi ⟨sm, acc, hd, hc⟩
          rw [List.getElem?_map] at hi
          cases et : ts[i]? with
          | none => rw [et] at hi; cases hi
          | some t =>
            rw [et] at hi
            cases hi
            obtain ⟨l, hl1, hl2⟩ := paired_get tp4 et
            refine ⟨rfl, .ref t, rfl, .ref p1, rfl, .tuple (iD l), .tuple (iD A1), dp_ti (.of (sm _ _ (s6 _ _ hl2))), dp_ti (.inl (.inr ⟨o1, sm _ _ (s6 _ _ f14)⟩)), shaped_ti _, shaped_ti _, _, rfl, ?_⟩
            rw [eqv_tup, take_snoc hl1, List.countP_append]
            refine ite2 (fun c => ?_) (fun c => ?_)
            · refine ⟨.ref t, rfl, acc, hd, ?_, fun y o e => ?_, _, upd_same, ?_⟩
              · rw [hc]
                have h1 : (allP.take i).countP (fun m => decide (m = A1)) ≤ (allP.take i).length := List.countP_le_length
                rw [List.length_take, allP_len] at h1
                exact small1000 (by omega)
              · rw [upd_ne (ne_of_none e hD3)]
                exact sm _ _ e
              · rw [List.length_append, hc, List.countP_cons_of_pos (by exact c)]
                rfl
            · refine ⟨sm, acc, hd, ?_⟩
              rw [hc, List.countP_cons_of_neg (by exact c)]
              rfl
        · rintro H7 ⟨s7, acc, hd7, hc7⟩
          rw [List.length_map, len3, ← allP_len, List.take_length, law_count A1 in1] at hc7
          refine ⟨D3, acc, rfl, .inl (.of hd7), rfl, _, rfl, ?_⟩
          refine iteNS (by rw [hc7]; rfl) ?_
          have S7 : Same H4 H7 := s6.trans s7
          have t17 : SqT K H7 p1 (iV A1) := .inl (.inr ⟨o1, S7 _ _ f14⟩)
          have t27 : SqT K H7 p2 (iV A2) := .inl (.inr ⟨o2, S7 _ _ f24⟩)
          have l1 := isP_len q1
          have l2 := isP_len q2
          have b1 := isP_bd q1
          have b2 := isP_bd q2
          -- due
          refine ⟨.ref p1, rfl, .ref p2, rfl, p1, p2, A1, A2, rfl, t17, t27, by omega, fun n hn => by have := b1 n hn; omega, fun H8 p5 s8 e5 => ?_⟩
          refine ⟨.ref p1, rfl, p1, A1, o1, rfl, s8 _ _ (S7 _ _ f14), d1, q1, fun H9 p6 s9 e6 => ?_⟩
          refine ⟨.ref p1, rfl, p1, A1, rfl, (s8.trans s9).tup t17, l1, fun H10 s10 => ?_⟩
          have S10 : Same H7 H10 := s8.trans (s9.trans s10)
          refine ⟨.ref p3, rfl, .inl ⟨rfl, _, .of (S10 _ _ (S7 _ _ hd4))⟩, .ref p1, rfl, p3, .ref p1, .tuple (iD A1), tD allP, idxL A1, .tuple (iD A1), rfl, rfl, ((h34.mono S7).mono S10).dp, dp_ti (S10.tup t17), shaped_lt _, shaped_ti _, (index_parts q1).1, (index_parts q1).2.1, (index_parts q1).2.2, ?_⟩
          refine ⟨by show 4 ≤ sizeLine; decide, fun p8 hp8 => ?_⟩
          have S11 : Same H7 (upd H10 p8 (.lst [.ref p5, .ref p6, .bl (lawOdd A1), .int (idxL A1 : Nat)])) := S10.trans (Same.upd hp8)
          have e8 : (upd H10 p8 (.lst [.ref p5, .ref p6, .bl (lawOdd A1), .int (idxL A1 : Nat)])) p8 = some (.lst [.ref p5, .ref p6, .bl (lawOdd A1), .int (idxL A1 : Nat)]) := upd_same
          have e511 := Same.upd (o := .lst [.ref p5, .ref p6, .bl (lawOdd A1), .int (idxL A1 : Nat)]) hp8 _ _ (s10 _ _ (s9 _ _ e5))
          have e611 := Same.upd (o := .lst [.ref p5, .ref p6, .bl (lawOdd A1), .int (idxL A1 : Nat)]) hp8 _ _ (s10 _ _ e6)
          generalize upd H10 p8 (.lst [.ref p5, .ref p6, .bl (lawOdd A1), .int (idxL A1 : Nat)]) = H11 at S11 e8 e511 e611
          have S14 : Same H4 H11 := S7.trans S11
          have due := due_at (K := K) in1 in2 e511 e611
          -- the first loop
          refine ⟨4, rfl, by decide, by decide, for_it (walk_range (lo := 0)) (fun i σ H' => ∃ y5 : Option V, σ = [some (.ref a), some (.ref p1), some (.ref p2), some (.ref p3), some (.ref p8), y5, none, none, none, none] ∧ Same H11 H') ⟨none, rfl, Same.refl _⟩ (fun _ _ _ _ _ => trivial) ?_ ?_⟩
          · rintro i x σ H12 H13 hi ⟨y5, rfl, sm⟩ ⟨rfl, rfl⟩
            have hi : i < 4 := hi
            obtain ⟨v, av, dv⟩ := due i hi
            have ei : (0 + (i : Int)) = (i : Int) := by omega
            have T := sml_told in1 in2 i
            refine ⟨_, rfl, .ref p1, rfl, .ref p2, rfl, p1, p2, A1, A2, i, by show [V.int (0 + (i : Int)), V.ref p1, V.ref p2] = _; rw [ei], sm.tup (S11.tup t17), sm.tup (S11.tup t27), fun H14 u s14 du => ?_⟩
            refine ⟨u, _, rfl, du, T.a, T.b, T.c, ?_⟩
            refine ⟨.ref p8, rfl, _, rfl, p8, _, _, v, rfl, rfl, .of (s14 _ _ (sm _ _ e8)), av, v, _, rfl, dp_same (sm.trans s14) dv, T.a, T.b, T.c, rfl, _, rfl, ?_⟩
            exact iteNS rfl ⟨_, rfl, sm.trans s14⟩
          · rintro σ H12 ⟨y5, rfl, sm⟩
            have S15 : Same H4 H12 := S14.trans sm
            have g12 : SqL K H12 a (iV ns) := S15.seq g4
            have t12 : SqT K H12 p1 (iV A1) := .inl (.inr ⟨o1, S15 _ _ f14⟩)
            have m0 : 0 ≤ ns.getD 2 0 % 4 := Int.emod_nonneg _ (by decide)
            have m1 : ns.getD 2 0 % 4 < 4 := Int.emod_lt_of_pos _ (by decide)
            obtain ⟨m, hm⟩ : ∃ m : Nat, ns.getD 2 0 % 4 = (m : Int) := ⟨_, (Int.toNat_of_nonneg m0).symm⟩
            have hm4 : m < 4 := by omega
            -- at
            refine ⟨.ref a, rfl, a, ns, 2, rfl, g12, _, _, rfl, rfl, (by decide : (0 : Int) < 4), ?_⟩
            simp only [hm]
            -- strange: the first
            refine ⟨.ref p1, rfl, _, rfl, _, rfl, p1, _, rfl, t12, fun H13 w1 s13 t13 => ?_⟩
            rw [cut_to A1 m (by omega)] at t13
            refine ⟨.ref a, rfl, a, ns, 3, rfl, s13.seq g12, _, _, rfl, rfl, (by decide : (0 : Int) < 6), _, _, rfl, rfl, by show 1 ≤ sizeLine; decide, fun T hT => ?_⟩
            have sT := Same.upd (o := .tup (iV [ns.getD 3 0 % 6 - 1])) hT
            refine ⟨w1, T, _, iV [ns.getD 3 0 % 6 - 1], rfl, rfl, sT.tup t13, .of upd_same, small_cat (by rw [List.length_take]; simp only [List.length_cons, List.length_nil]; omega), fun H14 w2 s14 t14 => ?_⟩
            rw [← iV_app] at t14
            have S16 : Same H12 H14 := s13.trans (sT.trans s14)
            refine ⟨.ref p1, rfl, _, rfl, _, _, rfl, rfl, _, rfl, p1, _, rfl, S16.tup t12, fun H15 w3 s15 t15 => ?_⟩
            have em : ((m : Int) + 1) = ((m + 1 : Nat) : Int) := by omega
            rw [em, cut_from A1 (m + 1) (by omega)] at t15
            refine ⟨w2, w3, _, _, rfl, rfl, s15.tup t14, t15, small_cat (by rw [List.length_append, List.length_take, List.length_drop]; simp only [List.length_cons, List.length_nil]; omega), fun H16 w4 s16 t16 => ?_⟩
            rw [← iV_app] at t16
            generalize A1.take m ++ [ns.getD 3 0 % 6 - 1] ++ A1.drop (m + 1) = X0 at t16
            have S17 : Same H12 H16 := S16.trans (s15.trans s16)
            -- the second
            refine ⟨.ref p1, rfl, _, rfl, _, rfl, p1, _, rfl, S17.tup t12, fun H17 w5 s17 t17' => ?_⟩
            rw [cut_to A1 m (by omega)] at t17'
            refine ⟨.ref p1, rfl, _, rfl, _, _, rfl, rfl, _, rfl, p1, _, rfl, s17.tup (S17.tup t12), fun H18 w6 s18 t18 => ?_⟩
            rw [em, cut_from A1 (m + 1) (by omega)] at t18
            refine ⟨w5, w6, _, _, rfl, rfl, s18.tup t17', t18, small_cat (by rw [List.length_take, List.length_drop]; omega), fun H19 w7 s19 t19 => ?_⟩
            rw [← iV_app] at t19
            generalize A1.take m ++ A1.drop (m + 1) = X1 at t19
            have S18 : Same H16 H19 := s17.trans (s18.trans s19)
            have S19 : Same H12 H19 := S17.trans S18
            -- the third
            refine ⟨.ref p1, rfl, by show 1 ≤ sizeLine; decide, fun T2 hT2 => ?_⟩
            have sT2 := Same.upd (o := .tup (iV [4])) hT2
            refine ⟨p1, T2, _, iV [4], rfl, rfl, sT2.tup (S19.tup t12), .of upd_same, small_cat (by simp only [List.length_cons, List.length_nil]; omega), fun H20 w8 s20 t20 => ?_⟩
            rw [← iV_app] at t20
            generalize A1 ++ [4] = X2 at t20
            have S20 : Same H19 H20 := sT2.trans s20
            refine ⟨by show 3 ≤ sizeLine; decide, fun q hq => ?_⟩
            have S21 := Same.upd (o := .lst [.ref w4, .ref w7, .ref w8]) hq
            have eq0 : (upd H20 q (.lst [.ref w4, .ref w7, .ref w8])) q = some (.lst [.ref w4, .ref w7, .ref w8]) := upd_same
            have u0 := S21.tup (S20.tup (S18.tup t16))
            have u1 := S21.tup (S20.tup t19)
            have u2 := S21.tup t20
            have S22 : Same H12 (upd H20 q (.lst [.ref w4, .ref w7, .ref w8])) := S19.trans (S20.trans S21)
            generalize upd H20 q (.lst [.ref w4, .ref w7, .ref w8]) = H21 at eq0 u0 u1 u2 S22
            clear sT sT2
            obtain ⟨w, S, aw, hw⟩ := one_of3 (K := K) (ns.getD 4 0) u0 u1 u2
            -- strange
            refine ⟨.ref q, rfl, .ref a, rfl, a, ns, 4, rfl, S22.seq g12, _, _, rfl, rfl, (by decide : (0 : Int) < 3), q, _, _, .ref w, rfl, rfl, .of eq0, aw, ?_⟩
            -- good
            refine ⟨.ref w, rfl, w, S, rfl, .inr hw, fun ms r pm st nr => ?_⟩
            refine ⟨by show 4 ≤ sizeLine; decide, fun r2 nr2 => ?_⟩
            refine ⟨.list (iD ms), .list (iD [0, 1, 2, 3]), .lst (.of (Same.upd nr2 _ _ upd_same)) (dp_ints ms), .lst (.of upd_same) (dp_ints [0, 1, 2, 3]), shaped_li _, shaped_li _, ?_⟩
            have e : PyData.eqv (.list (iD ms)) (.list (iD [0, 1, 2, 3])) = isP S := (PySem.W.ked_eqvAll ms [0, 1, 2, 3]).trans (isP_sorted pm st)
            rw [e]
            have S23 : Same H21 (upd (upd H21 r (.lst (iV ms))) r2 (.lst [.int 0, .int 1, .int 2, .int 3])) := (Same.upd nr).trans (Same.upd nr2)
            generalize upd (upd H21 r (.lst (iV ms))) r2 (.lst [.int 0, .int 1, .int 2, .int 3]) = H22 at S23
            have S24 : Same H12 H22 := S22.trans S23
            have hw2 := S23.tup hw
            clear e
            -- what is_permutation says
            refine ⟨.ref w, rfl, w, S, rfl, hw2, fun H23 s23 => ?_⟩
            refine ⟨_, .bool (isP S), rfl, .bl _, rfl, Nat.zero_le _, Nat.zero_le _, ?_⟩
            refine ⟨.bl (isP S), rfl, _, .bool (isP S), rfl, .bl _, rfl, Nat.zero_le _, Nat.zero_le _, rfl, _, rfl, ?_⟩
            refine iteNS rfl ?_
            refine ⟨.ref p1, rfl, p1, A1, rfl, s23.tup (S24.tup t12), fun H24 s24 => ?_⟩
            rw [q1]
            refine ⟨true, true, rfl, rfl, _, rfl, ?_⟩
            refine iteNS rfl ?_
            refine ⟨.bl (isP S), rfl, isP S, rfl, ?_⟩
            have S26 : Same H12 H24 := S24.trans (s23.trans s24)
            have hw4 := s24.tup (s23.tup hw2)
            have tp1 := S26.tup t12
            refine ite2 (fun c => ?_) (fun c => ?_)
            · -- a permutation after all
              have inS := perm_in c
              have T := sml_told inS in1 0
              refine ⟨.ref w, rfl, .ref p1, rfl, w, p1, S, A1, 0, rfl, hw4, tp1, fun H25 u s25 du => ?_⟩
              refine ⟨u, _, rfl, du, T.a, T.b, T.c, ?_⟩
              have bS := isP_bd c
              have lS := isP_len c
              refine ⟨.ref w, rfl, .ref p1, rfl, w, p1, S, A1, rfl, s25.tup hw4, s25.tup tp1, by omega, fun n hn => by have := bS n hn; omega, fun H26 p9 s26 e9 => ?_⟩
              rw [told0 c q1] at T
              refine ⟨_, .tuple (iD (prodL S A1)), rfl, dp_ti (.of e9), T.a, T.b, T.c, ?_⟩
              rw [told0 c q1]
              refine ⟨rfl, ?_⟩
              rw [decide_eq_true rfl]
              exact k _
            · have cS : isP S = false := by
                cases z : isP S
                · rfl
                · exact absurd z c
              refine ⟨4, rfl, by decide, by decide, for_it (walk_range (lo := 0)) (fun i σ H' => ∃ y5 : Option V, σ = [some (.ref a), some (.ref p1), some (.ref p2), some (.ref p3), some (.ref p8), y5, some (.int m), some (.ref w), some (.bl (isP S)), none] ∧ Same H24 H') ⟨y5, rfl, Same.refl _⟩ (fun _ _ _ _ _ => trivial) ?_ ?_⟩
              · rintro i x σ H25 H26 hi ⟨y5, rfl, sm⟩ ⟨rfl, rfl⟩
                have ei : (0 + (i : Int)) = (i : Int) := by omega
                refine ⟨_, rfl, .ref w, rfl, .ref p1, rfl, w, p1, S, A1, i, by show [V.int (0 + (i : Int)), V.ref w, V.ref p1] = _; rw [ei], sm.tup hw4, sm.tup tp1, fun H27 u s27 du => ?_⟩
                have eu : u = V.str (Str.ofString "bad") := dp_bad du (told_bad0 cS i)
                subst eu
                refine ⟨rfl, _, rfl, ?_⟩
                exact iteNS rfl ⟨_, rfl, sm.trans s27⟩
              · rintro σ H25 ⟨y5, rfl, sm⟩
                refine ⟨.ref p1, rfl, .ref w, rfl, p1, w, A1, S, 0, rfl, sm.tup tp1, sm.tup hw4, fun H27 u s27 du => ?_⟩
                have eu : u = V.str (Str.ofString "bad") := dp_bad du (told_bad1 cS)
                subst eu
                refine ⟨rfl, ?_⟩
                rw [decide_eq_true rfl]
                exact k _
end
end L2.Px

namespace L2.Px
open PySem PySem.Spec PyProof.Rows
/-- a def of the text, from what the table of the program says of it -/
theorem at_mk {K : PySem.W.Frag} {h : Heap} {mg : Str → Option Value} (X : K.In h) (G : h.Ns mainGlobals mg) {x : Str} {st : Stmt} {ps : List Str} {f : Addr} {oc kV doc pm cdv ct : Value} {od an : Option Addr} {osl : Array (Option Value)}
    (g : PySem.W.nsIn K mainGlobals x = some (some (.ref f)))
    (l : K.lookup f = some ⟨oc, od, .func (PySem.W.fnOf x x (defArgs st) (defBody st) (defScope st) .none kV doc pm an cdv ct), osl⟩)
    (c : PySem.W.codeIn K cdv x = true) (k : PySem.W.keepIn K (.ref f) = true)
    (hb : ∀ (kV doc pm : Value) (an : Option Addr) (cdv ct : Value) (us : List Value), us.length = ps.length → bindArgs (PySem.W.fnOf x x (defArgs st) (defBody st) (defScope st) .none kV doc pm an cdv ct) ⟨us, []⟩ = pure (ps.zip us)) :
    At K mg x st ps f (PySem.W.fnOf x x (defArgs st) (defBody st) (defScope st) .none kV doc pm an cdv ct) :=
  ⟨fun_mk l c k, PySem.W.mg_of X G g, (fun_mk l c k).binds hb⟩
theorem kit_own {K : PySem.W.Frag} {S T : Addr} {b : Bool} (h2 : PySem.W.isClsIn K T = true) (h3 : PySem.W.typeIn K (.ref T) = some (.type "type")) (h4 : PySem.W.subIn K (.ref S) (.ref T) = some b) : PySem.W.kitCls K (.ref S) (.ref T) = some b := by
  have e2 : ((PySem.W.clsIn K T).isSome && PySem.W.typeIn K (.ref T) == some (.type "type")) = true := by
    have h2' : (PySem.W.clsIn K T).isSome = true := h2
    rw [h2', h3] <;> rfl
  show (if ((PySem.W.clsIn K T).isSome && PySem.W.typeIn K (.ref T) == some (.type "type")) = true then PySem.W.subIn K (.ref S) (.ref T) else none) = some b
  rw [if_pos e2]
  exact h4
theorem exm_self {K : PySem.W.Frag} {S : Addr} (h1 : PySem.W.subIn K (.ref S) (.type "BaseException") = some true) (h4 : PySem.W.kitCls K (.ref S) (.ref S) = some true) : PySem.W.exmOne K (.ref S) (.ref S) = some true := by
  have e1 : (PySem.W.subIn K (.ref S) (.type "BaseException") == some true) = true := by rw [h1] <;> rfl
  show (if (PySem.W.subIn K (.ref S) (.type "BaseException") == some true) = true then PySem.W.kitCls K (.ref S) (.ref S) else none) = some true
  rw [if_pos e1]
  exact h4
theorem kit_yes {K : PySem.W.Frag} {S T : Addr} (h : PySem.W.kitCls K (.ref S) (.ref T) = some true) : PySem.W.kitOne K (.ref S) (.ref T) = some true := by
  show (if ((Value.ref S) == (.ref T)) = true then some true else PySem.W.kitCls K (.ref S) (.ref T)) = some true
  split
  · rfl
  · exact h
theorem kit_no {K : PySem.W.Frag} {S T : Addr} (n : (S == T) = false) (h : PySem.W.kitCls K (.ref S) (.ref T) = some false) : PySem.W.kitOne K (.ref S) (.ref T) = some false := by
  show (if ((Value.ref S) == (.ref T)) = true then some true else PySem.W.kitCls K (.ref S) (.ref T)) = some false
  rw [if_neg, h]
  intro z
  have : S = T := Value.ref.inj (beq_iff_eq.mp z)
  subst this
  rw [show (S == S) = true from beq_self_eq_true S] at n
  cases n
/-- a tuple of four ints at the top -/
theorem idn_mk {K : PySem.W.Frag} {a : Addr} {od : Option Addr} {osl : Array (Option Value)} {n : Nat} {y0 y1 y2 y3 : Tok} (l : K.lookup a = some ⟨.type "tuple", od, .seq #[.int 0 y0, .int 1 y1, .int 2 y2, .int 3 y3] n, osl⟩) : ∀ H, SqT K H a (iV [0, 1, 2, 3]) := fun H => by
  have r : ∀ (i : Int) (t : Tok), RelV (.int i) (.int i t) := fun i t => by first | exact rfl | exact ⟨t, rfl⟩
  exact .inr ⟨_, _, n, l, rfl, rfl, by show 4 ≤ sizeLine; decide, .cons (r _ _) (.cons (r _ _) (.cons (r _ _) (.cons (r _ _) .nil)))⟩

theorem all_mk {P : Program} {w : World} {K : PySem.W.Frag} {h : Heap} {mg : Str → Option Value} {fa : Addr} (X : K.In h) (G : h.Ns mainGlobals mg) (hfa : mg "law" = some (.ref fa))
    {C W GG aI : Addr} {odI : Option Addr} {slI : Array (Option Value)} {nI : Nat} {y0 y1 y2 y3 : Tok}
    {f0 : Addr} {oc0 kV0 doc0 pm0 cd0 ct0 : Value} {od0 an0 : Option Addr} {sl0 : Array (Option Value)}
    {f1 : Addr} {oc1 kV1 doc1 pm1 cd1 ct1 : Value} {od1 an1 : Option Addr} {sl1 : Array (Option Value)}
    {f2 : Addr} {oc2 kV2 doc2 pm2 cd2 ct2 : Value} {od2 an2 : Option Addr} {sl2 : Array (Option Value)}
    {f3 : Addr} {oc3 kV3 doc3 pm3 cd3 ct3 : Value} {od3 an3 : Option Addr} {sl3 : Array (Option Value)}
    {f4 : Addr} {oc4 kV4 doc4 pm4 cd4 ct4 : Value} {od4 an4 : Option Addr} {sl4 : Array (Option Value)}
    {f5 : Addr} {oc5 kV5 doc5 pm5 cd5 ct5 : Value} {od5 an5 : Option Addr} {sl5 : Array (Option Value)}
    {f6 : Addr} {oc6 kV6 doc6 pm6 cd6 ct6 : Value} {od6 an6 : Option Addr} {sl6 : Array (Option Value)}
    {f7 : Addr} {oc7 kV7 doc7 pm7 cd7 ct7 : Value} {od7 an7 : Option Addr} {sl7 : Array (Option Value)}
    {f8 : Addr} {oc8 kV8 doc8 pm8 cd8 ct8 : Value} {od8 an8 : Option Addr} {sl8 : Array (Option Value)}
    {f9 : Addr} {oc9 kV9 doc9 pm9 cd9 ct9 : Value} {od9 an9 : Option Addr} {sl9 : Array (Option Value)}
    {f10 : Addr} {oc10 kV10 doc10 pm10 cd10 ct10 : Value} {od10 an10 : Option Addr} {sl10 : Array (Option Value)}
    {f11 : Addr} {oc11 kV11 doc11 pm11 cd11 ct11 : Value} {od11 an11 : Option Addr} {sl11 : Array (Option Value)}
    {f12 : Addr} {oc12 kV12 doc12 pm12 cd12 ct12 : Value} {od12 an12 : Option Addr} {sl12 : Array (Option Value)}
    {f13 : Addr} {oc13 kV13 doc13 pm13 cd13 ct13 : Value} {od13 an13 : Option Addr} {sl13 : Array (Option Value)}
    {f14 : Addr} {oc14 kV14 doc14 pm14 cd14 ct14 : Value} {od14 an14 : Option Addr} {sl14 : Array (Option Value)}
    {f15 : Addr} {oc15 kV15 doc15 pm15 cd15 ct15 : Value} {od15 an15 : Option Addr} {sl15 : Array (Option Value)}
    {f16 : Addr} {oc16 kV16 doc16 pm16 cd16 ct16 : Value} {od16 an16 : Option Addr} {sl16 : Array (Option Value)}
    {fl : Addr} {ocl kVl docl pml cdl ctl : Value} {odl anl : Option Addr} {sll : Array (Option Value)}
    (gB : PySem.W.nsIn K mainGlobals "BadNumber" = some (some (.ref C))) (kB : PySem.W.keepIn K (.ref C) = true) (xB : PySem.W.excIn K C [.type "ValueError", .type "Exception", .type "BaseException", .type "object"] "ValueError.__new__" = true)
    (bB : PySem.W.subIn K (.ref C) (.type "BaseException") = some true) (tB : PySem.W.typeIn K (.ref C) = some (.type "type"))
    (gI : PySem.W.nsIn K mainGlobals "IDENTITY" = some (some (.ref aI))) (lI : K.lookup aI = some ⟨.type "tuple", odI, .seq #[.int 0 y0, .int 1 y1, .int 2 y2, .int 3 y3] nI, slI⟩)
    (e1 : PySem.W.findIn K (.ref C) "__getattribute__" = some (some (.builtin "BaseException.__getattribute__"))) (e2 : PySem.W.findIn K (.ref C) "__getattr__" = some none) (e3 : PySem.W.hasDictIn K C = true)
    (e4 : PySem.W.findIn K (.ref C) "__class__" = some (some (.builtin "object.__class__"))) (e5 : PySem.W.specialIn K (.builtin "object.__class__") "__get__" = some (some (.builtin "getset_descriptor.__get__"))) (e6 : PySem.W.takesIn K (.builtin "object.__class__") = some true) (e7 : PySem.W.mroIn K C (.type "object") = some true)
    (iB : PySem.W.isClsIn K C = true) (sB : PySem.W.subIn K (.ref C) (.ref C) = some true) (gW : PySem.W.nsIn K mainGlobals "WedgeError" = some (some (.ref W))) (iW : PySem.W.isClsIn K W = true) (tW : PySem.W.typeIn K (.ref W) = some (.type "type")) (sW : PySem.W.subIn K (.ref C) (.ref W) = some true)
    (gG : PySem.W.nsIn K mainGlobals "NotGluing" = some (some (.ref GG))) (iG : PySem.W.isClsIn K GG = true) (tG : PySem.W.typeIn K (.ref GG) = some (.type "type")) (sG : PySem.W.subIn K (.ref C) (.ref GG) = some false) (nG : (C == GG) = false)
    (g0 : PySem.W.nsIn K mainGlobals "is_permutation" = some (some (.ref f0))) (l0 : K.lookup f0 = some ⟨oc0, od0, .func (PySem.W.fnOf "is_permutation" "is_permutation" (defArgs sIsPerm) (defBody sIsPerm) (defScope sIsPerm) .none kV0 doc0 pm0 an0 cd0 ct0), sl0⟩) (c0 : PySem.W.codeIn K cd0 "is_permutation" = true) (k0 : PySem.W.keepIn K (.ref f0) = true)
    (g1 : PySem.W.nsIn K mainGlobals "check_permutation" = some (some (.ref f1))) (l1 : K.lookup f1 = some ⟨oc1, od1, .func (PySem.W.fnOf "check_permutation" "check_permutation" (defArgs sCheck) (defBody sCheck) (defScope sCheck) .none kV1 doc1 pm1 an1 cd1 ct1), sl1⟩) (c1 : PySem.W.codeIn K cd1 "check_permutation" = true) (k1 : PySem.W.keepIn K (.ref f1) = true)
    (g2 : PySem.W.nsIn K mainGlobals "after" = some (some (.ref f2))) (l2 : K.lookup f2 = some ⟨oc2, od2, .func (PySem.W.fnOf "after" "after" (defArgs sAfter) (defBody sAfter) (defScope sAfter) .none kV2 doc2 pm2 an2 cd2 ct2), sl2⟩) (c2 : PySem.W.codeIn K cd2 "after" = true) (k2 : PySem.W.keepIn K (.ref f2) = true)
    (g3 : PySem.W.nsIn K mainGlobals "inverse" = some (some (.ref f3))) (l3 : K.lookup f3 = some ⟨oc3, od3, .func (PySem.W.fnOf "inverse" "inverse" (defArgs sInverse) (defBody sInverse) (defScope sInverse) .none kV3 doc3 pm3 an3 cd3 ct3), sl3⟩) (c3 : PySem.W.codeIn K cd3 "inverse" = true) (k3 : PySem.W.keepIn K (.ref f3) = true)
    (g4 : PySem.W.nsIn K mainGlobals "is_odd" = some (some (.ref f4))) (l4 : K.lookup f4 = some ⟨oc4, od4, .func (PySem.W.fnOf "is_odd" "is_odd" (defArgs sIsOdd) (defBody sIsOdd) (defScope sIsOdd) .none kV4 doc4 pm4 an4 cd4 ct4), sl4⟩) (c4 : PySem.W.codeIn K cd4 "is_odd" = true) (k4 : PySem.W.keepIn K (.ref f4) = true)
    (g5 : PySem.W.nsIn K mainGlobals "all_permutations" = some (some (.ref f5))) (l5 : K.lookup f5 = some ⟨oc5, od5, .func (PySem.W.fnOf "all_permutations" "all_permutations" (defArgs sAll) (defBody sAll) (defScope sAll) .none kV5 doc5 pm5 an5 cd5 ct5), sl5⟩) (c5 : PySem.W.codeIn K cd5 "all_permutations" = true) (k5 : PySem.W.keepIn K (.ref f5) = true)
    (g6 : PySem.W.nsIn K mainGlobals "index_of" = some (some (.ref f6))) (l6 : K.lookup f6 = some ⟨oc6, od6, .func (PySem.W.fnOf "index_of" "index_of" (defArgs sIndexOf) (defBody sIndexOf) (defScope sIndexOf) .none kV6 doc6 pm6 an6 cd6 ct6), sl6⟩) (c6 : PySem.W.codeIn K cd6 "index_of" = true) (k6 : PySem.W.keepIn K (.ref f6) = true)
    (g7 : PySem.W.nsIn K mainGlobals "product_of" = some (some (.ref f7))) (l7 : K.lookup f7 = some ⟨oc7, od7, .func (PySem.W.fnOf "product_of" "product_of" (defArgs sProductOf) (defBody sProductOf) (defScope sProductOf) .none kV7 doc7 pm7 an7 cd7 ct7), sl7⟩) (c7 : PySem.W.codeIn K cd7 "product_of" = true) (k7 : PySem.W.keepIn K (.ref f7) = true)
    (g8 : PySem.W.nsIn K mainGlobals "inverse_of" = some (some (.ref f8))) (l8 : K.lookup f8 = some ⟨oc8, od8, .func (PySem.W.fnOf "inverse_of" "inverse_of" (defArgs sInverseOf) (defBody sInverseOf) (defScope sInverseOf) .none kV8 doc8 pm8 an8 cd8 ct8), sl8⟩) (c8 : PySem.W.codeIn K cd8 "inverse_of" = true) (k8 : PySem.W.keepIn K (.ref f8) = true)
    (g9 : PySem.W.nsIn K mainGlobals "has_odd_sign" = some (some (.ref f9))) (l9 : K.lookup f9 = some ⟨oc9, od9, .func (PySem.W.fnOf "has_odd_sign" "has_odd_sign" (defArgs sOddSign) (defBody sOddSign) (defScope sOddSign) .none kV9 doc9 pm9 an9 cd9 ct9), sl9⟩) (c9 : PySem.W.codeIn K cd9 "has_odd_sign" = true) (k9 : PySem.W.keepIn K (.ref f9) = true)
    (g10 : PySem.W.nsIn K mainGlobals "taking" = some (some (.ref f10))) (l10 : K.lookup f10 = some ⟨oc10, od10, .func (PySem.W.fnOf "taking" "taking" (defArgs sTaking) (defBody sTaking) (defScope sTaking) .none kV10 doc10 pm10 an10 cd10 ct10), sl10⟩) (c10 : PySem.W.codeIn K cd10 "taking" = true) (k10 : PySem.W.keepIn K (.ref f10) = true)
    (g11 : PySem.W.nsIn K mainGlobals "_law_cell" = some (some (.ref f11))) (l11 : K.lookup f11 = some ⟨oc11, od11, .func (PySem.W.fnOf "_law_cell" "_law_cell" (defArgs sCell) (defBody sCell) (defScope sCell) .none kV11 doc11 pm11 an11 cd11 ct11), sl11⟩) (c11 : PySem.W.codeIn K cd11 "_law_cell" = true) (k11 : PySem.W.keepIn K (.ref f11) = true)
    (g12 : PySem.W.nsIn K mainGlobals "_law_permutation" = some (some (.ref f12))) (l12 : K.lookup f12 = some ⟨oc12, od12, .func (PySem.W.fnOf "_law_permutation" "_law_permutation" (defArgs sPerm) (defBody sPerm) (defScope sPerm) .none kV12 doc12 pm12 an12 cd12 ct12), sl12⟩) (c12 : PySem.W.codeIn K cd12 "_law_permutation" = true) (k12 : PySem.W.keepIn K (.ref f12) = true)
    (g13 : PySem.W.nsIn K mainGlobals "_law_after" = some (some (.ref f13))) (l13 : K.lookup f13 = some ⟨oc13, od13, .func (PySem.W.fnOf "_law_after" "_law_after" (defArgs sLAfter) (defBody sLAfter) (defScope sLAfter) .none kV13 doc13 pm13 an13 cd13 ct13), sl13⟩) (c13 : PySem.W.codeIn K cd13 "_law_after" = true) (k13 : PySem.W.keepIn K (.ref f13) = true)
    (g14 : PySem.W.nsIn K mainGlobals "_law_turned" = some (some (.ref f14))) (l14 : K.lookup f14 = some ⟨oc14, od14, .func (PySem.W.fnOf "_law_turned" "_law_turned" (defArgs sLTurned) (defBody sLTurned) (defScope sLTurned) .none kV14 doc14 pm14 an14 cd14 ct14), sl14⟩) (c14 : PySem.W.codeIn K cd14 "_law_turned" = true) (k14 : PySem.W.keepIn K (.ref f14) = true)
    (g15 : PySem.W.nsIn K mainGlobals "_law_is_odd" = some (some (.ref f15))) (l15 : K.lookup f15 = some ⟨oc15, od15, .func (PySem.W.fnOf "_law_is_odd" "_law_is_odd" (defArgs sLOdd) (defBody sLOdd) (defScope sLOdd) .none kV15 doc15 pm15 an15 cd15 ct15), sl15⟩) (c15 : PySem.W.codeIn K cd15 "_law_is_odd" = true) (k15 : PySem.W.keepIn K (.ref f15) = true)
    (g16 : PySem.W.nsIn K mainGlobals "_law_told" = some (some (.ref f16))) (l16 : K.lookup f16 = some ⟨oc16, od16, .func (PySem.W.fnOf "_law_told" "_law_told" (defArgs sTold) (defBody sTold) (defScope sTold) .none kV16 doc16 pm16 an16 cd16 ct16), sl16⟩) (c16 : PySem.W.codeIn K cd16 "_law_told" = true) (k16 : PySem.W.keepIn K (.ref f16) = true)
    (gl : PySem.W.nsIn K mainGlobals "law" = some (some (.ref fl))) (ll : K.lookup fl = some ⟨ocl, odl, .func (PySem.W.fnOf "law" "law" (defArgs sLaw) (defBody sLaw) (defScope sLaw) .none kVl docl pml anl cdl ctl), sll⟩) (cl : PySem.W.codeIn K cdl "law" = true) (kl : PySem.W.keepIn K (.ref fl) = true)
    (n0 : PySem.W.nsIn K mainGlobals "sorted" = some none) (n1 : PySem.W.nsIn K mainGlobals "range" = some none) (n2 : PySem.W.nsIn K mainGlobals "len" = some none) (n3 : PySem.W.nsIn K mainGlobals "enumerate" = some none) (n4 : PySem.W.nsIn K mainGlobals "tuple" = some none) (n5 : PySem.W.nsIn K mainGlobals "isinstance" = some none) (n6 : PySem.W.nsIn K mainGlobals "repr" = some none) (n7 : PySem.W.nsIn K mainGlobals "list" = some none) :
    ∃ fd : FuncData, (∀ (s : Shared) (u : Value), BindsTo s fd ⟨[u], []⟩ [("script", u)]) ∧ ∀ base : Heap, K.In base → base.Ns mainGlobals mg → GFn P w K mg base 5 fa fd ["script"] (spLaw K) := by
  have e := hfa.symm.trans (PySem.W.mg_of X G gl)
  cases e
  have N : Nm mg := ⟨PySem.W.mg_none_of X G n0, PySem.W.mg_none_of X G n1, PySem.W.mg_none_of X G n2, PySem.W.mg_none_of X G n3, PySem.W.mg_none_of X G n4⟩
  have B : Bad K mg C := ⟨PySem.W.mg_of X G gB, kB, xB, bB, tB⟩
  have I : Idn K mg aI := ⟨PySem.W.mg_of X G gI, idn_mk lI⟩
  have A0 := at_mk (st := sIsPerm) (ps := ["entries"]) X G g0 l0 c0 k0 (fun _ _ _ _ _ _ us hl => match us, hl with | [_], _ => rfl)
  have A1 := at_mk (st := sCheck) (ps := ["entries"]) X G g1 l1 c1 k1 (fun _ _ _ _ _ _ us hl => match us, hl with | [_], _ => rfl)
  have A2 := at_mk (st := sAfter) (ps := ["one", "other"]) X G g2 l2 c2 k2 (fun _ _ _ _ _ _ us hl => match us, hl with | [_, _], _ => rfl)
  have A3 := at_mk (st := sInverse) (ps := ["one"]) X G g3 l3 c3 k3 (fun _ _ _ _ _ _ us hl => match us, hl with | [_], _ => rfl)
  have A4 := at_mk (st := sIsOdd) (ps := ["one"]) X G g4 l4 c4 k4 (fun _ _ _ _ _ _ us hl => match us, hl with | [_], _ => rfl)
  have A5 := at_mk (st := sAll) (ps := []) X G g5 l5 c5 k5 (fun _ _ _ _ _ _ us hl => match us, hl with | [], _ => rfl)
  have A6 := at_mk (st := sIndexOf) (ps := ["one"]) X G g6 l6 c6 k6 (fun _ _ _ _ _ _ us hl => match us, hl with | [_], _ => rfl)
  have A7 := at_mk (st := sProductOf) (ps := ["one", "other"]) X G g7 l7 c7 k7 (fun _ _ _ _ _ _ us hl => match us, hl with | [_, _], _ => rfl)
  have A8 := at_mk (st := sInverseOf) (ps := ["one"]) X G g8 l8 c8 k8 (fun _ _ _ _ _ _ us hl => match us, hl with | [_], _ => rfl)
  have A9 := at_mk (st := sOddSign) (ps := ["one"]) X G g9 l9 c9 k9 (fun _ _ _ _ _ _ us hl => match us, hl with | [_], _ => rfl)
  have A10 := at_mk (st := sTaking) (ps := ["places", "images"]) X G g10 l10 c10 k10 (fun _ _ _ _ _ _ us hl => match us, hl with | [_, _], _ => rfl)
  have A11 := at_mk (st := sCell) (ps := ["script", "k"]) X G g11 l11 c11 k11 (fun _ _ _ _ _ _ us hl => match us, hl with | [_, _], _ => rfl)
  have A12 := at_mk (st := sPerm) (ps := ["value"]) X G g12 l12 c12 k12 (fun _ _ _ _ _ _ us hl => match us, hl with | [_], _ => rfl)
  have A13 := at_mk (st := sLAfter) (ps := ["one", "other"]) X G g13 l13 c13 k13 (fun _ _ _ _ _ _ us hl => match us, hl with | [_, _], _ => rfl)
  have A14 := at_mk (st := sLTurned) (ps := ["one"]) X G g14 l14 c14 k14 (fun _ _ _ _ _ _ us hl => match us, hl with | [_], _ => rfl)
  have A15 := at_mk (st := sLOdd) (ps := ["one"]) X G g15 l15 c15 k15 (fun _ _ _ _ _ _ us hl => match us, hl with | [_], _ => rfl)
  have A16 := at_mk (st := sTold) (ps := ["which", "one", "other"]) X G g16 l16 c16 k16 (fun _ _ _ _ _ _ us hl => match us, hl with | [_, _, _], _ => rfl)
  have D : Defs K mg C aI f0 f1 f2 f3 f4 f5 f6 f7 f8 f9 f10 _ _ _ _ _ _ _ _ _ _ _ := ⟨N, B, I, A0, A1, A2, A3, A4, A5, A6, A7, A8, A9, A10⟩
  have Wd : Wed K mg C W GG := ⟨⟨e1, e2, bB, e3, e4, e5, e6, e7⟩, exm_self bB (kit_own iB tB sB), PySem.W.mg_of X G gW, PySem.W.mg_of X G gG, kit_yes (kit_own iW tW sW), kit_no nG (kit_own iG tG sG), PySem.W.mg_none_of X G n5⟩
  have L : LDefs K mg f11 f12 f13 f14 f15 f16 _ _ _ _ _ _ := ⟨A11, A12, A13, A14, A15, A16, PySem.W.mg_none_of X G n6, PySem.W.mg_none_of X G n7⟩
  exact ⟨_, fun s u => .of_eq rfl, fun base _ _ => ok_law (fun_mk ll cl kl) D Wd L⟩
end L2.Px

open PySem PySem.W PyProof.Rows
set_option maxRecDepth 100000 in
set_option maxHeartbeats 8000000 in
theorem PySem.Challenge.cw_wedgespace_k00_permutations_holds : PySem.Challenge.rw_wedgespace_k00_permutations.Holds := by
  w_on; o_law; k_head; (case hw => w_witness2)
  k_fill
  refine L2.Px.walkG (l := PySem.Challenge.rw_wedgespace_k00_permutations) (n := 63) (k := 5) (x := "script") (sp := L2.Px.spLaw) rfl (by decide) rfl ⟨rfl, by decide, by decide⟩ (fun w h Y => PySem.W.kIn_of Y) ?F ?S
  case F =>
    intro w mg fa h KX G hmg
    refine' L2.Px.all_mk KX G hmg ?zgB ?zkB ?zxB ?zbB ?ztB ?zgI ?zlI ?ze1 ?ze2 ?ze3 ?ze4 ?ze5 ?ze6 ?ze7 ?ziB ?zsB ?zgW ?ziW ?ztW ?zsW ?zgG ?ziG ?ztG ?zsG ?znG ?zg0 ?zl0 ?zc0 ?zk0 ?zg1 ?zl1 ?zc1 ?zk1 ?zg2 ?zl2 ?zc2 ?zk2 ?zg3 ?zl3 ?zc3 ?zk3 ?zg4 ?zl4 ?zc4 ?zk4 ?zg5 ?zl5 ?zc5 ?zk5 ?zg6 ?zl6 ?zc6 ?zk6 ?zg7 ?zl7 ?zc7 ?zk7 ?zg8 ?zl8 ?zc8 ?zk8 ?zg9 ?zl9 ?zc9 ?zk9 ?zg10 ?zl10 ?zc10 ?zk10 ?zg11 ?zl11 ?zc11 ?zk11 ?zg12 ?zl12 ?zc12 ?zk12 ?zg13 ?zl13 ?zc13 ?zk13 ?zg14 ?zl14 ?zc14 ?zk14 ?zg15 ?zl15 ?zc15 ?zk15 ?zg16 ?zl16 ?zc16 ?zk16 ?zgl ?zll ?zcl ?zkl ?zn0 ?zn1 ?zn2 ?zn3 ?zn4 ?zn5 ?zn6 ?zn7

    (case zgB => k_is)
    (case zkB => k_is)
    (case zxB => k_exc)
    (case zbB => k_is)
    (case ztB => k_is)
    (case zgI => k_is)
    (case zlI => k_is)
    (case ze1 => k_is)
    (case ze2 => k_is)
    (case ze3 => k_is)
    (case ze4 => k_is)
    (case ze5 => k_is)
    (case ze6 => k_is)
    (case ze7 => k_is)
    (case ziB => k_is)
    (case zsB => first | rfl | k_is)
    (case zgW => k_is)
    (case ziW => k_is)
    (case ztW => k_is)
    (case zsW => k_is)
    (case zgG => k_is)
    (case ziG => k_is)
    (case ztG => k_is)
    (case zsG => k_is)
    (case znG => rfl)
    (case zg0 => k_is)
    (case zl0 => k_is)
    (case zc0 => k_is)
    (case zk0 => k_is)
    (case zg1 => k_is)
    (case zl1 => k_is)
    (case zc1 => k_is)
    (case zk1 => k_is)
    (case zg2 => k_is)
    (case zl2 => k_is)
    (case zc2 => k_is)
    (case zk2 => k_is)
    (case zg3 => k_is)
    (case zl3 => k_is)
    (case zc3 => k_is)
    (case zk3 => k_is)
    (case zg4 => k_is)
    (case zl4 => k_is)
    (case zc4 => k_is)
    (case zk4 => k_is)
    (case zg5 => k_is)
    (case zl5 => k_is)
    (case zc5 => k_is)
    (case zk5 => k_is)
    (case zg6 => k_is)
    (case zl6 => k_is)
    (case zc6 => k_is)
    (case zk6 => k_is)
    (case zg7 => k_is)
    (case zl7 => k_is)
    (case zc7 => k_is)
    (case zk7 => k_is)
    (case zg8 => k_is)
    (case zl8 => k_is)
    (case zc8 => k_is)
    (case zk8 => k_is)
    (case zg9 => k_is)
    (case zl9 => k_is)
    (case zc9 => k_is)
    (case zk9 => k_is)
    (case zg10 => k_is)
    (case zl10 => k_is)
    (case zc10 => k_is)
    (case zk10 => k_is)
    (case zg11 => k_is)
    (case zl11 => k_is)
    (case zc11 => k_is)
    (case zk11 => k_is)
    (case zg12 => k_is)
    (case zl12 => k_is)
    (case zc12 => k_is)
    (case zk12 => k_is)
    (case zg13 => k_is)
    (case zl13 => k_is)
    (case zc13 => k_is)
    (case zk13 => k_is)
    (case zg14 => k_is)
    (case zl14 => k_is)
    (case zc14 => k_is)
    (case zk14 => k_is)
    (case zg15 => k_is)
    (case zl15 => k_is)
    (case zc15 => k_is)
    (case zk15 => k_is)
    (case zg16 => k_is)
    (case zl16 => k_is)
    (case zc16 => k_is)
    (case zk16 => k_is)
    (case zgl => k_is)
    (case zll => k_is)
    (case zcl => k_is)
    (case zkl => k_is)
    (case zn0 => k_is)
    (case zn1 => k_is)
    (case zn2 => k_is)
    (case zn3 => k_is)
    (case zn4 => k_is)
    (case zn5 => k_is)
    (case zn6 => k_is)
    (case zn7 => k_is)
  case S =>
    intro K H a ns _ hS
    exact ⟨a, ns, rfl, hS, fun _ => rfl⟩


import PyProof.Rows.All
import Wide.All
import OpenK.AllK
import Wide.FinOn
import HandS.ForExc
import HandS.Comp
import PyProof.ReprRoads
import KE.GoesMore
import HandS.Iter
import HandS.SortInts
import HandS.Walk
import HandS.Base
import HandS.Call
import HandS.Exc
import PyProof.ReprLen
import HandS.Zip
import HandS.Style
import HandS.Deep
import HandS.ExcIs
import HandS.IsInst
import HandS.TupSets
import HandS.TupAny
import HandS.Conv
import HandS.Rev
import HandS.ExcInit
import KE.KSortedM
import KE.KEqDeep
import KE.KRevSl
import PySem.Challenge.RW_wedgespace_k55_words
set_option Elab.async false
set_option linter.all false
set_option maxRecDepth 100000
set_option maxHeartbeats 4000000
/-! List comprehensions of any number of clauses. -/
namespace L2.Px
open PySem PySem.Spec PyProof.Rows

/-- what a clause does with an item that has passed: from slots and heap, to reach the wanted heap -/
abbrev TB := St → Hp → (Hp → Prop) → Prop

/-- the rest of a turn at the last clause -/
def tailE (elt : Expr) (acc : Value) (env : Env) (c : Code) : Sem Fin := do
  (do let _ ← call (.builtin "list.append") [acc, ← eval elt env])
  again c
/-- the rest of a turn ahead of another clause, its source i1 -/
def tailN (nd : Expr) (d : Nat) (i1 : Expr) (acc : Value) (env : Env) (c : Code) : Sem Fin := do
  let x ← eval i1 env
  standAt i1.pos
  let y ← foldedSetIterable i1 env x
  let it ← holding [y] (pyIter y)
  let _ ← runOwn (.compStart nd d it acc env) env
  again c

/-- one turn of a clause, its rest a letter -/
def turnC (t i : Expr) (ifs : List Expr) (it : Value) (env : Env) (rest : Sem Fin) (c : Code) : Sem Fin := do
  standAt i.pos
  match ← pyNext it with
  | none => pure (.done .next)
  | some v =>
    letOwnedTupleGo t it v
    assign t env v
    let mut ok := true
    for c in ifs do
      if ok then ok ← isTrue c env (eval c env)
    if ok then rest else again c

theorem turn_last {elt t i : Expr} {ifs : List Expr} {gs : List Comprehension} {sc : Scope} {ps : Pos} {d : Nat} {it acc : Value} {env : Env} (hg : gs[d]? = some ⟨t, i, ifs, 0⟩) (hn : gs[d + 1]? = none) :
    compTurn (.ListComp elt gs sc ps) d it acc env = turnC t i ifs it env (tailE elt acc env (.compLoop (.ListComp elt gs sc ps) d it acc env)) (.compLoop (.ListComp elt gs sc ps) d it acc env) := by
  unfold compTurn turnC tailE
  simp only [hg, hn]
  rfl
theorem turn_next {elt t i t1 i1 : Expr} {ifs ifs1 : List Expr} {gs : List Comprehension} {sc : Scope} {ps : Pos} {d : Nat} {it acc : Value} {env : Env} (hg : gs[d]? = some ⟨t, i, ifs, 0⟩) (hn : gs[d + 1]? = some ⟨t1, i1, ifs1, 0⟩) :
    compTurn (.ListComp elt gs sc ps) d it acc env = turnC t i ifs it env (tailN (.ListComp elt gs sc ps) (d + 1) i1 acc env (.compLoop (.ListComp elt gs sc ps) d it acc env)) (.compLoop (.ListComp elt gs sc ps) d it acc env) := by
  unfold compTurn turnC tailN
  simp only [hg, hn]
  rfl

/-- the wish where nothing is raised -/
abbrev F0 : Value → Shared → Prop := fun _ _ => False

/-- the rest of a turn, from the block's state: it comes to the turn's end with the wanted heap; ws: the names that it forgets -/
structure PB (X : Cx) (rest : Code → Sem Fin) (ws : List Nat) (tb : TB) : Prop where
  run : ∀ (pins : List (Addr × Obj)) (s : Shared) (σ : St) (H : Hp) (Nx : Hp → Prop) (c : Code), Inv X pins σ H s → tb σ H Nx →
    wpAny (model X.prog X.w) X.A (rest c) (fun f s' => f = .again c ∧ ∃ H', Inv X pins (wipe σ ws) H' s' ∧ Nx H') F0 s

/-- a clause's turns: W by the turn and a measure -/
def ClStep (J : It) (g : TG) (tt : TT) (vs : List Nat) (tb : TB) (σ : St) (W : Nat → Nat → Hp → Prop) (Nx0 : Hp → Prop) : Prop :=
  ∀ i m H, W i m H → (J.stop i H ∧ Nx0 H) ∨ (J.go i H ∧ ∃ Nx : Hp → Prop, (∀ H', Nx H' → ∃ m', m' < m ∧ W (i + 1) m' H') ∧
    ∀ x H', J.yld i H x H' → g x (wipe σ vs) H' fun σ2 H2 => wipe σ2 vs = wipe σ vs ∧ tt σ2 H2 fun b H3 => if b = true then tb σ2 H3 Nx else Nx H3)

theorem weakC {X : Cx} {pins : List (Addr × Obj)} {σ σ2 : St} {H : Hp} {s : Shared} {vs ws : List Nat} (I : Inv X pins (wipe σ2 ws) H s) (e : wipe σ2 vs = wipe σ vs) (sub : ∀ j ∈ ws, j ∈ vs) : Inv X pins (wipe σ vs) H s := by
  refine I.weak (by rw [← e, wipe_length, wipe_length]) fun j v q => ?_
  rw [← e] at q
  obtain ⟨q1, q2⟩ := wipe_some q
  rw [wipe_out fun z => q2 (sub j z)]
  exact q1

section
variable {X : Cx} {elt t i : Expr} {ifs : List Expr} {gs : List Comprehension} {sc : Scope} {ps : Pos} {d : Nat} {acc : Value}
  {g : TG} {tt : TT} {tb : TB} {vs ws : List Nat} {J : It} {fp : List Addr} {it : Addr} {tn : Nat → Heap → Prop} {pins : List (Addr × Obj)} {s : Shared} {σ : St} {H : Hp} {Nx0 : Hp → Prop}

/-- the loop of a clause -/
theorem loop_run {rest : Code → Sem Fin} (hx : X.xe = F0) (hc : X.calm = true)
    (ht : ∀ it, compTurn (.ListComp elt gs sc ps) d it acc X.env = turnC t i ifs it X.env (rest (.compLoop (.ListComp elt gs sc ps) d it acc X.env)) (.compLoop (.ListComp elt gs sc ps) d it acc X.env))
    (pg : PG X t g) (pt : PTs X ifs tt) (pb : PB X rest ws tb) (sub : ∀ j ∈ ws, j ∈ vs)
    (T : Turn X.prog X.w X.K t J fp it tn) (I : Inv X pins (wipe σ vs) H s) (st : tn 0 s.heap) (hf : ∀ b ∈ fp, FpOk X pins H b)
    {W : Nat → Nat → Hp → Prop} {m : Nat} (w0 : W 0 m H) (step : ClStep J g tt vs tb σ W Nx0) :
    codeAny (model X.prog X.w) X.A (.compLoop (.ListComp elt gs sc ps) d (.ref it) acc X.env) (fun r s' => r = .ok .next ∧ ∃ H', Inv X pins (wipe σ vs) H' s' ∧ Nx0 H') s := by
  refine codeAny_loop rfl (fun m s' => ∃ k H', Inv X pins (wipe σ vs) H' s' ∧ tn k s'.heap ∧ (∀ b ∈ fp, H' b = none) ∧ W k m H') (fun m s1 hI => ?_) m ⟨0, H, I, st, fun b hb => (hf b hb).1, w0⟩
  obtain ⟨k, H1, I1, st1, n1, w1⟩ := hI
  have fok : ∀ {H' : Hp}, (∀ b ∈ fp, H' b = none) → ∀ b ∈ fp, FpOk X pins H' b := fun n b hb => ⟨n b hb, (hf b hb).2⟩
  show wpAny _ X.A (Sem.onRaise (compTurn (.ListComp elt gs sc ps) d (.ref it) acc X.env) _) _ _ s1
  refine wpAny_noted (wpAny_mono (Q := fun fin s' => match fin with
    | .done f => f = .next ∧ ∃ H', Inv X pins (wipe σ vs) H' s' ∧ Nx0 H'
    | .again c' => c' = .compLoop (.ListComp elt gs sc ps) d (.ref it) acc X.env ∧ ∃ m', m' < m ∧ ∃ k H', Inv X pins (wipe σ vs) H' s' ∧ tn k s'.heap ∧ (∀ b ∈ fp, H' b = none) ∧ W k m' H') (E := F0) ?_ (fun fin s' h => ?_) fun _ _ z => z.elim)
  · rw [ht]
    unfold turnC
    refine wpAny_bind (wpAny_standAt (wpAny_bind ?_))
    rcases step k m H1 w1 with ⟨stop, q⟩ | ⟨go, Nx, hNx, q⟩
    · refine thnF (T.done X rfl rfl rfl hc k pins s1 _ H1 F0 I1 (fok n1) st1 stop) fun r s2 ⟨hr, I2⟩ => ?_
      subst hr
      exact wpAny_pure ⟨rfl, H1, I2, q⟩
    · refine thnF (T.item X rfl rfl rfl hc k pins s1 _ H1 F0 I1 (fok n1) st1 go) fun r s2 ⟨u, hr, h2⟩ => ?_
      subst hr
      refine wpAny_bind (thnF h2 fun _ s3 ⟨x, H3, I3, r3, y3, st3, n3⟩ => ?_)
      have I3' := I3.pinned (fok n3) (T.obj _ _ st3)
      have a1 := pg.run _ s3 _ H3 x u _ I3' r3 (q x H3 y3)
      rw [hx] at a1
      refine wpAny_bind (thnF a1 fun _ s4 ⟨σ4, H4, I4, e4, q4⟩ => ?_)
      have a2 := pt.run _ s4 σ4 H4 _ I4 q4
      rw [hx] at a2
      -- behind the rest, whatever it was
      have fin : ∀ {s' : Shared} {H' : Hp}, Inv X (pins ++ pinsAt fp s3.heap) (wipe σ vs) H' s' → Nx H' → ∃ m', m' < m ∧ ∃ k H', Inv X pins (wipe σ vs) H' s' ∧ tn k s'.heap ∧ (∀ b ∈ fp, H' b = none) ∧ W k m' H' := fun {s' H'} I' nx => by
        obtain ⟨m', hm, w'⟩ := hNx H' nx
        have stay : ∀ b ∈ fp, ∀ o, s3.heap.get? b = some o → s'.heap.get? b = some o ∧ H' b = none := fun b hb o e => by
          have z := I'.pin (b, o) (List.mem_append_right _ (List.mem_append_right _ (mem_pinsAt hb e)))
          exact ⟨z.1, z.2.1⟩
        refine ⟨m', hm, k + 1, H', I'.unpinned, T.keep _ _ _ st3 fun b hb o e => (stay b hb o e).1, fun b hb => ?_, w'⟩
        obtain ⟨o, e, _⟩ := T.obj _ _ st3 b hb
        exact (stay b hb o e).2
      refine wpAny_bind (thnF a2 fun b s5 ⟨H5, I5, q5⟩ => ?_)
      cases b with
      | false =>
        simp only [Bool.false_eq_true, if_false] at q5 ⊢
        exact wpAny_pure ⟨rfl, fin (weakC (ws := []) I5 e4 (fun j z => by cases z)) q5⟩
      | true =>
        simp only [if_true] at q5 ⊢
        refine thnF (pb.run _ s5 σ4 H5 Nx _ I5 q5) fun f s6 ⟨hf6, H6, I6, nx⟩ => ?_
        subst hf6
        exact ⟨rfl, fin (weakC I6 e4 sub) nx⟩
  · cases fin with
    | done f => exact ⟨by rw [h.1], h.2⟩
    | again c' => exact h

/-- the last clause's rest: the element, appended to the list at D -/
def tElt (D : Addr) (te : TE) : TB := fun σ H Nx => te σ H fun y H' => ∃ a, H' D = some (.lst a) ∧ a.length < sizeLine ∧ Nx (upd H' D (.lst (a ++ [y])))
theorem pb_elt {D : Addr} {te : TE} (hx : X.xe = F0) (he : PE X elt te) : PB X (tailE elt (.ref D) X.env) [] (tElt D te) := by
  refine ⟨fun pins s σ H Nx c I h => ?_⟩
  unfold tailE
  have a := he.run pins s σ H _ I h
  rw [hx] at a
  refine wpAny_bind (wpAny_bind (thnF a fun u s1 ⟨y, H1, I1, r1, ac, hD, hz, nx⟩ => wpAny_bind (app_ok I1 hD hz r1 fun s2 I2 => wpAny_pure (wpAny_pure ⟨rfl, _, I2, nx⟩))))

/-- another clause within -/
def tCl (wi : TI) (g : TG) (tt : TT) (vs : List Nat) (tb : TB) : TB := fun σ H Nx => wi σ H fun J H1 => ∃ W : Nat → Nat → Hp → Prop, (∃ m, W 0 m H1) ∧ ClStep J g tt vs tb σ W Nx
theorem pb_cl {rest : Code → Sem Fin} {wi : TI} (hx : X.xe = F0) (hc : X.calm = true) (hd : gs[d]? = some ⟨t, i, ifs, 0⟩)
    (ht : ∀ it, compTurn (.ListComp elt gs sc ps) d it acc X.env = turnC t i ifs it X.env (rest (.compLoop (.ListComp elt gs sc ps) d it acc X.env)) (.compLoop (.ListComp elt gs sc ps) d it acc X.env))
    (pi : PI X t i wi) (pg : PG X t g) (pt : PTs X ifs tt) (pb : PB X rest ws tb) (sub : ∀ j ∈ ws, j ∈ vs) (hs : ∀ x, foldedSetIterable i X.env x = pure x) :
    PB X (tailN (.ListComp elt gs sc ps) d i acc X.env) vs (tCl wi g tt vs tb) := by
  refine ⟨fun pins s σ H Nx c I h => ?_⟩
  unfold tailN
  have a := pi.run pins s σ H _ I h
  rw [hx] at a
  refine wpAny_bind (thnF a fun v s1 h1 => wpAny_bind (wpAny_standAt (wpAny_bind (wpAny_of_eq (hs v) (wpAny_bind (wpAny_holding (thnF h1 fun itv s2 h2 => ?_)))))))
  obtain ⟨it, fp, tn, J, H2, e, I2, T, st2, f2, W, ⟨m, w0⟩, step⟩ := h2
  subst e
  have loop := loop_run (H := H2) hx hc ht pg pt pb sub T (I2.weak (wipe_length _ _) fun j v q => (wipe_some q).1) st2 f2 w0 step
  refine wpAny_bind (wpAny_runOwn ?_)
  rw [Around.mark_none]
  refine codeAny_of_tree ?_
  show wpAny _ _ (Sem.onRaise (compStart (.ListComp elt gs sc ps) d (.ref it) acc X.env) _) _ _ s2
  refine wpAny_notedAt ?_
  unfold compStart
  have hcl : clausesOf (.ListComp elt gs sc ps) = gs := rfl
  rw [hcl, hd]
  have done : codeAny (model X.prog X.w) X.A (.compLoop (.ListComp elt gs sc ps) d (.ref it) acc X.env) (fun r s' => match r with
      | .ok f => wpAny (model X.prog X.w) X.A (again c) (fun f s' => f = .again c ∧ ∃ H', Inv X pins (wipe σ vs) H' s' ∧ Nx H') F0 s'
      | .error e => cameBackBy (model X.prog X.w) X.A X.env F0 e s') s2 := codeAny_mono loop fun r s' ⟨hr, H', I', q⟩ => by
    subst hr
    exact wpAny_pure ⟨rfl, H', I', q⟩
  show wpAny _ _ (ask >>= _) _ _ s2
  refine wpAny_bind (wpAny_askSetting (wpAny_ite ?_))
  split
  · first
      | exact wpAny_bind (wpAny_pure (wpAny_pure (And.intro rfl done)))
      | exact wpAny_pure (And.intro rfl done)
  · refine wpAny_bind (wpAny_rule (wpAny_bind (wpAny_standAt (wpAny_bind (T.self X.A 0 s2 _ _ st2 ?_)))))
    exact wpAny_pure (And.intro rfl done)

/-- [elt for tg in iter if .. for .. ..]: D the new list, tb D what the first clause does with an item -/
def tLcN (wi : TI) (g : TG) (tt : TT) (vs : List Nat) (tb : Addr → TB) : TE := fun σ H Q => wi σ H fun J H1 => ∀ D, H1 D = none → ∃ W : Nat → Nat → Hp → Prop, (∃ m, W 0 m (upd H1 D (.lst []))) ∧ ClStep J g tt vs (tb D) σ W (fun H' => Q (.ref D) H')

/-- the block, from the state in which its list stands -/
theorem block_run {tg iter : Expr} {rs : List Comprehension} {scope : Scope} {own : List (Str × Nat)} {pos : Pos} {tb : TB} {rest : Env → Code → Sem Fin} {D : Addr} {W : Nat → Nat → Hp → Prop} {m0 : Nat} {R : Result → Shared → Prop}
    (hc : X.calm = true) (hN : X.N.Nodup) (I : Inv X pins σ H s) (ok : BlkOk X.N X.env.scope scope own)
    (ht : ∀ it env, compTurn (.ListComp elt (⟨tg, iter, ifs, 0⟩ :: rs) scope pos) 0 it (.ref D) env = turnC tg iter ifs it env (rest env (.compLoop (.ListComp elt (⟨tg, iter, ifs, 0⟩ :: rs) scope pos) 0 it (.ref D) env)) (.compLoop (.ListComp elt (⟨tg, iter, ifs, 0⟩ :: rs) scope pos) 0 it (.ref D) env))
    (hg : ∀ (s : Shared) (H : Hp) (C : Addr) (cl : List (Str × Addr)) (fp : List Addr), PG (X.blk s H scope (compEnvC scope cl C X.env) fp) tg g)
    (hp : ∀ (s : Shared) (H : Hp) (C : Addr) (cl : List (Str × Addr)) (fp : List Addr), PTs (X.blk s H scope (compEnvC scope cl C X.env) fp) ifs tt)
    (hb : ∀ (s : Shared) (H : Hp) (C : Addr) (cl : List (Str × Addr)) (fp : List Addr), PB (X.blk s H scope (compEnvC scope cl C X.env) fp) (rest (compEnvC scope cl C X.env)) ws tb) (sub : ∀ j ∈ ws, j ∈ own.map (·.2))
    (T : Turn X.prog X.w X.K tg J fp it tn) (st : tn 0 s.heap) (hf : ∀ b ∈ fp, FpOk X pins H b ∧ b < s.heap.objs.size) (w0 : W 0 m0 H) (step : ClStep J g tt (own.map (·.2)) tb σ W Nx0)
    (hR : ∀ s' m H', Inv X pins σ H' s' → Nx0 H' → s'.heap.Ns s.heap.objs.size m → FpOk X pins H' s.heap.objs.size → R (.ok .next) s') :
    codeAny (model X.prog X.w) X.A (.compStart (.ListComp elt (⟨tg, iter, ifs, 0⟩ :: rs) scope pos) 0 (.ref it) (.ref D) (compEnvC scope (cellsFrom (s.heap.objs.size + 1) scope.names (cloFrom X.env.cells scope.names [])) s.heap.objs.size X.env)) R
      { s with heap := pushCells (s.heap.push { cls := .type "dict", data := .dict #[] }) scope.names } := by
  have I4 := block_start I ok hN hf
  have qg := hg s H s.heap.objs.size (cellsFrom (s.heap.objs.size + 1) scope.names (cloFrom X.env.cells scope.names [])) fp
  have qp := hp s H s.heap.objs.size (cellsFrom (s.heap.objs.size + 1) scope.names (cloFrom X.env.cells scope.names [])) fp
  have qb := hb s H s.heap.objs.size (cellsFrom (s.heap.objs.size + 1) scope.names (cloFrom X.env.cells scope.names [])) fp
  have st4 : tn 0 (pushCells (s.heap.push { cls := .type "dict", data := .dict #[] }) scope.names) := T.keep _ _ _ st fun _ _ _ e => pushCells_keeps _ _ _ _ (Heap.get?_push_of_some _ e)
  generalize hce : compEnvC scope (cellsFrom (s.heap.objs.size + 1) scope.names (cloFrom X.env.cells scope.names [])) s.heap.objs.size X.env = ce at I4 qg qp qb ⊢
  have cL : ce.locals = s.heap.objs.size := by rw [← hce]; rfl
  have f4 : ∀ b ∈ fp, FpOk (X.blk s H scope ce fp) [] H b := fun b hb =>
    ⟨(hf b hb).1.1, (I4.ok.exf b hb).1, I4.ok.exfs b hb, .inl hb, fun x c e => (I4.ok.exf b hb).2 x c e, fun p hp => by cases hp⟩
  have loop := loop_run (X := X.blk s H scope ce fp) (it := it) rfl hc (fun it => ht it ce) qg qp qb sub T I4 st4 f4 w0 step
  have fin : codeAny (model X.prog X.w) X.A (.compLoop (.ListComp elt (⟨tg, iter, ifs, 0⟩ :: rs) scope pos) 0 (.ref it) (.ref D) ce) R { s with heap := pushCells (s.heap.push { cls := .type "dict", data := .dict #[] }) scope.names } := by
    refine codeAny_mono loop fun r s' ⟨hr, H', I', nx⟩ => ?_
    subst hr
    obtain ⟨m, hn, _⟩ := I'.loc
    have hn : s'.heap.Ns ce.locals m := hn
    have nC : H' ce.locals = none := I'.free
    rw [cL] at hn nC
    exact hR s' m H' (I.call' (ch := fp) I'.os I'.base I'.hok I'.bare fun b hb => let z := (hf b hb).1.2; ⟨z.2.2.1, z.1, z.2.2.2.1, z.2.2.2.2⟩) nx hn (I.fpOk (Nat.le_refl _) nC)
  exact codeAny_compStart_list fin (T.self X.A 0 _ _ _ st4 fin)

theorem lcN_core {tg iter : Expr} {rs : List Comprehension} {scope : Scope} {own : List (Str × Nat)} {pos pos' : Pos} {wi : TI} {tb : Addr → TB} {rest : Addr → Env → Code → Sem Fin}
    {use : Option (Value → Sem Unit)} {Qf : Value → Shared → Prop} {Q : VK}
    (hc : X.calm = true) (hN : X.N.Nodup) (I : Inv X pins σ H s) (hi : PI X tg iter wi) (ok : BlkOk X.N X.env.scope scope own) (hs : ∀ x, foldedSetIterable iter X.env x = pure x)
    (ht : ∀ it D env, compTurn (.ListComp elt (⟨tg, iter, ifs, 0⟩ :: rs) scope pos) 0 it (.ref D) env = turnC tg iter ifs it env (rest D env (.compLoop (.ListComp elt (⟨tg, iter, ifs, 0⟩ :: rs) scope pos) 0 it (.ref D) env)) (.compLoop (.ListComp elt (⟨tg, iter, ifs, 0⟩ :: rs) scope pos) 0 it (.ref D) env))
    (hg : ∀ (s : Shared) (H : Hp) (C : Addr) (cl : List (Str × Addr)) (fp : List Addr), PG (X.blk s H scope (compEnvC scope cl C X.env) fp) tg g)
    (hp : ∀ (s : Shared) (H : Hp) (C : Addr) (cl : List (Str × Addr)) (fp : List Addr), PTs (X.blk s H scope (compEnvC scope cl C X.env) fp) ifs tt)
    (hb : ∀ (s : Shared) (H : Hp) (C : Addr) (cl : List (Str × Addr)) (fp : List Addr) (D : Addr), PB (X.blk s H scope (compEnvC scope cl C X.env) fp) (rest D (compEnvC scope cl C X.env)) ws (tb D)) (sub : ∀ j ∈ ws, j ∈ own.map (·.2))
    (h : tLcN wi g tt (own.map (·.2)) tb σ H Q)
    (hR : ∀ D C s' m H', Inv X pins σ H' s' → Q (.ref D) H' → s'.heap.Ns C m → FpOk X pins H' C → compPost (model X.prog X.w) X.A X.xe use Qf (.ref D) C (.ok .next) s') :
    wpAny (model X.prog X.w) X.A (comprehension (.ListComp elt (⟨tg, iter, ifs, 0⟩ :: rs) scope pos) scope X.env pos' (newList []) false (eval iter X.env) use) Qf X.xe s := by
  have hfr : ∀ y ∈ scope.names, y.2 = .free → ∃ c, X.env.cells.lookup y.1 = some c := fun y hy e =>
    I.ok.has _ (ok.free y hy e)
  refine wpAny_comprehension_free (use := use) rfl hs (closure_ok hfr) ok.kind (fun y hy e => (ok.uniq y hy).trans (congrArg some e))
    (thn (hi.run pins s σ H _ I h) fun xv s1 h1 => thn h1 fun itv s2 ⟨it, fp, tn, J, H2, e, I2, T, st2, f2, q⟩ => ?_)
  subst e
  refine wpAny_newObj_type (newEnv_comp ?_) (Nat.zero_le _)
  have hfree : H2 s2.heap.objs.size = none := I2.hok.fresh (Nat.le_refl _)
  obtain ⟨W, ⟨m0, w0⟩, step⟩ := q _ hfree
  have small : ∀ b ∈ fp, b < s2.heap.objs.size := fun b hb => let ⟨_, e, _⟩ := T.obj _ _ st2 b hb; Heap.lt_size e
  have I3 : Inv X pins σ (upd H2 s2.heap.objs.size (.lst [])) { s2 with heap := s2.heap.push { cls := .type "list", data := .seq ([] : List Value).toArray } } :=
    I2.laid (t' := s2.toks) (fun _ _ e => Heap.get?_push_of_some _ e) (Nat.le_refl _) ⟨Nat.zero_le _, [], 0, .nil, Heap.get?_push_size _ rfl⟩
  refine block_run (T := T) (tb := tb s2.heap.objs.size) (rest := rest s2.heap.objs.size) hc hN I3 ok (fun it env => ht it _ env) hg hp (fun s H C cl fp => hb s H C cl fp _) sub (T.keep _ _ _ st2 fun _ _ _ e => Heap.get?_push_of_some _ e)
    (fun b hb => ⟨⟨(upd_ne (Nat.ne_of_lt (small b hb))).trans (f2 b hb).1, (f2 b hb).2⟩, ?_⟩) w0 step (fun s' m H' I' q hn f => hR _ _ s' m H' I' q hn f)
  show b < (s2.heap.push _).objs.size
  rw [Heap.size_push]
  exact Nat.lt_succ_of_lt (small b hb)

/-- the rule, as a value -/
theorem pe_lcN {tg iter : Expr} {rs : List Comprehension} {scope : Scope} {own : List (Str × Nat)} {pos : Pos} {wi : TI} {tb : Addr → TB} {rest : Addr → Env → Code → Sem Fin}
    (hc : X.calm = true) (hN : X.N.Nodup) (hi : PI X tg iter wi) (ok : BlkOk X.N X.env.scope scope own)
    (ht : ∀ it D env, compTurn (.ListComp elt (⟨tg, iter, ifs, 0⟩ :: rs) scope pos) 0 it (.ref D) env = turnC tg iter ifs it env (rest D env (.compLoop (.ListComp elt (⟨tg, iter, ifs, 0⟩ :: rs) scope pos) 0 it (.ref D) env)) (.compLoop (.ListComp elt (⟨tg, iter, ifs, 0⟩ :: rs) scope pos) 0 it (.ref D) env))
    (hg : ∀ (s : Shared) (H : Hp) (C : Addr) (cl : List (Str × Addr)) (fp : List Addr), PG (X.blk s H scope (compEnvC scope cl C X.env) fp) tg g)
    (hp : ∀ (s : Shared) (H : Hp) (C : Addr) (cl : List (Str × Addr)) (fp : List Addr), PTs (X.blk s H scope (compEnvC scope cl C X.env) fp) ifs tt)
    (hb : ∀ (s : Shared) (H : Hp) (C : Addr) (cl : List (Str × Addr)) (fp : List Addr) (D : Addr), PB (X.blk s H scope (compEnvC scope cl C X.env) fp) (rest D (compEnvC scope cl C X.env)) ws (tb D)) (sub : ∀ j ∈ ws, j ∈ own.map (·.2))
    (hs : ∀ x, foldedSetIterable iter X.env x = pure x := by intro _; rfl) :
    PE X (.ListComp elt (⟨tg, iter, ifs, 0⟩ :: rs) scope pos) (tLcN wi g tt (own.map (·.2)) tb) := by
  refine ⟨fun pins s σ H Q I h => ?_⟩
  rw [eval_ListComp]
  refine lcN_core hc hN I hi ok hs ht hg hp hb sub h fun D C s' m H' I' q hn f => ⟨m, hn, fun h2 same => ?_⟩
  exact ⟨.ref D, H', I'.turned (t' := s'.toks) (fun b o hb e => (same.2 b hb).trans e) f.1 f.2.1 f.2.2.2.1 f.2.2.2.2.1 f.2.2.2.2.2, rfl, q⟩
/-- y = [..] on one row, y a local in the slot k -/
theorem ps_setLcN {k : Nat} {y : Str} {py : Pos} {tg iter : Expr} {rs : List Comprehension} {scope : Scope} {own : List (Str × Nat)} {pos spos : Pos} {wi : TI} {tb : Addr → TB} {rest : Addr → Env → Code → Sem Fin}
    (hc : X.calm = true) (hN : X.N.Nodup) (hy : X.N[k]? = some y) (hl : X.env.scope.names.lookup y = some .local)
    (hw : swapsWith (.ListComp elt (⟨tg, iter, ifs, 0⟩ :: rs) scope pos) (some (.Name y py)) spos.line X.env = pure true) (hi : PI X tg iter wi) (ok : BlkOk X.N X.env.scope scope own)
    (ht : ∀ it D env, compTurn (.ListComp elt (⟨tg, iter, ifs, 0⟩ :: rs) scope pos) 0 it (.ref D) env = turnC tg iter ifs it env (rest D env (.compLoop (.ListComp elt (⟨tg, iter, ifs, 0⟩ :: rs) scope pos) 0 it (.ref D) env)) (.compLoop (.ListComp elt (⟨tg, iter, ifs, 0⟩ :: rs) scope pos) 0 it (.ref D) env))
    (hg : ∀ (s : Shared) (H : Hp) (C : Addr) (cl : List (Str × Addr)) (fp : List Addr), PG (X.blk s H scope (compEnvC scope cl C X.env) fp) tg g)
    (hp : ∀ (s : Shared) (H : Hp) (C : Addr) (cl : List (Str × Addr)) (fp : List Addr), PTs (X.blk s H scope (compEnvC scope cl C X.env) fp) ifs tt)
    (hb : ∀ (s : Shared) (H : Hp) (C : Addr) (cl : List (Str × Addr)) (fp : List Addr) (D : Addr), PB (X.blk s H scope (compEnvC scope cl C X.env) fp) (rest D (compEnvC scope cl C X.env)) ws (tb D)) (sub : ∀ j ∈ ws, j ∈ own.map (·.2))
    (hs : ∀ x, foldedSetIterable iter X.env x = pure x := by intro _; rfl) :
    PS X (.Assign [.Name y py] (.ListComp elt (⟨tg, iter, ifs, 0⟩ :: rs) scope pos) spos) (tAsg (tLcN wi g tt (own.map (·.2)) tb) (gName k)) := by
  refine ⟨fun pins s σ H D I h => ?_⟩
  rw [exec_Assign_Name_used _ _ _ _ hw]
  refine wpAny_bind (wpAny_standAt (wpAny_bind (wpAny_bind (thn (lcN_core (Qf := fun _ s' => SP X pins D .next s') (Q := fun x H1 => gName k x σ H1 D.nx) hc hN I hi ok hs ht hg hp hb sub h fun L C s' m H' I' q hn f => ?_) fun _ s' hq => wpAny_pure (wpAny_pure hq)))))
  refine wpAny_assign_Name (store_ok2 (v := V.ref L) I' hN hy (.inl hl) rfl (fun s2 I2 ⟨a, same, ha⟩ => ?_) (.inr hl))
  have apart : C ≠ a := ha.elim (fun z => z ▸ f.2.1) fun z e => f.2.2.2.2.1 y a z e.symm
  refine ⟨m, hn.sameBut same apart, fun h3 same3 => ?_⟩
  exact ⟨_, H', I2.turned (t' := s2.toks) (fun b o hb e => (same3.2 b hb).trans e) f.1 f.2.1 f.2.2.2.1 f.2.2.2.2.1 f.2.2.2.2.2, q⟩
end
end L2.Px

/-! Rules beside the hand layer: sorted of a tuple, enumerate of a tuple, repr of data. -/
namespace L2.Px
open PySem PySem.Spec PyProof.Rows

/-- the context one call of a built-in deeper -/
abbrev up1 (X : Cx) : Cx := { X with A := X.A.in1 }
theorem ok_up1 {X : Cx} (o : X.Ok) : (up1 X).Ok := ⟨o.mod, o.kind, o.glob, o.blt, o.above, o.inj, o.has, o.cab, o.hd, o.frames, o.stk, o.exf, o.bs, o.bsz, o.noex, o.exfs, o.funs, o.frf⟩
theorem inv_up1 {X : Cx} {pins : List (Addr × Obj)} {σ : St} {H : Hp} {s : Shared} (I : Inv X pins σ H s) : Inv (up1 X) pins σ H s := ⟨ok_up1 I.ok, I.os, I.bare, I.base, I.loc, I.cell, I.free, I.freeC, I.pin, I.hok, I.len⟩
theorem ok_dn1 {X : Cx} (o : (up1 X).Ok) : X.Ok := ⟨o.mod, o.kind, o.glob, o.blt, o.above, o.inj, o.has, o.cab, o.hd, o.frames, o.stk, o.exf, o.bs, o.bsz, o.noex, o.exfs, o.funs, o.frf⟩
theorem inv_dn1 {X : Cx} {pins : List (Addr × Obj)} {σ : St} {H : Hp} {s : Shared} (I : Inv (up1 X) pins σ H s) : Inv X pins σ H s := ⟨ok_dn1 I.ok, I.os, I.bare, I.base, I.loc, I.cell, I.free, I.freeC, I.pin, I.hok, I.len⟩
section
variable {X : Cx}
/-- sorted(t), t a tuple of ints: a new list -/
def rSortedTI (K : PySem.W.Frag) : List V → Hp → VK → Prop := fun vs H Q => ∃ (a : Addr) (ns : List Int), vs = [V.ref a] ∧ (SqL K H a (ns.map V.int) ∨ SqT K H a (ns.map V.int)) ∧
  ∀ (ms : List Int) (p : Addr), ms.Perm ns → ms.Pairwise (· ≤ ·) → H p = none → Q (.ref p) (upd H p (.lst (ms.map V.int)))
theorem cr_sortedTI : CallR X (.builtin "sorted") (rSortedTI X.K) := by
  intro pins s σ H vs us Q I r h
  obtain ⟨a, ns, rfl, hq, q⟩ := h
  have go : ∀ (T : String) (o : Obj) (its : List Value) (n : Nat), T = "list" ∨ T = "tuple" → Vals (ns.map V.int) its → (ns.map V.int).length ≤ sizeLine → s.heap.get? a = some o → o.cls = .type T → o.data = .seq its.toArray n →
      wpAny (model X.prog X.w) X.A (call (.builtin "sorted") us) (EP X pins σ Q) X.xe s := by
    intro T o its n hT rv hz ho hc hd
    have hi : its.length ≤ sizeLine := rv.length ▸ hz
    rw [Vals.ref1 r]
    refine Calls.call_function_entry kind_sorted plain_sorted entry_sorted (args_sorted1 _) ?_
    unfold Builtin.«sorted»
    refine wpAny_bind (m := checkCount "sorted" 1 1 _) (wpAny_pure (wpAny_bind (wpAny_collect_seq a hT ho hc hd (fun h1 kp => ?_) (by rw [List.size_toArray]; exact hi))))
    refine wpAny_bind (wpAny_newList ?_ hi)
    have I1 : Inv X pins σ H { s with heap := h1 } := I.kept (t' := s.toks) kp
    have hn : H h1.objs.size = none := I1.hok.fresh (Nat.le_refl _)
    have I2 : Inv X pins σ (upd H h1.objs.size (.lst (ns.map V.int))) { s with heap := h1.push { cls := .type "list", data := .seq its.toArray } } :=
      I1.laid (t' := s.toks) (fun _ _ e => Heap.get?_push_of_some _ e) (Nat.le_refl _) ⟨hz, its, 0, rv, Heap.get?_push_size _ rfl⟩
    have srt := mt_sortI (X := up1 X) pins { s with heap := h1.push { cls := .type "list", data := .seq its.toArray } } σ _ (.ref h1.objs.size) [] (.ref h1.objs.size) [] (fun v H' => v = .non ∧ ∃ ms : List Int, ms.Perm ns ∧ ms.Pairwise (· ≤ ·) ∧ H' = upd H h1.objs.size (.lst (ms.map V.int))) (inv_up1 I2) rfl .nil
      ⟨h1.objs.size, ns, rfl, rfl, upd_same, fun ms hp hs => ⟨rfl, ms, hp, hs, upd_upd⟩⟩
    refine wpAny_bind (wpAny_holding (thn srt fun v s3 ⟨x, H3, I3, rx, ex, ms, hp, hs, e3⟩ => ?_))
    subst e3
    exact wpAny_pure ⟨_, rfl, .ref h1.objs.size, _, inv_dn1 I3, rfl, q ms _ hp hs hn⟩
  rcases hq with hq | hq
  · obtain ⟨its, rv, pl, hz⟩ := I.list hq
    obtain ⟨o, ho, hc, n, hd⟩ := pl.isList
    exact go _ o its n (.inl rfl) rv hz ho hc hd
  · obtain ⟨its, rv, pl, hz⟩ := I.tuple hq
    obtain ⟨o, ho, hc, n, hd⟩ := pl
    exact go _ o its n (.inr rfl) rv hz ho hc hd

/-- repr(x) of data, where no repr runs -/
def rReprD (K : PySem.W.Frag) : List V → Hp → VK → Prop := fun vs H Q => ∃ (x : V) (d : PyData), vs = [x] ∧ Dp K H x d ∧ d.showable = true ∧ d.hasDict = false ∧ d.depth ≤ 60 ∧ d.shown.length ≤ sizeLine ∧ Q (.str d.shown) H
theorem cr_reprD (hg : X.A.guards = some []) (hu : X.A.units + 64 < cLine) : CallR X (.builtin "repr") (rReprD X.K) := by
  intro pins s σ H vs us Q I r h
  obtain ⟨x, d, rfl, hd, hs, hnd, hdp, hz, q⟩ := h
  cases r with
  | cons rx rr =>
    cases rr
    have hd0 := hd
    cases hd with
    | non =>
      cases rx
      exact PySem.P.repr_of_none ⟨.str ("None" : Str), H, I.tok _, ⟨_, rfl⟩, q⟩
    | bl b =>
      cases rx
      exact PySem.P.repr_of_bool ⟨.str (if b then ("True" : Str) else ("False" : Str)), H, I.tok _, ⟨_, by cases b <;> rfl⟩, by cases b <;> exact q⟩
    | int i =>
      obtain ⟨t, rfl⟩ := rx
      exact PySem.P.repr_of_int (of_decide_eq_true (by simpa [PyData.showable] using hs)) ⟨.str (toString i : String), H, I.tok _, ⟨_, rfl⟩, q⟩
    | str x =>
      obtain ⟨t, rfl⟩ := rx
      exact PySem.P.repr_of_str ⟨.str (reprText x), H, I.tok _, ⟨_, rfl⟩, q⟩ hz
    | lst hq ha =>
      cases rx
      obtain ⟨as, rd⟩ := Dp.reads I _ _ _ hd0 rfl
      exact repr_of_reads' rd hs (fun z => by rw [hnd] at z; cases z) hg (by omega) (fun _ _ e => e) (fun h' u tk kp => ⟨.str _, H, I.kept (t' := tk) kp, ⟨_, rfl⟩, q⟩) hz
    | tup hq ha =>
      cases rx
      obtain ⟨as, rd⟩ := Dp.reads I _ _ _ hd0 rfl
      exact repr_of_reads' rd hs (fun z => by rw [hnd] at z; cases z) hg (by omega) (fun _ _ e => e) (fun h' u tk kp => ⟨.str _, H, I.kept (t' := tk) kp, ⟨_, rfl⟩, q⟩) hz

/-! ### enumerate(t), t a tuple -/
theorem meets_enum_newT (t : Addr) (items : Array Value) :
    Meets (Builtin.«enumerate.__new__» ⟨[.type "enumerate", .ref t], []⟩) (fun _ R s => s.heap.IsTuple t items ∧
      R (.ok (.ret (.ref (s.heap.push { cls := .type "tuple_iterator", data := .fields #[.ref t, .int 0 0] }).objs.size)))
        { s with heap := (s.heap.push { cls := .type "tuple_iterator", data := .fields #[.ref t, .int 0 0] }).push { cls := .type "enumerate", data := .fields #[.none, .bool false, .ref s.heap.objs.size, rawInt 0, .none, .none] } }) :=
  .of_wp fun prog w A R s h => by
    obtain ⟨hp, g, d, tk, os⟩ := s
    obtain ⟨hl, h⟩ := h
    have hsub := sub_enumerate
    have hL : Heap.IsTuple (Shared.heap ⟨hp, g, d, tk, os⟩) t items := hl
    wp_walk
    refine wpAny_stack_any fun st => wpAny_pure ?_
    split
    · rename_i c _ _ _ _ _
      cases (c == Value.type "enumerate")
      all_goals
        wp_walk using wpAny_pyIter_tuple hL
        exact ⟨_, rfl, h⟩
    · wp_walk using wpAny_pyIter_tuple hL
      exact ⟨_, rfl, h⟩

theorem call_enumT {prog : Program} {w : World} {A : Around} {E : Value → Shared → Prop} {s : Shared} {t : Addr} {items : Array Value} {Q : Value → Shared → Prop} (ht : s.heap.IsTuple t items)
    (h : ∀ h', IsEnum h' (s.heap.objs.size + 1) s.heap.objs.size 0 .none → h'.IsTupleIter s.heap.objs.size t 0 →
      (∀ b o, s.heap.get? b = some o → h'.get? b = some o) → Q (.ref (s.heap.objs.size + 1)) { s with heap := h' }) : wpAny (model prog w) A (call (.type "enumerate") [.ref t]) Q E s := by
  refine callType_new F.called_enumerate (by decide) (F.typeCall_enumerate_1 _) (F.newCall_enumerate_1 _) (fun obj => F.args_object_init_2 obj _) F.entry_enumerate_new (meets_enum_newT t items) ⟨ht, ?_⟩
  have z : (s.heap.push { cls := .type "tuple_iterator", data := .fields #[.ref t, .int 0 0] }).objs.size = s.heap.objs.size + 1 := Heap.size_push ..
  have e2 := Heap.get?_push_size (s.heap.push { cls := .type "tuple_iterator", data := .fields #[.ref t, .int 0 0] }) (o := { cls := .type "enumerate", data := .fields #[.none, .bool false, .ref s.heap.objs.size, rawInt 0, .none, .none] }) rfl
  rw [z] at e2
  show _ ∧ _
  rw [z]
  exact ⟨⟨_, e2, rfl⟩, h _ e2 ⟨_, Heap.get?_push_of_some _ (Heap.get?_push_size _ rfl), rfl, rfl⟩ fun b o x => Heap.get?_push_of_some _ (Heap.get?_push_of_some _ x)⟩

/-- the pairs (i, item i) of the tuple at a, each a new tuple -/
def Itet (K : PySem.W.Frag) (a : Addr) : It :=
  ⟨fun i H => ∃ (xs : List V) (x : V), SqT K H a xs ∧ xs[i]? = some x, fun i H v H' => ∃ T x, v = .ref T ∧ H T = none ∧ H' = upd H T (.tup [.int (i : Nat), x]) ∧ ∀ xs, SqT K H a xs → xs[i]? = some x,
    fun i H => ∃ xs : List V, SqT K H a xs ∧ xs.length = i⟩
theorem turn_enumT {P : Program} {w : World} {K : PySem.W.Frag} {elts : List Expr} {kk : Nat} {tpos : Pos} (a e it : Addr) :
    Turn P w K (.Tuple elts kk tpos) (Itet K a) [e, it] e (fun i h => (∃ old, IsEnum h e it ((i : Nat) : Int) old) ∧ h.IsTupleIter it a i ∧ e ≠ it) where
  mem := List.mem_cons_self
  obj := fun i h ⟨⟨old, he⟩, ⟨o, ho, hc, hd⟩, _⟩ b hb => by
    rcases List.mem_cons.mp hb with z | z
    · subst z
      exact ⟨_, he, fun v q => nomatch q⟩
    · obtain rfl := List.mem_singleton.mp z
      exact ⟨o, ho, fun v q => by rw [hd] at q; cases q⟩
  keep := fun i h h' ⟨⟨old, he⟩, hi, hne⟩ k => ⟨⟨old, k e (by simp) _ he⟩, hi.at fun o q => k it (by simp) o q, hne⟩
  item := by
    intro X hP hw hK hc i pins s σ H E I hf st hg
    subst hP hw hK
    obtain ⟨⟨old, he⟩, hit, hne⟩ := st
    obtain ⟨xs, x, hq, hx⟩ := hg
    obtain ⟨its, rv, tp, hz⟩ := I.tuple hq
    obtain ⟨u, hu, ru⟩ := rv.get hx
    have hel : e < s.heap.objs.size := Heap.lt_size he
    have hil : it < s.heap.objs.size := by obtain ⟨_, q, _⟩ := hit; exact Heap.lt_size q
    have nit : a ≠ it := fun z => by
      subst z
      obtain ⟨o1, h1, c1, d1⟩ := hit
      obtain ⟨o2, h2, c2, n2, d2⟩ := tp
      rw [h1] at h2; cases h2
      rw [d1] at d2; cases d2
    have nea : e ≠ a := fun z => by
      subst z
      obtain ⟨o2, h2, c2, n2, d2⟩ := tp
      have he' : s.heap.get? e = _ := he
      rw [he'] at h2; cases h2; cases d2
    refine wpAny_pyNext_enum_itemD (Draws.tuple (A := X.A.in1) (I.ok.hd hc) it a nit its.toArray) he ⟨hit, tp⟩ (by rw [List.size_toArray, ← rv.length]; exact (List.getElem?_eq_some_iff.mp hx).1) hne (by simp [hne, nea]) fun y h' tk hy ho st' hT hsz hk => ?_
    have ey : y = u := by
      have : its[i]? = some y := by simpa using hy
      rw [hu] at this
      exact (Option.some.inj this).symm
    subst ey
    refine ⟨_, rfl, wpAny_letOwnedTupleGo_enum (s := { s with heap := h', toks := tk + 1 }) ho fun h2 he2 same => ?_⟩
    have hT2 : h2.get? s.heap.objs.size = some { cls := .type "tuple", data := .seq #[.int i tk, y] } := (same.2 _ (Nat.ne_of_gt hel)).trans hT
    have new : ObjOk X.prog X.w (upd H s.heap.objs.size (.tup [.int (i : Nat), x])) h2 s.heap.objs.size (.tup [.int (i : Nat), x]) :=
      ⟨(by decide : 2 ≤ sizeLine), [.int i tk, y], .cons ⟨_, rfl⟩ (.cons ru .nil), ⟨_, hT2, rfl, _, rfl⟩⟩
    have I1 := I.turnedNew (t' := tk + 1) (ch := [e, it]) (fun b ob hb q => by
      have hb1 : b ≠ e := fun z => hb (by simp [z])
      have hb2 : b ≠ it := fun z => hb (by simp [z])
      exact (same.2 b hb1).trans (hk b ob hb1 hb2 q)) hf (Nat.le_refl _) new
    refine ⟨.ref s.heap.objs.size, _, I1, rfl, ⟨_, x, rfl, I.hok.fresh (Nat.le_refl _), rfl, fun ys hy => by rw [I.tuple_inj hy hq]; exact hx⟩, ⟨⟨y, ?_⟩, st'.1.at fun o q => (same.2 it (Ne.symm hne)).trans q, hne⟩, fun b hb => ?_⟩
    · rw [show ((i + 1 : Nat) : Int) = (i : Int) + 1 by omega]
      exact he2
    · have small : b < s.heap.objs.size := by
        rcases List.mem_cons.mp hb with z | z
        · rw [z]; exact hel
        · rw [List.mem_singleton.mp z]; exact hil
      exact (upd_ne (Nat.ne_of_lt small)).trans (hf b hb).1
  done := by
    intro X hP hw hK hc i pins s σ H E I hf st hg
    subst hP hw hK
    obtain ⟨⟨old, he⟩, hit, hne⟩ := st
    obtain ⟨xs, hq, hx⟩ := hg
    obtain ⟨its, rv, tp, hz⟩ := I.tuple hq
    obtain ⟨f0, f1, f2, f3, f4, f5⟩ := hf it (by simp)
    have nit : a ≠ it := fun z => by
      subst z
      obtain ⟨o1, h1, c1, d1⟩ := hit
      obtain ⟨o2, h2, c2, n2, d2⟩ := tp
      rw [h1] at h2; cases h2
      rw [d1] at d2; cases d2
    have ei : its.toArray.size = i := by rw [List.size_toArray, ← rv.length]; exact hx
    rw [← ei] at hit
    refine wpAny_pyNext_enum_endD (Draws.tuple (A := X.A.in1) (I.ok.hd hc) it a nit its.toArray) he ⟨hit, tp⟩ fun h' eb => ?_
    exact ⟨rfl, I.turned (t' := s.toks) (fun b o hb q => eb b o hb q) f0 f1 f3 f4 f5⟩
  self := fun A i s Q E ⟨⟨_, he⟩, _⟩ h => wpAny_pyIter_enum he h

def iEnumT (K : PySem.W.Frag) (ta : TA) : TI := fun σ H R => ta σ H fun vs H1 => ∃ a xs, vs = [.ref a] ∧ SqT K H1 a xs ∧ R (Itet K a) H1
theorem pi_enumT {e : Expr} {ta : TA} {p pos tpos : Pos} {elts : List Expr} {kk : Nat} (hg : Gl X "enumerate") (hm : X.mg "enumerate" = none) (ha : PA X [e] ta) (hs : starEach [e] X.env = [(false, eval e X.env)] := by rfl) :
    PI X (.Tuple elts kk tpos) (.Call (.Name "enumerate" p) [e] [] pos) (iEnumT X.K ta) := by
  refine ⟨fun pins s σ H R I h => ?_⟩
  refine Call_ (ld_blt I hg hm boot_enumerate (PyProof.Rows.callWith_type1 (thn (ha.run pos pins s σ H _ I h) fun us s1 ⟨vs, H1, I1, r1, a, xs, ex, hq, q⟩ => ?_) hs rfl))
  subst ex
  rw [Vals.ref1 r1]
  obtain ⟨its, rv, tp, hz⟩ := I1.tuple hq
  refine call_enumT tp fun h' he hit hk => wpAny_pyIter_enum he ?_
  refine ⟨s1.heap.objs.size + 1, [s1.heap.objs.size + 1, s1.heap.objs.size], _, _, H1, rfl, I1.kept (t' := s1.toks) hk, turn_enumT a (s1.heap.objs.size + 1) s1.heap.objs.size, ⟨⟨.none, he⟩, hit, Nat.succ_ne_self _⟩, fun b hb => ?_, q⟩
  have big : s1.heap.objs.size ≤ b := by
    rcases List.mem_cons.mp hb with z | z
    · rw [z]; exact Nat.le_succ _
    · rw [List.mem_singleton.mp z]; exact Nat.le_refl _
  exact I1.fpOk big (I1.hok.fresh big)

theorem walk_enumT {K : PySem.W.Frag} {a : Addr} {xs : List V} : Walk (Itet K a) xs.length (fun H => SqT K H a xs) (YPair (fun i => some (.int (i : Nat))) (fun i => xs[i]?)) :=
  ⟨fun i H hi h => ⟨xs, xs[i], h, by simp [hi]⟩, fun H h => ⟨xs, h, rfl⟩, fun i H x H' hi h ⟨T, y, e, hT, e2, hy⟩ => ⟨T, _, y, e, hT, e2, rfl, hy xs h⟩⟩

/-- a clause's turns by an invariant -/
theorem cl_it {J : It} {n : Nat} {G : Hp → Prop} {Y : Nat → Hp → V → Hp → Prop} (w : Walk J n G Y) {g : TG} {tt : TT} {vs : List Nat} {tb : TB} {σ : St} {H1 : Hp} {Nx0 : Hp → Prop} (Pv : Nat → Hp → Prop) (h0 : Pv 0 H1) (hG : ∀ i H, i ≤ n → Pv i H → G H)
    (hs : ∀ i x H H', i < n → Pv i H → Y i H x H' → g x (wipe σ vs) H' fun σ2 H2 => wipe σ2 vs = wipe σ vs ∧ tt σ2 H2 fun b H3 => if b = true then tb σ2 H3 (Pv (i + 1)) else Pv (i + 1) H3) (hd : ∀ H, Pv n H → Nx0 H) :
    ∃ W : Nat → Nat → Hp → Prop, (∃ m, W 0 m H1) ∧ ClStep J g tt vs tb σ W Nx0 := by
  refine ⟨fun i m H => m = n - i ∧ i ≤ n ∧ Pv i H, ⟨n, rfl, Nat.zero_le _, h0⟩, fun i m H hw => ?_⟩
  obtain ⟨rfl, hi, p⟩ := hw
  rcases Nat.lt_or_eq_of_le hi with lt | e
  · refine .inr ⟨w.goes i H lt (hG i H hi p), Pv (i + 1), fun H' p' => ⟨n - (i + 1), by omega, rfl, lt, p'⟩, fun x H' y => hs i x H H' lt p (w.yields i H x H' lt (hG i H hi p) y)⟩
  · subst e
    exact .inl ⟨w.stops H (hG i H hi p), hd H p⟩
end
end L2.Px

/-! The law's own def, entered where no repr runs: its promise knows that. -/
namespace L2.Px
open PySem PySem.Spec PyProof.Rows

/-- the promise of a def that is entered where no repr runs -/
structure GFn (P : Program) (w : World) (K : PySem.W.Frag) (mg : Str → Option Value) (base : Heap) (k : Nat) (f : Addr) (fd : FuncData) (ps : List Str) (sp : Sp) : Prop where
  run : ∀ (A : Around) (outer : List Env) (s : Shared) (H : Hp) (args : Args) (us : List Value) (vs : List V) (Q : VK) (E : XK), A.guards = some [] → Room k A → Env0 P w K mg base A outer s H → BindsTo s fd args (ps.zip us) → Vals vs us → sp vs H Q E →
    codeAny (model P w) A (.call (.ref f) args) (CR CX0 outer P w H s Q E) s

theorem gfn_of {P : Program} {w : World} {K : PySem.W.Frag} {mg : Str → Option Value} {base : Heap} {k : Nat} {f : Addr} {x qual : Str} {st : Stmt} {fd : FuncData} {N ps : List Str} {sp : Sp} (F : Fun K x qual st f fd) (S : FnScope N ps (defScope st))
    (len : ∀ vs H Q E, sp vs H Q E → vs.length = ps.length)
    (body : ∀ (cdv : Value) (A : Around) (outer : List Env) (s : Shared) (H : Hp) (vs : List V) (Q : VK) (E : XK), A.guards = some [] → Room k (A.deeper (envOfC qual (defScope st) s.heap.objs.size f cdv)) → sp vs H Q E →
      ∃ t, PSs (cxOf CX0 P w K mg base N qual (defScope st) f cdv A outer s H E).nox (defBody st) t ∧ t { nx := fun _ H' => Q .non H', rt := Q } (start N vs) H) :
    GFn P w K mg base (k + 1) f fd ps sp := by
  obtain ⟨oc, od, kV, doc, pm, an, cdv, ct, osl, rfl, lk, hcd⟩ := F.ex
  refine ⟨fun A outer s H args us vs Q E hg hr e0 hb r q => ?_⟩
  have KX : K.In s.heap := e0.mod.kin.keeps fun b o e => (e0.bs b o e).1
  have lim := e0.mod.nolimit.keeps fun b o e => (e0.bs b o e).1
  refine codeAny_call_function hr.depth (KX _ _ lk) rfl S.co S.gen rfl (PySem.W.codeRec_of KX hcd) (hb _ _ _ _ (wpAny_newFunctionEnv_cells S.kind (fun y hy => ?_) fun env he s1 x => ?_))
  · rcases S.par y.1 (List.of_mem_zip (show (y.1, y.2) ∈ ps.zip us from hy)).1 with z | z
    · exact .inl z
    · exact .inr ⟨z, PySem.W.cellsFrom_some _ _ _ (.inl z)⟩
  · subst he
    refine ⟨lim.keeps x.toInCall.keep, codeAny_func ?_⟩
    obtain ⟨t, pt, tt⟩ := body cdv A outer s H vs Q E hg (hr.deeper _) q
    refine wpAny_mono (pt.nox.run [] s1 (start N vs) H _ (inv_start S hr.hd e0 (len _ _ _ _ q) r x) tt) (fun fl s' h => ?_) fun e s' h => h
    cases fl with
    | ret u => exact let ⟨v, _, H', J, rv, q'⟩ := h; ⟨v, H', J.os, J.bare, J.base, J.hok, rv, q'⟩
    | next => exact let ⟨_, H', J, q'⟩ := h; ⟨.non, H', J.os, J.bare, J.base, J.hok, rfl, q'⟩
    | brk => exact let ⟨_, _, _, q'⟩ := h; q'.elim
    | cont => exact let ⟨_, _, _, q'⟩ := h; q'.elim

/-- the heap that tracks the script alone, if it is not written -/
def scriptH (a : Addr) (o : Obj) (xs : List V) : Hp := fun b => if b = a then some (.frz o (.lst xs)) else none

theorem law_callG {P : Program} {w : World} {K : PySem.W.Frag} {mg mb : Str → Option Value} {k : Nat} {fa a : Addr} {fd : FuncData} {x : Str} {sp : Sp} {s : Shared} {vs : List Value} {ns : List Int}
    (KX : K.In s.heap) (hns : s.heap.Ns mainGlobals mg) (hb : s.heap.Ns builtinsNs mb) (hbb : ∀ x : Str, x ≠ "__name__" → mb x = bootBuiltins x) (hlim : s.heap.NoLimit) (hg : s.gens = #[])
    (ha : s.heap.get? a = some { cls := .type "list", data := .seq vs.toArray }) (hi : IntsAre vs ns) (hl : ns.length ≤ sizeLine) (hr : Room k callerA)
    (F : ∀ base : Heap, K.In base → base.Ns mainGlobals mg → GFn P w K mg base k fa fd [x] sp) (hbind : ∀ (s : Shared) (u : Value), BindsTo s fd ⟨[u], []⟩ [(x, u)])
    (hsp : ∀ H : Hp, SqL K H a (ns.map V.int) → sp [.ref a] H (fun v _ => v = .bl true) fun _ _ _ => False) :
    codeAny (model P w) callerA (.call (.ref fa) ⟨[.ref a], []⟩) (fun r s' => r = .ok (.ret (.bool true)) ∧ OldK s.heap s'.heap ∧ s'.os = s.os ∧ AllBare s'.gens) s := by
  have rv := vals_ints hi
  -- the tracked heap: what it needs
  suffices core : ∀ H : Hp, (∀ b u, H b = some u → b = a ∧ K.lookup a = none ∧ ∃ o xs, u = .frz o (.lst xs)) → SqL K H a (ns.map V.int) → HOk P w H s.heap →
      codeAny (model P w) callerA (.call (.ref fa) ⟨[.ref a], []⟩) (fun r s' => r = .ok (.ret (.bool true)) ∧ OldK s.heap s'.heap ∧ s'.os = s.os ∧ AllBare s'.gens) s by
    cases hk : K.lookup a with
    | some o =>
      have e := KX a o hk
      rw [ha] at e
      cases e
      exact core (fun _ => none) (fun b u z => by cases z) (.inr ⟨_, vs.toArray, _, hk, rfl, rfl, rfl, by rw [List.size_toArray, hi.length]; exact hl, by simpa using rv⟩) fun b u z => by cases z
    | none =>
      refine core (scriptH a { cls := .type "list", data := .seq vs.toArray } (ns.map V.int)) (fun b u z => ?_) (.inl (.inr ⟨_, if_pos rfl⟩)) fun b u z => ?_
      · unfold scriptH at z
        split at z
        · cases z
          rename_i e
          exact ⟨e, hk, _, _, rfl⟩
        · cases z
      · unfold scriptH at z
        split at z
        · cases z
          rename_i e
          subst e
          exact ⟨ha, by rw [List.length_map]; exact hl, vs, _, rv, ha⟩
        · cases z
  intro H hH hS hok
  have old : ∀ {b : Addr} {o : Obj}, s.heap.get? b = some o → (b = a → K.lookup a ≠ none) → H b = none := fun {b o} e n => by
    cases q : H b with
    | none => rfl
    | some u =>
      obtain ⟨e1, e2, _⟩ := hH b u q
      exact absurd e2 (n e1)
  have dict : ∀ {b : Addr} {o : Obj} {es : Array DictEntry} {ep : Nat}, s.heap.get? b = some o → o.data = .dict es ep → (hidT s.heap H).get? b = some o := fun {b o es ep} e d => by
    refine hidT_get e ?_
    cases q : H b with
    | none => rfl
    | some u =>
      obtain ⟨rfl, _, _⟩ := hH b u q
      rw [ha] at e
      cases e
      cases d
  have ns' : ∀ {b : Addr} {m : Str → Option Value}, s.heap.Ns b m → (hidT s.heap H).Ns b m := fun ⟨o, es, ep, e, d, r⟩ => ⟨o, es, ep, dict e d, d, r⟩
  have kin : K.In (hidT s.heap H) := fun b o e => hidT_get (KX b o e) (old (KX b o e) fun z n => by rw [z, n] at e; cases e)
  have e0 : Env0 P w K mg (hidT s.heap H) callerA [] s H := ⟨rfl, ⟨kin, ns' hns, ⟨mb, ns' hb, hbb⟩, let ⟨mc, h1, h2⟩ := hlim; ⟨mc, ns' h1, h2⟩⟩, fun b o e => of_hidT e, Nat.le_of_eq (hidT_size _ _), trivial, fun b z => (by cases z), hok, .of_eq hg⟩
  refine codeAny_mono ((F _ kin (ns' hns)).run callerA [] s H ⟨[.ref a], []⟩ [.ref a] [.ref a] _ _ rfl hr e0 (hbind s (.ref a)) (.cons rfl .nil) (hsp H hS)) fun r s' h => ?_
  match r, h with
  | .ok (.ret u), ⟨v, H', os, bare, un, hok', rr, q⟩ =>
    have q : v = .bl true := q
    subst q
    cases rr
    refine ⟨rfl, OldK.of_keep fun b o e => ?_, os, bare⟩
    cases z : H b with
    | none => exact un.keep b o e z (by intro y; cases y) (by simp)
    | some u =>
      obtain ⟨_, _, o2, xs, rfl⟩ := hH b u z
      have h1 := (hok b _ z).1
      have h2 := (hok' b _ (un.frzs b _ _ z)).1
      rw [e] at h1
      cases h1
      exact h2

/-- the goal that k_head leaves, from the law's promise -/
theorem walkG {l : PySem.W.OpenLaw} {n k : Nat} {q : Program} {loose : List Str} {XP : (Str → Option Value) → Heap → Prop} {YP : World → Heap → Prop} {d : DefRec} {K : Params → PySem.W.Frag} {sp : PySem.W.Frag → Sp} {x : Str}
    (hn : l.most = some n) (hn2 : n ≤ sizeLine) (hdf : d.params.defaults = []) (hr : Room k callerA) (hY : ∀ (w : World) (h : Heap), YP w h → (K w.params).In h)
    (F : ∀ (w : World) (mg : Str → Option Value) (fa : Addr) (h : Heap), (K w.params).In h → h.Ns mainGlobals mg → mg d.name = some (.ref fa) →
      ∃ fd : FuncData, (∀ (s : Shared) (u : Value), BindsTo s fd ⟨[u], []⟩ [(x, u)]) ∧ ∀ base : Heap, (K w.params).In base → base.Ns mainGlobals mg → GFn l.prog w (K w.params) mg base k fa fd [x] (sp (K w.params)))
    (hsp : ∀ (K : PySem.W.Frag) (H : Hp) (a : Addr) (ns : List Int), ns.length ≤ n → SqL K H a (ns.map V.int) → sp K [.ref a] H (fun v _ => v = .bl true) fun _ _ _ => False) :
    PySem.W.WalkO q loose XP YP l.row.toRowW d [] (fun f vs => PySem.call f vs) :=
  Att.attach_call hn hdf fun w s₀ s₁ mg mb fa o pm cd doc a vs ns G Y ho hd hcd hmg hobj hints hlen hg =>
    let ⟨_, hb, hF⟩ := F w mg fa _ (hY w _ Y) G.T.g hmg
    law_callG (hY w _ Y) G.T.g G.T.b G.T.builtins G.T.nolimit hg hobj hints (Nat.le_trans hlen hn2) hr hF hb fun H hS => hsp _ H a ns hlen hS
end L2.Px

/-! Several except clauses, each with a name of its own or without one. -/
namespace L2.Px
open PySem PySem.Spec PyProof.Rows
/-- a clause: the class that it names, the slot of its name, its suite -/
structure Cla where
  c : Value
  i : Option Nat
  ts : Addr → Value → Option Addr → TS
/-- the ends of a suite whose clause has a name -/
def endsAt (D : Ends) : Option Nat → Ends
  | none => D
  | some i => { nx := fun τ G => D.nx (τ.set i none) G, rt := D.rt, bk := fun τ G => D.bk (τ.set i none) G, ct := fun τ G => D.ct (τ.set i none) G }
def slotAt (τ : St) (a : Addr) : Option Nat → St
  | none => τ
  | some i => τ.set i (some (.ref a))
/-- what the clauses wish, one behind the other -/
def wCl (K : PySem.W.Frag) (Wo : WX) (D : Ends) : List Cla → WX
  | [] => Wo
  | q :: r => fun cls d τ G => ∃ b, PySem.W.exmOne K cls q.c = some b ∧ (b = true → ∀ a, G a = none → q.ts a cls d (endsAt D q.i) (slotAt τ a q.i) G) ∧ (b = false → wCl K Wo D r cls d τ G)
inductive ClOk (X : Cx) : List ExceptHandler → List Cla → Prop
  | nil : ClOk X [] []
  | bare {x : Str} {c : Value} {ts : Addr → Value → Option Addr → TS} {st : Stmt} {sts : List Stmt} {p1 p2 : Pos} {hs : List ExceptHandler} {l : List Cla} (nm : Names X x c)
      (sui : ∀ (a : Addr) (ob : Obj) (cls : Value) (d : Option Addr) (pn : List (Addr × Obj)), Zc cls d ob → (∃ vs, ob.data = .fields vs) → PSs (X.suite a ((a, ob) :: pn)) (st :: sts) (ts a cls d)) (r : ClOk X hs l) :
      ClOk X (.ExceptHandler (some (.Name x p1)) none (st :: sts) p2 :: hs) (⟨c, none, ts⟩ :: l)
  | named {x n : Str} {c : Value} {i : Nat} {ts : Addr → Value → Option Addr → TS} {st : Stmt} {sts : List Stmt} {p1 p2 : Pos} {hs : List ExceptHandler} {l : List Cla} (nm : Names X x c) (ni : X.N[i]? = some n) (nk : X.env.kindOf n = some .local)
      (sui : ∀ (a : Addr) (ob : Obj) (cls : Value) (d : Option Addr) (pn : List (Addr × Obj)), Zc cls d ob → (∃ vs, ob.data = .fields vs) → PSs (X.suite a ((a, ob) :: pn)) (st :: sts) (ts a cls d)) (r : ClOk X hs l) :
      ClOk X (.ExceptHandler (some (.Name x p1)) (some n) (st :: sts) p2 :: hs) (⟨c, some i, ts⟩ :: l)
section
variable {X : Cx} {bd : List Stmt} {hd0 : ExceptHandler} {hdr : List ExceptHandler} {cs : List Cla} {ps : Pos} {tb : WX → TS} {Wo : WX}
theorem ps_try_cl (e1 : X.stack = X.env :: X.outer) (e2 : X.env.frame = some X.env.locals) (nod : X.N.Nodup) (tko : Takes X Wo)
    (bod : ∀ (W : WX) (pn : List (Addr × Obj)) (xe : Value → Shared → Prop), Takes (X.tr pn xe) W → PassesOwn (model X.prog X.w) X.A X.env xe → PSs (X.tr pn xe) bd (tb W))
    (clo : ClOk X (hd0 :: hdr) cs) : PS X (.Try bd (hd0 :: hdr) [] [] ps) (fun D τ G => tb (wCl X.K Wo D cs) D τ G) := by
  refine ⟨fun pins s τ G D I wish => ?_⟩
  have okX := I.ok
  have frX : X.A.frames = some (X.env :: X.outer) := by rw [okX.frames, e1]
  refine wpAny_Try_except ?_
  refine wpAny_mono ((bod (wCl X.K Wo D cs) (X.pn ++ pins) (fun e t1 => wpAny (model X.prog X.w) X.A (noteFrame e X.env) (fun _ t2 => wpAny (model X.prog X.w) X.A (setFlight e none) (fun _ t3 =>
    wpAny (model X.prog X.w) X.A (handleBy e X.env (hd0 :: hdr)) (SP X pins D) X.xe t3) X.xe t2) X.xe t1) (fun u t' xx => ?_) PassesOwn.looking).run [] s τ G D (I.toTry _) wish) (fun fl t1 hsp => ?_) (fun _ _ z => z)
  · obtain ⟨a, B, t0, pins', τ', G', cls, d, rfl, J0, nb, up, sky, na, os, ag, w⟩ := xx
    have J : Inv X pins τ' G' t0 := J0.ofTry okX
    have skyX : Sky B (X.env :: X.outer) a (Zc cls d) X.env.locals t'.heap := by rw [← e1]; exact sky
    show wpAny (model X.prog X.w) X.A (noteFrame (.ref a) X.env) _ _ _
    refine Sky.land Zc.steady frX e2 skyX fun hp flp upp => ?_
    have Jp : Inv X pins τ' G' { t' with heap := hp } := J.landed nb flp.1 (up.trans upp) os ag
    obtain ⟨obp, vsp, hep, hzp, hdp⟩ := flp.there
    have nfr : a ∉ frs (X.env :: X.outer) := fun hm => by
      obtain ⟨_, o2, eo, hnf⟩ := flp.2.2.1.mem hm
      rw [hep] at eo
      cases eo
      exact hnf _ hdp
    have nL : a ≠ X.env.locals := fun z => nfr (List.mem_filterMap.mpr ⟨X.env, List.mem_cons_self, by rw [e2, z]⟩)
    have nF : a ∉ X.fs := fun hm => let ⟨y, hy, q⟩ := List.mem_filterMap.mp hm; nfr (List.mem_filterMap.mpr ⟨y, List.mem_cons_of_mem _ hy, q⟩)
    have Sp := Jp.suite hep hdp na nL nF
    have LTp : PySem.W.Looks (model X.prog X.w) hp (typeOf (.ref a)) cls := fun _ _ _ _ k q => wpAny_typeOf_ref (k _ _ hep) (by rw [hzp.1]; exact q)
    have tst : ∀ {x : Str} {c : Value} {np : Pos} {Q : Value → Shared → Prop} {E : Value → Shared → Prop}, Names X x c → Q c { t' with heap := hp } → wpAny (model X.prog X.w) (X.A.mark (some (.ref a))) (eval (.Name x np) X.env) Q E { t' with heap := hp } := fun {x c np Q E} hc q => by
      obtain ⟨hg, hdb, hm | ⟨hm, hv, hnn⟩⟩ := hc
      · exact ld_glob (X := X.suite a ((a, obp) :: (X.pn ++ pins))) Sp hg hm q hdb
      · exact ld_blt (X := X.suite a ((a, obp) :: (X.pn ++ pins))) Sp hg hm hv q hnn hdb
    have go : ∀ {hs' : List ExceptHandler} {l' : List Cla}, ClOk X hs' l' → wCl X.K Wo D l' cls d τ' G' → wpAny (model X.prog X.w) X.A (handleBy (.ref a) X.env hs') (SP X pins D) X.xe { t' with heap := hp } := by
      intro hs' l' hk
      induction hk with
      | nil =>
        intro w
        refine wpAny_handleBy_nil ?_
        obtain ⟨_, _, _, ob, vs, T, oT, _, he, _, hd, h1, _⟩ := id flp
        unfold PySem.passOn
        refine wpAny_bind (wpAny_field he hd h1 ?_)
        rw [if_neg (show ¬ ((Value.ref T == Value.none) = true) from by simp)]
        have fin : wpAny (model X.prog X.w) X.A (setFlight (.ref a) X.env.frame) (fun _ t4 => wpAny (model X.prog X.w) X.A (throw (.ref a) : Sem Flow) (SP X pins D) X.xe t4) X.xe { t' with heap := hp } := by
          rw [e2]
          exact HandSPX.setFlight_upZ flp fun hq flq upq => wpAny_throw (tko _ _ ⟨a, B, t0, pins, τ', G', cls, d, rfl, J, nb, (up.trans upp).trans upq, .inr (.inr (by rw [e1]; exact flq)), na, os, ag, w⟩)
        first
          | exact wpAny_bind (wpAny_pure (wpAny_bind fin))
          | exact wpAny_bind fin
      | @bare x c ts st sts p1 p2 hs2 l2 nm sui r ih =>
        rintro ⟨b, hb1, yes, no⟩
        refine wpAny_handleBy_cons (codeAny_handlers_test ?_) (by intro q; cases q)
        refine tst nm ((PySem.W.exm_one (M := model X.prog X.w) Jp.kIn LTp hb1).here ?_)
        cases b with
        | false => exact ih (no rfl)
        | true =>
          refine codeAny_handlers_suite (HandSPX.lands_againZ flp fun hq flq upq => ?_)
          have Jq : Inv X pins τ' G' { t' with heap := hq } := J.landed nb flq.1 ((up.trans upp).trans upq) os ag
          obtain ⟨obq, vsq, heq, hzq, hdq⟩ := flq.there
          refine wpAny_mono ((sui a obq cls d (X.pn ++ pins) hzq ⟨_, hdq⟩).run [] _ _ G' _ (Jq.suite heq hdq na nL nF) (yes rfl a na)) (fun f s6 hsp => ?_) (fun _ _ z => False.elim z)
          cases f with
          | next => exact let ⟨_, _, S6, q6⟩ := hsp; ⟨_, _, S6.unsuite okX, q6⟩
          | brk => exact let ⟨_, _, S6, q6⟩ := hsp; ⟨_, _, S6.unsuite okX, q6⟩
          | cont => exact let ⟨_, _, S6, q6⟩ := hsp; ⟨_, _, S6.unsuite okX, q6⟩
          | ret u => exact let ⟨_, _, _, S6, r6, q6⟩ := hsp; ⟨_, _, _, S6.unsuite okX, r6, q6⟩
      | @named x n c i ts st sts p1 p2 hs2 l2 nm ni nk sui r ih =>
        rintro ⟨b, hb1, yes, no⟩
        refine wpAny_handleBy_cons (codeAny_handlers_test ?_) (by intro q; cases q)
        refine tst nm ((PySem.W.exm_one (M := model X.prog X.w) Jp.kIn LTp hb1).here ?_)
        cases b with
        | false => exact ih (no rfl)
        | true =>
          refine codeAny_handlers_suite_as (HandSPX.lands_againZ flp fun hq flq upq => ?_)
          have Jq : Inv X pins τ' G' { t' with heap := hq } := J.landed nb flq.1 ((up.trans upp).trans upq) os ag
          obtain ⟨obq, vsq, heq, hzq, hdq⟩ := flq.there
          refine store_ok (X := X.suite a ((a, obq) :: (X.pn ++ pins))) (v := .ref a) (Jq.suite heq hdq na nL nF) nod ni (.inl nk) rfl (fun s5 S5 => ?_) (.inr nk)
          refine wpAny_mono ((sui a obq cls d (X.pn ++ pins) hzq ⟨_, hdq⟩).run [] s5 _ G' _ S5 (yes rfl a na)) (fun f s6 hsp => ?_) (fun _ _ z => False.elim z)
          have fin : ∀ {τ6 : St} {G6 : Hp} {Q : Shared → Prop}, Inv (X.suite a ((a, obq) :: (X.pn ++ pins))) [] τ6 G6 s6 → (∀ s7, Inv X pins (τ6.set i none) G6 s7 → Q s7) → wpAny (model X.prog X.w) X.A (do bindName X.env n .none; unbindBehindTheSuite X.env n p2) (fun _ s7 => Q s7) X.xe s6 :=
            fun {τ6 G6 Q} S6 hq => gone_ok (S6.unsuite okX) nod ni nk hq
          cases f with
          | next => exact let ⟨_, _, S6, q6⟩ := hsp; fin S6 fun _ J7 => ⟨_, _, J7, q6⟩
          | brk => exact let ⟨_, _, S6, q6⟩ := hsp; fin S6 fun _ J7 => ⟨_, _, J7, q6⟩
          | cont => exact let ⟨_, _, S6, q6⟩ := hsp; fin S6 fun _ J7 => ⟨_, _, J7, q6⟩
          | ret u => exact let ⟨_, _, _, S6, r6, q6⟩ := hsp; fin S6 fun _ J7 => ⟨_, _, _, J7, r6, q6⟩
    exact go clo w
  · cases fl with
    | next => exact let ⟨_, _, J0, q⟩ := hsp; wpAny_execs_nil ⟨_, _, J0.ofTry okX, q⟩
    | brk => exact let ⟨_, _, J0, q⟩ := hsp; ⟨_, _, J0.ofTry okX, q⟩
    | cont => exact let ⟨_, _, J0, q⟩ := hsp; ⟨_, _, J0.ofTry okX, q⟩
    | ret u => exact let ⟨_, _, _, J0, r, q⟩ := hsp; ⟨_, _, _, J0.ofTry okX, r, q⟩
end
end L2.Px

/-! What is general of the texts over gluings: ints, tuples of ints, small data, defs. -/
namespace L2.Px
open PySem PySem.Spec PyProof.Rows

/-- an int as a value; a tuple of ints -/
abbrev iV (ns : List Int) : List V := ns.map V.int

abbrev iD (ns : List Int) : List PyData := ns.map PyData.int

theorem dp_ints {K : PySem.W.Frag} {H : Hp} : ∀ ns : List Int, DpAll K H (iV ns) (iD ns)
  | [] => .nil
  | n :: r => .cons (.int n) (dp_ints r)

theorem lay_ints : ∀ ns : List Int, PyData.canLayAll0 (iD ns) = true
  | [] => rfl
  | n :: r => by
    show (PyData.canLay0 (.int n) && PyData.canLayAll0 (iD r)) = true
    rw [lay_ints r]
    rfl

theorem dep_ints : ∀ ns : List Int, PyData.depthAll (iD ns) = 0
  | [] => rfl
  | n :: r => by
    show max (PyData.depth (.int n)) (PyData.depthAll (iD r)) = 0
    rw [dep_ints r]
    rfl

theorem shaped_li (ns : List Int) : SeqAt.shaped (.list (iD ns)) = true := by
  show (PyData.canLayAll0 (iD ns) && decide (PyData.depthAll (iD ns) + 1 ≤ 64)) = true
  rw [lay_ints, dep_ints]
  rfl

theorem shaped_ti (ns : List Int) : SeqAt.shaped (.tuple (iD ns)) = true := by
  show (PyData.canLayAll0 (iD ns) && decide (PyData.depthAll (iD ns) + 1 ≤ 64)) = true
  rw [lay_ints, dep_ints]
  rfl

theorem _root_.L2.Same.upd {H : Hp} {p : Addr} {o : HO} (h : H p = none) : Same H (upd H p o) := fun b x e => (upd_ne (ne_of_none e h)).trans e

theorem _root_.L2.Same.tup {K : PySem.W.Frag} {H H' : Hp} {a : Addr} {xs : List V} (e : Same H H') (h : SqT K H a xs) : SqT K H' a xs := by
  rcases h with (h | ⟨o, h⟩) | h
  · exact .inl (.inl (e _ _ h))
  · exact .inl (.inr ⟨o, e _ _ h⟩)
  · exact .inr h

theorem getD_at {l : List Int} {n : Int} (h0 : 0 ≤ n) (h1 : n < (l.length : Int)) : atI (iV l) n = some (V.int (l.getD n.toNat 0)) := by
  obtain ⟨k, rfl⟩ : ∃ k : Nat, n = (k : Int) := ⟨n.toNat, by omega⟩
  refine atI_nat ?_
  have hk : k < l.length := by omega
  rw [List.getElem?_map, List.getElem?_eq_getElem hk, Int.toNat_natCast, List.getD_eq_getElem?_getD, List.getElem?_eq_getElem hk]
  rfl

theorem iV_get {l : List Int} {i : Nat} {x : V} (h : (iV l)[i]? = some x) : ∃ n, l[i]? = some n ∧ x = .int n := by
  rw [List.getElem?_map] at h
  cases e : l[i]? with
  | none => rw [e] at h; cases h
  | some n => rw [e] at h; exact ⟨n, rfl, (Option.some.inj h).symm⟩

theorem iV_app (a b : List Int) : iV (a ++ b) = iV a ++ iV b := List.map_append

theorem iV_set (a : List Int) (k : Nat) (n : Int) : iV (a.set k n) = (iV a).set k (.int n) := List.map_set

theorem take_snoc {α : Type} {l : List α} {i : Nat} {x : α} (h : l[i]? = some x) : l.take (i + 1) = l.take i ++ [x] := by
  rw [List.take_add_one, h]
  rfl

theorem ixN_nat {l k : Nat} (h : k < l) : ixN l (k : Int) = some k := by
  have h2 : atI (List.range l) (k : Int) = some k := atI_nat (by rw [List.getElem?_range h])
  unfold atI at h2
  cases e : ixN l (k : Int) with
  | none => rw [List.length_range, e] at h2; cases h2
  | some j =>
    rw [List.length_range, e] at h2
    have h3 : (List.range l)[j]? = some k := h2
    rw [List.getElem?_range] at h3
    · exact h3
    · exact Nat.lt_of_lt_of_eq (List.getElem?_eq_some_iff.mp h3).1 List.length_range

/-- a def of the text, where it stands -/
structure At (K : PySem.W.Frag) (mg : Str → Option Value) (x : Str) (st : Stmt) (ps : List Str) (f : Addr) (fd : FuncData) : Prop where
  F : Fun K x x st f fd
  g : mg x = some (.ref f)
  b : Binds K fd ps []

theorem paired_snoc {α β : Type} {R : α → β → Prop} {x : α} {y : β} (r : R x y) : ∀ {xs : List α} {ys : List β}, Paired R xs ys → Paired R (xs ++ [x]) (ys ++ [y])
  | _, _, .nil => .cons r .nil
  | _, _, .cons q t => .cons q (paired_snoc r t)

theorem paired_get {α β : Type} {R : α → β → Prop} : ∀ {xs : List α} {ys : List β} {i : Nat} {x : α}, Paired R xs ys → xs[i]? = some x → ∃ y, ys[i]? = some y ∧ R x y
  | _, _, _, _, .nil, e => by simp at e
  | _, _, 0, _, .cons r _, e => by simp at e; subst e; exact ⟨_, rfl, r⟩
  | _, _, i + 1, x, .cons _ t, e => by
    obtain ⟨u, h1, h2⟩ := paired_get (i := i) (x := x) t (by simpa using e)
    exact ⟨u, by simpa using h1, h2⟩

theorem eqv_tup (a b : List Int) : PyData.eqv (.tuple (iD a)) (.tuple (iD b)) = decide (a = b) := PySem.W.ked_eqvAll a b

theorem u65 {A : Around} {k : Nat} (hr : Room k A) : A.units + 65 < cLine := by have := hr.un; omega

theorem dp_ti {K : PySem.W.Frag} {H : Hp} {a : Addr} {ns : List Int} (h : SqT K H a (iV ns)) : Dp K H (.ref a) (.tuple (iD ns)) := .tup h (dp_ints ns)

/-- isinstance(e, c), e what the suite holds: its class and dict told apart -/
theorem call_isE2 {X : Cx} {a D : Addr} {oe : Obj} {cls : Value} {d : Option Addr} {pn : List (Addr × Obj)} (C : ExcC X.K D) (hz : Zc cls d oe) (hf : ∃ vs, oe.data = .fields vs) :
    CallR (X.suite a ((a, oe) :: pn)) (.builtin "isinstance") (fun xs H Q => cls = .ref D ∧ d = none ∧ rIsE X.K D a xs H Q) := by
  intro pins s σ H xs us Q I r h
  obtain ⟨e1, e2, q⟩ := h
  subst e1 e2
  exact call_isE C hz hf pins s σ H xs us Q I r q

mutual
def sm : PyData → Bool
  | .none => true
  | .bool _ => true
  | .int i => decide (i.natAbs < 1000000000)
  | .str x => x.cps.toList.all fun c => decide (c < 16 ^ 8)
  | .list xs => smAll xs
  | .tuple xs => smAll xs
  | .dict _ => false
def smAll : List PyData → Bool
  | [] => true
  | x :: r => sm x && smAll r
end

theorem int_short {i : Int} (h : i.natAbs < 1000000000) : (PyData.shown (.int i)).length ≤ 20 := by
  show (Str.ofString (toString i)).length ≤ 20
  rw [PySem.ofString_length]
  have := int_text_length_le10 (a := i) (k := 9) (by decide) h
  omega

mutual
theorem sm_ok : ∀ d : PyData, sm d = true → d.showable = true ∧ d.hasDict = false ∧ d.leavesShort 20 = true
  | .none, _ => ⟨rfl, rfl, rfl⟩
  | .bool _, _ => ⟨rfl, rfl, rfl⟩
  | .int i, h => by
    have h : i.natAbs < 1000000000 := of_decide_eq_true h
    refine ⟨decide_eq_true ?_, rfl, decide_eq_true (int_short h)⟩
    by_cases z : i.natAbs = 0
    · rw [z]
      decide
    · exact Nat.lt_of_lt_of_le ((Nat.log2_lt z).mpr (Nat.lt_of_lt_of_le h (by decide : 1000000000 ≤ 2 ^ 30))) (by decide)
  | .str x, h => ⟨rfl, rfl, h⟩
  | .list xs, h => smAll_ok xs h
  | .tuple xs, h => smAll_ok xs h
  | .dict _, h => by cases h
theorem smAll_ok : ∀ xs : List PyData, smAll xs = true → PyData.showableAll xs = true ∧ PyData.hasDictAll xs = false ∧ PyData.leavesShortAll 20 xs = true
  | [], _ => ⟨rfl, rfl, rfl⟩
  | x :: r, h => by
    have h : (sm x && smAll r) = true := h
    rw [Bool.and_eq_true] at h
    obtain ⟨a1, a2, a3⟩ := sm_ok x h.1
    obtain ⟨b1, b2, b3⟩ := smAll_ok r h.2
    refine ⟨?_, ?_, ?_⟩
    · show (PyData.showable x && PyData.showableAll r) = true
      rw [a1, b1]
      rfl
    · show (PyData.hasDict x || PyData.hasDictAll r) = false
      rw [a2, b2]
      rfl
    · show (PyData.leavesShort 20 x && PyData.leavesShortAll 20 r) = true
      rw [a3, b3]
      rfl
end

/-- repr(x) of small data -/
def rReprS (K : PySem.W.Frag) : List V → Hp → VK → Prop := fun vs H Q => ∃ (x : V) (d : PyData), vs = [x] ∧ Dp K H x d ∧ sm d = true ∧ d.depth ≤ 60 ∧ d.weight ≤ 700000 ∧ Q (.str d.shown) H

section
variable {X : Cx}
theorem cr_reprS (hg : X.A.guards = some []) (hu : X.A.units + 64 < cLine) : CallR X (.builtin "repr") (rReprS X.K) := by
  intro pins s σ H vs us Q I r h
  obtain ⟨x, d, e, hd, hs, hp, hw, q⟩ := h
  obtain ⟨s1, s2, s3⟩ := sm_ok d hs
  refine cr_reprD hg hu pins s σ H vs us Q I r ⟨x, d, e, hd, s1, s2, hp, ?_, q⟩
  have := PyData.shown_le 20 (by decide) d s3
  have z : sizeLine = 16777216 := sizeLine_eq
  omega
end

theorem sm_ints : ∀ ns : List Int, (∀ n ∈ ns, n.natAbs < 1000000000) → smAll (iD ns) = true
  | [], _ => rfl
  | n :: r, h => by
    show (decide (n.natAbs < 1000000000) && smAll (iD r)) = true
    rw [decide_eq_true (h n (by simp)), sm_ints r fun m hm => h m (by simp [hm])]
    rfl

theorem wt_int {n : Int} (h : n.natAbs < 1000000000) : PyData.weight (.int n) ≤ 30 := by
  show (if n == 0 then 0 else n.natAbs.log2 + 1) ≤ 30
  split
  · exact Nat.zero_le _
  · rename_i z
    have z : n.natAbs ≠ 0 := fun e => z (by have := Int.natAbs_eq_zero.mp e; simp [this])
    exact (Nat.log2_lt z).mpr (Nat.lt_of_lt_of_le h (by decide : 1000000000 ≤ 2 ^ 30))

theorem wt_ints : ∀ ns : List Int, (∀ n ∈ ns, n.natAbs < 1000000000) → PyData.weightAll (iD ns) ≤ 31 * ns.length
  | [], _ => Nat.le_refl _
  | n :: r, h => by
    have h1 := wt_ints r fun m hm => h m (by simp [hm])
    have h2 := wt_int (h n (by simp))
    show PyData.weight (.int n) + 1 + PyData.weightAll (iD r) ≤ _
    simp only [List.length_cons]
    omega

theorem sl_any {K : PySem.W.Frag} {H : Hp} {a : Addr} {xs : List V} {lo hi : Option Int} {Q : VK} (h : SqT K H a xs) (k : ∀ H' p, Same H H' → SqT K H' p (cutV xs lo hi) → Q (.ref p) H') : rSlA K (.ref a) lo hi H Q := by
  refine ⟨a, xs, rfl, h, fun c => k H a (Same.refl H) ?_, fun _ p hp => k _ p (Same.upd hp) (.of upd_same)⟩
  unfold cutV
  rw [c.1, c.2, List.drop_zero, Nat.sub_zero, List.take_length]
  exact h

theorem cat_any {K : PySem.W.Frag} {H : Hp} {a b : Addr} {xs ys : List V} {Q : VK} (h1 : SqT K H a xs) (h2 : SqT K H b ys) (hz : xs.length + ys.length ≤ sizeLine) (k : ∀ H' p, Same H H' → SqT K H' p (xs ++ ys) → Q (.ref p) H') : rCatA K (.ref a) (.ref b) H Q := by
  refine ⟨a, b, xs, ys, rfl, rfl, h1, h2, hz, fun e => k H b (Same.refl H) ?_, fun _ e => k H a (Same.refl H) ?_, fun _ _ p hp => k _ p (Same.upd hp) (.of upd_same)⟩
  · rw [e, List.nil_append]
    exact h2
  · rw [e, List.append_nil]
    exact h1

/-- t + u, in one: some tuple of both, all else as it was -/
def rCatS (K : PySem.W.Frag) : R2 := fun x y H Q => ∃ a b xs ys, x = .ref a ∧ y = .ref b ∧ SqT K H a xs ∧ SqT K H b ys ∧ xs.length + ys.length ≤ sizeLine ∧ ∀ H' p, Same H H' → SqT K H' p (xs ++ ys) → Q (.ref p) H'

section
variable {X : Cx}
theorem op_catS : OpR X (binaryOp .Add) (rCatS X.K) := by
  intro pins s σ H x y v u Q I rx ry h
  obtain ⟨a, b, xs, ys, rfl, rfl, h1, h2, hz, k⟩ := h
  exact op_catA pins s σ H _ _ v u Q I rx ry (cat_any h1 h2 hz k)
end

/-- t[lo:hi], in one -/
def rSlS (K : PySem.W.Frag) : V → Option Int → Option Int → Hp → VK → Prop := fun x lo hi H Q => ∃ a xs, x = .ref a ∧ SqT K H a xs ∧ ∀ H' p, Same H H' → SqT K H' p (cutV xs lo hi) → Q (.ref p) H'

section
variable {X : Cx}
theorem sl_tupS : SlR X (rSlS X.K) := by
  intro pins s σ H x v vl vu lo hi sl Q I rx hs pl pu h
  obtain ⟨a, xs, rfl, h1, k⟩ := h
  exact sl_tupA pins s σ H _ v vl vu lo hi sl Q I rx hs pl pu (sl_any h1 k)
end

structure Sml (d : PyData) : Prop where
  a : sm d = true
  b : d.depth ≤ 60
  c : d.weight ≤ 700000

mutual
theorem dp_same {K : PySem.W.Frag} {H H' : Hp} (h : Same H H') : ∀ {d : PyData} {v : V}, Dp K H v d → Dp K H' v d
  | .none, _, .non => .non
  | .bool _, _, .bl b => .bl b
  | .int _, _, .int i => .int i
  | .str _, _, .str x => .str x
  | .list _, _, .lst a b => .lst (h.seq a) (dpAll_same h b)
  | .tuple _, _, .tup a b => .tup (h.tup a) (dpAll_same h b)
theorem dpAll_same {K : PySem.W.Frag} {H H' : Hp} (h : Same H H') : ∀ {ds : List PyData} {vs : List V}, DpAll K H vs ds → DpAll K H' vs ds
  | [], _, .nil => .nil
  | _ :: _, _, .cons a b => .cons (dp_same h a) (dpAll_same h b)
end

/-- one more in a list that is one's own -/
theorem own_push {H H' : Hp} {D : Addr} {o : HO} (sm : Same H H') (h : H D = none) : Same H (upd H' D o) := fun c u e => (upd_ne (ne_of_none e h)).trans (sm c u e)

theorem mul_r {i j : Int} (h1 : -(2 ^ 64) < j) (h2 : j < 2 ^ 64) : CMul i j := .inr ⟨h1, h2⟩

theorem sq_over {K : PySem.W.Frag} {H : Hp} {D t : Addr} {l xs : List V} {o : HO} (hd : H D = some (.lst l)) (h : SqT K H t xs) : SqT K (upd H D o) t xs := by
  rcases h with (h | ⟨ob, h⟩) | h
  · exact .inl (.inl ((upd_ne fun z => by rw [z, hd] at h; cases h).trans h))
  · exact .inl (.inr ⟨ob, (upd_ne fun z => by rw [z, hd] at h; cases h).trans h⟩)
  · exact .inr h

/-- an own exception class of the text -/
structure ExN (K : PySem.W.Frag) (mg : Str → Option Value) (x : Str) (C : Addr) : Prop where
  g : mg x = some (.ref C)
  k : PySem.W.keepIn K (.ref C) = true
  x : PySem.W.excIn K C [.type "ValueError", .type "Exception", .type "BaseException", .type "object"] "ValueError.__new__" = true
  b : PySem.W.subIn K (.ref C) (.type "BaseException") = some true
  t : PySem.W.typeIn K (.ref C) = some (.type "type")

/-- tuple(l), l a list: the new tuple's object has no dict -/
theorem call_tuple_ofF {X : Cx} : CallR X (.type "tuple") (fun xs H Q => ∃ p ys, xs = [.ref p] ∧ SqL X.K H p ys ∧ ∀ l o, H l = none → o.dict = none → Q (.ref l) (upd H l (.frz o (.tup ys)))) := by
  intro pins s σ H xs us Q I r h
  obtain ⟨p, ys, rfl, hq, q⟩ := h
  rw [Vals.ref1 r]
  obtain ⟨its, rv, pl, hz⟩ := I.list hq
  refine call_tuple_list pl.isList (fun h1 kp => ?_) (by rw [List.size_toArray, ← rv.length]; exact hz)
  have I1 : Inv X pins σ H { s with heap := h1 } := I.kept (t' := s.toks) kp
  have e1 : (h1.push { cls := .type "tuple", data := .seq its.toArray }).get? h1.objs.size = some { cls := .type "tuple", data := .seq its.toArray } := Heap.get?_push_size _ rfl
  exact ⟨.ref h1.objs.size, _, I1.laid (t' := s.toks) (fun _ _ e => Heap.get?_push_of_some _ e) (Nat.le_refl _) (show ObjOk X.prog X.w _ _ _ (.frz { cls := .type "tuple", data := .seq its.toArray } (.tup ys)) from ⟨e1, hz, its, rv, _, e1, rfl, _, rfl⟩), rfl, q _ _ (I1.hok.fresh (Nat.le_refl _)) rfl⟩

/-- o.name(e, ..), a method of a tuple whose object has no dict -/
def tBMT (r : V → List V → Hp → VK → Prop) (to : TE) (t : TA) : TE := fun σ H Q => to σ H fun x H1 => (∃ p o xs, x = .ref p ∧ H1 p = some (.frz o (.tup xs)) ∧ o.dict = none) ∧ t σ H1 fun ys H2 => r x ys H2 Q

theorem pe_bmT {X : Cx} {o e : Expr} {es : List Expr} {to : TE} {t : TA} {name : Str} {apos cpos : Pos} {id : String} {r : V → List V → Hp → VK → Prop} (slot : Slot "tuple" name id) (ty : typeOf (.builtin id) = pure (.type "method_descriptor")) (hm : MtR X id r) (ho : PE X o to) (ha : PA X (e :: es) t)
    (hb : attributeBase o name X.env (eval o X.env) = eval o X.env := by rfl)
    (hf : ((backTo cpos (starEach (e :: es) X.env)).all (fun x => !x.1) && (backToKw cpos (keywordEach [] X.env)).all (fun x => x.1.isSome) && decide ((e :: es).length + ([] : List Keyword).length + (if ([] : List Keyword).isEmpty then 0 else 1) < 30)) = true := by rfl)
    (hl : (apos.endLine == cpos.line) = true := by rfl) (hs : starEach (e :: es) X.env = (false, eval e X.env) :: starEach es X.env := by rfl) (hp : (backTo cpos (starEach es X.env)).any (·.1) = false := by rfl) :
    PE X (.Call (.Attribute o name apos) (e :: es) [] cpos) (tBMT r to t) := by
  refine ⟨fun pins s σ H Q I h => wpAny_Call_method_late hb hf hl rfl (thn (ho.run pins s σ H _ I h) fun v s1 ⟨x, H1, I1, r1, ⟨p, ob, xs, ex, ep, ed⟩, q⟩ => ?_)⟩
  subst ex
  cases r1
  obtain ⟨e1, _, its, _, o2, e2, c2, _⟩ := I1.hok p _ ep
  have arg := ha.run cpos pins s1 σ H1 _ I1 q
  rw [hs] at arg ⊢
  refine ⟨"tuple", id, PySem.F.plainAttrs_tuple, slot, ty, ⟨o2, e2, c2⟩, fun a z => ?_, Calls.callWith_builtin ?_ (Calls.evalArgs_plain (thn arg fun us s2 ⟨ys, H2, I2, r2, q2⟩ => hm pins s2 σ H2 (.ref p) ys _ us Q I2 rfl r2 q2))⟩
  · cases z
    exact ⟨ob, e1, ed⟩
  · show (false || (backTo cpos (starEach es X.env)).any (·.1)) = false
    rw [hp]
    rfl

theorem cut_to (l : List Int) (k : Nat) (h : k ≤ l.length) : cutV (iV l) none (some (k : Int)) = iV (l.take k) := by
  unfold cutV
  rw [HT.sIx_none, HT.sIx_nat, List.drop_zero, List.length_map, Nat.min_eq_left h, Nat.sub_zero]
  exact List.map_take.symm

theorem cut_from (l : List Int) (k : Nat) (h : k ≤ l.length) : cutV (iV l) (some (k : Int)) none = iV (l.drop k) := by
  unfold cutV
  rw [HT.sIx_none, HT.sIx_nat, List.length_map, Nat.min_eq_left h]
  rw [List.take_of_length_le (by rw [List.length_drop, List.length_map]; omega)]
  exact List.map_drop.symm

theorem exm_of {K : PySem.W.Frag} {S T : Addr} {b : Bool} (h1 : PySem.W.subIn K (.ref T) (.type "BaseException") = some true) (h4 : PySem.W.kitCls K (.ref S) (.ref T) = some b) : PySem.W.exmOne K (.ref S) (.ref T) = some b := by
  have e1 : (PySem.W.subIn K (.ref T) (.type "BaseException") == some true) = true := by rw [h1] <;> rfl
  show (if (PySem.W.subIn K (.ref T) (.type "BaseException") == some true) = true then PySem.W.kitCls K (.ref S) (.ref T) else none) = some b
  rw [if_pos e1]
  exact h4

theorem ps_imq {X : Cx} {st : Stmt} {t u : TS} (h : PS X st t) (k : ∀ D σ H, u D σ H → t D σ H) : PS X st u := ⟨fun pins s σ H D I q => h.run pins s σ H D I (k D σ H q)⟩

theorem small1000x {n : Nat} (h : n ≤ 10000) : n < sizeLine := Nat.lt_of_le_of_lt h (by decide)

/-- l.index(n), a list of ints -/
theorem mt_lidxI {X : Cx} : MtR X "list.index" (fun x xs H Q => ∃ (p : Addr) (ys : List Int) (n : Int), x = .ref p ∧ xs = [.int n] ∧ SqL X.K H p (iV ys) ∧ n ∈ ys ∧ Q (.int (ys.idxOf n : Nat)) H) := by
  intro pins s σ H x xs v us Q I rx rs h
  obtain ⟨p, ys, n, rfl, rfl, hq, hn, q⟩ := h
  have lt := List.idxOf_lt_length_of_mem hn
  refine mt_index pins s σ H _ _ v us Q I rx rs ⟨p, iV ys, .int n, ys.idxOf n, .int n, rfl, rfl, hq, rfl, ?_, ?_, ?_, fun m z' hm e => ?_, q⟩
  · refine List.all_eq_true.mpr fun v hv => ?_
    obtain ⟨k, _, rfl⟩ := List.mem_map.mp hv
    rfl
  · rw [List.getElem?_map, List.getElem?_eq_getElem lt, List.getElem_idxOf]
    rfl
  · exact beq_self_eq_true n
  · obtain ⟨k, hk, rfl⟩ := iV_get e
    show (k == n) = false
    have := List.not_of_lt_findIdx (p := (· == n)) (xs := ys) (i := m) hm
    obtain ⟨lm, ek⟩ := List.getElem?_eq_some_iff.mp hk
    rw [ek] at this
    simpa using this

abbrev cI (l : List Nat) : List Int := l.map fun x : Nat => (x : Int)

theorem rg_nat (m : Nat) : rgV 0 (m : Int) = iV (cI (List.range m)) := by
  unfold rgV
  have : ((m : Int) - 0).toNat = m := by omega
  rw [this]
  unfold iV cI
  rw [List.map_map]
  refine List.map_congr_left fun i _ => ?_
  show V.int (0 + (i : Int)) = V.int (i : Int)
  rw [Int.zero_add]

theorem pass0x {P : Program} {w : World} {X : Cx} : Passes (L2.CX P w) X E0 := fun _ _ _ _ _ _ _ h => by
  obtain ⟨_, _, _, _, _, _, _, _, _, _, _, _, hE⟩ := h
  exact hE.elim

end L2.Px

/-! What is new in a heap; comprehensions that make one item a turn. -/
namespace L2.Px
open PySem PySem.Spec PyProof.Rows
abbrev rLenSeq (K : PySem.W.Frag) : List V → Hp → VK → Prop := fun xs H Q => ∃ p ys, xs = [V.ref p] ∧ (SqL K H p ys ∨ SqT K H p ys) ∧ Q (.int ys.length) H
abbrev rListOf (K : PySem.W.Frag) : List V → Hp → VK → Prop := fun xs H Q => ∃ p ys, xs = [V.ref p] ∧ (SqL K H p ys ∨ SqT K H p ys) ∧ ∀ l, H l = none → Q (.ref l) (upd H l (.lst ys))
abbrev rTupOf (K : PySem.W.Frag) : List V → Hp → VK → Prop := fun xs H Q => ∃ p ys, xs = [V.ref p] ∧ ((SqL K H p ys ∧ ∀ l, H l = none → Q (.ref l) (upd H l (.tup ys))) ∨ (SqT K H p ys ∧ Q (.ref p) H))
abbrev rTupT (K : PySem.W.Frag) : List V → Hp → VK → Prop := fun xs H Q => ∃ a ys, xs = [V.ref a] ∧ SqT K H a ys ∧ Q (.ref a) H
abbrev rInt1 : List V → Hp → VK → Prop := fun xs H Q => (∃ i, xs = [V.int i] ∧ Q (.int i) H) ∨ ∃ k, xs = [V.bl k] ∧ Q (.int (if k then 1 else 0)) H
abbrev rAbs : List V → Hp → VK → Prop := fun xs H Q => ∃ i, xs = [V.int i] ∧ Q (.int (if i < 0 then -i else i)) H
/-- a body in two parts, the second one from its own state -/
theorem cut2 {X : Cx} {body : List Stmt} {D : Ends} {σ : St} {H : Hp} (tl : List Stmt) (P : St → Hp → Prop) (h2 : ∃ u, PSs X tl u ∧ ∀ σ' H', P σ' H' → u D σ' H')
    (h1 : ∀ u, PSs X tl u → (∀ σ' H', P σ' H' → u D σ' H') → ∃ t, PSs X body t ∧ t D σ H) : ∃ t, PSs X body t ∧ t D σ H :=
  let ⟨u, a, b⟩ := h2
  h1 u a b
/-- the heap without an address -/
def hid (D : Addr) (H : Hp) : Hp := fun b => if b = D then none else H b
/-- what is new in H' -/
def nw (H H' : Hp) : Hp := fun b => if H b = none then H' b else none
theorem hid_ne {D b : Addr} {H : Hp} (h : b ≠ D) : hid D H b = H b := if_neg h
theorem hid_some {D b : Addr} {H : Hp} {o : HO} (h : hid D H b = some o) : b ≠ D ∧ H b = some o := by
  unfold hid at h
  split at h
  · cases h
  · rename_i z
    exact ⟨z, h⟩
theorem hid_same {D : Addr} {H : Hp} : Same (hid D H) H := fun _ _ e => (hid_some e).2
theorem hid_self {D : Addr} {H : Hp} : hid D H D = none := if_pos rfl
theorem Same.hid {D : Addr} {H H' : Hp} (s : Same H H') : Same (hid D H) (hid D H') := fun b o e => by
  obtain ⟨n, e⟩ := hid_some e
  rw [hid_ne n]
  exact s b o e
theorem hid_upd {D : Addr} {H : Hp} {o : HO} : hid D (upd H D o) = hid D H := by
  funext b
  unfold hid
  split
  · rfl
  · rename_i z
    exact upd_ne z
theorem upd_hid {D p : Addr} {H : Hp} {o : HO} (n : p ≠ D) : hid D (upd H p o) = upd (hid D H) p o := by
  funext b
  by_cases e : b = p
  · subst e
    rw [hid_ne n, upd_same, upd_same]
  · rw [upd_ne e]
    unfold hid
    split
    · rfl
    · exact upd_ne e
theorem nw_some {H H' : Hp} {b : Addr} {o : HO} (h : nw H H' b = some o) : H b = none ∧ H' b = some o := by
  unfold nw at h
  split at h
  · rename_i z
    exact ⟨z, h⟩
  · cases h
theorem nw_of {H H' : Hp} {b : Addr} {o : HO} (h1 : H b = none) (h2 : H' b = some o) : nw H H' b = some o := by
  unfold nw
  rw [if_pos h1]
  exact h2
theorem nw_same {H H' : Hp} : Same (nw H H') H' := fun _ _ e => (nw_some e).2
theorem none_of_same {H H' : Hp} {b : Addr} (s : Same H H') (h : H' b = none) : H b = none := by
  cases e : H b with
  | none => rfl
  | some o => rw [s b o e] at h; cases h
/-- what is new later is new, and stays -/
theorem nw_mono {H0 H H' H'' : Hp} (s0 : Same H0 H) (s : Same H' H'') : Same (nw H H') (nw H0 H'') := fun b o e => by
  obtain ⟨e1, e2⟩ := nw_some e
  exact nw_of (none_of_same s0 e1) (s b o e2)
theorem nw_hid {H H' : Hp} {D : Addr} {o : HO} (h : H D = some o) : Same (nw H H') (hid D H') := fun b o e => by
  obtain ⟨e1, e2⟩ := nw_some e
  rw [hid_ne fun z => by rw [z, h] at e1; cases e1]
  exact e2
/-- a relation that lasts while objects stand -/
def Lasts {α : Type} (R : Hp → V → α → Prop) : Prop := ∀ H H' v a, Same H H' → R H v a → R H' v a
def RInt : Hp → V → Int → Prop := fun _ v a => v = .int a
theorem lasts_int : Lasts RInt := fun _ _ _ _ _ h => h
def RBl : Hp → V → Bool → Prop := fun _ v a => v = .bl a
theorem lasts_bl : Lasts RBl := fun _ _ _ _ _ h => h
theorem paired_mono {α β : Type} {R S : α → β → Prop} (k : ∀ x y, R x y → S x y) : ∀ {xs : List α} {ys : List β}, Paired R xs ys → Paired S xs ys
  | _, _, .nil => .nil
  | _, _, .cons h r => .cons (k _ _ h) (paired_mono k r)
theorem paired_at {α β : Type} {R : α → β → Prop} : ∀ {xs : List α} {ys : List β} {i : Nat} {y : β}, Paired R xs ys → ys[i]? = some y → ∃ x, xs[i]? = some x ∧ R x y
  | _, _, 0, _, .cons h r, e => by cases e; exact ⟨_, rfl, h⟩
  | _, _, i + 1, _, .cons h r, e => paired_at r (i := i) e
theorem paired_int {xs : List V} {ns : List Int} : ∀ {H : Hp}, Paired (RInt H) xs ns → xs = iV ns := fun {H} h => by
  induction h with
  | nil => rfl
  | cons h r ih => rw [h, ih]; rfl
theorem paired_bl {xs : List V} {ns : List Bool} : ∀ {H : Hp}, Paired (RBl H) xs ns → xs = ns.map V.bl := fun {H} h => by
  induction h with
  | nil => rfl
  | cons h r ih => rw [h, ih]; rfl
section
variable {J : It} {n : Nat} {G : Hp → Prop} {Y : Nat → Hp → V → Hp → Prop} {α : Type}
/-- a comprehension that makes at most one item a turn, and changes nothing else -/
theorem lc_filt (w : Walk J n G Y) (R : Hp → V → α → Prop) (last : Lasts R) (f : Nat → Option α) {g : TG} {tt : TT} {te : TE} {vs : List Nat} {σ : St} {H1 : Hp} {D : Addr} {Qd : Hp → Prop} (hD : H1 D = none) (hn : n ≤ 10000)
    (hG : ∀ H, Same H1 H → G H)
    (hs : ∀ i x H H', i < n → Same H1 H → Y i H x H' → ∀ Nx : Hp → Prop,
      (∀ H4 y a, f i = some a → Same H H4 → R (nw H H4) y a → ∃ acc, H4 D = some (.lst acc) ∧ acc.length < sizeLine ∧ Nx (upd H4 D (.lst (acc ++ [y])))) → (∀ H4, f i = none → Same H H4 → Nx H4) →
      g x (wipe σ vs) H' fun σ2 H2 => wipe σ2 vs = wipe σ vs ∧ tt σ2 H2 fun b H3 => if b = true then te σ2 H3 fun y H4 => ∃ acc, H4 D = some (.lst acc) ∧ acc.length < sizeLine ∧ Nx (upd H4 D (.lst (acc ++ [y]))) else Nx H3)
    (hd : ∀ H ws, Same H1 H → H D = some (.lst ws) → Paired (R (hid D (nw H1 H))) ws ((List.range n).filterMap f) → Qd H) :
    ∃ W : Nat → Nat → Hp → Prop, (∃ m, W 0 m (upd H1 D (.lst []))) ∧ ∀ i m H, W i m H →
      (J.stop i H ∧ Qd H) ∨ (J.go i H ∧ ∃ Nx : Hp → Prop, (∀ H', Nx H' → ∃ m', m' < m ∧ W (i + 1) m' H') ∧ ∀ x H', J.yld i H x H' → g x (wipe σ vs) H' fun σ2 H2 => wipe σ2 vs = wipe σ vs ∧ tt σ2 H2 fun b H3 =>
        if b = true then te σ2 H3 fun y H4 => ∃ acc, H4 D = some (.lst acc) ∧ acc.length < sizeLine ∧ Nx (upd H4 D (.lst (acc ++ [y]))) else Nx H3) := by
  refine lc_it w (fun i H => Same H1 H ∧ ∃ ws, H D = some (.lst ws) ∧ ws.length ≤ i ∧ Paired (R (hid D (nw H1 H))) ws ((List.range i).filterMap f)) ⟨Same.upd hD, [], upd_same, Nat.le_refl _, .nil⟩ (fun i H _ h => hG H h.1) ?_ (fun H ⟨sm, ws, hd', _, p⟩ => hd H ws sm hd' p)
  rintro i x H H' hi ⟨sm, ws, hD', lw, p⟩ y
  have size : ws.length < sizeLine := small1000x (by omega)
  have rng : (List.range (i + 1)).filterMap f = (List.range i).filterMap f ++ (f i).toList := by
    rw [List.range_succ, List.filterMap_append]
    congr 1
  have carry : ∀ H4, Same H H4 → ∀ v a, R (hid D (nw H1 H)) v a → R (hid D (nw H1 H4)) v a := fun H4 s v a h => last _ _ v a (Same.hid (nw_mono (Same.refl _) s)) h
  refine hs i x H H' hi sm y _ (fun H4 z a e s r => ⟨ws, s _ _ hD', size, own_push (sm.trans s) hD, ws ++ [z], upd_same, by rw [List.length_append]; simp only [List.length_cons, List.length_nil]; omega, ?_⟩) (fun H4 e s => ⟨sm.trans s, ws, s _ _ hD', by omega, ?_⟩)
  · have eq : hid D (nw H1 (upd H4 D (.lst (ws ++ [z])))) = hid D (nw H1 H4) := by
      funext b
      unfold hid nw
      split
      · rfl
      · rename_i nb
        rw [upd_ne nb]
    rw [eq, rng, e]
    refine paired_snoc (R := R (hid D (nw H1 H4))) (last _ _ _ _ ?_ r) (paired_mono (carry H4 s) p)
    intro b o hb
    obtain ⟨e1, e2⟩ := nw_some hb
    rw [hid_ne fun q => by rw [q, hD'] at e1; cases e1]
    exact nw_of (none_of_same sm e1) e2
  · rw [rng, e]
    show Paired _ _ (_ ++ [])
    rw [List.append_nil]
    exact paired_mono (carry H4 s) p
/-- a comprehension that makes one item a turn, and changes nothing else -/
theorem lc_map (w : Walk J n G Y) (R : Hp → V → α → Prop) (last : Lasts R) (f : Nat → α) {g : TG} {tt : TT} {te : TE} {vs : List Nat} {σ : St} {H1 : Hp} {D : Addr} {Qd : Hp → Prop} (hD : H1 D = none) (hn : n ≤ 10000)
    (hG : ∀ H, Same H1 H → G H)
    (hs : ∀ i x H H', i < n → Same H1 H → Y i H x H' → ∀ Nx : Hp → Prop,
      (∀ H4 y, Same H H4 → R (nw H H4) y (f i) → ∃ acc, H4 D = some (.lst acc) ∧ acc.length < sizeLine ∧ Nx (upd H4 D (.lst (acc ++ [y])))) →
      g x (wipe σ vs) H' fun σ2 H2 => wipe σ2 vs = wipe σ vs ∧ tt σ2 H2 fun b H3 => if b = true then te σ2 H3 fun y H4 => ∃ acc, H4 D = some (.lst acc) ∧ acc.length < sizeLine ∧ Nx (upd H4 D (.lst (acc ++ [y]))) else Nx H3)
    (hd : ∀ H ws, Same H1 H → H D = some (.lst ws) → Paired (R (hid D (nw H1 H))) ws ((List.range n).map f) → Qd H) :
    ∃ W : Nat → Nat → Hp → Prop, (∃ m, W 0 m (upd H1 D (.lst []))) ∧ ∀ i m H, W i m H →
      (J.stop i H ∧ Qd H) ∨ (J.go i H ∧ ∃ Nx : Hp → Prop, (∀ H', Nx H' → ∃ m', m' < m ∧ W (i + 1) m' H') ∧ ∀ x H', J.yld i H x H' → g x (wipe σ vs) H' fun σ2 H2 => wipe σ2 vs = wipe σ vs ∧ tt σ2 H2 fun b H3 =>
        if b = true then te σ2 H3 fun y H4 => ∃ acc, H4 D = some (.lst acc) ∧ acc.length < sizeLine ∧ Nx (upd H4 D (.lst (acc ++ [y]))) else Nx H3) := by
  refine lc_filt w R last (fun i => some (f i)) hD hn hG (fun i x H H' hi sm y Nx k _ => hs i x H H' hi sm y Nx fun H4 z s r => k H4 z (f i) rfl s r) (fun H ws sm h p => hd H ws sm h ?_)
  rw [List.filterMap_eq_map'] at p
  exact p
end
end L2.Px

/-! t[::-1] and t.count(n) of tuples; xs[i] += n of lists. -/
namespace HT
open PySem PySem.Spec PyProof.Rows L2
section
variable {prog : Program} {w : World} {A : Around} {E : Value → Shared → Prop} {s : Shared}
theorem px_adjust (n : Nat) : Builtin.Slice.sliceAdjust none none (-1) (n : Int) = ((n : Int) - 1, -1) := rfl
theorem px_places (n : Nat) : Builtin.Slice.slicePlaces ((n : Int) - 1) (-1) (-1) = n := by
  unfold Builtin.Slice.slicePlaces
  have h1 : ¬ ((-1 : Int) > 0) := by omega
  simp only [h1, if_false, Int.neg_neg, Int.ediv_one]
  split <;> omega
theorem px_applied {sl : Addr} {vl vu vs : Value} {n : Nat} {Q : Int × Int × Nat → Shared → Prop} (hs : s.heap.IsSliceOf sl vl vu vs) (pl : IsPart vl none) (pu : IsPart vu none) (ps : IsPart vs (some (-1)))
    (h : Q ((n : Int) - 1, -1, n) s) : wpAny (model prog w) A (Builtin.Slice.sliceApplied (.ref sl) (pure (n : Int))) Q E s := by
  obtain ⟨os, hos, hcs, hds⟩ := id hs
  unfold Builtin.Slice.sliceApplied Builtin.Slice.sliceFields
  refine wpAny_bind (wpAny_bind (wpAny_field hos hds (x := vl) rfl (wpAny_bind (wpAny_field hos hds (x := vu) rfl (wpAny_bind (wpAny_field hos hds (x := vs) rfl (wpAny_pure ?_)))))))
  refine wpAny_bind (slicePart_ ps ?_)
  show wpAny _ _ (if ((-1 : Int) == 0) = true then _ else _) _ _ s
  rw [if_neg (by decide)]
  refine wpAny_bind (slicePart_ pl (wpAny_bind (slicePart_ pu (wpAny_bind (wpAny_pure ?_)))))
  show wpAny _ _ (match Builtin.Slice.sliceAdjust none none (-1) (n : Int) with | (lo, hi) => pure (lo, (-1 : Int), Builtin.Slice.slicePlaces lo hi (-1))) _ _ s
  rw [px_adjust n]
  show wpAny _ _ (pure ((n : Int) - 1, (-1 : Int), Builtin.Slice.slicePlaces ((n : Int) - 1) (-1) (-1))) _ _ s
  rw [px_places]
  exact wpAny_pure h
theorem px_congr {α β : Type} {f g : α → Option β} : ∀ l : List α, (∀ x ∈ l, f x = g x) → l.filterMap f = l.filterMap g
  | [], _ => rfl
  | x :: l, h => by
    rw [List.filterMap_cons, List.filterMap_cons, h x List.mem_cons_self, px_congr l fun y hy => h y (List.mem_cons_of_mem _ hy)]
theorem px_pick (xs : Array Value) : ((List.range xs.size).filterMap fun (m : Nat) => xs[(((xs.size : Nat) : Int) - 1 + (m : Int) * -1).toNat]?).toArray = xs.toList.reverse.toArray := by
  refine congrArg List.toArray (List.ext_getElem? fun i => ?_)
  have e : ((List.range xs.size).filterMap fun (m : Nat) => xs[(((xs.size : Nat) : Int) - 1 + (m : Int) * -1).toNat]?) = (List.range xs.size).map fun m => xs[xs.size - 1 - m]?.getD .none := by
    rw [← List.filterMap_eq_map']
    refine px_congr _ fun m hm => ?_
    have hm := List.mem_range.mp hm
    have : (((xs.size : Nat) : Int) - 1 + (m : Int) * -1).toNat = xs.size - 1 - m := by omega
    rw [this, Array.getElem?_eq_getElem (by omega)]
    rfl
  rw [e]
  by_cases hi : i < xs.size
  · rw [List.getElem?_map, List.getElem?_range hi, List.getElem?_reverse (by rw [Array.length_toList]; exact hi), Array.length_toList, Array.getElem?_toList, Array.getElem?_eq_getElem (by omega)]
    show some ((xs[xs.size - 1 - i]?).getD .none) = _
    rw [Array.getElem?_eq_getElem (by omega)]
    rfl
  · rw [List.getElem?_eq_none (by rw [List.length_map, List.length_range]; omega), List.getElem?_eq_none (by rw [List.length_reverse, Array.length_toList]; omega)]
theorem getItem_tuple_rev {t sl : Addr} {items : Array Value} {vl vu vs : Value} {Q : Value → Shared → Prop} (ht : IsTup s.heap t items) (hs : s.heap.IsSliceOf sl vl vu vs) (pl : IsPart vl none) (pu : IsPart vu none) (ps : IsPart vs (some (-1)))
    (h : Q (.ref s.heap.objs.size) { s with heap := s.heap.push { cls := .type "tuple", data := .seq items.toList.reverse.toArray } })
    (hsz : items.size ≤ sizeLine) : wpAny (model prog w) A (getItem (.ref t) (.ref sl)) Q E s := by
  have htake : sizeOk (.seq items.toList.reverse.toArray) := by
    show items.toList.reverse.toArray.size ≤ sizeLine
    rw [List.size_toArray, List.length_reverse, Array.length_toList]
    omega
  obtain ⟨os, hos, hcs, hds⟩ := id hs
  have hTs : s.TypeIs (.ref sl) "slice" := ⟨os, hos, hcs⟩
  unfold getItem
  try with_reducible refine wpAny_holding ?_
  first | refine wpAny_bind (wpAny_pure ?_) | skip
  refine wpAny_bind (wpAny_sequenceKey ht.typeIs (by decide) ?_)
  refine wpAny_bind (wpAny_callSpecial?_slot (name := Str.ofString "__getitem__") ht.typeIs PyProof.Rows.slot_tuple_getitem
    (wpAny_call_entry PyProof.Rows.slot_tuple_getitem ht.typeIs entry_tuple_getitem ?_ (args_tuple_getitem _ _)))
  show wpAny _ _ (Builtin.Tuple.tupleItemsOf (.ref t) >>= _) _ _ s
  refine wpAny_bind (tupleItemsOf_ ht ?_)
  refine wpAny_bind (wpAny_typeOf hTs ?_)
  rw [if_pos (by decide)]
  refine wpAny_bind (px_applied hs pl pu ps ?_)
  have hno : ¬ ((((items.size : Int) - 1) == 0 && (-1 : Int) == 1 && items.size == items.size) = true) := by
    intro q
    rw [Bool.and_eq_true, Bool.and_eq_true] at q
    exact absurd q.1.2 (by decide)
  show wpAny _ _ (if ((((items.size : Int) - 1) == 0 && (-1 : Int) == 1 && items.size == items.size) = true) then _ else _) _ _ s
  rw [if_neg hno, px_pick]
  first
    | exact wpAny_bind (m := Builtin.Tuple.tupleExact _) (wpAny_newObj_type (wpAny_pure ⟨_, rfl, wpAny_pure h⟩) htake)
    | exact wpAny_bind (m := Builtin.Tuple.tupleExact _) (wpAny_newObj_type (wpAny_bind (wpAny_pure (wpAny_pure ⟨_, rfl, wpAny_pure h⟩))) htake)
    | exact wpAny_bind (wpAny_bind (m := Builtin.Tuple.tupleExact _) (wpAny_newObj_type (wpAny_pure (wpAny_pure ⟨_, rfl, wpAny_pure h⟩)) htake))
    | exact wpAny_bind (wpAny_bind (m := Builtin.Tuple.tupleExact _) (wpAny_newObj_type (wpAny_pure ⟨_, rfl, wpAny_pure h⟩) htake))
end
end HT
namespace L2.Px
open PySem PySem.Spec PyProof.Rows
section
variable {X : Cx}
/-- t[::-1] of a tuple -/
def tRevT (K : PySem.W.Frag) (te : TE) : TE := fun σ H Q => te σ H fun x H1 => ∃ a xs, x = .ref a ∧ SqT K H1 a xs ∧ ∀ p, H1 p = none → Q (.ref p) (upd H1 p (.tup xs.reverse))
theorem pe_revT {e : Expr} {te : TE} {k : Nat} {p1 p2 p3 pos : Pos} (he : PE X e te) : PE X (.Subscript e (.Slice none none (some (.UnaryOp .USub (.Constant (.int 1) k p1) p2)) p3) pos) (tRevT X.K te) := by
  refine ⟨fun pins s σ H Q I h => ?_⟩
  refine Subscript_ (thn (he.run pins s σ H _ I h) fun v s1 ⟨x, H1, I1, r1, q1⟩ => ?_)
  obtain ⟨a, xs, ex, hx, q⟩ := q1
  subst ex
  cases r1
  have hst : PO X (some (.UnaryOp .USub (.Constant (.int 1) k p1) p2)) (tPart (tUn (rU fun i => .int (-i)) (L2.tC (.int 1)))) := po_some (pe_un un_neg pe_int)
  refine wpAny_Slice (thn (po_none.run pins s1 σ H1 (fun o H2 => o = none ∧ H2 = H1) I1 ⟨rfl, rfl⟩) fun vl s2 ⟨l, H2, I2, pl, el, e2⟩ => ?_)
  subst el e2
  refine thn (po_none.run pins s2 σ H2 (fun o H3 => o = none ∧ H3 = H2) I2 ⟨rfl, rfl⟩) fun vu s3 ⟨u, H3, I3, pu, eu, e3⟩ => ?_
  subst eu e3
  refine thn (hst.run pins s3 σ H3 (fun o H4 => o = some (-1) ∧ H4 = H3) I3 ⟨1, rfl, -1, rfl, rfl, rfl⟩) fun vs s4 ⟨o, H4, I4, ps, eo, e4⟩ => ?_
  subst eo e4
  have I5 : Inv X pins σ H4 { s4 with heap := s4.heap.push { cls := .type "slice", data := .fields #[vl, vu, vs] } } := I4.kept (t' := s4.toks) fun b ob q => Heap.get?_push_of_some _ q
  obtain ⟨its, r, ht, hz⟩ := I5.tuple hx
  have hlen := r.length
  show wpAny (model X.prog X.w) X.A (subscriptTail e (.Slice none none (some (.UnaryOp .USub (.Constant (.int 1) k p1) p2)) p3) (.ref a) (.ref s4.heap.objs.size)) (EP X pins σ Q) X.xe { s4 with heap := s4.heap.push { cls := .type "slice", data := .fields #[vl, vu, vs] } }
  refine tail_any (ops := [.ref a, .ref s4.heap.objs.size]) ht.typeIs (PyProof.Rows.slot_tuple_getitem.lookup) ?_ (by with_unfolding_all rfl)
  refine HT.getItem_tuple_rev ht (Heap.IsSliceOf.new _ vl vu vs) pl pu ps ?_ (by rw [List.size_toArray]; omega)
  refine ⟨.ref _, _, I5.laid (t' := s4.toks) (o := .tup xs.reverse) (fun b ob q => Heap.get?_push_of_some _ q) (Nat.le_refl _) ?_, rfl, q _ (I5.hok.fresh (Nat.le_refl _))⟩
  exact ⟨by rw [List.length_reverse]; exact hz, _, r.reverse, IsTup.new _ _⟩
/-- t.count(n), a tuple of ints -/
abbrev rTCountI (K : PySem.W.Frag) : V → List V → Hp → VK → Prop := fun x xs H Q => ∃ (p : Addr) (ys : List Int) (n : Int), x = .ref p ∧ xs = [.int n] ∧ SqT K H p (iV ys) ∧ Q (.int (ys.count n : Nat)) H
theorem mt_tcountI : MtR X "tuple.count" (rTCountI X.K) := by
  intro pins s σ H x xs v us Q I rx rs h
  obtain ⟨p, ys, n, rfl, rfl, hq, q⟩ := h
  cases rx
  cases rs with
  | cons rn rr =>
    cases rr
    obtain ⟨its, rv, ht, hz⟩ := I.tuple hq
    obtain ⟨⟨cls, dd, data, sl⟩, ho, hc, m, hd⟩ := id ht
    simp only at hc hd
    subst hc hd
    have ia : IntsAre its ys := intsAre_of rv
    obtain ⟨t, rfl⟩ := rn
    refine call_meets PySem.F.slot_tuple_count ⟨_, ho, rfl⟩ PySem.F.entry_tuple_count (PySem.F.args_tuple_count_2 _ _) (SeqAt.tuple_countAt p its.toArray m dd sl (.int n t) (isInt n)) ⟨ho, fun y hy => (eq_isInt n t ia y (by simpa using hy)).at _ _, ?_⟩
    rw [show its.toArray.toList = its from rfl, countP_isInt n ia]
    exact ⟨.int _, H, I.tok _, ⟨_, rfl⟩, q⟩
/-- xs[i] += n -/
def rGetL (K : PySem.W.Frag) : V → V → Hp → VK → Prop := fun x y H Q => ∃ p xs i v, x = .ref p ∧ y = .int i ∧ SqL K H p xs ∧ 0 ≤ i ∧ atI xs i = some v ∧ Q v H
theorem pg_list : PGet X (rGetL X.K) := by
  intro pins s σ H o i ov iv Q I ro ri h
  obtain ⟨p, xs, j, v, rfl, rfl, hq, h0, he, q⟩ := h
  cases ro
  obtain ⟨t, rfl⟩ := ri
  obtain ⟨its, r, pl, hz⟩ := I.list hq
  obtain ⟨m, h1, h2, h3, h4, h5⟩ := atI_get he
  obtain ⟨w, ew, rw'⟩ := r.get h2
  have hl := r.length
  have hn := line63
  have hj : j.toNat = m := by
    rw [seqIndex_of h0 h5] at h1
    exact Option.some.inj h1
  exact wpAny_getItem_list pl.isList h0 (by omega) (by rw [hj]; simpa using ew) ⟨v, H, I, rw', q⟩
theorem ps_augL {o i e : Expr} {to ti te : TE} {tip : TIp} {op : Operator} {pos tpos : Pos} (ho : PE X o to) (hi : PE X i ti) (he : PE X e te) (hp : PIp X op tip)
    (ha : ∀ ov iv new, augStore i ov iv new = (do holding [new, ov, iv] (setItem ov iv new); release [new, ov, iv] []; pure .next) := by intros; rfl) : PS X (.AugAssign (.Subscript o i tpos) op e pos) (tAugS to ti te (rGetL X.K) tip rSetL) :=
  ps_augS ho hi pg_list he hp set_list ha
end
end L2.Px

/-! A list of draws that is popped while all else stands. -/
namespace L2.Px
open PySem PySem.Spec PyProof.Rows
/-- the list of what is left to be drawn -/
def Drw (H : Hp) (dr : Addr) : Prop := ∃ ds : List Int, H dr = some (.lst (iV ds)) ∧ (∀ d ∈ ds, 0 ≤ d ∧ d < 1000) ∧ ds.length ≤ 5000
abbrev SameX (dr : Addr) (H H' : Hp) : Prop := Same (hid dr H) (hid dr H')
theorem emod_bd (r : Int) : 0 ≤ r % 1000 ∧ r % 1000 < 1000 := ⟨Int.emod_nonneg _ (by decide), Int.emod_lt_of_pos _ (by decide)⟩
theorem Drw.ne {H : Hp} {dr : Addr} (h : Drw H dr) : H dr ≠ none := fun z => by
  obtain ⟨ds, e, _⟩ := h
  rw [e] at z
  cases z
theorem Drw.ne_new {H : Hp} {dr p : Addr} (h : Drw H dr) (n : H p = none) : p ≠ dr := fun z => h.ne (z ▸ n)
theorem none_x {dr b : Addr} {H H' : Hp} (s : SameX dr H H') (h : Drw H' dr) (n : H' b = none) : H b = none := by
  have nb := h.ne_new n
  cases e : H b with
  | none => rfl
  | some o =>
    have := (hid_some (s b o (by rw [hid_ne nb]; exact e))).2
    rw [n] at this
    cases this
/-- what is new when the draws are left out -/
theorem nw_x {dr : Addr} {H H1 H2 : Hp} (d : Drw H dr) (s : SameX dr H1 H2) : Same (nw H H1) (nw H H2) := fun b o e => by
  obtain ⟨e1, e2⟩ := nw_some e
  have nb := d.ne_new e1
  exact nw_of e1 (hid_some (s b o (by rw [hid_ne nb]; exact e2))).2
theorem nw_x0 {dr : Addr} {H0 H H1 : Hp} (d : Drw H dr) (s : SameX dr H0 H) : Same (nw H H1) (nw H0 H1) := fun b o e => by
  obtain ⟨e1, e2⟩ := nw_some e
  exact nw_of (none_x s d e1) e2
theorem x_own {dr D : Addr} {H H' : Hp} {o : HO} (s : SameX dr H H') (n : H D = none) : SameX dr H (upd H' D o) := fun b u e => by
  obtain ⟨nb, e1⟩ := hid_some e
  rw [hid_ne nb, upd_ne (ne_of_none e1 n)]
  exact (hid_some (s b u e)).2
theorem Drw.hid {H H' : Hp} {dr : Addr} (h : Drw H dr) : Same (nw H H') (Px.hid dr H') := by
  obtain ⟨ds, e, _⟩ := h
  exact nw_hid e
theorem Drw.upd {H : Hp} {dr p : Addr} {o : HO} (h : Drw H dr) (n : H p = none) : Drw (upd H p o) dr := by
  have ne := h.ne_new n
  obtain ⟨ds, e, z⟩ := h
  exact ⟨ds, (upd_ne (Ne.symm ne)).trans e, z⟩
theorem Drw.to {H H' : Hp} {dr : Addr} (h : Drw H dr) (s : Same H H') : Drw H' dr := by
  obtain ⟨ds, e, z⟩ := h
  exact ⟨ds, s _ _ e, z⟩
theorem Same.x {H H' : Hp} {dr : Addr} (s : Same H H') : SameX dr H H' := Same.hid s
/-- a tuple is not the draws -/
theorem sqt_x {K : PySem.W.Frag} {dr a : Addr} {H H' : Hp} {xs : List V} (d : Drw H dr) (s : SameX dr H H') (h : SqT K H a xs) : SqT K H' a xs := by
  obtain ⟨ds, e, _⟩ := d
  rcases h with (h | ⟨o, h⟩) | h
  · exact .inl (.inl (hid_some (s a _ (by rw [hid_ne fun z => by rw [z, e] at h; cases h]; exact h))).2)
  · exact .inl (.inr ⟨o, (hid_some (s a _ (by rw [hid_ne fun z => by rw [z, e] at h; cases h]; exact h))).2⟩)
  · exact .inr h
/-- what stands elsewhere stays -/
theorem get_x {dr b : Addr} {H H' : Hp} {o : HO} (s : SameX dr H H') (n : b ≠ dr) (h : H b = some o) : H' b = some o := (hid_some (s b o (by rw [hid_ne n]; exact h))).2
end L2.Px

namespace L2.Px
open PySem PySem.Spec PyProof.Rows
def top (i : Nat) : Stmt := PySem.Challenge.pw_wedgespace_k55_words.main.body.getD i (.Pass ⟨0, 0, 0, 0⟩)
abbrev s_inverse_word : Stmt := top 5
abbrev s_cut_word : Stmt := top 6
abbrev s_check_word : Stmt := top 7
abbrev s_sums : Stmt := top 8
abbrev s_are_letters : Stmt := top 9
abbrev s__law_number : Stmt := top 11
abbrev s__law_draws : Stmt := top 12
abbrev s__law_next : Stmt := top 13
abbrev s__law_told : Stmt := top 14
abbrev s__law_cut : Stmt := top 15
abbrev s_law : Stmt := top 16
/-- the built-in names that the text leaves alone -/
structure Nm (mg : Str → Option Value) : Prop where
  n_tuple : mg "tuple" = none
  n_reversed : mg "reversed" = none
  n_range : mg "range" = none
  n_all : mg "all" = none
  n_abs : mg "abs" = none
  n_int : mg "int" = none
  n_len : mg "len" = none
  n_repr : mg "repr" = none
abbrev n_inverse_word : List Str := ["word", "letter"]
theorem sc_inverse_word : FnScope n_inverse_word ["word"] (defScope s_inverse_word) := ⟨rfl, rfl, rfl, by decide +kernel, rfl, by decide +kernel, by decide +kernel⟩
abbrev n_cut_word : List Str := ["word", "kept", "letter"]
theorem sc_cut_word : FnScope n_cut_word ["word"] (defScope s_cut_word) := ⟨rfl, rfl, rfl, by decide +kernel, rfl, by decide +kernel, by decide +kernel⟩
abbrev n_check_word : List Str := ["word"]
theorem sc_check_word : FnScope n_check_word ["word"] (defScope s_check_word) := ⟨rfl, rfl, rfl, by decide +kernel, rfl, by decide +kernel, by decide +kernel⟩
abbrev n_sums : List Str := ["count", "word", "total", "letter", "_"]
theorem sc_sums : FnScope n_sums ["count", "word"] (defScope s_sums) := ⟨rfl, rfl, rfl, by decide +kernel, rfl, by decide +kernel, by decide +kernel⟩
abbrev n_are_letters : List Str := ["count", "word", "letter"]
theorem sc_are_letters : FnScope n_are_letters ["count", "word"] (defScope s_are_letters) := ⟨rfl, rfl, rfl, by decide +kernel, rfl, by decide +kernel, by decide +kernel⟩
abbrev n__law_number : List Str := ["cell"]
theorem sc__law_number : FnScope n__law_number ["cell"] (defScope s__law_number) := ⟨rfl, rfl, rfl, by decide +kernel, rfl, by decide +kernel, by decide +kernel⟩
abbrev n__law_draws : List Str := ["script", "draws", "cell", "rest", "k", "once", "twice"]
theorem sc__law_draws : FnScope n__law_draws ["script"] (defScope s__law_draws) := ⟨rfl, rfl, rfl, by decide +kernel, rfl, by decide +kernel, by decide +kernel⟩
abbrev n__law_next : List Str := ["draws"]
theorem sc__law_next : FnScope n__law_next ["draws"] (defScope s__law_next) := ⟨rfl, rfl, rfl, by decide +kernel, rfl, by decide +kernel, by decide +kernel⟩
abbrev n__law_told : List Str := ["count", "word", "which"]
theorem sc__law_told : FnScope n__law_told ["count", "word", "which"] (defScope s__law_told) := ⟨rfl, rfl, rfl, by decide +kernel, rfl, by decide +kernel, by decide +kernel⟩
abbrev n__law_cut : List Str := ["word", "draws", "k", "at", "places"]
theorem sc__law_cut : FnScope n__law_cut ["word", "draws"] (defScope s__law_cut) := ⟨rfl, rfl, rfl, by decide +kernel, rfl, by decide +kernel, by decide +kernel⟩
abbrev n_law : List Str := ["script", "draws", "count", "letters", "k", "draw", "letter", "word", "back", "small", "due", "at", "bad", "which", "large"]
theorem sc_law : FnScope n_law ["script"] (defScope s_law) := ⟨rfl, rfl, rfl, by decide +kernel, rfl, by decide +kernel, by decide +kernel⟩
end L2.Px

namespace L2.Px
open PySem PySem.Spec PyProof.Rows
/-! ### words as data -/
abbrev Wd := List Int
/-- a letter on top of what is kept -/
def stepW (s : Wd) (x : Int) : Wd := if s ≠ [] ∧ s.getLast? = some (-x) then s.dropLast else s ++ [x]
def redW (w : Wd) : Wd := w.foldl stepW []
/-- no two neighbours cut each other -/
def Cut (w : Wd) : Prop := ∀ i (h : i + 1 < w.length), w[i] + w[i + 1] ≠ 0
def invW (w : Wd) : Wd := w.reverse.map fun x => -x
def sumL (n : Nat) (w : Wd) : List Int := (List.range n).map fun k : Nat => ((w.count ((k : Int) + 1) : Nat) : Int) - ((w.count (0 - (k : Int) - 1) : Nat) : Int)
def okW (c : Int) (w : Wd) : Bool := w.all fun x => decide (x ≠ 0) && decide ((if x < 0 then -x else x) ≤ c)
theorem last_get {s : Wd} {x : Int} (h : s.getLast? = some x) : ∃ t, s = t ++ [x] := by
  obtain ⟨t, e⟩ := List.getLast?_eq_some_iff.mp h
  exact ⟨t, e⟩
theorem step_push {s : Wd} {x : Int} (h : s.getLast? ≠ some (-x)) : stepW s x = s ++ [x] := if_neg fun z => h z.2
theorem step_pop {t : Wd} {x : Int} : stepW (t ++ [-x]) x = t := by
  unfold stepW
  rw [if_pos ⟨by simp, by simp⟩, List.dropLast_concat]
theorem cut_init {t : Wd} {x : Int} (h : Cut (t ++ [x])) : Cut t := fun i hi => by
  have hl : i + 1 < (t ++ [x]).length := by rw [List.length_append]; simp only [List.length_cons, List.length_nil]; omega
  have := h i hl
  rw [List.getElem_append_left (by omega), List.getElem_append_left (by omega)] at this
  exact this
theorem cut_last {t : Wd} {x y : Int} (h : Cut (t ++ [x])) (e : t.getLast? = some y) : y + x ≠ 0 := by
  obtain ⟨u, rfl⟩ := last_get e
  have hl : u.length + 1 < (u ++ [y] ++ [x]).length := by rw [List.length_append, List.length_append]; simp only [List.length_cons, List.length_nil]; omega
  have := h u.length hl
  have e1 : (u ++ [y] ++ [x])[u.length]'(by omega) = y := by simp
  have e2 : (u ++ [y] ++ [x])[u.length + 1]'hl = x := by simp
  rw [e1, e2] at this
  exact this
theorem cut_push {s : Wd} {x : Int} (h : Cut s) (n : s.getLast? ≠ some (-x)) : Cut (s ++ [x]) := fun i hi => by
  rw [List.length_append] at hi
  simp only [List.length_cons, List.length_nil] at hi
  by_cases e : i + 1 < s.length
  · rw [List.getElem_append_left (by omega), List.getElem_append_left e]
    exact h i e
  · have ei : i + 1 = s.length := by omega
    intro z
    refine n ?_
    have e2 : (s ++ [x])[i + 1]'(by rw [List.length_append]; simp only [List.length_cons, List.length_nil]; omega) = x := by
      rw [List.getElem_append_right (by omega)]
      simp [ei]
    rw [List.getElem_append_left (by omega), e2] at z
    rw [List.getLast?_eq_getElem?, List.getElem?_eq_getElem (by omega)]
    have e3 : s[s.length - 1]'(by omega) = s[i]'(by omega) := by congr 1; omega
    rw [e3]
    exact congrArg some (by omega)
theorem step_cut {s : Wd} {x : Int} (h : Cut s) : Cut (stepW s x) := by
  by_cases e : s.getLast? = some (-x)
  · obtain ⟨t, rfl⟩ := last_get e
    rw [step_pop]
    exact cut_init h
  · rw [step_push e]
    exact cut_push h e
theorem fold_cut : ∀ (w : Wd) {s : Wd}, Cut s → Cut (w.foldl stepW s)
  | [], _, h => h
  | x :: w, _, h => fold_cut w (step_cut h)
theorem cut_nil : Cut [] := fun i h => by cases h
theorem red_cut (w : Wd) : Cut (redW w) := fold_cut w cut_nil
/-- two letters that cut each other leave what is kept -/
theorem step_two {s : Wd} {x : Int} (h : Cut s) : stepW (stepW s x) (-x) = s := by
  by_cases e : s.getLast? = some (-x)
  · obtain ⟨t, rfl⟩ := last_get e
    rw [step_pop, step_push]
    intro z
    rw [Int.neg_neg] at z
    exact cut_last h z (by omega)
  · rw [step_push e]
    have := step_pop (t := s) (x := -x)
    rw [Int.neg_neg] at this
    exact this
theorem red_two (a b : Wd) (x : Int) : redW (a ++ x :: -x :: b) = redW (a ++ b) := by
  unfold redW
  rw [List.foldl_append, List.foldl_append, List.foldl_cons, List.foldl_cons, step_two (fold_cut a cut_nil)]
theorem red_self : ∀ (w : Wd) {s : Wd}, Cut (s ++ w) → w.foldl stepW s = s ++ w
  | [], s, _ => by rw [List.append_nil]; rfl
  | x :: w, s, h => by
    have e : s.getLast? ≠ some (-x) := fun z => by
      obtain ⟨t, rfl⟩ := last_get z
      have hl : t.length + 1 < (t ++ [-x] ++ x :: w).length := by rw [List.length_append, List.length_append]; simp only [List.length_cons, List.length_nil]; omega
      have := h t.length hl
      have e1 : (t ++ [-x] ++ x :: w)[t.length]'(by omega) = -x := by simp
      have e2 : (t ++ [-x] ++ x :: w)[t.length + 1]'hl = x := by simp
      rw [e1, e2] at this
      omega
    rw [List.foldl_cons, step_push e, red_self w (by rw [List.append_assoc]; exact h), List.append_assoc]
    rfl
theorem red_of_cut {w : Wd} (h : Cut w) : redW w = w := red_self w (s := []) h
theorem inv_cons (x : Int) (w : Wd) : invW (x :: w) = invW w ++ [-x] := by
  unfold invW
  rw [List.reverse_cons, List.map_append]
  rfl
theorem red_inv : ∀ w : Wd, redW (w ++ invW w) = [] := by
  intro w
  have key : ∀ (n : Nat) (w : Wd), w.length = n → redW (w ++ invW w) = [] := by
    intro n
    induction n with
    | zero =>
      intro w h
      rw [List.length_eq_zero_iff.mp h]
      rfl
    | succ n ih =>
      intro w h
      obtain ⟨t, x, rfl⟩ : ∃ t x, w = t ++ [x] := by
        have ne : w ≠ [] := fun z => by rw [z] at h; cases h
        exact ⟨w.dropLast, w.getLast ne, (List.dropLast_concat_getLast ne).symm⟩
      have e : invW (t ++ [x]) = -x :: invW t := by
        unfold invW
        rw [List.reverse_append, List.map_append]
        rfl
      rw [e, List.append_assoc]
      show redW (t ++ x :: -x :: invW t) = []
      rw [red_two]
      exact ih t (by rw [List.length_append] at h; simp only [List.length_cons, List.length_nil] at h; omega)
  exact key w.length w rfl
/-- what a letter is counted for -/
def oneL (k : Nat) (x : Int) : Int := (if x = (k : Int) + 1 then 1 else 0) - (if x = 0 - (k : Int) - 1 then 1 else 0)
def cntL (k : Nat) (w : Wd) : Int := ((w.count ((k : Int) + 1) : Nat) : Int) - ((w.count (0 - (k : Int) - 1) : Nat) : Int)
theorem cnt_app (k : Nat) (a b : Wd) : cntL k (a ++ b) = cntL k a + cntL k b := by
  unfold cntL
  rw [List.count_append, List.count_append]
  omega
theorem cnt_one (k : Nat) (x : Int) : cntL k [x] = oneL k x := by
  have hc : ∀ y : Int, (([x].count y : Nat) : Int) = if x = y then 1 else 0 := fun y => by
    rw [List.count_singleton]
    by_cases h : x = y <;> simp [h, beq_iff_eq]
  unfold cntL oneL
  rw [hc, hc]
theorem one_neg (k : Nat) (x : Int) : oneL k (-x) = - oneL k x := by
  unfold oneL
  by_cases h1 : x = (k : Int) + 1
  · rw [if_pos h1, if_neg (by omega), if_pos (by omega), if_neg (by omega)]; rfl
  · by_cases h2 : x = 0 - (k : Int) - 1
    · rw [if_neg h1, if_pos h2, if_pos (by omega), if_neg (by omega)]; rfl
    · rw [if_neg h1, if_neg h2, if_neg (by omega), if_neg (by omega)]; rfl
theorem cnt_step (k : Nat) (s : Wd) (x : Int) : cntL k (stepW s x) = cntL k s + oneL k x := by
  by_cases e : s.getLast? = some (-x)
  · obtain ⟨t, rfl⟩ := last_get e
    rw [step_pop, cnt_app, cnt_one, one_neg]
    omega
  · rw [step_push e, cnt_app, cnt_one]
theorem cnt_fold (k : Nat) : ∀ (w s : Wd), cntL k (w.foldl stepW s) = cntL k s + cntL k w
  | [], s => by show cntL k s = cntL k s + cntL k []; simp [cntL]
  | x :: w, s => by
    rw [List.foldl_cons, cnt_fold k w, cnt_step]
    have := cnt_app k [x] w
    rw [cnt_one] at this
    show _ = cntL k s + cntL k ([x] ++ w)
    omega
theorem cnt_red (k : Nat) (w : Wd) : cntL k (redW w) = cntL k w := by
  unfold redW
  rw [cnt_fold]
  simp [cntL]
theorem sum_red (n : Nat) (w : Wd) : sumL n (redW w) = sumL n w := List.map_congr_left fun k _ => cnt_red k w
theorem mem_fold {x : Int} : ∀ (w s : Wd), x ∈ w.foldl stepW s → x ∈ s ∨ x ∈ w
  | [], _, h => .inl h
  | y :: w, s, h => by
    rcases mem_fold w _ h with h | h
    · unfold stepW at h
      split at h
      · exact .inl ((List.dropLast_sublist s).subset h)
      · rcases List.mem_append.mp h with h | h
        · exact .inl h
        · exact .inr (List.mem_singleton.mp h ▸ List.mem_cons_self)
    · exact .inr (List.mem_cons_of_mem _ h)
theorem mem_red {x : Int} {w : Wd} (h : x ∈ redW w) : x ∈ w := by
  rcases mem_fold w [] h with h | h
  · cases h
  · exact h
end L2.Px

namespace L2.Px
open PySem PySem.Spec PyProof.Rows
theorem inV_int (n : Int) (ns : List Int) : inV (.int n) (iV ns) = decide (n ∈ ns) := by
  unfold inV
  rw [List.any_map]
  apply Bool.eq_iff_iff.mpr
  rw [List.any_eq_true, decide_eq_true_eq]
  constructor
  · rintro ⟨x, hx, e⟩
    have e : (x == n) = true := e
    rw [← beq_iff_eq.mp e]
    exact hx
  · intro h
    exact ⟨n, h, beq_self_eq_true n⟩
theorem all_flat (ns : List Int) : (iV ns).all flatV = true := by
  rw [List.all_map, List.all_eq_true]
  intro x _
  rfl
theorem walk_revT {K : PySem.W.Frag} {a : Addr} {xs : List V} : Walk (RT.ItvT K a xs.length) xs.length (fun H => SqT K H a xs) (fun i H x H' => H' = H ∧ xs[xs.length - 1 - i]? = some x) :=
  ⟨fun i _ hi q => ⟨hi, xs, xs[xs.length - 1 - i]'(by omega), q, by simp [show xs.length - 1 - i < xs.length by omega]⟩, fun _ _ => Nat.le_refl _, fun _ _ _ _ _ q y => ⟨y.1, y.2 xs q⟩⟩
theorem set_map (n : Nat) (f g : Nat → Int) (j : Nat) (h : ∀ k < n, k ≠ j → g k = f k) : ((List.range n).map f).set j (g j) = (List.range n).map g := by
  refine List.ext_getElem (by simp) fun i h1 h2 => ?_
  have hi : i < n := by simpa using h2
  rw [List.getElem_set]
  split
  · rename_i e
    subst e
    simp
  · rename_i e
    simp only [List.getElem_map, List.getElem_range]
    exact (h i hi (Ne.symm e)).symm
section
variable {P : Program} {w : World} {K : PySem.W.Frag} {mg : Str → Option Value} {base : Heap}
def sp_check_word (K : PySem.W.Frag) (C : Addr) : Sp := fun vs H Q E => ∃ (a : Addr) (w : Wd), vs = [.ref a] ∧ SqT K H a (iV w) ∧ ((0 : Int) ∉ w → Q .non H) ∧ ((0 : Int) ∈ w → E (.ref C) none H)
theorem ok_check_word {f : Addr} {fd : FuncData} {c_NotWord : Addr} (F : Fun K "check_word" "check_word" s_check_word f fd) (N : Nm mg) (B_NotWord : ExN K mg "NotWord" c_NotWord) :
    FnOk P w K mg base (L2.CX P w) 1 f fd ["word"] (sp_check_word K c_NotWord) := by
  refine F.okX sc_check_word (fun vs H Q E h => ?_) (fun cdv A outer s H vs Q E hr h => ?_)
  · obtain ⟨a, w, rfl, _⟩ := h
    rfl
  · obtain ⟨a, w, rfl, ha, k1, k2⟩ := h
    refine ⟨_, pss_one (ps_if (pt_cmpR op_in_seq pe_int (pv 0) (by rfl)) (pss_one (ps_raise rfl (takes_of rfl rfl rfl rfl) (pmk_own PySem.F.excBase_ValueError B_NotWord.x B_NotWord.g B_NotWord.k (raises_own B_NotWord.b B_NotWord.t) rfl))) pss_nil), ?_⟩
    refine ⟨.ref a, rfl, a, _, rfl, .inr ha, rfl, all_flat w, _, rfl, ?_⟩
    show if inV (.int 0) (iV w) = true then _ else _
    rw [inV_int]
    exact ite2 (fun c => k2 (of_decide_eq_true c)) (fun c => k1 fun z => c (decide_eq_true z))
def sp_inverse_word (K : PySem.W.Frag) (C : Addr) : Sp := fun vs H Q E => ∃ (a : Addr) (w : Wd), vs = [.ref a] ∧ SqT K H a (iV w) ∧ w.length ≤ 1000 ∧ ((0 : Int) ∉ w → ∀ H' p, Same H H' → H' p = some (.tup (iV (invW w))) → Q (.ref p) H') ∧ ((0 : Int) ∈ w → E (.ref C) none H)
theorem ok_inverse_word {f : Addr} {fd : FuncData} {f_check_word : Addr} {d_check_word : FuncData} {c_NotWord : Addr} (F : Fun K "inverse_word" "inverse_word" s_inverse_word f fd) (N : Nm mg) (B_NotWord : ExN K mg "NotWord" c_NotWord)
    (t_check_word : At K mg "check_word" s_check_word ["word"] f_check_word d_check_word) (G_check_word : FnOk P w K mg base (L2.CX P w) 1 f_check_word d_check_word ["word"] (sp_check_word K c_NotWord)) :
    FnOk P w K mg base (L2.CX P w) 2 f fd ["word"] (sp_inverse_word K c_NotWord) := by
  refine F.okX sc_inverse_word (fun vs H Q E h => ?_) (fun cdv A outer s H vs Q E hr h => ?_)
  · obtain ⟨a, w, rfl, _⟩ := h
    rfl
  · obtain ⟨a, w, rfl, ha, hl, k1, k2⟩ := h
    refine ⟨_, pss_cons (ps_expr (pe_call (E := E) G_check_word (hr.mono (by decide)) rfl t_check_word.g t_check_word.F.kp t_check_word.b .nil (passes_call (takes_of rfl rfl rfl rfl) fun _ _ _ _ z => z) (pa_cons (pv 0) pa_nil)))
      (pss_one (ps_ret (pe_callTy call_tuple_of (by rfl) N.n_tuple (by decide +kernel) (pa_cons (pe_lc (own := [("letter", 1)]) (g := gName 1) (tt := tYes) (te := tUn (rU fun i => .int (-i)) (tVar 1)) rfl sc_inverse_word.nd (RT.pi_revA (by rfl) N.n_reversed (pv 0)) (blkOk_by (N := n_inverse_word) (sc := defScope s_inverse_word) (by decide +kernel)) (fun _ _ _ _ _ => (pg_name (i := 1) sc_inverse_word.nd rfl (.inl rfl))) (fun _ _ _ _ _ => pts_nil) (fun _ _ _ _ _ => (pe_un un_neg (pv 1)))) pa_nil)))), ?_⟩
    refine ⟨.ref a, rfl, a, w, rfl, ha, fun n0 => ?_, k2⟩
    refine ⟨.ref a, rfl, a, iV w, rfl, .inr ⟨ha, fun D hD => lc_map (walk_revT (K := K) (a := a) (xs := iV w)) RInt lasts_int (fun i => - w.getD (w.length - 1 - i) 0) hD (by rw [List.length_map]; omega) (fun H' s => s.tup ha) ?_ ?_⟩⟩
    · rintro i x H1 H2 hi s1 ⟨rfl, hx⟩ Nx kk
      obtain ⟨n, hn, rfl⟩ := iV_get hx
      rw [List.length_map] at hn
      refine ⟨rfl, .int n, rfl, n, rfl, kk _ _ (Same.refl _) ?_⟩
      show V.int _ = V.int _
      rw [List.getD_eq_getElem?_getD, hn]
      rfl
    · intro H1 ws s1 hd p
      have e := paired_int p
      have e2 : (List.range (iV w).length).map (fun i => - w.getD (w.length - 1 - i) 0) = invW w := by
        unfold invW
        rw [List.length_map]
        refine List.ext_getElem (by simp) fun i h1 h2 => ?_
        have hi : i < w.length := by simpa using h1
        simp only [List.getElem_map, List.getElem_range, List.getElem_reverse]
        rw [List.getD_eq_getElem?_getD, List.getElem?_eq_getElem (by omega)]
        rfl
      rw [e2] at e
      subst e
      refine ⟨D, _, rfl, .inl ⟨.of hd, fun p np => k1 n0 _ p (s1.trans (Same.upd np)) upd_same⟩⟩
def sp_cut_word (K : PySem.W.Frag) (C : Addr) : Sp := fun vs H Q E => ∃ (a : Addr) (w : Wd), vs = [.ref a] ∧ SqT K H a (iV w) ∧ w.length ≤ 1000 ∧ ((0 : Int) ∉ w → ∀ H' p, Same H H' → H' p = some (.tup (iV (redW w))) → Q (.ref p) H') ∧ ((0 : Int) ∈ w → E (.ref C) none H)
theorem ok_cut_word {f : Addr} {fd : FuncData} {f_check_word : Addr} {d_check_word : FuncData} {c_NotWord : Addr} (F : Fun K "cut_word" "cut_word" s_cut_word f fd) (N : Nm mg) (B_NotWord : ExN K mg "NotWord" c_NotWord)
    (t_check_word : At K mg "check_word" s_check_word ["word"] f_check_word d_check_word) (G_check_word : FnOk P w K mg base (L2.CX P w) 1 f_check_word d_check_word ["word"] (sp_check_word K c_NotWord)) :
    FnOk P w K mg base (L2.CX P w) 2 f fd ["word"] (sp_cut_word K c_NotWord) := by
  refine F.okX sc_cut_word (fun vs H Q E h => ?_) (fun cdv A outer s H vs Q E hr h => ?_)
  · obtain ⟨a, w, rfl, _⟩ := h
    rfl
  · obtain ⟨a, w, rfl, ha, hl, k1, k2⟩ := h
    have hu := hr.units
    refine ⟨_, pss_cons (ps_expr (pe_call (E := E) G_check_word (hr.mono (by decide)) rfl t_check_word.g t_check_word.F.kp t_check_word.b .nil (passes_call (takes_of rfl rfl rfl rfl) fun _ _ _ _ z => z) (pa_cons (pv 0) pa_nil)))
      (pss_cons (ps_set (i := 1) sc_cut_word.nd rfl (.inl rfl) (pe_lst pa_nil))
      (pss_cons (ps_for PassesOwn.leaving rfl (pi_tup (pv 0)) (pg_name (i := 2) sc_cut_word.nd rfl (.inl rfl)) (pss_one (ps_if (PW.pt (pw_and (pt_cmpR (op_neD hu) (pv 1) (pe_lst pa_nil) (nomark _)) (pw_and1 (pt_cmpR op_eq (pe_ix ix_list (pv 1) (pe_un un_neg pe_int) (fun _ _ => rfl)) (pe_un un_neg (pv 2)) (nomark _))))) (pss_one (ps_expr (pe_bm0 PySem.F.plainAttrs_list PySem.F.slot_list_pop PySem.F.type_list_pop mt_pop (pv 1)))) (pss_one (ps_expr (pe_bm PySem.F.plainAttrs_list PySem.F.slot_list_append PySem.F.type_list_append mt_append (pv 1) (pa_cons (pv 2) pa_nil)))))))
      (pss_one (ps_ret (pe_callTy call_tuple_of (by rfl) N.n_tuple (by decide +kernel) (pa_cons (pv 1) pa_nil)))))), ?_⟩
    refine ⟨.ref a, rfl, a, w, rfl, ha, fun n0 => ?_, k2⟩
    refine ⟨Nat.zero_le _, fun D hD => ⟨_, rfl, a, rfl, ⟨_, (Same.upd hD).tup ha⟩, ?_⟩⟩
    refine for_it (walk_tup (K := K) (a := a) (xs := iV w)) (fun i σ H' => ∃ y2 : Option V, σ = [some (.ref a), some (.ref D), y2] ∧ Same H H' ∧ H' D = some (.lst (iV (redW (w.take i))))) ⟨none, rfl, Same.upd hD, upd_same⟩ (fun i σ H' _ ⟨_, _, s, _⟩ => s.tup ha) ?_ ?_
    · rintro i x σ H1 H2 hi ⟨y2, rfl, s1, hd⟩ ⟨rfl, hx⟩
      obtain ⟨x, hx', rfl⟩ := iV_get hx
      have hx := hx'
      have hi : i < w.length := by rw [List.length_map] at hi; exact hi
      have stp : redW (w.take (i + 1)) = stepW (redW (w.take i)) x := by
        unfold redW
        rw [take_snoc hx, List.foldl_append]
        rfl
      have len : (redW (w.take i)).length ≤ i := by
        have : ∀ (l s : Wd), (l.foldl stepW s).length ≤ s.length + l.length := by
          intro l
          induction l with
          | nil => intro s; exact Nat.le_refl _
          | cons y l ih =>
            intro s
            have h1 := ih (stepW s y)
            have h2 : (stepW s y).length ≤ s.length + 1 := by
              unfold stepW
              split
              · rw [List.length_dropLast]; omega
              · rw [List.length_append]; exact Nat.le_refl _
            rw [List.foldl_cons, List.length_cons]
            omega
        have := this (w.take i) []
        unfold redW
        rw [List.length_take] at this
        simp only [List.length_nil] at this
        omega
      generalize redW (w.take i) = s at hd stp len
      refine ⟨.ref D, rfl, Nat.zero_le _, fun p np => ?_⟩
      have sp := Same.upd (o := .lst []) np
      have hd' := sp _ _ hd
      refine ⟨.list (iD s), .list (iD []), .lst (.of hd') (dp_ints s), .lst (.of upd_same) .nil, shaped_li _, shaped_li _, ?_⟩
      have ev : PyData.eqv (.list (iD s)) (.list (iD [])) = decide (s = []) := PySem.W.ked_eqvAll s []
      rw [ev]
      have push : (stepW s x = s ++ [x]) → ∃ x_1, some (some (V.ref D)) = some (some x_1) ∧ tyV K "list" x_1 (upd H2 p (.lst [])) ∧ ∃ y, some (some (V.int x)) = some (some y) ∧ rAppend x_1 [y] (upd H2 p (.lst [])) fun _ H3 => ∃ y2 : Option V, [some (.ref a), some (.ref D), some (V.int x)] = [some (.ref a), some (.ref D), y2] ∧ Same H H3 ∧ H3 D = some (.lst (iV (redW (w.take (i + 1))))) := fun e =>
        ⟨.ref D, rfl, .inl ⟨rfl, _, .of hd'⟩, _, rfl, D, _, _, rfl, rfl, hd', by rw [List.length_map]; exact small1000x (by omega), ⟨_, rfl, own_push (s1.trans sp) hD, by rw [upd_same, stp, e, iV_app]; rfl⟩⟩
      by_cases e0 : s = []
      · refine ⟨_, rfl, ?_⟩
        rw [decide_eq_true e0]
        exact push (by rw [e0]; rfl)
      · refine ⟨_, rfl, ?_⟩
        rw [decide_eq_false e0]
        have lp : 0 < s.length := List.length_pos_iff.mpr e0
        refine iteT ⟨.ref D, rfl, 1, rfl, D, iV s, -1, .int (s.getLast e0), rfl, rfl, .of hd', ?_, _, rfl, x, rfl, rfl, _, rfl, ?_⟩
        · have e := atI_last (iV s.dropLast) (V.int (s.getLast e0))
          have e2 : iV s.dropLast ++ [V.int (s.getLast e0)] = iV s := by
            have := congrArg iV (List.dropLast_concat_getLast e0)
            rw [iV_app] at this
            exact this
          rw [e2] at e
          exact e
        · by_cases e1 : s.getLast e0 = -x
          · rw [decide_eq_true (congrArg V.int e1)]
            refine iteT ⟨.ref D, rfl, .inl ⟨rfl, _, .of hd'⟩, D, _, .int (s.getLast e0), rfl, rfl, hd', ?_, ⟨_, rfl, own_push (s1.trans sp) hD, ?_⟩⟩
            · rw [List.length_map, List.getElem?_map, List.getLast_eq_getElem, List.getElem?_eq_getElem (by omega)]
              rfl
            · rw [upd_same, stp]
              have : stepW s x = s.dropLast := if_pos ⟨e0, by rw [List.getLast?_eq_some_getLast e0, e1]⟩
              rw [this]
              exact congrArg (fun l => some (HO.lst l)) (by simp [List.map_dropLast])
          · rw [decide_eq_false fun z => e1 (by injection z)]
            exact iteF (push (step_push (by rw [List.getLast?_eq_some_getLast e0]; intro z; exact e1 (Option.some.inj z))))
    · rintro σ H1 ⟨y2, rfl, s1, hd⟩
      rw [List.length_map, List.take_length] at hd
      exact ⟨.ref D, rfl, D, _, rfl, .inl ⟨.of hd, fun p np => k1 n0 _ p (s1.trans (Same.upd np)) upd_same⟩⟩
end
end L2.Px

namespace L2.Px
open PySem PySem.Spec PyProof.Rows
section
variable {P : Program} {w : World} {K : PySem.W.Frag} {mg : Str → Option Value} {base : Heap}
def absI (x : Int) : Int := if x < 0 then -x else x
def sp_are_letters (K : PySem.W.Frag) : Sp := fun vs H Q _ => ∃ (a : Addr) (w : Wd) (c : Int), vs = [.int c, .ref a] ∧ SqT K H a (iV w) ∧ w.length ≤ 1000 ∧ ∀ H', Same H H' → Q (.bl (okW c w)) H'
theorem ok_are_letters {f : Addr} {fd : FuncData} (F : Fun K "are_letters" "are_letters" s_are_letters f fd) (N : Nm mg) :
    FnOk P w K mg base CX0 1 f fd ["count", "word"] (sp_are_letters K) := by
  refine F.ok sc_are_letters (fun vs H Q E h => ?_) (fun cdv A outer s H vs Q E hr h => ?_)
  · obtain ⟨a, w, c, rfl, _⟩ := h
    rfl
  · obtain ⟨a, w, c, rfl, ha, hl, k⟩ := h
    refine ⟨_, pss_one (ps_ret (pe_callB (cr_all rfl) (by rfl) N.n_all (by decide +kernel) (pa_cons (pe_lc (own := [("letter", 2)]) (g := gName 2) (tt := tYes) (te := tAndV (tOp (rNe) (tVar 2) (L2.tC (.int 0))) (tOp (rI0 fun i j => .bl (decide (i ≤ j))) (tCB rAbs (tCons (tVar 2) (tNil))) (tVar 0))) rfl sc_are_letters.nd (pi_tup (pv 1)) (blkOk_by (N := n_are_letters) (sc := defScope s_are_letters) (by decide +kernel)) (fun _ _ _ _ _ => (pg_name (i := 2) sc_are_letters.nd rfl (.inl rfl))) (fun _ _ _ _ _ => pts_nil) (fun _ _ _ _ _ => (pe_and (pe_cmpR op_ne (pv 2) pe_int (nomark _)) (pe_one (pe_cmpR op_le (pe_callB call_abs (by rfl) N.n_abs (by decide +kernel) (pa_cons (pv 2) pa_nil)) (pv 0) (nomark _)))))) pa_nil))), ?_⟩
    refine ⟨.ref a, rfl, a, rfl, ⟨_, ha⟩, fun D hD => lc_map (walk_tup (K := K) (a := a) (xs := iV w)) RBl lasts_bl (fun i => decide (w.getD i 0 ≠ 0) && decide (absI (w.getD i 0) ≤ c)) hD (by rw [List.length_map]; omega) (fun H' s => s.tup ha) ?_ ?_⟩
    · rintro i x H1 H2 hi s1 ⟨rfl, hx⟩ Nx kk
      obtain ⟨n, hn, rfl⟩ := iV_get hx
      have e : w.getD i 0 = n := by rw [List.getD_eq_getElem?_getD, hn]; rfl
      rw [e] at kk
      refine ⟨rfl, .int n, rfl, rfl, _, rfl, ?_⟩
      by_cases z : n = 0
      · subst z
        exact iteF (kk _ _ (Same.refl _) rfl)
      · rw [decide_eq_false fun h => z (by injection h)]
        refine iteT ⟨.int n, rfl, n, rfl, .int c, rfl, _, _, rfl, rfl, kk _ _ (Same.refl _) ?_⟩
        rw [decide_eq_true z]
        rfl
    · intro H1 ws s1 hd p
      have e := paired_bl p
      subst e
      refine ⟨D, _, rfl, .of hd, ?_⟩
      have : okW c w = ((List.range (iV w).length).map fun i => decide (w.getD i 0 ≠ 0) && decide (absI (w.getD i 0) ≤ c)).all id := by
        have e : w.map (fun x => decide (x ≠ 0) && decide (absI x ≤ c)) = (List.range (iV w).length).map fun i => decide (w.getD i 0 ≠ 0) && decide (absI (w.getD i 0) ≤ c) := by
          rw [List.length_map]
          refine List.ext_getElem (by simp) fun i h1 h2 => ?_
          have hi : i < w.length := by simpa using h1
          simp only [List.getElem_map, List.getElem_range]
          rw [List.getD_eq_getElem?_getD, List.getElem?_eq_getElem hi]
          rfl
        rw [← e, List.all_map]
        rfl
      rw [← this]
      exact k H1 s1
/-! ### sums -/
def sp_sums (K : PySem.W.Frag) (CB CW : Addr) : Sp := fun vs H Q E => ∃ (a : Addr) (w : Wd) (c : Int), vs = [.int c, .ref a] ∧ SqT K H a (iV w) ∧ w.length ≤ 1000 ∧ c ≤ 1000 ∧
  (c < 0 → E (.ref CB) none H) ∧ (0 ≤ c → okW c w = false → ∀ H', Same H H' → E (.ref CW) none H') ∧ (0 ≤ c → okW c w = true → ∀ H' p, Same H H' → H' p = some (.lst (iV (sumL c.toNat w))) → Q (.ref p) H')
theorem cnt_take {k i : Nat} {w : Wd} {x : Int} (h : w[i]? = some x) : cntL k (w.take (i + 1)) = cntL k (w.take i) + oneL k x := by
  rw [take_snoc h, cnt_app, cnt_one]
theorem ok_sums {f : Addr} {fd : FuncData} {f_are_letters : Addr} {d_are_letters : FuncData} {c_BadNumber : Addr} {c_NotWord : Addr} (F : Fun K "sums" "sums" s_sums f fd) (N : Nm mg) (B_BadNumber : ExN K mg "BadNumber" c_BadNumber) (B_NotWord : ExN K mg "NotWord" c_NotWord)
    (t_are_letters : At K mg "are_letters" s_are_letters ["count", "word"] f_are_letters d_are_letters) (G_are_letters : FnOk P w K mg base CX0 1 f_are_letters d_are_letters ["count", "word"] (sp_are_letters K)) :
    FnOk P w K mg base (L2.CX P w) 2 f fd ["count", "word"] (sp_sums K c_BadNumber c_NotWord) := by
  refine F.okX sc_sums (fun vs H Q E h => ?_) (fun cdv A outer s H vs Q E hr h => ?_)
  · obtain ⟨a, w, c, rfl, _⟩ := h
    rfl
  · obtain ⟨a, w, c, rfl, ha, hl, hc, k1, k2, k3⟩ := h
    refine ⟨_, pss_cons (ps_if (pt_cmpR op_lt (pv 0) pe_int (nomark _)) (pss_one (ps_raise rfl (takes_of rfl rfl rfl rfl) (pmk_own PySem.F.excBase_ValueError B_BadNumber.x B_BadNumber.g B_BadNumber.k (raises_own B_BadNumber.b B_BadNumber.t) rfl))) pss_nil)
      (pss_cons (ps_if (pt_not (pt_val (pe_call G_are_letters (hr.mono (by decide)) rfl t_are_letters.g t_are_letters.F.kp t_are_letters.b .nil pass0 (pa_cons (pv 0) (pa_cons (pv 1) pa_nil))))) (pss_one (ps_raise rfl (takes_of rfl rfl rfl rfl) (pmk_own PySem.F.excBase_ValueError B_NotWord.x B_NotWord.g B_NotWord.k (raises_own B_NotWord.b B_NotWord.t) rfl))) pss_nil)
      (pss_cons (ps_setLc (i := 2) (own := [("_", 4)]) (g := gName 4) (tt := tYes) (te := L2.tC (.int 0)) rfl sc_sums.nd rfl rfl (sw_true rfl rfl rfl (by decide +kernel)) (pi_range1 (by rfl) N.n_range (pa_cons (pv 0) pa_nil)) (blkOk_by (N := n_sums) (sc := defScope s_sums) (by decide +kernel)) (fun _ _ _ _ _ => (pg_name (i := 4) sc_sums.nd rfl (.inl rfl))) (fun _ _ _ _ _ => pts_nil) (fun _ _ _ _ _ => pe_int))
      (pss_cons (ps_for PassesOwn.leaving rfl (pi_tup (pv 1)) (pg_name (i := 3) sc_sums.nd rfl (.inl rfl)) (pss_one (ps_if (pt_cmpR op_gt (pv 3) pe_int (nomark _)) (pss_one (ps_augL (pv 2) (pe_op op_sub (pv 3) pe_int) pe_int ip_add)) (pss_one (ps_augL (pv 2) (pe_op op_sub (pe_un un_neg (pv 3)) pe_int) pe_int ip_sub)))))
      (pss_one (ps_ret (pv 2)))))), ?_⟩
    refine ⟨_, rfl, c, 0, rfl, rfl, _, rfl, ite2 (fun c0 => k1 (of_decide_eq_true c0)) (fun c0 => ?_)⟩
    have c0 : 0 ≤ c := by
      have : ¬ c < 0 := fun z => c0 (decide_eq_true z)
      omega
    obtain ⟨n, rfl⟩ := Int.eq_ofNat_of_zero_le c0
    refine ⟨_, rfl, .ref a, rfl, a, w, _, rfl, ha, hl, fun H1 s1 => ⟨_, rfl, ?_⟩⟩
    cases e : okW (n : Int) w with
    | false => exact iteT (k2 c0 e H1 s1)
    | true =>
      refine iteF ⟨_, rfl, (n : Int), rfl, by omega, by omega, ?_⟩
      have k3 := k3 c0 e
      rw [Int.toNat_natCast] at k3 ⊢
      intro D hD
      refine lc_map (walk_range (lo := 0)) RInt lasts_int (fun k => cntL k []) hD (by omega) (fun _ _ => trivial) ?_ ?_
      · rintro i x H2 H3 hi s2 ⟨rfl, rfl⟩ Nx kk
        exact ⟨rfl, kk _ _ (Same.refl _) rfl⟩
      · intro H2 ws s2 hd p
        have ew := paired_int p
        subst ew
        have S2 := s1.trans s2
        have hD0 := none_of_same s1 hD
        refine ⟨.ref a, rfl, a, rfl, ⟨_, S2.tup ha⟩, ?_⟩
        refine for_it (walk_tup (K := K) (a := a) (xs := iV w)) (fun i σ H' => ∃ y3 : Option V, σ = [some (.int (n : Int)), some (.ref a), some (.ref D), y3, none] ∧ Same H H' ∧ H' D = some (.lst (iV ((List.range n).map fun k => cntL k (w.take i))))) ⟨none, rfl, S2, hd⟩ (fun i σ H' _ ⟨_, _, s, _⟩ => s.tup ha) ?_ ?_
        · rintro i x σ H3 H4 hi ⟨y3, rfl, s3, hd3⟩ ⟨rfl, hx⟩
          obtain ⟨x, hx', rfl⟩ := iV_get hx
          have hx := hx'
          have ok := List.all_eq_true.mp e x (List.mem_of_getElem? hx)
          rw [Bool.and_eq_true, decide_eq_true_eq, decide_eq_true_eq] at ok
          obtain ⟨x0, x1⟩ := ok
          refine ⟨.int x, rfl, x, 0, rfl, rfl, _, rfl, ite2 (fun cp => ?_) (fun cp => ?_)⟩
          · have cp : 0 < x := of_decide_eq_true cp
            rw [if_neg (by omega)] at x1
            obtain ⟨j, hj⟩ : ∃ j : Nat, x = (j : Int) + 1 := ⟨(x - 1).toNat, by omega⟩
            subst hj
            have jn : j < n := by omega
            have ej : ((j : Int) + 1 - 1) = (j : Int) := by omega
            refine ⟨.ref D, rfl, _, rfl, _, _, rfl, rfl, D, _, _, _, rfl, rfl, .of hd3, by omega, getD_at (by omega) (by rw [List.length_map, List.length_range]; omega), _, _, rfl, rfl, D, _, _, j, rfl, rfl, hd3, by rw [ej, List.length_map, List.length_map, List.length_range]; exact ixN_nat jn, _, rfl, own_push s3 hD0, ?_⟩
            rw [upd_same, ← iV_set]
            refine congrArg (fun l => some (HO.lst (iV l))) ?_
            have en : ((j : Int) + 1 - 1).toNat = j := by omega
            have ev : (((List.range n).map fun k => cntL k (w.take i)).getD ((j : Int) + 1 - 1).toNat 0) + 1 = cntL j (w.take (i + 1)) := by
              rw [en, List.getD_eq_getElem?_getD, List.getElem?_map, List.getElem?_range jn, cnt_take hx]
              show cntL j (w.take i) + 1 = _
              unfold oneL
              rw [if_pos rfl, if_neg (by omega)]
              omega
            refine Eq.trans (congrArg (fun z => ((List.range n).map fun k => cntL k (w.take i)).set j z) ev) ?_
            refine set_map n (fun k => cntL k (w.take i)) (fun k => cntL k (w.take (i + 1))) j fun k hk hkj => ?_
            show cntL k (w.take (i + 1)) = cntL k (w.take i)
            rw [cnt_take hx]
            unfold oneL
            rw [if_neg (by omega), if_neg (by omega)]
            omega
          · have cp : ¬ 0 < x := fun z => cp (decide_eq_true z)
            rw [if_pos (by omega)] at x1
            obtain ⟨j, hj⟩ : ∃ j : Nat, x = -((j : Int) + 1) := ⟨(-x - 1).toNat, by omega⟩
            subst hj
            have jn : j < n := by omega
            have ej : (- -((j : Int) + 1) - 1) = (j : Int) := by omega
            refine ⟨.ref D, rfl, _, rfl, _, rfl, _, _, rfl, rfl, D, _, _, _, rfl, rfl, .of hd3, by omega, getD_at (by omega) (by rw [List.length_map, List.length_range]; omega), _, _, rfl, rfl, D, _, _, j, rfl, rfl, hd3, by rw [ej, List.length_map, List.length_map, List.length_range]; exact ixN_nat jn, _, rfl, own_push s3 hD0, ?_⟩
            rw [upd_same, ← iV_set]
            refine congrArg (fun l => some (HO.lst (iV l))) ?_
            have en : (- -((j : Int) + 1) - 1).toNat = j := by omega
            have ev : (((List.range n).map fun k => cntL k (w.take i)).getD (- -((j : Int) + 1) - 1).toNat 0) - 1 = cntL j (w.take (i + 1)) := by
              rw [en, List.getD_eq_getElem?_getD, List.getElem?_map, List.getElem?_range jn, cnt_take hx]
              show cntL j (w.take i) - 1 = _
              unfold oneL
              rw [if_neg (by omega), if_pos (by omega)]
              omega
            refine Eq.trans (congrArg (fun z => ((List.range n).map fun k => cntL k (w.take i)).set j z) ev) ?_
            refine set_map n (fun k => cntL k (w.take i)) (fun k => cntL k (w.take (i + 1))) j fun k hk hkj => ?_
            show cntL k (w.take (i + 1)) = cntL k (w.take i)
            rw [cnt_take hx]
            unfold oneL
            rw [if_neg (by omega), if_neg (by omega)]
            omega
        · rintro σ H3 ⟨y3, rfl, s3, hd3⟩
          rw [List.length_map, List.take_length] at hd3
          exact ⟨_, rfl, k3 H3 D s3 hd3⟩
end
end L2.Px

namespace L2.Px
open PySem PySem.Spec PyProof.Rows
section
variable {P : Program} {w : World} {K : PySem.W.Frag} {mg : Str → Option Value} {base : Heap}
def sp__law_number (K : PySem.W.Frag) : Sp := fun vs H Q _ => ∃ c : Int, vs = [.int c] ∧ ∀ r : Int, 0 ≤ r → Q (.int r) H
theorem ok__law_number {f : Addr} {fd : FuncData} (F : Fun K "_law_number" "_law_number" s__law_number f fd) (N : Nm mg) :
    FnOk P w K mg base CX0 1 f fd ["cell"] (sp__law_number K) := by
  refine F.ok sc__law_number (fun vs H Q E h => ?_) (fun cdv A outer s H vs Q E hr h => ?_)
  · obtain ⟨c, rfl, _⟩ := h
    rfl
  · obtain ⟨c, rfl, k⟩ := h
    refine ⟨_, pss_cons (ps_if (pt_cmpR op_lt (pv 0) pe_int (nomark _)) (pss_one (ps_ret (pe_op op_sub pe_int (pv 0)))) pss_nil)
      (pss_one (ps_ret (pv 0))), ?_⟩
    refine ⟨.int c, rfl, c, 0, rfl, rfl, _, rfl, ite2 (fun c0 => ⟨_, rfl, 0, c, rfl, rfl, k _ (by have := of_decide_eq_true c0; omega)⟩) (fun c0 => ⟨_, rfl, k _ (by have : ¬ c < 0 := fun z => c0 (decide_eq_true z); omega)⟩)⟩
def sp__law_draws (K : PySem.W.Frag) : Sp := fun vs H Q _ => ∃ (a : Addr) (ns : List Int), vs = [.ref a] ∧ SqL K H a (iV ns) ∧ ns.length ≤ 63 ∧ ∀ H' p, Same H H' → H p = none → Drw H' p → Q (.ref p) H'
theorem ok__law_draws {f : Addr} {fd : FuncData} {f__law_number : Addr} {d__law_number : FuncData} (F : Fun K "_law_draws" "_law_draws" s__law_draws f fd) (N : Nm mg)
    (t__law_number : At K mg "_law_number" s__law_number ["cell"] f__law_number d__law_number) (G__law_number : FnOk P w K mg base CX0 1 f__law_number d__law_number ["cell"] (sp__law_number K)) :
    FnOk P w K mg base CX0 2 f fd ["script"] (sp__law_draws K) := by
  refine F.ok sc__law_draws (fun vs H Q E h => ?_) (fun cdv A outer s H vs Q E hr h => ?_)
  · obtain ⟨a, ns, rfl, _⟩ := h
    rfl
  · obtain ⟨a, ns, rfl, ha, hn, k⟩ := h
    refine ⟨_, pss_cons (ps_set (i := 1) sc__law_draws.nd rfl (.inl rfl) (pe_lst pa_nil))
      (pss_cons (ps_for PassesOwn.never rfl (pi_list (pv 0)) (pg_name (i := 2) sc__law_draws.nd rfl (.inl rfl)) (pss_cons (ps_set (i := 3) sc__law_draws.nd rfl (.inl rfl) (pe_call G__law_number (hr.mono (by decide)) rfl t__law_number.g t__law_number.F.kp t__law_number.b .nil pass0 (pa_cons (pv 2) pa_nil)))
      (pss_one (ps_if (pt_cmpR op_ge (pv 3) pe_int (nomark _)) (pss_one (ps_for PassesOwn.never rfl (pi_range1 (by rfl) N.n_range (pa_cons pe_int pa_nil)) (pg_name (i := 4) sc__law_draws.nd rfl (.inl rfl)) (pss_cons (ps_if (pt_cmpR op_eq (pv 3) pe_int (nomark _)) (pss_one (ps_break)) pss_nil)
      (pss_cons (ps_expr (pe_bm PySem.F.plainAttrs_list PySem.F.slot_list_append PySem.F.type_list_append mt_append (pv 1) (pa_cons (pe_op op_mod (pe_callTy call_int1 (by rfl) N.n_int (by decide +kernel) (pa_cons (pv 3) pa_nil)) pe_int) pa_nil)))
      (pss_one (ps_set (i := 3) sc__law_draws.nd rfl (.inl rfl) (pe_op op_fdiv (pv 3) pe_int))))))) (pss_cons (ps_set (i := 5) sc__law_draws.nd rfl (.inl rfl) (pe_op op_mod (pe_callTy call_int1 (by rfl) N.n_int (by decide +kernel) (pa_cons (pe_op op_add (pe_op op_mul (pv 3) pe_int) pe_int) pa_nil)) pe_int))
      (pss_cons (ps_set (i := 6) sc__law_draws.nd rfl (.inl rfl) (pe_op op_mod (pe_callTy call_int1 (by rfl) N.n_int (by decide +kernel) (pa_cons (pe_op op_add (pe_op op_mul (pv 5) pe_int) (pv 3)) pa_nil)) pe_int))
      (pss_one (ps_expr (pe_bm PySem.F.plainAttrs_list PySem.F.slot_list_extend PySem.F.type_list_extend mt_extend (pv 1) (pa_cons (pe_lst (pa_cons (pe_op op_mod (pe_callTy call_int1 (by rfl) N.n_int (by decide +kernel) (pa_cons (pv 3) pa_nil)) pe_int) (pa_cons (pe_op op_mod (pe_callTy call_int1 (by rfl) N.n_int (by decide +kernel) (pa_cons (pv 5) pa_nil)) pe_int) (pa_cons (pe_op op_mod (pe_callTy call_int1 (by rfl) N.n_int (by decide +kernel) (pa_cons (pv 6) pa_nil)) pe_int) pa_nil)))) pa_nil))))))))))
      (pss_one (ps_ret (pv 1)))), ?_⟩
    refine ⟨Nat.zero_le _, fun D hD => ?_⟩
    refine ⟨_, rfl, a, rfl, ⟨_, (Same.upd hD).seq ha⟩, ?_⟩
    refine for_it (walk_list (K := K) (a := a) (xs := iV ns)) (fun i σ H' => ∃ (y3 y4 y5 y6 y7 : Option V) (ds : List Int), σ = [some (.ref a), some (.ref D), y3, y4, y5, y6, y7] ∧ Same H H' ∧ H' D = some (.lst (iV ds)) ∧ (∀ d ∈ ds, 0 ≤ d ∧ d < 1000) ∧ ds.length ≤ 60 * i)
      ⟨none, none, none, none, none, [], rfl, Same.upd hD, upd_same, fun d hd => by (cases hd), Nat.le_refl _⟩ (fun i σ H' _ ⟨_, _, _, _, _, _, _, s, _⟩ => s.seq ha) ?_ ?_
    · rintro i x σ H1 H2 hi ⟨y3, y4, y5, y6, y7, ds, rfl, s1, hd, hb, hl⟩ ⟨rfl, hx⟩
      have hi : i < ns.length := by rw [List.length_map] at hi; exact hi
      obtain ⟨c, hc, rfl⟩ := iV_get hx
      refine ⟨_, rfl, c, rfl, fun r r0 => ?_⟩
      refine ⟨_, rfl, r, 1000000000000000000, rfl, rfl, _, rfl, ite2 (fun _ => ?_) (fun _ => ?_)⟩
      · refine ⟨60, rfl, by decide, by decide, ?_⟩
        refine for_it (walk_range (lo := 0)) (fun j σ H' => ∃ (rr : Int) (y5 : Option V) (es : List Int), σ = [some (.ref a), some (.ref D), some (.int c), some (.int rr), y5, y6, y7] ∧ Same H H' ∧ H' D = some (.lst (iV es)) ∧ (∀ d ∈ es, 0 ≤ d ∧ d < 1000) ∧ es.length ≤ 60 * i + j)
          ⟨r, y5, ds, rfl, s1, hd, hb, hl⟩ (fun _ _ _ _ _ => trivial) ?_ ?_
        · rintro j x σ H3 H4 hj ⟨rr, y5, es, rfl, s3, hd3, hb3, hl3⟩ ⟨rfl, rfl⟩
          have hj : j < 60 := hj
          refine ⟨_, rfl, rfl, _, rfl, ite2 (fun _ => ⟨_, _, _, _, _, es, rfl, s3, hd3, hb3, by omega⟩) (fun _ => ?_)⟩
          refine ⟨.ref D, rfl, .inl ⟨rfl, _, .of hd3⟩, _, rfl, .inl ⟨_, rfl, _, _, rfl, rfl, (by decide : (0 : Int) < 1000), D, _, _, rfl, rfl, hd3, by rw [List.length_map]; exact small1000x (by omega), ?_⟩⟩
          refine ⟨_, rfl, _, _, rfl, rfl, ⟨by decide, by decide⟩, ?_⟩
          refine ⟨_, _, es ++ [rr % 1000], rfl, own_push s3 hD, by rw [upd_same, iV_app]; rfl, fun d hd => ?_, by rw [List.length_append]; simp only [List.length_cons, List.length_nil]; omega⟩
          rcases List.mem_append.mp hd with h | h
          · exact hb3 d h
          · rw [List.mem_singleton.mp h]
            exact emod_bd rr
        · rintro σ H3 ⟨rr, y5, es, rfl, s3, hd3, hb3, hl3⟩
          exact ⟨_, _, _, _, _, es, rfl, s3, hd3, hb3, by omega⟩
      · refine ⟨_, rfl, _, _, rfl, rfl, mul_r (by decide) (by decide), _, _, rfl, rfl, .inl ⟨_, rfl, _, _, rfl, rfl, (by decide : (0 : Int) < 2147483647), ?_⟩⟩
        refine ⟨_, rfl, _, _, rfl, rfl, mul_r (by decide) (by decide), _, rfl, _, _, rfl, rfl, .inl ⟨_, rfl, _, _, rfl, rfl, (by decide : (0 : Int) < 2147483629), ?_⟩⟩
        refine ⟨.ref D, rfl, .inl ⟨rfl, _, .of hd⟩, ?_⟩
        refine ⟨_, rfl, .inl ⟨_, rfl, _, _, rfl, rfl, (by decide : (0 : Int) < 1000), _, rfl, .inl ⟨_, rfl, _, _, rfl, rfl, (by decide : (0 : Int) < 1000), _, rfl, .inl ⟨_, rfl, _, _, rfl, rfl, (by decide : (0 : Int) < 1000), by show 3 ≤ sizeLine; decide, fun p np => ?_⟩⟩⟩⟩
        have sp := Same.upd (o := .lst (iV [r % 1000, (r * 48271 + 11) % 2147483647 % 1000, ((r * 48271 + 11) % 2147483647 * 69621 + r) % 2147483629 % 1000])) np
        refine ⟨D, p, _, _, rfl, rfl, sp _ _ hd, upd_same, by rw [List.length_map]; exact Nat.le_of_lt (small1000x (by simp only [List.length_cons, List.length_nil]; omega)), ?_⟩
        refine ⟨_, _, _, _, _, ds ++ [r % 1000, (r * 48271 + 11) % 2147483647 % 1000, ((r * 48271 + 11) % 2147483647 * 69621 + r) % 2147483629 % 1000], rfl, own_push (s1.trans sp) hD, by rw [upd_same, iV_app]; rfl, fun d hd => ?_, by rw [List.length_append]; simp only [List.length_cons, List.length_nil]; omega⟩
        rcases List.mem_append.mp hd with h | h
        · exact hb d h
        · simp only [List.mem_cons, List.mem_nil_iff, or_false] at h
          rcases h with rfl | rfl | rfl <;> exact emod_bd _
    · rintro σ H1 ⟨y3, y4, y5, y6, y7, ds, rfl, s1, hd, hb, hl⟩
      have hl : ds.length ≤ 60 * ns.length := by rw [List.length_map] at hl; exact hl
      exact ⟨_, rfl, k H1 D s1 hD ⟨ds, hd, hb, by omega⟩⟩
def sp__law_next (K : PySem.W.Frag) : Sp := fun vs H Q _ => ∃ dr : Addr, vs = [.ref dr] ∧ Drw H dr ∧ ∀ (H' : Hp) (d : Int), SameX dr H H' → Drw H' dr → 0 ≤ d → d < 1000 → Q (.int d) H'
theorem ok__law_next {f : Addr} {fd : FuncData} (F : Fun K "_law_next" "_law_next" s__law_next f fd) (N : Nm mg) :
    FnOk P w K mg base CX0 1 f fd ["draws"] (sp__law_next K) := by
  refine F.ok sc__law_next (fun vs H Q E h => ?_) (fun cdv A outer s H vs Q E hr h => ?_)
  · obtain ⟨dr, rfl, _⟩ := h
    rfl
  · obtain ⟨dr, rfl, ⟨ds, hd, hb, hl⟩, k⟩ := h
    refine ⟨_, pss_cons (ps_if (pt_truth (pv 0) (by intro _; rfl)) (pss_one (ps_ret (pe_bm0 PySem.F.plainAttrs_list PySem.F.slot_list_pop PySem.F.type_list_pop mt_pop (pv 0)))) pss_nil)
      (pss_one (ps_ret pe_int)), ?_⟩
    refine ⟨.ref dr, rfl, !(iV ds).isEmpty, .inl ⟨_, .of hd, rfl⟩, ?_⟩
    cases e : ds.isEmpty with
    | true =>
      have : (!(iV ds).isEmpty) = false := by rw [List.isEmpty_map, e]; rfl
      rw [this]
      exact iteF (k H 0 (Same.refl _) ⟨ds, hd, hb, hl⟩ (by decide) (by decide))
    | false =>
      have ee : (!(iV ds).isEmpty) = true := by rw [List.isEmpty_map, e]; rfl
      rw [ee]
      have pos : 0 < ds.length := by
        cases ds with
        | nil => cases e
        | cons _ _ => exact Nat.succ_pos _
      have lt : ds.length - 1 < ds.length := by omega
      refine iteT ⟨.ref dr, rfl, .inl ⟨rfl, _, .of hd⟩, dr, iV ds, .int (ds[ds.length - 1]), rfl, rfl, hd, ?_, ?_⟩
      · rw [List.length_map, List.getElem?_map, List.getElem?_eq_getElem lt]
        rfl
      · obtain ⟨b1, b2⟩ := hb _ (List.getElem_mem lt)
        refine k _ _ ?_ ⟨ds.dropLast, by rw [upd_same]; exact congrArg (fun l => some (HO.lst l)) (by simp [List.map_dropLast]), fun d h => hb d ((List.dropLast_sublist ds).subset h), by rw [List.length_dropLast]; omega⟩ b1 b2
        rw [SameX, hid_upd]
        exact Same.refl _

/-! ### what is told -/
def toldW (c : Int) (w : Wd) (wh : Nat) : PyData :=
  if wh = 0 then (if (0 : Int) ∈ w then .str "word" else .tuple (iD (invW w)))
  else if wh = 1 then (if (0 : Int) ∈ w then .str "word" else .tuple (iD (redW w)))
  else if c < 0 then .str "number" else if okW c w = true then .list (iD (sumL c.toNat w)) else .str "word"
def sp__law_told (K : PySem.W.Frag) : Sp := fun vs H Q _ => ∃ (a : Addr) (w : Wd) (c : Int) (wh : Nat), vs = [.int c, .ref a, .int (wh : Int)] ∧ SqT K H a (iV w) ∧ w.length ≤ 1000 ∧ c ≤ 1000 ∧ ∀ H' v, Same H H' → Dp K H' v (toldW c w wh) → Q v H'
theorem nat_eq {a b : Nat} : decide (V.int (a : Int) = V.int (b : Int)) = decide (a = b) := by
  by_cases e : a = b
  · subst e; simp
  · rw [decide_eq_false e, decide_eq_false]
    intro z
    injection z with z
    omega
theorem ok__law_told {f : Addr} {fd : FuncData} {f_sums : Addr} {d_sums : FuncData} {f_inverse_word : Addr} {d_inverse_word : FuncData} {f_cut_word : Addr} {d_cut_word : FuncData} {c_BadNumber : Addr} {c_NotWord : Addr} (F : Fun K "_law_told" "_law_told" s__law_told f fd) (N : Nm mg) (B_BadNumber : ExN K mg "BadNumber" c_BadNumber) (B_NotWord : ExN K mg "NotWord" c_NotWord)
    (t_sums : At K mg "sums" s_sums ["count", "word"] f_sums d_sums) (G_sums : FnOk P w K mg base (L2.CX P w) 2 f_sums d_sums ["count", "word"] (sp_sums K c_BadNumber c_NotWord))
    (t_inverse_word : At K mg "inverse_word" s_inverse_word ["word"] f_inverse_word d_inverse_word) (G_inverse_word : FnOk P w K mg base (L2.CX P w) 2 f_inverse_word d_inverse_word ["word"] (sp_inverse_word K c_NotWord))
    (t_cut_word : At K mg "cut_word" s_cut_word ["word"] f_cut_word d_cut_word) (G_cut_word : FnOk P w K mg base (L2.CX P w) 2 f_cut_word d_cut_word ["word"] (sp_cut_word K c_NotWord)) (m_BB : PySem.W.exmOne K (.ref c_BadNumber) (.ref c_BadNumber) = some true) (m_WB : PySem.W.exmOne K (.ref c_NotWord) (.ref c_BadNumber) = some false) (m_WW : PySem.W.exmOne K (.ref c_NotWord) (.ref c_NotWord) = some true) :
    FnOk P w K mg base CX0 3 f fd ["count", "word", "which"] (sp__law_told K) := by
  refine F.ok sc__law_told (fun vs H Q E h => ?_) (fun cdv A outer s H vs Q E hr h => ?_)
  · obtain ⟨a, w, c, wh, rfl, _⟩ := h
    rfl
  · obtain ⟨a, w, c, wh, rfl, ha, hl, hc, k⟩ := h
    refine ⟨_, pss_one (ps_try_cl (tb := fun W => tSeq (tIfS (tTest (tOp (rEq) (tVar 2) (L2.tC (.int 0)))) (tRet (tCallS (sp_inverse_word K c_NotWord) (WE W) (tCons (tVar 1) (tNil)))) (tNext)) (tSeq (tIfS (tTest (tOp (rEq) (tVar 2) (L2.tC (.int 1)))) (tRet (tCallS (sp_cut_word K c_NotWord) (WE W) (tCons (tVar 1) (tNil)))) (tNext)) (tRet (tCallS (sp_sums K c_BadNumber c_NotWord) (WE W) (tCons (tVar 0) (tCons (tVar 1) (tNil))))))) (Wo := fun _ _ _ _ => False) (cs := [⟨.ref c_BadNumber, none, fun a cls d => tRet (L2.tC (.str "number"))⟩, ⟨.ref c_NotWord, none, fun a cls d => tRet (L2.tC (.str "word"))⟩]) rfl rfl sc__law_told.nd takes0
      (fun W pn xe tk _ => pss_cons (ps_if (pt_cmpR op_eq (pv 2) pe_int (nomark _)) (pss_one (ps_ret (by exact (pe_callS G_inverse_word (hr.mono (by decide)) rfl t_inverse_word.g t_inverse_word.F.kp t_inverse_word.b (fun σ => passAt tk σ) (pa_cons (pv 1) pa_nil))))) pss_nil)
      (pss_cons (ps_if (pt_cmpR op_eq (pv 2) pe_int (nomark _)) (pss_one (ps_ret (by exact (pe_callS G_cut_word (hr.mono (by decide)) rfl t_cut_word.g t_cut_word.F.kp t_cut_word.b (fun σ => passAt tk σ) (pa_cons (pv 1) pa_nil))))) pss_nil)
      (pss_one (ps_ret (by exact (pe_callS G_sums (hr.mono (by decide)) rfl t_sums.g t_sums.F.kp t_sums.b (fun σ => passAt tk σ) (pa_cons (pv 0) (pa_cons (pv 1) pa_nil))))))))
      (.bare ⟨rfl, by decide, .inl B_BadNumber.g⟩ (fun a ob cls d pn hz hf => pss_one (ps_ret pe_str)) (.bare ⟨rfl, by decide, .inl B_NotWord.g⟩ (fun a ob cls d pn hz hf => pss_one (ps_ret pe_str)) .nil))), ?_⟩
    refine ⟨_, rfl, rfl, _, rfl, ?_⟩
    rw [show decide (V.int (wh : Int) = V.int 0) = decide (wh = 0) from nat_eq (b := 0)]
    refine ite2 (fun c0 => ?_) (fun c0 => ?_)
    · have c0 : wh = 0 := of_decide_eq_true c0
      refine ⟨_, rfl, a, w, rfl, ha, hl, fun n0 H' p s hp => k H' _ s ?_, fun h0 => ⟨false, m_WB, (fun z => by cases z), fun _ => ⟨true, m_WW, fun _ x hx => k H (.str "word") (Same.refl H) ?_, fun z => by cases z⟩⟩⟩
      · unfold toldW
        rw [if_pos c0, if_neg n0]
        exact dp_ti (.of hp)
      · unfold toldW
        rw [if_pos c0, if_pos h0]
        exact .str _
    · have c0 : ¬ wh = 0 := fun z => c0 (decide_eq_true z)
      refine ⟨_, rfl, rfl, _, rfl, ?_⟩
      rw [show decide (V.int (wh : Int) = V.int 1) = decide (wh = 1) from nat_eq (b := 1)]
      refine ite2 (fun c1 => ?_) (fun c1 => ?_)
      · have c1 : wh = 1 := of_decide_eq_true c1
        refine ⟨_, rfl, a, w, rfl, ha, hl, fun n0 H' p s hp => k H' _ s ?_, fun h0 => ⟨false, m_WB, (fun z => by cases z), fun _ => ⟨true, m_WW, fun _ x hx => k H (.str "word") (Same.refl H) ?_, fun z => by cases z⟩⟩⟩
        · unfold toldW
          rw [if_neg c0, if_pos c1, if_neg n0]
          exact dp_ti (.of hp)
        · unfold toldW
          rw [if_neg c0, if_pos c1, if_pos h0]
          exact .str _
      · have c1 : ¬ wh = 1 := fun z => c1 (decide_eq_true z)
        refine ⟨_, rfl, _, rfl, a, w, c, rfl, ha, hl, hc, fun cn => ⟨true, m_BB, fun _ x hx => k H (.str "number") (Same.refl H) ?_, fun z => by cases z⟩, fun cp e H' s => ⟨false, m_WB, (fun z => by cases z), fun _ => ⟨true, m_WW, fun _ x hx => k H' (.str "word") s ?_, fun z => by cases z⟩⟩, fun cp e H' p s hp => k H' _ s ?_⟩
        · unfold toldW
          rw [if_neg c0, if_neg c1, if_pos cn]
          exact .str _
        · unfold toldW
          rw [if_neg c0, if_neg c1, if_neg (by omega), if_neg (by rw [e]; decide)]
          exact .str _
        · unfold toldW
          rw [if_neg c0, if_neg c1, if_neg (by omega), if_pos e]
          exact .lst (.of hp) (dp_ints _)
/-! ### cutting at drawn places -/
def sp__law_cut (K : PySem.W.Frag) : Sp := fun vs H Q _ => ∃ (a dr : Addr) (w : Wd), vs = [.ref a, .ref dr] ∧ SqT K H a (iV w) ∧ Drw H dr ∧ w.length ≤ 100 ∧ ∀ H' p, SameX dr H H' → Drw H' dr → SqT K H' p (iV (redW w)) → Q (.ref p) H'
theorem cut_at {u : Wd} {i : Nat} (hi : i + 1 < u.length) (h : u[i] + u[i + 1] = 0) : redW (u.take i ++ u.drop (i + 2)) = redW u := by
  have e : u = u.take i ++ u[i] :: -u[i] :: u.drop (i + 2) := by
    have e1 : u.drop i = u[i] :: u.drop (i + 1) := List.drop_eq_getElem_cons (by omega)
    have e2 : u.drop (i + 1) = u[i + 1] :: u.drop (i + 2) := List.drop_eq_getElem_cons hi
    have e3 : u[i + 1] = -u[i] := by omega
    rw [e3] at e2
    rw [← e2, ← e1, List.take_append_drop]
  have := red_two (u.take i) (u.drop (i + 2)) u[i]
  rw [← e] at this
  exact this.symm
theorem ok__law_cut {f : Addr} {fd : FuncData} {f__law_next : Addr} {d__law_next : FuncData} (F : Fun K "_law_cut" "_law_cut" s__law_cut f fd) (N : Nm mg)
    (t__law_next : At K mg "_law_next" s__law_next ["draws"] f__law_next d__law_next) (G__law_next : FnOk P w K mg base CX0 1 f__law_next d__law_next ["draws"] (sp__law_next K)) :
    FnOk P w K mg base CX0 2 f fd ["word", "draws"] (sp__law_cut K) := by
  refine F.ok sc__law_cut (fun vs H Q E h => ?_) (fun cdv A outer s H vs Q E hr h => ?_)
  · obtain ⟨a, dr, w, rfl, _⟩ := h
    rfl
  · obtain ⟨a, dr, w, rfl, ha, hd, hl, k⟩ := h
    refine ⟨_, pss_cons (ps_for PassesOwn.never rfl (pi_range1 (by rfl) N.n_range (pa_cons (pe_callB call_len_seq (by rfl) N.n_len PySem.boot_len (pa_cons (pv 0) pa_nil)) pa_nil)) (pg_name (i := 2) sc__law_cut.nd rfl (.inl rfl)) (pss_cons (ps_setLc (i := 4) (own := [("at", 3)]) (g := gName 3) (tt := tTest (tOp (rEq) (tOp (rI0 fun i j => .int (i + j)) (tOp (rIxT K) (tVar 0) (tVar 3)) (tOp (rIxT K) (tVar 0) (tOp (rI0 fun i j => .int (i + j)) (tVar 3) (L2.tC (.int 1))))) (L2.tC (.int 0)))) (te := tVar 3) rfl sc__law_cut.nd rfl rfl (sw_true rfl rfl rfl (by decide +kernel)) (pi_range1 (by rfl) N.n_range (pa_cons (pe_op op_sub (pe_callB call_len_seq (by rfl) N.n_len PySem.boot_len (pa_cons (pv 0) pa_nil)) pe_int) pa_nil)) (blkOk_by (N := n__law_cut) (sc := defScope s__law_cut) (by decide +kernel)) (fun _ _ _ _ _ => (pg_name (i := 3) sc__law_cut.nd rfl (.inl rfl))) (fun _ _ _ _ _ => (pts_one (pt_cmpR op_eq (pe_op op_add (pe_ix ix_tup (pv 0) (pv 3) (fun _ _ => rfl)) (pe_ix ix_tup (pv 0) (pe_op op_add (pv 3) pe_int) (fun _ _ => rfl))) pe_int (nomark _)))) (fun _ _ _ _ _ => (pv 3)))
      (pss_cons (ps_if (pt_not (pt_truth (pv 4) (by intro _; rfl))) (pss_one (ps_break)) pss_nil)
      (pss_cons (ps_set (i := 3) sc__law_cut.nd rfl (.inl rfl) (pe_ix ix_list (pv 4) (pe_op op_mod (pe_callTy call_int1 (by rfl) N.n_int (by decide +kernel) (pa_cons (pe_call G__law_next (hr.mono (by decide)) rfl t__law_next.g t__law_next.F.kp t__law_next.b .nil pass0 (pa_cons (pv 1) pa_nil)) pa_nil)) (pe_callB call_len_seq (by rfl) N.n_len PySem.boot_len (pa_cons (pv 4) pa_nil))) (fun _ _ => rfl)))
      (pss_one (ps_set (i := 0) sc__law_cut.nd rfl (.inr rfl) (pe_op op_catS (pe_slice sl_tupS (pv 0) po_none (po_some (pv 3))) (pe_slice sl_tupS (pv 0) (po_some (pe_op op_add (pv 3) pe_int)) po_none))))))))
      (pss_one (ps_ret (pv 0))), ?_⟩
    refine ⟨.ref a, rfl, a, _, rfl, .inr ha, _, rfl, by rw [List.length_map]; omega, by rw [List.length_map]; omega, ?_⟩
    rw [Int.toNat_natCast, List.length_map]
    refine for_it (walk_range (lo := 0)) (fun i σ H' => ∃ (p : Addr) (u : Wd) (y2 y3 y4 : Option V), σ = [some (.ref p), some (.ref dr), y2, y3, y4] ∧ SameX dr H H' ∧ Drw H' dr ∧ SqT K H' p (iV u) ∧ redW u = redW w ∧ u.length + 2 * i ≤ w.length)
      ⟨a, w, none, none, none, rfl, Same.refl _, hd, ha, rfl, Nat.le_refl _⟩ (fun _ _ _ _ _ => trivial) ?_ ?_
    · rintro i x σ H1 H2 hi ⟨p, u, y2, y3, y4, rfl, s1, d1, hp, er, lu⟩ ⟨rfl, rfl⟩
      have hi : i < w.length := hi
      refine ⟨.ref p, rfl, p, _, rfl, .inr hp, _, _, rfl, rfl, _, rfl, by rw [List.length_map]; omega, by rw [List.length_map]; omega, ?_⟩
      rw [List.length_map]
      intro D hD
      refine lc_filt (walk_range (lo := 0)) RInt lasts_int (fun j => if u.getD j 0 + u.getD (j + 1) 0 = 0 then some (j : Int) else none) hD (by omega) (fun _ _ => trivial) ?_ ?_
      · rintro j x H3 H4 hj s3 ⟨rfl, rfl⟩ Nx k1 k2
        have hj : j + 1 < u.length := by omega
        have ej : (0 + (j : Int)).toNat = j := by omega
        have ej1 : (0 + (j : Int) + 1).toNat = j + 1 := by omega
        refine ⟨rfl, .ref p, rfl, _, rfl, p, _, _, _, rfl, rfl, s3.tup hp, getD_at (by omega) (by omega), .ref p, rfl, _, rfl, _, _, rfl, rfl, p, _, _, _, rfl, rfl, s3.tup hp, getD_at (by omega) (by omega), _, _, rfl, rfl, rfl, _, rfl, ?_⟩
        rw [ej, ej1]
        by_cases c : u.getD j 0 + u.getD (j + 1) 0 = 0
        · rw [decide_eq_true (congrArg V.int c)]
          refine iteT ⟨_, rfl, k1 _ _ (j : Int) (if_pos c) (Same.refl _) ?_⟩
          show V.int _ = V.int _
          rw [Int.zero_add]
        · rw [decide_eq_false fun z => c (by injection z)]
          exact iteF (k2 _ (if_neg c) (Same.refl _))
      · intro H3 ws s3 hd3 pp
        have ew := paired_int pp
        subst ew
        have d3 := d1.to s3
        have nD : D ≠ dr := d1.ne_new hD
        have sx3 : SameX dr H H3 := s1.trans (Same.hid s3)
        generalize hP : (List.range (((u.length : Nat) : Int) - 1).toNat).filterMap (fun j => if u.getD j 0 + u.getD (j + 1) 0 = 0 then some (j : Int) else none) = P at hd3
        refine ⟨.ref D, rfl, !(iV P).isEmpty, .inl ⟨_, .of hd3, rfl⟩, ?_⟩
        cases eP : P with
        | nil =>
          refine iteT ?_
          have hc : Cut u := fun j hj z => by
            have : ((j : Nat) : Int) ∈ P := by
              rw [← hP]
              refine List.mem_filterMap.mpr ⟨j, List.mem_range.mpr (by omega), if_pos ?_⟩
              rw [List.getD_eq_getElem?_getD, List.getElem?_eq_getElem (by omega), List.getD_eq_getElem?_getD, List.getElem?_eq_getElem hj]
              exact z
            rw [eP] at this
            cases this
          refine ⟨_, rfl, k H3 p sx3 d3 ?_⟩
          rw [← er, red_of_cut hc]
          exact s3.tup hp
        | cons p0 pr =>
          rw [eP] at hd3
          have pos : 0 < (p0 :: pr).length := Nat.succ_pos _
          refine iteF ⟨.ref D, rfl, .ref dr, rfl, dr, rfl, d3, fun H4 z s4 d4 z0 z1 => .inl ⟨_, rfl, .ref D, rfl, D, iV (p0 :: pr), rfl, .inl (.of (get_x s4 nD hd3)), _, _, rfl, rfl, by rw [List.length_map]; exact Int.ofNat_lt.mpr pos, ?_⟩⟩
          rw [List.length_map]
          have b0 : 0 ≤ z % ((p0 :: pr).length : Int) := Int.emod_nonneg _ (by omega)
          have b1 : z % ((p0 :: pr).length : Int) < ((p0 :: pr).length : Int) := Int.emod_lt_of_pos _ (by omega)
          obtain ⟨m, hm⟩ := Int.eq_ofNat_of_zero_le b0
          rw [hm] at b1
          have lm : m < (p0 :: pr).length := by omega
          have mem : (p0 :: pr)[m] ∈ (List.range (((u.length : Nat) : Int) - 1).toNat).filterMap (fun j => if u.getD j 0 + u.getD (j + 1) 0 = 0 then some (j : Int) else none) := by
            rw [hP, eP]
            exact List.getElem_mem lm
          obtain ⟨q, hq, eq⟩ := List.mem_filterMap.mp mem
          have hq := List.mem_range.mp hq
          have hq1 : q + 1 < u.length := by omega
          have eq2 : u.getD q 0 + u.getD (q + 1) 0 = 0 ∧ (p0 :: pr)[m] = (q : Int) := by
            by_cases c : u.getD q 0 + u.getD (q + 1) 0 = 0
            · rw [if_pos c] at eq
              exact ⟨c, (Option.some.inj eq).symm⟩
            · rw [if_neg c] at eq
              cases eq
          obtain ⟨e1, e2⟩ := eq2
          rw [List.getD_eq_getElem?_getD, List.getElem?_eq_getElem (by omega), List.getD_eq_getElem?_getD, List.getElem?_eq_getElem hq1] at e1
          have hp4 : SqT K H4 p (iV u) := sqt_x d3 s4 (s3.tup hp)
          refine ⟨D, iV (p0 :: pr), z % ((p0 :: pr).length : Int), .int (q : Int), rfl, rfl, .of (get_x s4 nD hd3), by rw [hm]; exact atI_nat (by rw [List.getElem?_map, List.getElem?_eq_getElem lm, e2]; rfl), ?_⟩
          refine ⟨.ref p, rfl, _, rfl, (q : Int), rfl, p, _, rfl, hp4, fun H5 p5 s5 hp5 => ?_⟩
          have hp54 := s5.tup hp4
          refine ⟨.ref p, rfl, _, rfl, _, _, rfl, rfl, _, rfl, p, _, rfl, hp54, fun H6 p6 s6 hp6 => ?_⟩
          rw [cut_to u q (by omega)] at hp5
          have eq3 : (q : Int) + 2 = ((q + 2 : Nat) : Int) := by omega
          have hp6 : SqT K H6 p6 (iV (u.drop (q + 2))) := by
            have := cut_from u (q + 2) (by omega)
            rw [← this, ← eq3]
            exact hp6
          refine ⟨p5, p6, _, _, rfl, rfl, s6.tup hp5, hp6, by rw [List.length_map, List.length_map, List.length_take, List.length_drop]; exact Nat.le_of_lt (small1000x (by omega)), fun H7 p7 s7 hp7 => ?_⟩
          rw [← iV_app] at hp7
          have s47 := s5.trans (s6.trans s7)
          refine ⟨p7, u.take q ++ u.drop (q + 2), _, _, _, rfl, sx3.trans (s4.trans (Same.hid s47)), d4.to s47, hp7, ?_, by rw [List.length_append, List.length_take, List.length_drop]; omega⟩
          rw [cut_at hq1 e1, er]
    · rintro σ H1 ⟨p, u, y2, y3, y4, rfl, s1, d1, hp, er, lu⟩
      refine ⟨_, rfl, k H1 p s1 d1 ?_⟩
      have hu : u = [] := List.length_eq_zero_iff.mp (by omega)
      rw [← er, hu]
      rw [hu] at hp
      exact hp
end
end L2.Px

namespace L2.Px
open PySem PySem.Spec PyProof.Rows
/-! ### what the law holds -/
structure WS (K : PySem.W.Frag) (H : Hp) (dr pw pb : Addr) (w : Wd) (n : Nat) : Prop where
  d : Drw H dr
  tw : SqT K H pw (iV w)
  tb : SqT K H pb (iV (invW w))
  tf : ∃ o, H pw = some (.frz o (.tup (iV w))) ∧ o.dict = none
  l : w.length ≤ 10
  x : ∀ x ∈ w, x ≠ 0 ∧ absI x ≤ n
  n1 : 1 ≤ n
  n4 : n ≤ 4
theorem WS.to {K : PySem.W.Frag} {H H' : Hp} {dr pw pb : Addr} {w : Wd} {n : Nat} (h : WS K H dr pw pb w n) (s : Same H H') : WS K H' dr pw pb w n := ⟨h.d.to s, s.tup h.tw, s.tup h.tb, let ⟨o, e, z⟩ := h.tf; ⟨o, s _ _ e, z⟩, h.l, h.x, h.n1, h.n4⟩
theorem WS.tox {K : PySem.W.Frag} {H H' : Hp} {dr pw pb : Addr} {w : Wd} {n : Nat} (h : WS K H dr pw pb w n) (s : SameX dr H H') (d : Drw H' dr) : WS K H' dr pw pb w n := ⟨d, sqt_x h.d s h.tw, sqt_x h.d s h.tb, let ⟨o, e, z⟩ := h.tf; ⟨o, get_x s (fun q => by obtain ⟨ds, e2, _⟩ := h.d; rw [q, e2] at e; cases e) e, z⟩, h.l, h.x, h.n1, h.n4⟩
theorem sml_ti {ns : List Int} (hl : ns.length ≤ 1000) (hb : ∀ n ∈ ns, n.natAbs < 1000000000) : Sml (.tuple (iD ns)) := by
  refine ⟨sm_ints ns hb, ?_, ?_⟩
  · show PyData.depthAll (iD ns) + 1 ≤ 60
    rw [dep_ints]
    decide
  · have := wt_ints ns hb
    show PyData.weightAll (iD ns) ≤ 700000
    omega
theorem sml_li {ns : List Int} (hl : ns.length ≤ 1000) (hb : ∀ n ∈ ns, n.natAbs < 1000000000) : Sml (.list (iD ns)) := by
  refine ⟨sm_ints ns hb, ?_, ?_⟩
  · show PyData.depthAll (iD ns) + 1 ≤ 60
    rw [dep_ints]
    decide
  · have := wt_ints ns hb
    show PyData.weightAll (iD ns) ≤ 700000
    omega
theorem abs_small {x : Int} {n : Nat} (h : absI x ≤ n) (h4 : n ≤ 4) : x.natAbs < 1000000000 := by
  unfold absI at h
  split at h <;> omega
theorem okW_of {w : Wd} {n : Nat} (h : ∀ x ∈ w, x ≠ 0 ∧ absI x ≤ n) : okW n w = true := by
  refine List.all_eq_true.mpr fun x hx => ?_
  obtain ⟨h1, h2⟩ := h x hx
  show (decide (x ≠ 0) && decide (absI x ≤ n)) = true
  rw [decide_eq_true h1, decide_eq_true h2]
  rfl
theorem inv_mem {w : Wd} {x : Int} (h : x ∈ invW w) : -x ∈ w := by
  obtain ⟨y, hy, rfl⟩ := List.mem_map.mp h
  rw [Int.neg_neg]
  exact List.mem_reverse.mp hy
theorem WS.no0 {K : PySem.W.Frag} {H : Hp} {dr pw pb : Addr} {w : Wd} {n : Nat} (h : WS K H dr pw pb w n) : (0 : Int) ∉ w := fun z => (h.x 0 z).1 rfl
theorem WS.sml {K : PySem.W.Frag} {H : Hp} {dr pw pb : Addr} {w : Wd} {n : Nat} (h : WS K H dr pw pb w n) : Sml (.tuple (iD (invW w))) :=
  sml_ti (by unfold invW; rw [List.length_map, List.length_reverse]; have := h.l; omega) fun x hx => by
    have := abs_small (h.x _ (inv_mem hx)).2 h.n4
    rw [Int.natAbs_neg] at this
    exact this
theorem WS.smlr {K : PySem.W.Frag} {H : Hp} {dr pw pb : Addr} {w : Wd} {n : Nat} (h : WS K H dr pw pb w n) : Sml (.tuple (iD (redW w))) :=
  sml_ti (by
    have : ∀ (l s : Wd), (l.foldl stepW s).length ≤ s.length + l.length := by
      intro l
      induction l with
      | nil => intro s; exact Nat.le_refl _
      | cons y l ih =>
        intro s
        have h1 := ih (stepW s y)
        have h2 : (stepW s y).length ≤ s.length + 1 := by
          unfold stepW
          split
          · rw [List.length_dropLast]; omega
          · rw [List.length_append]; exact Nat.le_refl _
        rw [List.foldl_cons, List.length_cons]
        omega
    have := this w []
    have hl := h.l
    unfold redW
    simp only [List.length_nil] at this
    omega) fun x hx => abs_small (h.x _ (mem_red hx)).2 h.n4
theorem WS.smls {K : PySem.W.Frag} {H : Hp} {dr pw pb : Addr} {w : Wd} {n : Nat} (h : WS K H dr pw pb w n) : Sml (.list (iD (sumL n w))) :=
  sml_li (by unfold sumL; rw [List.length_map, List.length_range]; have := h.n4; omega) fun x hx => by
    obtain ⟨k, _, rfl⟩ := List.mem_map.mp hx
    have h1 := List.count_le_length (a := (k : Int) + 1) (l := w)
    have h2 := List.count_le_length (a := 0 - (k : Int) - 1) (l := w)
    have hl := h.l
    omega
def wordP (w : Wd) (q : Nat) (x : Int) : Wd := w.take q ++ [x] ++ w.drop q
theorem told0 {n : Nat} {w : Wd} (h : (0 : Int) ∉ w) : toldW n w 0 = .tuple (iD (invW w)) := by
  unfold toldW
  rw [if_pos rfl, if_neg h]
theorem told1 {n : Int} {w : Wd} (h : (0 : Int) ∉ w) : toldW n w 1 = .tuple (iD (redW w)) := by
  unfold toldW
  rw [if_neg (by decide), if_pos rfl, if_neg h]
theorem told2 {n : Nat} {w : Wd} (h : okW n w = true) : toldW n w 2 = .list (iD (sumL n w)) := by
  unfold toldW
  rw [if_neg (by decide), if_neg (by decide), if_neg (by omega), if_pos h, Int.toNat_natCast]
theorem told_bad {n : Nat} {w : Wd} {wh : Nat} (hw : wh < 3) (h : (0 : Int) ∈ w) : toldW n w wh = .str "word" := by
  have ok : ¬ okW n w = true := fun z => by
    have := List.all_eq_true.mp z 0 h
    simp at this
  unfold toldW
  by_cases c0 : wh = 0
  · rw [if_pos c0, if_pos h]
  · by_cases c1 : wh = 1
    · rw [if_neg c0, if_pos c1, if_pos h]
    · rw [if_neg c0, if_neg c1, if_neg (by omega), if_neg ok]
theorem told_out {n : Nat} {w : Wd} {x : Int} (h : x ∈ w) (hx : (n : Int) < absI x) : toldW n w 2 = .str "word" := by
  have ok : ¬ okW n w = true := fun z => by
    have := List.all_eq_true.mp z x h
    have this : (decide (x ≠ 0) && decide (absI x ≤ n)) = true := this
    rw [Bool.and_eq_true, decide_eq_true_eq, decide_eq_true_eq] at this
    omega
  unfold toldW
  rw [if_neg (by decide), if_neg (by decide), if_neg (by omega), if_neg ok]
theorem told_neg {w : Wd} : toldW (-1) w 2 = .str "number" := by
  unfold toldW
  rw [if_neg (by decide), if_neg (by decide), if_pos (by decide)]
theorem dp_str {K : PySem.W.Frag} {H : Hp} {v : V} {d : PyData} {x : Str} (h : Dp K H v d) (e : d = .str x) : v = .str x := by
  subst e
  cases h
  rfl
theorem mul_l {i j : Int} (h1 : -(2 ^ 64) < i) (h2 : i < 2 ^ 64) : CMul i j := .inl ⟨h1, h2⟩
section
variable {P : Program} {w : World} {K : PySem.W.Frag} {mg : Str → Option Value} {base : Heap}
abbrev PW7 (K : PySem.W.Frag) (σ : St) (H : Hp) : Prop := ∃ (a dr L pw pb : Addr) (w : Wd) (n : Nat) (y4 y5 y6 : Option V), σ = [some (.ref a), some (.ref dr), some (.int (n : Int)), some (.ref L), y4, y5, y6, some (.ref pw), some (.ref pb), none, none, none, none, none, none] ∧ WS K H dr pw pb w n
abbrev PW10 (K : PySem.W.Frag) (σ : St) (H : Hp) : Prop := ∃ (a dr L pw pb ps : Addr) (w : Wd) (n : Nat) (y4 y5 y6 : Option V), σ = [some (.ref a), some (.ref dr), some (.int (n : Int)), some (.ref L), y4, y5, y6, some (.ref pw), some (.ref pb), some (.ref ps), none, none, none, none, none] ∧ WS K H dr pw pb w n ∧ SqT K H ps (iV (redW w))
abbrev PW12 (K : PySem.W.Frag) (σ : St) (H : Hp) : Prop := ∃ (a dr L pw pb ps : Addr) (w : Wd) (n : Nat) (y4 y5 y6 y10 : Option V), σ = [some (.ref a), some (.ref dr), some (.int (n : Int)), some (.ref L), y4, y5, y6, some (.ref pw), some (.ref pb), some (.ref ps), y10, none, none, none, none] ∧ WS K H dr pw pb w n
abbrev PW15 (K : PySem.W.Frag) (σ : St) (H : Hp) : Prop := ∃ (a dr L pw pb ps p : Addr) (w : Wd) (n q : Nat) (y4 y5 y6 y10 y13 : Option V), σ = [some (.ref a), some (.ref dr), some (.int (n : Int)), some (.ref L), y4, y5, y6, some (.ref pw), some (.ref pb), some (.ref ps), y10, some (.int (q : Int)), some (.ref p), y13, none] ∧ WS K H dr pw pb w n ∧ q ≤ w.length ∧ SqT K H p (iV (wordP w q 0))
def sp_law (K : PySem.W.Frag) : Sp := fun vs H Q _ => ∃ (a : Addr) (ns : List Int), vs = [.ref a] ∧ SqL K H a (iV ns) ∧ ns.length ≤ 63 ∧ ∀ H', Q (.bl true) H'
theorem ok_law {f : Addr} {fd : FuncData} {f__law_draws : Addr} {d__law_draws : FuncData} {f__law_cut : Addr} {d__law_cut : FuncData} {f__law_told : Addr} {d__law_told : FuncData} {f__law_next : Addr} {d__law_next : FuncData} (F : Fun K "law" "law" s_law f fd) (N : Nm mg)
    (t__law_draws : At K mg "_law_draws" s__law_draws ["script"] f__law_draws d__law_draws) (G__law_draws : FnOk P w K mg base CX0 2 f__law_draws d__law_draws ["script"] (sp__law_draws K))
    (t__law_cut : At K mg "_law_cut" s__law_cut ["word", "draws"] f__law_cut d__law_cut) (G__law_cut : FnOk P w K mg base CX0 2 f__law_cut d__law_cut ["word", "draws"] (sp__law_cut K))
    (t__law_told : At K mg "_law_told" s__law_told ["count", "word", "which"] f__law_told d__law_told) (G__law_told : FnOk P w K mg base CX0 3 f__law_told d__law_told ["count", "word", "which"] (sp__law_told K))
    (t__law_next : At K mg "_law_next" s__law_next ["draws"] f__law_next d__law_next) (G__law_next : FnOk P w K mg base CX0 1 f__law_next d__law_next ["draws"] (sp__law_next K)) :
    GFn P w K mg base 4 f fd ["script"] (sp_law K) := by
  refine gfn_of F sc_law (fun vs H Q E h => ?_) (fun cdv A outer s H vs Q E hg hr h => ?_)
  · obtain ⟨a, ns, rfl, _⟩ := h
    rfl
  · obtain ⟨a, ns, rfl, hS, hl, k⟩ := h
    have hu := hr.units
    -- the last part
    refine cut2 ((defBody s_law).drop 15) (PW15 K) ?_ fun u15 p15 q15 => ?_
    · refine ⟨_, pss_cons (ps_set (i := 14) sc_law.nd rfl (.inl rfl) (pe_op op_catS (pe_op op_catS (pe_slice sl_tupS (pv 7) po_none (po_some (pv 11))) (pe_tup (pa_cons (pe_op op_add (pv 2) pe_int) pa_nil))) (pe_slice sl_tupS (pv 7) (po_some (pv 11)) po_none)))
      (pss_cons (ps_if (PW.pt (pw_or (pt_cmpR op_ne (pe_call G__law_told (hr.mono (by decide)) rfl t__law_told.g t__law_told.F.kp t__law_told.b .nil pass0 (pa_cons (pv 2) (pa_cons (pv 14) (pa_cons pe_int pa_nil)))) pe_str (nomark _)) (pw_or1 (pt_cmpR op_ne (pe_call G__law_told (hr.mono (by decide)) rfl t__law_told.g t__law_told.F.kp t__law_told.b .nil pass0 (pa_cons (pe_un un_neg pe_int) (pa_cons (pv 12) (pa_cons pe_int pa_nil)))) pe_str (nomark _))))) (pss_one (ps_ret pe_bl)) pss_nil)
      (pss_one (ps_ret (pe_cmpR op_eq (pe_call G__law_told (hr.mono (by decide)) rfl t__law_told.g t__law_told.F.kp t__law_told.b .nil pass0 (pa_cons (pv 2) (pa_cons (pe_op op_catS (pe_op op_catS (pe_slice sl_tupS (pv 7) po_none (po_some (pv 11))) (pe_tup (pa_cons (pe_op op_sub (pe_un un_neg pe_int) (pv 2)) pa_nil))) (pe_slice sl_tupS (pv 7) (po_some (pv 11)) po_none)) (pa_cons pe_int pa_nil)))) pe_str (nomark _))))), ?_⟩
      rintro σ H1 ⟨a, dr, L, pw, pb, ps, p, w, n, q, y4, y5, y6, y10, y13, rfl, ws, hq, hp⟩
      have lq : (iV w).length = w.length := List.length_map ..
      refine ⟨.ref pw, rfl, _, rfl, (q : Int), rfl, pw, _, rfl, ws.tw, fun H2 p2 s2 hp2 => ⟨_, rfl, _, _, rfl, rfl, by show 1 ≤ sizeLine; decide, fun t ht => ?_⟩⟩
      have st := Same.upd (o := .tup [V.int ((n : Int) + 1)]) ht
      rw [cut_to w q hq] at hp2
      refine ⟨p2, t, _, _, rfl, rfl, st.tup hp2, .of upd_same, by rw [List.length_map, List.length_take]; exact Nat.le_of_lt (small1000x (by simp only [List.length_cons, List.length_nil]; have := ws.l; omega)), fun H3 p3 s3 hp3 => ?_⟩
      have ws3 := ws.to (s2.trans (st.trans s3))
      refine ⟨.ref pw, rfl, _, rfl, (q : Int), rfl, pw, _, rfl, ws3.tw, fun H4 p4 s4 hp4 => ?_⟩
      rw [cut_from w q hq] at hp4
      refine ⟨p3, p4, _, _, rfl, rfl, s4.tup hp3, hp4, by rw [List.length_append, List.length_map, List.length_take, List.length_map, List.length_drop]; exact Nat.le_of_lt (small1000x (by simp only [List.length_cons, List.length_nil]; have := ws.l; omega)), fun H5 p5 s5 hp5 => ?_⟩
      have hp5 : SqT K H5 p5 (iV (wordP w q ((n : Int) + 1))) := by
        unfold wordP
        rw [iV_app, iV_app]
        exact hp5
      have S5 := s2.trans (st.trans (s3.trans (s4.trans s5)))
      have ws5 := ws.to S5
      have lw : ∀ x, (wordP w q x).length ≤ 1000 := fun x => by
        unfold wordP
        rw [List.length_append, List.length_append, List.length_take, List.length_drop]
        simp only [List.length_cons, List.length_nil]
        have := ws.l
        omega
      have mw : ∀ x, x ∈ wordP w q x := fun x => List.mem_append_left _ (List.mem_append_right _ (List.mem_singleton.mpr rfl))
      have n4 := ws.n4
      have n1 := ws.n1
      refine ⟨_, rfl, .ref p5, rfl, p5, wordP w q ((n : Int) + 1), (n : Int), 2, rfl, hp5, lw _, by omega, fun H6 v s6 hv => ?_⟩
      have ev := dp_str hv (told_out (mw _) (by unfold absI; rw [if_neg (by omega)]; omega))
      subst ev
      refine ⟨rfl, _, rfl, iteNS rfl ?_⟩
      refine ⟨1, rfl, .ref p, rfl, p, wordP w q 0, -1, 2, rfl, (S5.trans s6).tup hp, lw _, by omega, fun H7 v s7 hv => ?_⟩
      have ev := dp_str hv told_neg
      subst ev
      refine ⟨rfl, _, rfl, iteNS rfl ?_⟩
      have ws7 := ws5.to (s6.trans s7)
      refine ⟨_, rfl, .ref pw, rfl, _, rfl, (q : Int), rfl, pw, _, rfl, ws7.tw, fun H8 p8 s8 hp8 => ⟨1, rfl, _, rfl, _, _, rfl, rfl, by show 1 ≤ sizeLine; decide, fun t ht => ?_⟩⟩
      have st := Same.upd (o := .tup [V.int (-1 - (n : Int))]) ht
      rw [cut_to w q hq] at hp8
      refine ⟨p8, t, _, _, rfl, rfl, st.tup hp8, .of upd_same, by rw [List.length_map, List.length_take]; exact Nat.le_of_lt (small1000x (by simp only [List.length_cons, List.length_nil]; have := ws.l; omega)), fun H9 p9 s9 hp9 => ?_⟩
      have ws9 := ws7.to (s8.trans (st.trans s9))
      refine ⟨.ref pw, rfl, _, rfl, (q : Int), rfl, pw, _, rfl, ws9.tw, fun H10 p10 s10 hp10 => ?_⟩
      rw [cut_from w q hq] at hp10
      refine ⟨p9, p10, _, _, rfl, rfl, s10.tup hp9, hp10, by rw [List.length_append, List.length_map, List.length_take, List.length_map, List.length_drop]; exact Nat.le_of_lt (small1000x (by simp only [List.length_cons, List.length_nil]; have := ws.l; omega)), fun H11 p11 s11 hp11 => ?_⟩
      have hp11 : SqT K H11 p11 (iV (wordP w q (-1 - (n : Int)))) := by
        unfold wordP
        rw [iV_app, iV_app]
        exact hp11
      refine ⟨p11, wordP w q (-1 - (n : Int)), (n : Int), 2, rfl, hp11, lw _, by omega, fun H12 v s12 hv => ?_⟩
      have ev := dp_str hv (told_out (mw _) (by unfold absI; rw [if_pos (by omega)]; omega))
      subst ev
      exact ⟨rfl, k H12⟩
    refine cut2 ((defBody s_law).drop 12) (PW12 K) ?_ fun u12 p12 q12 => ?_
    · refine ⟨_, pss_cons (ps_set (i := 11) sc_law.nd rfl (.inl rfl) (pe_op op_mod (pe_callTy call_int1 (by rfl) N.n_int (by decide +kernel) (pa_cons (pe_call G__law_next (hr.mono (by decide)) rfl t__law_next.g t__law_next.F.kp t__law_next.b .nil pass0 (pa_cons (pv 1) pa_nil)) pa_nil)) (pe_op op_add (pe_callB call_len_seq (by rfl) N.n_len PySem.boot_len (pa_cons (pv 7) pa_nil)) pe_int)))
      (pss_cons (ps_set (i := 12) sc_law.nd rfl (.inl rfl) (pe_op op_catS (pe_op op_catS (pe_slice sl_tupS (pv 7) po_none (po_some (pv 11))) (pe_tup (pa_cons pe_int pa_nil))) (pe_slice sl_tupS (pv 7) (po_some (pv 11)) po_none)))
      (pss_cons (ps_for PassesOwn.never rfl (pi_range1 (by rfl) N.n_range (pa_cons pe_int pa_nil)) (pg_name (i := 13) sc_law.nd rfl (.inl rfl)) (pss_one (ps_if (pt_cmpR op_ne (pe_call G__law_told (hr.mono (by decide)) rfl t__law_told.g t__law_told.F.kp t__law_told.b .nil pass0 (pa_cons (pv 2) (pa_cons (pv 12) (pa_cons (pv 13) pa_nil)))) pe_str (nomark _)) (pss_one (ps_ret pe_bl)) pss_nil)))
      (p15))), ?_⟩
      rintro σ H1 ⟨a, dr, L, pw, pb, ps, w, n, y4, y5, y6, y10, rfl, ws⟩
      have n4 := ws.n4
      have n1 := ws.n1
      have wl := ws.l
      refine ⟨.ref dr, rfl, dr, rfl, ws.d, fun H2 z s2 d2 z0 z1 => .inl ⟨_, rfl, .ref pw, rfl, pw, iV w, rfl, .inr (sqt_x ws.d s2 ws.tw), _, _, rfl, rfl, _, _, rfl, rfl, by rw [List.length_map]; omega, ?_⟩⟩
      have ws2 := ws.tox s2 d2
      have b0 : 0 ≤ z % (((iV w).length : Int) + 1) := Int.emod_nonneg _ (by omega)
      have b1 : z % (((iV w).length : Int) + 1) < ((iV w).length : Int) + 1 := Int.emod_lt_of_pos _ (by omega)
      obtain ⟨q, hq⟩ := Int.eq_ofNat_of_zero_le b0
      have lq : q ≤ w.length := by rw [List.length_map] at b1; rw [List.length_map] at hq; omega
      refine ⟨.ref pw, rfl, _, rfl, (q : Int), congrArg V.int hq, pw, _, rfl, ws2.tw, fun H3 p3 s3 hp3 => ⟨by show 1 ≤ sizeLine; decide, fun t ht => ?_⟩⟩
      have st := Same.upd (o := .tup [V.int 0]) ht
      rw [cut_to w q lq] at hp3
      refine ⟨p3, t, _, _, rfl, rfl, st.tup hp3, .of upd_same, by rw [List.length_map, List.length_take]; exact Nat.le_of_lt (small1000x (by simp only [List.length_cons, List.length_nil]; omega)), fun H4 p4 s4 hp4 => ?_⟩
      have ws4 := ws2.to (s3.trans (st.trans s4))
      refine ⟨.ref pw, rfl, _, rfl, (q : Int), congrArg V.int hq, pw, _, rfl, ws4.tw, fun H5 p5 s5 hp5 => ?_⟩
      rw [cut_from w q lq] at hp5
      refine ⟨p4, p5, _, _, rfl, rfl, s5.tup hp4, hp5, by rw [List.length_append, List.length_map, List.length_take, List.length_map, List.length_drop]; exact Nat.le_of_lt (small1000x (by simp only [List.length_cons, List.length_nil]; omega)), fun H6 p6 s6 hp6 => ?_⟩
      have hp6 : SqT K H6 p6 (iV (wordP w q 0)) := by
        unfold wordP
        rw [iV_app, iV_app]
        exact hp6
      have ws6 := ws4.to (s5.trans s6)
      have lw : (wordP w q 0).length ≤ 1000 := by
        unfold wordP
        rw [List.length_append, List.length_append, List.length_take, List.length_drop]
        simp only [List.length_cons, List.length_nil]
        omega
      refine ⟨3, rfl, by decide, by decide, ?_⟩
      refine for_it (walk_range (lo := 0)) (fun i σ H' => ∃ y13 : Option V, σ = [some (.ref a), some (.ref dr), some (.int (n : Int)), some (.ref L), y4, y5, y6, some (.ref pw), some (.ref pb), some (.ref ps), y10, some (.int (q : Int)), some (.ref p6), y13, none] ∧ Same H6 H') ⟨none, by rw [← hq]; rfl, Same.refl _⟩ (fun _ _ _ _ _ => trivial) ?_ ?_
      · rintro i x σ H7 H8 hi ⟨y13, rfl, s7⟩ ⟨rfl, rfl⟩
        have hi : i < 3 := hi
        refine ⟨_, rfl, .ref p6, rfl, _, rfl, p6, wordP w q 0, (n : Int), i, by show [V.int (n : Int), V.ref p6, V.int (0 + (i : Int))] = _; rw [Int.zero_add], s7.tup hp6, lw, by omega, fun H9 v s9 hv => ?_⟩
        have ev := dp_str hv (told_bad hi (List.mem_append_left _ (List.mem_append_right _ (List.mem_singleton.mpr rfl))))
        subst ev
        exact ⟨rfl, _, rfl, iteNS rfl ⟨_, rfl, s7.trans s9⟩⟩
      · rintro σ H7 ⟨y13, rfl, s7⟩
        exact q15 _ _ ⟨_, _, _, _, _, _, _, _, _, _, _, _, _, _, _, rfl, ws6.to s7, lq, s7.tup hp6⟩
    refine cut2 ((defBody s_law).drop 10) (PW10 K) ?_ fun u10 p10 q10 => ?_
    · refine ⟨_, pss_cons (ps_setLc (i := 10) (own := [("k", 4)]) (g := gName 4) (tt := tYes) (te := tOp (rI0 fun i j => .int (i - j)) (tBMT (rTCountI K) (tVar 7) (tCons (tOp (rI0 fun i j => .int (i + j)) (tVar 4) (L2.tC (.int 1))) (tNil))) (tBMT (rTCountI K) (tVar 7) (tCons (tOp (rI0 fun i j => .int (i - j)) (tOp (rI0 fun i j => .int (i - j)) (L2.tC (.int 0)) (tVar 4)) (L2.tC (.int 1))) (tNil)))) rfl sc_law.nd rfl rfl (sw_true rfl rfl rfl (by decide +kernel)) (pi_range1 (by rfl) N.n_range (pa_cons (pv 2) pa_nil)) (blkOk_by (N := n_law) (sc := defScope s_law) (by decide +kernel)) (fun _ _ _ _ _ => (pg_name (i := 4) sc_law.nd rfl (.inl rfl))) (fun _ _ _ _ _ => pts_nil) (fun _ _ _ _ _ => (pe_op op_sub (pe_bmT PySem.F.slot_tuple_count PySem.F.type_tuple_count mt_tcountI (pv 7) (pa_cons (pe_op op_add (pv 4) pe_int) pa_nil)) (pe_bmT PySem.F.slot_tuple_count PySem.F.type_tuple_count mt_tcountI (pv 7) (pa_cons (pe_op op_sub (pe_op op_sub pe_int (pv 4)) pe_int) pa_nil)))))
      (pss_cons (ps_if (PW.pt (pw_or (pt_cmpR op_ne (pe_callB (cr_reprS hg hu) (by rfl) N.n_repr (by decide +kernel) (pa_cons (pe_call G__law_told (hr.mono (by decide)) rfl t__law_told.g t__law_told.F.kp t__law_told.b .nil pass0 (pa_cons (pv 2) (pa_cons (pv 7) (pa_cons pe_int pa_nil)))) pa_nil)) (pe_callB (cr_reprS hg hu) (by rfl) N.n_repr (by decide +kernel) (pa_cons (pv 10) pa_nil)) (nomark _)) (pw_or1 (pt_cmpR op_ne (pe_callB (cr_reprS hg hu) (by rfl) N.n_repr (by decide +kernel) (pa_cons (pe_call G__law_told (hr.mono (by decide)) rfl t__law_told.g t__law_told.F.kp t__law_told.b .nil pass0 (pa_cons (pv 2) (pa_cons (pv 9) (pa_cons pe_int pa_nil)))) pa_nil)) (pe_callB (cr_reprS hg hu) (by rfl) N.n_repr (by decide +kernel) (pa_cons (pv 10) pa_nil)) (nomark _))))) (pss_one (ps_ret pe_bl)) pss_nil)
      (p12)), ?_⟩
      rintro σ H1 ⟨a, dr, L, pw, pb, ps, w, n, y4, y5, y6, rfl, ws, hs⟩
      have n4 := ws.n4
      have n1 := ws.n1
      have wl := ws.l
      have ok := okW_of ws.x
      refine ⟨_, rfl, (n : Int), rfl, by omega, by omega, ?_⟩
      rw [Int.toNat_natCast]
      intro D hD
      refine lc_map (walk_range (lo := 0)) RInt lasts_int (fun k : Nat => ((w.count ((k : Int) + 1) : Nat) : Int) - ((w.count (0 - (k : Int) - 1) : Nat) : Int)) hD (by omega) (fun _ _ => trivial) ?_ ?_
      · rintro i x H2 H3 hi s2 ⟨rfl, rfl⟩ Nx kk
        obtain ⟨ob, eb, zb⟩ := ws.tf
        refine ⟨rfl, .ref pw, rfl, ⟨pw, ob, _, rfl, s2 _ _ eb, zb⟩, _, rfl, _, _, rfl, rfl, pw, w, _, rfl, rfl, s2.tup ws.tw, ?_⟩
        refine ⟨.ref pw, rfl, ⟨pw, ob, _, rfl, s2 _ _ eb, zb⟩, _, rfl, _, _, rfl, rfl, _, _, rfl, rfl, pw, w, _, rfl, rfl, s2.tup ws.tw, _, _, rfl, rfl, kk _ _ (Same.refl _) ?_⟩
        show V.int _ = V.int _
        rw [Int.zero_add]
      · intro H2 wsv s2 hd p
        have e := paired_int p
        have e : wsv = iV (sumL n w) := e
        subst e
        have ws2 := ws.to s2
        have S := ws2.smls
        refine ⟨_, rfl, .ref pw, rfl, pw, w, (n : Int), 2, rfl, ws2.tw, by omega, by omega, fun H3 v s3 hv => ?_⟩
        rw [told2 ok] at hv
        refine ⟨v, _, rfl, hv, S.a, S.b, S.c, ?_⟩
        refine ⟨.ref D, rfl, .ref D, .list (iD (sumL n w)), rfl, .lst (.of (s3 _ _ hd)) (dp_ints _), S.a, S.b, S.c, rfl, _, rfl, iteNS rfl ?_⟩
        have okr : okW n (redW w) = true := okW_of fun x hx => ws.x x (mem_red hx)
        refine ⟨_, rfl, .ref ps, rfl, ps, redW w, (n : Int), 2, rfl, s3.tup (s2.tup hs), ?_, by omega, fun H4 v s4 hv => ?_⟩
        · have : (redW w).length ≤ w.length := by
            have key : ∀ (l s : Wd), (l.foldl stepW s).length ≤ s.length + l.length := by
              intro l
              induction l with
              | nil => intro s; exact Nat.le_refl _
              | cons y l ih =>
                intro s
                have h1 := ih (stepW s y)
                have h2 : (stepW s y).length ≤ s.length + 1 := by
                  unfold stepW
                  split
                  · rw [List.length_dropLast]; omega
                  · rw [List.length_append]; exact Nat.le_refl _
                rw [List.foldl_cons, List.length_cons]
                omega
            have := key w []
            simp only [List.length_nil] at this
            unfold redW
            omega
          omega
        rw [told2 okr, sum_red] at hv
        refine ⟨v, _, rfl, hv, S.a, S.b, S.c, ?_⟩
        refine ⟨.ref D, rfl, .ref D, .list (iD (sumL n w)), rfl, .lst (.of (s4 _ _ (s3 _ _ hd))) (dp_ints _), S.a, S.b, S.c, rfl, _, rfl, iteNS rfl ?_⟩
        exact q12 _ _ ⟨_, _, _, _, _, _, _, _, _, _, _, _, rfl, ws2.to (s3.trans s4)⟩
    refine cut2 ((defBody s_law).drop 7) (PW7 K) ?_ fun u7 p7 q7 => ?_
    · refine ⟨_, pss_cons (ps_if (pt_cmpR op_ne (pe_callB (cr_reprS hg hu) (by rfl) N.n_repr (by decide +kernel) (pa_cons (pe_call G__law_told (hr.mono (by decide)) rfl t__law_told.g t__law_told.F.kp t__law_told.b .nil pass0 (pa_cons (pv 2) (pa_cons (pv 7) (pa_cons pe_int pa_nil)))) pa_nil)) (pe_callB (cr_reprS hg hu) (by rfl) N.n_repr (by decide +kernel) (pa_cons (pv 8) pa_nil)) (nomark _)) (pss_one (ps_ret pe_bl)) pss_nil)
      (pss_cons (ps_set (i := 9) sc_law.nd rfl (.inl rfl) (pe_call G__law_cut (hr.mono (by decide)) rfl t__law_cut.g t__law_cut.F.kp t__law_cut.b .nil pass0 (pa_cons (pv 7) (pa_cons (pv 1) pa_nil))))
      (pss_cons (ps_if (PW.pt (pw_or (pt_cmpR op_ne (pe_callB (cr_reprS hg hu) (by rfl) N.n_repr (by decide +kernel) (pa_cons (pe_call G__law_told (hr.mono (by decide)) rfl t__law_told.g t__law_told.F.kp t__law_told.b .nil pass0 (pa_cons (pv 2) (pa_cons (pv 7) (pa_cons pe_int pa_nil)))) pa_nil)) (pe_callB (cr_reprS hg hu) (by rfl) N.n_repr (by decide +kernel) (pa_cons (pv 9) pa_nil)) (nomark _)) (pw_or1 (pt_cmpR op_ne (pe_callB (cr_reprS hg hu) (by rfl) N.n_repr (by decide +kernel) (pa_cons (pe_call G__law_told (hr.mono (by decide)) rfl t__law_told.g t__law_told.F.kp t__law_told.b .nil pass0 (pa_cons (pv 2) (pa_cons (pe_op op_catS (pv 7) (pv 8)) (pa_cons pe_int pa_nil)))) pa_nil)) pe_str (nomark _))))) (pss_one (ps_ret pe_bl)) pss_nil)
      (p10))), ?_⟩
      rintro σ H1 ⟨a, dr, L, pw, pb, w, n, y4, y5, y6, rfl, ws⟩
      have n4 := ws.n4
      have n1 := ws.n1
      have wl := ws.l
      have S := ws.sml
      have Sr := ws.smlr
      refine ⟨_, rfl, .ref pw, rfl, pw, w, (n : Int), 0, rfl, ws.tw, by omega, by omega, fun H2 v s2 hv => ?_⟩
      rw [told0 ws.no0] at hv
      refine ⟨v, _, rfl, hv, S.a, S.b, S.c, ?_⟩
      refine ⟨.ref pb, rfl, .ref pb, .tuple (iD (invW w)), rfl, dp_ti (s2.tup ws.tb), S.a, S.b, S.c, rfl, _, rfl, iteNS rfl ?_⟩
      have ws2 := ws.to s2
      refine ⟨.ref pw, rfl, .ref dr, rfl, pw, dr, w, rfl, ws2.tw, ws2.d, by omega, fun H3 ps s3 d3 hs => ?_⟩
      have ws3 := ws2.tox s3 d3
      refine ⟨_, rfl, .ref pw, rfl, pw, w, (n : Int), 1, rfl, ws3.tw, by omega, by omega, fun H4 v s4 hv => ?_⟩
      rw [told1 ws.no0] at hv
      refine ⟨v, _, rfl, hv, Sr.a, Sr.b, Sr.c, ?_⟩
      refine ⟨.ref ps, rfl, .ref ps, .tuple (iD (redW w)), rfl, dp_ti (s4.tup hs), Sr.a, Sr.b, Sr.c, rfl, _, rfl, iteNS rfl ?_⟩
      have ws4 := ws3.to s4
      have li : (invW w).length = w.length := by unfold invW; rw [List.length_map, List.length_reverse]
      refine ⟨_, rfl, .ref pw, rfl, .ref pb, rfl, pw, pb, _, _, rfl, rfl, ws4.tw, ws4.tb, by rw [List.length_map, List.length_map, li]; exact Nat.le_of_lt (small1000x (by omega)), fun H5 p5 s5 hp5 => ?_⟩
      rw [← iV_app] at hp5
      have no : (0 : Int) ∉ w ++ invW w := fun z => by
        rcases List.mem_append.mp z with z | z
        · exact ws.no0 z
        · exact ws.no0 (inv_mem z)
      refine ⟨p5, w ++ invW w, (n : Int), 1, rfl, hp5, by rw [List.length_append, li]; omega, by omega, fun H6 v s6 hv => ?_⟩
      rw [told1 no, red_inv] at hv
      refine ⟨v, _, rfl, hv, by decide, by decide, by decide, rfl, _, rfl, iteNS (by decide +kernel) ?_⟩
      exact q10 _ _ ⟨_, _, _, _, _, _, _, _, _, _, _, rfl, ws4.to (s5.trans s6), (s4.trans (s5.trans s6)).tup hs⟩
    -- the word
    refine ⟨_, pss_cons (ps_set (i := 1) sc_law.nd rfl (.inl rfl) (pe_call G__law_draws (hr.mono (by decide)) rfl t__law_draws.g t__law_draws.F.kp t__law_draws.b .nil pass0 (pa_cons (pv 0) pa_nil)))
      (pss_cons (ps_expr (pe_bm0 PySem.F.plainAttrs_list PySem.F.slot_list_reverse PySem.F.type_list_reverse mt_reverse (pv 1)))
      (pss_cons (ps_set (i := 2) sc_law.nd rfl (.inl rfl) (pe_op op_add pe_int (pe_op op_mod (pe_callTy call_int1 (by rfl) N.n_int (by decide +kernel) (pa_cons (pe_call G__law_next (hr.mono (by decide)) rfl t__law_next.g t__law_next.F.kp t__law_next.b .nil pass0 (pa_cons (pv 1) pa_nil)) pa_nil)) pe_int)))
      (pss_cons (ps_set (i := 3) sc_law.nd rfl (.inl rfl) (pe_lst pa_nil))
      (pss_cons (ps_for PassesOwn.never rfl (pi_range1 (by rfl) N.n_range (pa_cons (pe_op op_mod (pe_callTy call_int1 (by rfl) N.n_int (by decide +kernel) (pa_cons (pe_call G__law_next (hr.mono (by decide)) rfl t__law_next.g t__law_next.F.kp t__law_next.b .nil pass0 (pa_cons (pv 1) pa_nil)) pa_nil)) pe_int) pa_nil)) (pg_name (i := 4) sc_law.nd rfl (.inl rfl)) (pss_cons (ps_set (i := 5) sc_law.nd rfl (.inl rfl) (pe_callTy call_int1 (by rfl) N.n_int (by decide +kernel) (pa_cons (pe_call G__law_next (hr.mono (by decide)) rfl t__law_next.g t__law_next.F.kp t__law_next.b .nil pass0 (pa_cons (pv 1) pa_nil)) pa_nil)))
      (pss_cons (ps_set (i := 6) sc_law.nd rfl (.inl rfl) (pe_op op_mul (pe_op op_add pe_int (pe_op op_mod (pe_op op_fdiv (pv 5) pe_int) (pv 2))) (pe_op op_sub pe_int (pe_op op_mul pe_int (pe_op op_mod (pv 5) pe_int)))))
      (pss_cons (ps_if (PW.pt (pw_and (pt_truth (pv 3) (by intro _; rfl)) (pw_and1 (pt_cmpR op_eq (pe_op op_mod (pe_callTy call_int1 (by rfl) N.n_int (by decide +kernel) (pa_cons (pv 5) pa_nil)) pe_int) pe_int (nomark _))))) (pss_one (ps_set (i := 6) sc_law.nd rfl (.inl rfl) (pe_op op_sub pe_int (pe_ix ix_list (pv 3) (pe_un un_neg pe_int) (fun _ _ => rfl))))) pss_nil)
      (pss_one (ps_expr (pe_bm PySem.F.plainAttrs_list PySem.F.slot_list_append PySem.F.type_list_append mt_append (pv 3) (pa_cons (pv 6) pa_nil))))))))
      (pss_cons (ps_set (i := 7) sc_law.nd rfl (.inr rfl) (pe_callTy call_tuple_ofF (by rfl) N.n_tuple (by decide +kernel) (pa_cons (pv 3) pa_nil)))
      (pss_cons (ps_set (i := 8) sc_law.nd rfl (.inl rfl) (pe_callTy call_tuple_of (by rfl) N.n_tuple (by decide +kernel) (pa_cons (pe_lc (own := [("letter", 6)]) (g := gName 6) (tt := tYes) (te := tOp (rI0 fun i j => .int (i - j)) (L2.tC (.int 0)) (tVar 6)) rfl sc_law.nd (pi_tup (pe_revT (pv 7))) (blkOk_by (N := n_law) (sc := defScope s_law) (by decide +kernel)) (fun _ _ _ _ _ => (pg_name (i := 6) sc_law.nd rfl (.inl rfl))) (fun _ _ _ _ _ => pts_nil) (fun _ _ _ _ _ => (pe_op op_sub pe_int (pv 6)))) pa_nil)))
      (p7))))))), ?_⟩
    refine ⟨.ref a, rfl, a, ns, rfl, hS, hl, fun H1 dr s1 n1 d1 => ?_⟩
    obtain ⟨ds, hds, bds, lds⟩ := id d1
    refine ⟨.ref dr, rfl, .inl ⟨rfl, _, .of hds⟩, dr, _, rfl, rfl, hds, ?_⟩
    have d2 : Drw (upd H1 dr (.lst (iV ds).reverse)) dr := ⟨ds.reverse, by rw [upd_same]; exact congrArg (fun l => some (HO.lst l)) List.map_reverse.symm, fun d hd => bds d (List.mem_reverse.mp hd), by rw [List.length_reverse]; exact lds⟩
    refine ⟨.ref dr, rfl, dr, rfl, d2, fun H3 z s3 d3 z0 z1 => .inl ⟨_, rfl, _, _, rfl, rfl, (by decide : (0 : Int) < 4), _, _, rfl, rfl, ?_⟩⟩
    have m0 : 0 ≤ z % 4 := Int.emod_nonneg _ (by decide)
    have m1 : z % 4 < 4 := Int.emod_lt_of_pos _ (by decide)
    obtain ⟨n, hn⟩ : ∃ n : Nat, 1 + z % 4 = (n : Int) := ⟨(1 + z % 4).toNat, by omega⟩
    refine ⟨Nat.zero_le _, fun L hL => ?_⟩
    have nL := d3.ne_new hL
    have d4 := d3.upd (o := .lst []) hL
    refine ⟨.ref dr, rfl, dr, rfl, d4, fun H5 y s5 d5 y0 y1 => .inl ⟨_, rfl, _, _, rfl, rfl, (by decide : (0 : Int) < 11), ?_⟩⟩
    have e0 : 0 ≤ y % 11 := Int.emod_nonneg _ (by decide)
    have e1 : y % 11 < 11 := Int.emod_lt_of_pos _ (by decide)
    obtain ⟨m, hm⟩ := Int.eq_ofNat_of_zero_le e0
    refine ⟨(m : Int), by rw [← hm], by omega, by omega, ?_⟩
    rw [Int.toNat_natCast]
    have hL5 : H5 L = some (.lst (iV [])) := get_x s5 nL upd_same
    refine for_it (walk_range (lo := 0)) (fun i σ H' => ∃ (y4 y5 y6 : Option V) (w : Wd), σ = [some (.ref a), some (.ref dr), some (.int (n : Int)), some (.ref L), y4, y5, y6, none, none, none, none, none, none, none, none] ∧ Drw H' dr ∧ H' L = some (.lst (iV w)) ∧ w.length = i ∧ ∀ x ∈ w, x ≠ 0 ∧ absI x ≤ n)
      ⟨none, none, none, [], by rw [← hn]; rfl, d5, hL5, rfl, fun x hx => by cases hx⟩ (fun _ _ _ _ _ => trivial) ?_ ?_
    · rintro i x σ H6 H7 hi ⟨y4, y5, y6, w, rfl, d6, hL6, lw, bw⟩ ⟨rfl, rfl⟩
      have hi : i < m := hi
      refine ⟨.ref dr, rfl, dr, rfl, d6, fun H8 t s8 d8 t0 t1 => .inl ⟨_, rfl, ?_⟩⟩
      have hL8 := get_x s8 nL hL6
      refine ⟨_, rfl, _, _, rfl, rfl, ⟨by decide, by decide⟩, _, rfl, _, _, rfl, rfl, (by omega : (0 : Int) < n), _, _, rfl, rfl, _, rfl, _, _, rfl, rfl, (by decide : (0 : Int) < 2), _, _, rfl, rfl, mul_l (by decide) (by decide), _, _, rfl, rfl, ?_⟩
      have a0 : 0 ≤ t / 3 % (n : Int) := Int.emod_nonneg _ (by omega)
      have a1 : t / 3 % (n : Int) < n := Int.emod_lt_of_pos _ (by omega)
      refine ⟨_, _, rfl, rfl, mul_l (by omega) (by omega), ?_⟩
      have fin : ∀ v : Int, v ≠ 0 → absI v ≤ n → Drw (upd H8 L (.lst (iV w ++ [V.int v]))) dr ∧ (upd H8 L (.lst (iV w ++ [V.int v]))) L = some (.lst (iV (w ++ [v]))) ∧ (w ++ [v]).length = i + 1 ∧ ∀ x ∈ w ++ [v], x ≠ 0 ∧ absI x ≤ n := fun v v0 v1 => by
        refine ⟨?_, by rw [upd_same, iV_app]; rfl, by rw [List.length_append, lw]; rfl, fun x hx => ?_⟩
        · obtain ⟨es, e, q⟩ := d8
          exact ⟨es, (upd_ne (Ne.symm nL)).trans e, q⟩
        · rcases List.mem_append.mp hx with h | h
          · exact bw x h
          · rw [List.mem_singleton.mp h]
            exact ⟨v0, v1⟩
      have sgn : t % 2 = 0 ∨ t % 2 = 1 := by omega
      have lt0 : (1 + t / 3 % (n : Int)) * (1 - 2 * (t % 2)) ≠ 0 ∧ absI ((1 + t / 3 % (n : Int)) * (1 - 2 * (t % 2))) ≤ n := by
        rcases sgn with h | h
        · rw [h]
          unfold absI
          constructor
          · omega
          · split <;> omega
        · rw [h]
          unfold absI
          constructor
          · omega
          · split <;> omega
      refine ⟨.ref L, rfl, !(iV w).isEmpty, .inl ⟨_, .of hL8, rfl⟩, ?_⟩
      have app : ∀ v : Int, v ≠ 0 → absI v ≤ n → ∃ x, (some (some (V.ref L)) : Option (Option V)) = some (some x) ∧ tyV K "list" x H8 ∧ ∃ yy, (some (some (V.int v)) : Option (Option V)) = some (some yy) ∧ rAppend x [yy] H8 fun _ H9 => ∃ (y4 y5 y6 : Option V) (w : Wd), [some (.ref a), some (.ref dr), some (.int (n : Int)), some (.ref L), some (.int (0 + (i : Int))), some (.int t), some (.int v), none, none, none, none, none, none, none, none] = [some (.ref a), some (.ref dr), some (.int (n : Int)), some (.ref L), y4, y5, y6, none, none, none, none, none, none, none, none] ∧ Drw H9 dr ∧ H9 L = some (.lst (iV w)) ∧ w.length = i + 1 ∧ ∀ x ∈ w, x ≠ 0 ∧ absI x ≤ n := fun v v0 v1 => by
        obtain ⟨f1, f2, f3, f4⟩ := fin v v0 v1
        exact ⟨.ref L, rfl, .inl ⟨rfl, _, .of hL8⟩, _, rfl, L, _, _, rfl, rfl, hL8, by rw [List.length_map]; exact small1000x (by omega), _, _, _, _, rfl, f1, f2, f3, f4⟩
      by_cases ew : w = []
      · subst ew
        exact app _ lt0.1 lt0.2
      · have en : (!(iV w).isEmpty) = true := by
          cases w with
          | nil => exact absurd rfl ew
          | cons _ _ => rfl
        rw [en]
        refine ⟨_, rfl, .inl ⟨_, rfl, _, _, rfl, rfl, (by decide : (0 : Int) < 3), rfl, _, rfl, ite2 (fun _ => ?_) (fun _ => app _ lt0.1 lt0.2)⟩⟩
        have bl := bw _ (List.getLast_mem ew)
        refine ⟨.ref L, rfl, 1, rfl, L, iV w, -1, .int (w.getLast ew), rfl, rfl, .of hL8, ?_, _, _, rfl, rfl, app _ (by omega) ?_⟩
        · have e := atI_last (iV w.dropLast) (V.int (w.getLast ew))
          have e2 : iV w.dropLast ++ [V.int (w.getLast ew)] = iV w := by
            have := congrArg iV (List.dropLast_concat_getLast ew)
            rw [iV_app] at this
            exact this
          rw [e2] at e
          exact e
        · have := bl.2
          unfold absI at this ⊢
          split at this <;> split <;> omega
    · rintro σ H6 ⟨y4, y5, y6, w, rfl, d6, hL6, lw, bw⟩
      refine ⟨.ref L, rfl, L, _, rfl, .of hL6, fun pw ob npw zb => ?_⟩
      have sw := Same.upd (o := .frz ob (.tup (iV w))) npw
      have hpw : SqT K (upd H6 pw (.frz ob (.tup (iV w)))) pw (iV w) := .inl (.inr ⟨ob, upd_same⟩)
      refine ⟨.ref pw, rfl, pw, iV w, rfl, hpw, fun pr npr => ?_⟩
      have sr := Same.upd (o := .tup (iV w).reverse) npr
      refine ⟨pr, rfl, ⟨_, .of upd_same⟩, fun D hD => lc_map (walk_tup (K := K) (a := pr) (xs := (iV w).reverse)) RInt lasts_int (fun i => 0 - w.reverse.getD i 0) hD (by rw [List.length_reverse, List.length_map]; omega) (fun H' s => s.tup (.of upd_same)) ?_ ?_⟩
      · rintro i x H7 H8 hi s7 ⟨rfl, hx⟩ Nx kk
        rw [← List.map_reverse] at hx
        obtain ⟨v, hv, rfl⟩ := iV_get hx
        refine ⟨rfl, _, rfl, _, _, rfl, rfl, kk _ _ (Same.refl _) ?_⟩
        show V.int _ = V.int _
        rw [List.getD_eq_getElem?_getD, hv]
        rfl
      · intro H7 wsv s7 hd p
        have e := paired_int p
        have e2 : (List.range ((iV w).reverse).length).map (fun i => 0 - w.reverse.getD i 0) = invW w := by
          unfold invW
          rw [List.length_reverse, List.length_map]
          refine List.ext_getElem (by simp) fun i h1 h2 => ?_
          have hi : i < w.reverse.length := by simpa using h1
          simp only [List.getElem_map, List.getElem_range]
          rw [List.getD_eq_getElem?_getD, List.getElem?_eq_getElem hi]
          show 0 - _ = - _
          rw [Int.zero_sub]
          rfl
        rw [e2] at e
        subst e
        refine ⟨D, _, rfl, .inl ⟨.of hd, fun pb npb => ?_⟩⟩
        have sb := Same.upd (o := .tup (iV (invW w))) npb
        have S := sr.trans (s7.trans sb)
        exact q7 _ _ ⟨_, _, _, _, _, _, _, _, _, _, rfl, (d6.to sw).to S, S.tup hpw, .of upd_same, ⟨ob, S _ _ upd_same, zb⟩, by omega, bw, by omega, by omega⟩
end
end L2.Px

namespace L2.Px
open PySem PySem.Spec PyProof.Rows
/-- a def of the text, from what the table of the program says of it -/
theorem at_mk {K : PySem.W.Frag} {h : Heap} {mg : Str → Option Value} (X : K.In h) (G : h.Ns mainGlobals mg) {x : Str} {st : Stmt} {ps : List Str} {f : Addr} {oc kV doc pm cdv ct : Value} {od an : Option Addr} {osl : Array (Option Value)}
    (g : PySem.W.nsIn K mainGlobals x = some (some (.ref f)))
    (l : K.lookup f = some ⟨oc, od, .func (PySem.W.fnOf x x (defArgs st) (defBody st) (defScope st) .none kV doc pm an cdv ct), osl⟩)
    (c : PySem.W.codeIn K cdv x = true) (k : PySem.W.keepIn K (.ref f) = true)
    (hb : ∀ (kV doc pm : Value) (an : Option Addr) (cdv ct : Value) (us : List Value), us.length = ps.length → bindArgs (PySem.W.fnOf x x (defArgs st) (defBody st) (defScope st) .none kV doc pm an cdv ct) ⟨us, []⟩ = pure (ps.zip us)) :
    At K mg x st ps f (PySem.W.fnOf x x (defArgs st) (defBody st) (defScope st) .none kV doc pm an cdv ct) :=
  ⟨fun_mk l c k, PySem.W.mg_of X G g, (fun_mk l c k).binds hb⟩
theorem kit_own {K : PySem.W.Frag} {S T : Addr} {b : Bool} (h2 : PySem.W.isClsIn K T = true) (h3 : PySem.W.typeIn K (.ref T) = some (.type "type")) (h4 : PySem.W.subIn K (.ref S) (.ref T) = some b) : PySem.W.kitCls K (.ref S) (.ref T) = some b := by
  have e2 : ((PySem.W.clsIn K T).isSome && PySem.W.typeIn K (.ref T) == some (.type "type")) = true := by
    have h2' : (PySem.W.clsIn K T).isSome = true := h2
    rw [h2', h3] <;> rfl
  show (if ((PySem.W.clsIn K T).isSome && PySem.W.typeIn K (.ref T) == some (.type "type")) = true then PySem.W.subIn K (.ref S) (.ref T) else none) = some b
  rw [if_pos e2]
  exact h4
theorem exm_self {K : PySem.W.Frag} {S : Addr} (h1 : PySem.W.subIn K (.ref S) (.type "BaseException") = some true) (h4 : PySem.W.kitCls K (.ref S) (.ref S) = some true) : PySem.W.exmOne K (.ref S) (.ref S) = some true := by
  have e1 : (PySem.W.subIn K (.ref S) (.type "BaseException") == some true) = true := by rw [h1] <;> rfl
  show (if (PySem.W.subIn K (.ref S) (.type "BaseException") == some true) = true then PySem.W.kitCls K (.ref S) (.ref S) else none) = some true
  rw [if_pos e1]
  exact h4
theorem kit_yes {K : PySem.W.Frag} {S T : Addr} (h : PySem.W.kitCls K (.ref S) (.ref T) = some true) : PySem.W.kitOne K (.ref S) (.ref T) = some true := by
  show (if ((Value.ref S) == (.ref T)) = true then some true else PySem.W.kitCls K (.ref S) (.ref T)) = some true
  split
  · rfl
  · exact h
theorem kit_no {K : PySem.W.Frag} {S T : Addr} (n : (S == T) = false) (h : PySem.W.kitCls K (.ref S) (.ref T) = some false) : PySem.W.kitOne K (.ref S) (.ref T) = some false := by
  show (if ((Value.ref S) == (.ref T)) = true then some true else PySem.W.kitCls K (.ref S) (.ref T)) = some false
  rw [if_neg, h]
  intro z
  have : S = T := Value.ref.inj (beq_iff_eq.mp z)
  subst this
  rw [show (S == S) = true from beq_self_eq_true S] at n
  cases n
/-- a tuple of four ints at the top -/
theorem idn_mk {K : PySem.W.Frag} {a : Addr} {od : Option Addr} {osl : Array (Option Value)} {n : Nat} {y0 y1 y2 y3 : Tok} (l : K.lookup a = some ⟨.type "tuple", od, .seq #[.int 0 y0, .int 1 y1, .int 2 y2, .int 3 y3] n, osl⟩) : ∀ H, SqT K H a (iV [0, 1, 2, 3]) := fun H => by
  have r : ∀ (i : Int) (t : Tok), RelV (.int i) (.int i t) := fun i t => by first | exact rfl | exact ⟨t, rfl⟩
  exact .inr ⟨_, _, n, l, rfl, rfl, by show 4 ≤ sizeLine; decide, .cons (r _ _) (.cons (r _ _) (.cons (r _ _) (.cons (r _ _) .nil)))⟩

open PySem.OEX in
theorem all_mk {P : Program} {w : World} {K : PySem.W.Frag} {h : Heap} {mg : Str → Option Value} {fa : Addr} (X : K.In h) (G : h.Ns mainGlobals mg) (hfa : mg "law" = some (.ref fa))
    {c_NotWord : Addr}
    {c_BadNumber : Addr}
    {f0 : Addr} {oc0 kV0 doc0 pm0 cd0 ct0 : Value} {od0 an0 : Option Addr} {sl0 : Array (Option Value)}
    {f1 : Addr} {oc1 kV1 doc1 pm1 cd1 ct1 : Value} {od1 an1 : Option Addr} {sl1 : Array (Option Value)}
    {f2 : Addr} {oc2 kV2 doc2 pm2 cd2 ct2 : Value} {od2 an2 : Option Addr} {sl2 : Array (Option Value)}
    {f3 : Addr} {oc3 kV3 doc3 pm3 cd3 ct3 : Value} {od3 an3 : Option Addr} {sl3 : Array (Option Value)}
    {f4 : Addr} {oc4 kV4 doc4 pm4 cd4 ct4 : Value} {od4 an4 : Option Addr} {sl4 : Array (Option Value)}
    {f5 : Addr} {oc5 kV5 doc5 pm5 cd5 ct5 : Value} {od5 an5 : Option Addr} {sl5 : Array (Option Value)}
    {f6 : Addr} {oc6 kV6 doc6 pm6 cd6 ct6 : Value} {od6 an6 : Option Addr} {sl6 : Array (Option Value)}
    {f7 : Addr} {oc7 kV7 doc7 pm7 cd7 ct7 : Value} {od7 an7 : Option Addr} {sl7 : Array (Option Value)}
    {f8 : Addr} {oc8 kV8 doc8 pm8 cd8 ct8 : Value} {od8 an8 : Option Addr} {sl8 : Array (Option Value)}
    {f9 : Addr} {oc9 kV9 doc9 pm9 cd9 ct9 : Value} {od9 an9 : Option Addr} {sl9 : Array (Option Value)}
    {fl : Addr} {ocl kVl docl pml cdl ctl : Value} {odl anl : Option Addr} {sll : Array (Option Value)}
    (gBc_NotWord : PySem.W.nsIn K mainGlobals "NotWord" = some (some (.ref c_NotWord)))
    (kBc_NotWord : PySem.W.keepIn K (.ref c_NotWord) = true)
    (xBc_NotWord : PySem.W.excIn K c_NotWord [.type "ValueError", .type "Exception", .type "BaseException", .type "object"] "ValueError.__new__" = true)
    (bBc_NotWord : PySem.W.subIn K (.ref c_NotWord) (.type "BaseException") = some true)
    (tBc_NotWord : PySem.W.typeIn K (.ref c_NotWord) = some (.type "type"))
    (gBc_BadNumber : PySem.W.nsIn K mainGlobals "BadNumber" = some (some (.ref c_BadNumber)))
    (kBc_BadNumber : PySem.W.keepIn K (.ref c_BadNumber) = true)
    (xBc_BadNumber : PySem.W.excIn K c_BadNumber [.type "ValueError", .type "Exception", .type "BaseException", .type "object"] "ValueError.__new__" = true)
    (bBc_BadNumber : PySem.W.subIn K (.ref c_BadNumber) (.type "BaseException") = some true)
    (tBc_BadNumber : PySem.W.typeIn K (.ref c_BadNumber) = some (.type "type"))
    (iBc_NotWord : PySem.W.isClsIn K c_NotWord = true)
    (iBc_BadNumber : PySem.W.isClsIn K c_BadNumber = true)
    (sc_NotWordc_NotWord : PySem.W.subIn K (.ref c_NotWord) (.ref c_NotWord) = some true)
    (sc_BadNumberc_BadNumber : PySem.W.subIn K (.ref c_BadNumber) (.ref c_BadNumber) = some true)
    (sc_NotWordc_BadNumber : PySem.W.subIn K (.ref c_NotWord) (.ref c_BadNumber) = some false)
    (g0 : PySem.W.nsIn K mainGlobals "inverse_word" = some (some (.ref f0)))
    (l0 : K.lookup f0 = some ⟨oc0, od0, .func (PySem.W.fnOf "inverse_word" "inverse_word" (defArgs s_inverse_word) (defBody s_inverse_word) (defScope s_inverse_word) .none kV0 doc0 pm0 an0 cd0 ct0), sl0⟩)
    (c0 : PySem.W.codeIn K cd0 "inverse_word" = true)
    (k0 : PySem.W.keepIn K (.ref f0) = true)
    (g1 : PySem.W.nsIn K mainGlobals "cut_word" = some (some (.ref f1)))
    (l1 : K.lookup f1 = some ⟨oc1, od1, .func (PySem.W.fnOf "cut_word" "cut_word" (defArgs s_cut_word) (defBody s_cut_word) (defScope s_cut_word) .none kV1 doc1 pm1 an1 cd1 ct1), sl1⟩)
    (c1 : PySem.W.codeIn K cd1 "cut_word" = true)
    (k1 : PySem.W.keepIn K (.ref f1) = true)
    (g2 : PySem.W.nsIn K mainGlobals "check_word" = some (some (.ref f2)))
    (l2 : K.lookup f2 = some ⟨oc2, od2, .func (PySem.W.fnOf "check_word" "check_word" (defArgs s_check_word) (defBody s_check_word) (defScope s_check_word) .none kV2 doc2 pm2 an2 cd2 ct2), sl2⟩)
    (c2 : PySem.W.codeIn K cd2 "check_word" = true)
    (k2 : PySem.W.keepIn K (.ref f2) = true)
    (g3 : PySem.W.nsIn K mainGlobals "sums" = some (some (.ref f3)))
    (l3 : K.lookup f3 = some ⟨oc3, od3, .func (PySem.W.fnOf "sums" "sums" (defArgs s_sums) (defBody s_sums) (defScope s_sums) .none kV3 doc3 pm3 an3 cd3 ct3), sl3⟩)
    (c3 : PySem.W.codeIn K cd3 "sums" = true)
    (k3 : PySem.W.keepIn K (.ref f3) = true)
    (g4 : PySem.W.nsIn K mainGlobals "are_letters" = some (some (.ref f4)))
    (l4 : K.lookup f4 = some ⟨oc4, od4, .func (PySem.W.fnOf "are_letters" "are_letters" (defArgs s_are_letters) (defBody s_are_letters) (defScope s_are_letters) .none kV4 doc4 pm4 an4 cd4 ct4), sl4⟩)
    (c4 : PySem.W.codeIn K cd4 "are_letters" = true)
    (k4 : PySem.W.keepIn K (.ref f4) = true)
    (g5 : PySem.W.nsIn K mainGlobals "_law_number" = some (some (.ref f5)))
    (l5 : K.lookup f5 = some ⟨oc5, od5, .func (PySem.W.fnOf "_law_number" "_law_number" (defArgs s__law_number) (defBody s__law_number) (defScope s__law_number) .none kV5 doc5 pm5 an5 cd5 ct5), sl5⟩)
    (c5 : PySem.W.codeIn K cd5 "_law_number" = true)
    (k5 : PySem.W.keepIn K (.ref f5) = true)
    (g6 : PySem.W.nsIn K mainGlobals "_law_draws" = some (some (.ref f6)))
    (l6 : K.lookup f6 = some ⟨oc6, od6, .func (PySem.W.fnOf "_law_draws" "_law_draws" (defArgs s__law_draws) (defBody s__law_draws) (defScope s__law_draws) .none kV6 doc6 pm6 an6 cd6 ct6), sl6⟩)
    (c6 : PySem.W.codeIn K cd6 "_law_draws" = true)
    (k6 : PySem.W.keepIn K (.ref f6) = true)
    (g7 : PySem.W.nsIn K mainGlobals "_law_next" = some (some (.ref f7)))
    (l7 : K.lookup f7 = some ⟨oc7, od7, .func (PySem.W.fnOf "_law_next" "_law_next" (defArgs s__law_next) (defBody s__law_next) (defScope s__law_next) .none kV7 doc7 pm7 an7 cd7 ct7), sl7⟩)
    (c7 : PySem.W.codeIn K cd7 "_law_next" = true)
    (k7 : PySem.W.keepIn K (.ref f7) = true)
    (g8 : PySem.W.nsIn K mainGlobals "_law_told" = some (some (.ref f8)))
    (l8 : K.lookup f8 = some ⟨oc8, od8, .func (PySem.W.fnOf "_law_told" "_law_told" (defArgs s__law_told) (defBody s__law_told) (defScope s__law_told) .none kV8 doc8 pm8 an8 cd8 ct8), sl8⟩)
    (c8 : PySem.W.codeIn K cd8 "_law_told" = true)
    (k8 : PySem.W.keepIn K (.ref f8) = true)
    (g9 : PySem.W.nsIn K mainGlobals "_law_cut" = some (some (.ref f9)))
    (l9 : K.lookup f9 = some ⟨oc9, od9, .func (PySem.W.fnOf "_law_cut" "_law_cut" (defArgs s__law_cut) (defBody s__law_cut) (defScope s__law_cut) .none kV9 doc9 pm9 an9 cd9 ct9), sl9⟩)
    (c9 : PySem.W.codeIn K cd9 "_law_cut" = true)
    (k9 : PySem.W.keepIn K (.ref f9) = true)
    (gl : PySem.W.nsIn K mainGlobals "law" = some (some (.ref fl)))
    (ll : K.lookup fl = some ⟨ocl, odl, .func (PySem.W.fnOf "law" "law" (defArgs s_law) (defBody s_law) (defScope s_law) .none kVl docl pml anl cdl ctl), sll⟩)
    (cl : PySem.W.codeIn K cdl "law" = true)
    (kl : PySem.W.keepIn K (.ref fl) = true)
    (n0 : PySem.W.nsIn K mainGlobals "tuple" = some none)
    (n1 : PySem.W.nsIn K mainGlobals "reversed" = some none)
    (n2 : PySem.W.nsIn K mainGlobals "range" = some none)
    (n3 : PySem.W.nsIn K mainGlobals "all" = some none)
    (n4 : PySem.W.nsIn K mainGlobals "abs" = some none)
    (n5 : PySem.W.nsIn K mainGlobals "int" = some none)
    (n6 : PySem.W.nsIn K mainGlobals "len" = some none)
    (n7 : PySem.W.nsIn K mainGlobals "repr" = some none) :
    ∃ fd : FuncData, (∀ (s : Shared) (u : Value), BindsTo s fd ⟨[u], []⟩ [("script", u)]) ∧ ∀ base : Heap, K.In base → base.Ns mainGlobals mg → GFn P w K mg base 4 fa fd ["script"] (sp_law K) := by
  have e := hfa.symm.trans (PySem.W.mg_of X G gl)
  cases e
  have N : Nm mg := ⟨PySem.W.mg_none_of X G n0, PySem.W.mg_none_of X G n1, PySem.W.mg_none_of X G n2, PySem.W.mg_none_of X G n3, PySem.W.mg_none_of X G n4, PySem.W.mg_none_of X G n5, PySem.W.mg_none_of X G n6, PySem.W.mg_none_of X G n7⟩
  have A0 := at_mk (st := s_inverse_word) (ps := ["word"]) X G g0 l0 c0 k0 (fun _ _ _ _ _ _ us hl => match us, hl with | [_], _ => rfl)
  have A1 := at_mk (st := s_cut_word) (ps := ["word"]) X G g1 l1 c1 k1 (fun _ _ _ _ _ _ us hl => match us, hl with | [_], _ => rfl)
  have A2 := at_mk (st := s_check_word) (ps := ["word"]) X G g2 l2 c2 k2 (fun _ _ _ _ _ _ us hl => match us, hl with | [_], _ => rfl)
  have A3 := at_mk (st := s_sums) (ps := ["count", "word"]) X G g3 l3 c3 k3 (fun _ _ _ _ _ _ us hl => match us, hl with | [_, _], _ => rfl)
  have A4 := at_mk (st := s_are_letters) (ps := ["count", "word"]) X G g4 l4 c4 k4 (fun _ _ _ _ _ _ us hl => match us, hl with | [_, _], _ => rfl)
  have A5 := at_mk (st := s__law_number) (ps := ["cell"]) X G g5 l5 c5 k5 (fun _ _ _ _ _ _ us hl => match us, hl with | [_], _ => rfl)
  have A6 := at_mk (st := s__law_draws) (ps := ["script"]) X G g6 l6 c6 k6 (fun _ _ _ _ _ _ us hl => match us, hl with | [_], _ => rfl)
  have A7 := at_mk (st := s__law_next) (ps := ["draws"]) X G g7 l7 c7 k7 (fun _ _ _ _ _ _ us hl => match us, hl with | [_], _ => rfl)
  have A8 := at_mk (st := s__law_told) (ps := ["count", "word", "which"]) X G g8 l8 c8 k8 (fun _ _ _ _ _ _ us hl => match us, hl with | [_, _, _], _ => rfl)
  have A9 := at_mk (st := s__law_cut) (ps := ["word", "draws"]) X G g9 l9 c9 k9 (fun _ _ _ _ _ _ us hl => match us, hl with | [_, _], _ => rfl)
  have B_NotWord : ExN K mg "NotWord" c_NotWord := ⟨PySem.W.mg_of X G gBc_NotWord, kBc_NotWord, xBc_NotWord, bBc_NotWord, tBc_NotWord⟩
  have B_BadNumber : ExN K mg "BadNumber" c_BadNumber := ⟨PySem.W.mg_of X G gBc_BadNumber, kBc_BadNumber, xBc_BadNumber, bBc_BadNumber, tBc_BadNumber⟩
  have m_BB : PySem.W.exmOne K (.ref c_BadNumber) (.ref c_BadNumber) = some true := exm_of bBc_BadNumber (kit_own iBc_BadNumber tBc_BadNumber sc_BadNumberc_BadNumber)
  have m_WB : PySem.W.exmOne K (.ref c_NotWord) (.ref c_BadNumber) = some false := exm_of bBc_BadNumber (kit_own iBc_BadNumber tBc_BadNumber sc_NotWordc_BadNumber)
  have m_WW : PySem.W.exmOne K (.ref c_NotWord) (.ref c_NotWord) = some true := exm_of bBc_NotWord (kit_own iBc_NotWord tBc_NotWord sc_NotWordc_NotWord)
  exact ⟨_, fun s u => .of_eq rfl, fun base _ _ => 
    have G__law_number : FnOk P w K mg base CX0 1 f5 _ ["cell"] (sp__law_number K) := ok__law_number (A5).F N
    have G__law_draws : FnOk P w K mg base CX0 2 f6 _ ["script"] (sp__law_draws K) := ok__law_draws (A6).F N A5 G__law_number
    have G__law_next : FnOk P w K mg base CX0 1 f7 _ ["draws"] (sp__law_next K) := ok__law_next (A7).F N
    have G__law_cut : FnOk P w K mg base CX0 2 f9 _ ["word", "draws"] (sp__law_cut K) := ok__law_cut (A9).F N A7 G__law_next
    have G_are_letters : FnOk P w K mg base CX0 1 f4 _ ["count", "word"] (sp_are_letters K) := ok_are_letters (A4).F N
    have G_sums : FnOk P w K mg base (L2.CX P w) 2 f3 _ ["count", "word"] (sp_sums K c_BadNumber c_NotWord) := ok_sums (A3).F N B_BadNumber B_NotWord A4 G_are_letters
    have G_check_word : FnOk P w K mg base (L2.CX P w) 1 f2 _ ["word"] (sp_check_word K c_NotWord) := ok_check_word (A2).F N B_NotWord
    have G_inverse_word : FnOk P w K mg base (L2.CX P w) 2 f0 _ ["word"] (sp_inverse_word K c_NotWord) := ok_inverse_word (A0).F N B_NotWord A2 G_check_word
    have G_cut_word : FnOk P w K mg base (L2.CX P w) 2 f1 _ ["word"] (sp_cut_word K c_NotWord) := ok_cut_word (A1).F N B_NotWord A2 G_check_word
    have G__law_told : FnOk P w K mg base CX0 3 f8 _ ["count", "word", "which"] (sp__law_told K) := ok__law_told (A8).F N B_BadNumber B_NotWord A3 G_sums A0 G_inverse_word A1 G_cut_word m_BB m_WB m_WW
    ok_law (fun_mk ll cl kl) N A6 G__law_draws A9 G__law_cut A8 G__law_told A7 G__law_next⟩
end L2.Px

open PySem PySem.W PyProof.Rows
set_option maxRecDepth 100000 in
set_option maxHeartbeats 8000000 in
theorem PySem.Challenge.cw_wedgespace_k55_words_holds : PySem.Challenge.rw_wedgespace_k55_words.Holds := by
  w_on; o_law; k_head; (case hw => w_witness2)
  k_fill
  refine L2.Px.walkG (l := PySem.Challenge.rw_wedgespace_k55_words) (n := 63) (k := 4) (x := "script") (sp := L2.Px.sp_law) rfl (by decide) rfl ⟨rfl, by decide, by decide⟩ (fun w h Y => PySem.W.kIn_of Y) ?F ?S
  case F =>
    intro w mg fa h KX G hmg
    refine' L2.Px.all_mk KX G hmg ?zgBc_NotWord ?zkBc_NotWord ?zxBc_NotWord ?zbBc_NotWord ?ztBc_NotWord ?zgBc_BadNumber ?zkBc_BadNumber ?zxBc_BadNumber ?zbBc_BadNumber ?ztBc_BadNumber ?ziBc_NotWord ?ziBc_BadNumber ?zsc_NotWordc_NotWord ?zsc_BadNumberc_BadNumber ?zsc_NotWordc_BadNumber ?zg0 ?zl0 ?zc0 ?zk0 ?zg1 ?zl1 ?zc1 ?zk1 ?zg2 ?zl2 ?zc2 ?zk2 ?zg3 ?zl3 ?zc3 ?zk3 ?zg4 ?zl4 ?zc4 ?zk4 ?zg5 ?zl5 ?zc5 ?zk5 ?zg6 ?zl6 ?zc6 ?zk6 ?zg7 ?zl7 ?zc7 ?zk7 ?zg8 ?zl8 ?zc8 ?zk8 ?zg9 ?zl9 ?zc9 ?zk9 ?zgl ?zll ?zcl ?zkl ?zn0 ?zn1 ?zn2 ?zn3 ?zn4 ?zn5 ?zn6 ?zn7

    (case zgBc_NotWord => k_is)
    (case zkBc_NotWord => k_is)
    (case zxBc_NotWord => k_exc)
    (case zbBc_NotWord => k_is)
    (case ztBc_NotWord => k_is)
    (case zgBc_BadNumber => k_is)
    (case zkBc_BadNumber => k_is)
    (case zxBc_BadNumber => k_exc)
    (case zbBc_BadNumber => k_is)
    (case ztBc_BadNumber => k_is)
    (case ziBc_NotWord => k_is)
    (case ziBc_BadNumber => k_is)
    (case zsc_NotWordc_NotWord => first | rfl | k_is)
    (case zsc_BadNumberc_BadNumber => first | rfl | k_is)
    (case zsc_NotWordc_BadNumber => k_is)
    (case zg0 => k_is)
    (case zl0 => k_is)
    (case zc0 => k_is)
    (case zk0 => k_is)
    (case zg1 => k_is)
    (case zl1 => k_is)
    (case zc1 => k_is)
    (case zk1 => k_is)
    (case zg2 => k_is)
    (case zl2 => k_is)
    (case zc2 => k_is)
    (case zk2 => k_is)
    (case zg3 => k_is)
    (case zl3 => k_is)
    (case zc3 => k_is)
    (case zk3 => k_is)
    (case zg4 => k_is)
    (case zl4 => k_is)
    (case zc4 => k_is)
    (case zk4 => k_is)
    (case zg5 => k_is)
    (case zl5 => k_is)
    (case zc5 => k_is)
    (case zk5 => k_is)
    (case zg6 => k_is)
    (case zl6 => k_is)
    (case zc6 => k_is)
    (case zk6 => k_is)
    (case zg7 => k_is)
    (case zl7 => k_is)
    (case zc7 => k_is)
    (case zk7 => k_is)
    (case zg8 => k_is)
    (case zl8 => k_is)
    (case zc8 => k_is)
    (case zk8 => k_is)
    (case zg9 => k_is)
    (case zl9 => k_is)
    (case zc9 => k_is)
    (case zk9 => k_is)
    (case zgl => k_is)
    (case zll => k_is)
    (case zcl => k_is)
    (case zkl => k_is)
    (case zn0 => k_is)
    (case zn1 => k_is)
    (case zn2 => k_is)
    (case zn3 => k_is)
    (case zn4 => k_is)
    (case zn5 => k_is)
    (case zn6 => k_is)
    (case zn7 => k_is)
  case S =>
    intro K H a ns hl hS
    exact ⟨a, ns, rfl, hS, hl, fun _ => rfl⟩


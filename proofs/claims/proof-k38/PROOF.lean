import PyProof.Rows.All
import Wide.All
import OpenK.AllK
import Wide.FinOn
import HandS.ForExc
import HandS.Comp
import PyProof.ReprRoads
import KE.GoesMore
import HandS.Iter
import HandS.SortInts
import HandS.Walk
import HandS.Base
import HandS.Call
import HandS.Exc
import PyProof.ReprLen
import HandS.Zip
import HandS.Style
import HandS.Deep
import HandS.ExcIs
import HandS.IsInst
import HandS.TupSets
import HandS.TupAny
import HandS.Conv
import HandS.Rev
import HandS.ExcInit
import KE.KSortedM
import KE.KEqDeep
import PySem.Challenge.RW_wedgespace_k38_products_of_matrices
set_option Elab.async false
set_option linter.all false
set_option maxRecDepth 100000
set_option maxHeartbeats 4000000
/-! List comprehensions of any number of clauses. -/
namespace L2.Px
open PySem PySem.Spec PyProof.Rows

/-- what a clause does with an item that has passed: from slots and heap, to reach the wanted heap -/
abbrev TB := St → Hp → (Hp → Prop) → Prop

/-- the rest of a turn at the last clause -/
def tailE (elt : Expr) (acc : Value) (env : Env) (c : Code) : Sem Fin := do
  (do let _ ← call (.builtin "list.append") [acc, ← eval elt env])
  again c
/-- the rest of a turn ahead of another clause, its source i1 -/
def tailN (nd : Expr) (d : Nat) (i1 : Expr) (acc : Value) (env : Env) (c : Code) : Sem Fin := do
  let x ← eval i1 env
  standAt i1.pos
  let y ← foldedSetIterable i1 env x
  let it ← holding [y] (pyIter y)
  let _ ← runOwn (.compStart nd d it acc env) env
  again c

/-- one turn of a clause, its rest a letter -/
def turnC (t i : Expr) (ifs : List Expr) (it : Value) (env : Env) (rest : Sem Fin) (c : Code) : Sem Fin := do
  standAt i.pos
  match ← pyNext it with
  | none => pure (.done .next)
  | some v =>
    letOwnedTupleGo t it v
    assign t env v
    let mut ok := true
    for c in ifs do
      if ok then ok ← isTrue c env (eval c env)
    if ok then rest else again c

theorem turn_last {elt t i : Expr} {ifs : List Expr} {gs : List Comprehension} {sc : Scope} {ps : Pos} {d : Nat} {it acc : Value} {env : Env} (hg : gs[d]? = some ⟨t, i, ifs, 0⟩) (hn : gs[d + 1]? = none) :
    compTurn (.ListComp elt gs sc ps) d it acc env = turnC t i ifs it env (tailE elt acc env (.compLoop (.ListComp elt gs sc ps) d it acc env)) (.compLoop (.ListComp elt gs sc ps) d it acc env) := by
  unfold compTurn turnC tailE
  simp only [hg, hn]
  rfl
theorem turn_next {elt t i t1 i1 : Expr} {ifs ifs1 : List Expr} {gs : List Comprehension} {sc : Scope} {ps : Pos} {d : Nat} {it acc : Value} {env : Env} (hg : gs[d]? = some ⟨t, i, ifs, 0⟩) (hn : gs[d + 1]? = some ⟨t1, i1, ifs1, 0⟩) :
    compTurn (.ListComp elt gs sc ps) d it acc env = turnC t i ifs it env (tailN (.ListComp elt gs sc ps) (d + 1) i1 acc env (.compLoop (.ListComp elt gs sc ps) d it acc env)) (.compLoop (.ListComp elt gs sc ps) d it acc env) := by
  unfold compTurn turnC tailN
  simp only [hg, hn]
  rfl

/-- the wish where nothing is raised -/
abbrev F0 : Value → Shared → Prop := fun _ _ => False

/-- the rest of a turn, from the block's state: it comes to the turn's end with the wanted heap; ws: the names that it forgets -/
structure PB (X : Cx) (rest : Code → Sem Fin) (ws : List Nat) (tb : TB) : Prop where
  run : ∀ (pins : List (Addr × Obj)) (s : Shared) (σ : St) (H : Hp) (Nx : Hp → Prop) (c : Code), Inv X pins σ H s → tb σ H Nx →
    wpAny (model X.prog X.w) X.A (rest c) (fun f s' => f = .again c ∧ ∃ H', Inv X pins (wipe σ ws) H' s' ∧ Nx H') F0 s

/-- a clause's turns: W by the turn and a measure -/
def ClStep (J : It) (g : TG) (tt : TT) (vs : List Nat) (tb : TB) (σ : St) (W : Nat → Nat → Hp → Prop) (Nx0 : Hp → Prop) : Prop :=
  ∀ i m H, W i m H → (J.stop i H ∧ Nx0 H) ∨ (J.go i H ∧ ∃ Nx : Hp → Prop, (∀ H', Nx H' → ∃ m', m' < m ∧ W (i + 1) m' H') ∧
    ∀ x H', J.yld i H x H' → g x (wipe σ vs) H' fun σ2 H2 => wipe σ2 vs = wipe σ vs ∧ tt σ2 H2 fun b H3 => if b = true then tb σ2 H3 Nx else Nx H3)

theorem weakC {X : Cx} {pins : List (Addr × Obj)} {σ σ2 : St} {H : Hp} {s : Shared} {vs ws : List Nat} (I : Inv X pins (wipe σ2 ws) H s) (e : wipe σ2 vs = wipe σ vs) (sub : ∀ j ∈ ws, j ∈ vs) : Inv X pins (wipe σ vs) H s := by
  refine I.weak (by rw [← e, wipe_length, wipe_length]) fun j v q => ?_
  rw [← e] at q
  obtain ⟨q1, q2⟩ := wipe_some q
  rw [wipe_out fun z => q2 (sub j z)]
  exact q1

section
variable {X : Cx} {elt t i : Expr} {ifs : List Expr} {gs : List Comprehension} {sc : Scope} {ps : Pos} {d : Nat} {acc : Value}
  {g : TG} {tt : TT} {tb : TB} {vs ws : List Nat} {J : It} {fp : List Addr} {it : Addr} {tn : Nat → Heap → Prop} {pins : List (Addr × Obj)} {s : Shared} {σ : St} {H : Hp} {Nx0 : Hp → Prop}

/-- the loop of a clause -/
theorem loop_run {rest : Code → Sem Fin} (hx : X.xe = F0) (hc : X.calm = true)
    (ht : ∀ it, compTurn (.ListComp elt gs sc ps) d it acc X.env = turnC t i ifs it X.env (rest (.compLoop (.ListComp elt gs sc ps) d it acc X.env)) (.compLoop (.ListComp elt gs sc ps) d it acc X.env))
    (pg : PG X t g) (pt : PTs X ifs tt) (pb : PB X rest ws tb) (sub : ∀ j ∈ ws, j ∈ vs)
    (T : Turn X.prog X.w X.K t J fp it tn) (I : Inv X pins (wipe σ vs) H s) (st : tn 0 s.heap) (hf : ∀ b ∈ fp, FpOk X pins H b)
    {W : Nat → Nat → Hp → Prop} {m : Nat} (w0 : W 0 m H) (step : ClStep J g tt vs tb σ W Nx0) :
    codeAny (model X.prog X.w) X.A (.compLoop (.ListComp elt gs sc ps) d (.ref it) acc X.env) (fun r s' => r = .ok .next ∧ ∃ H', Inv X pins (wipe σ vs) H' s' ∧ Nx0 H') s := by
  refine codeAny_loop rfl (fun m s' => ∃ k H', Inv X pins (wipe σ vs) H' s' ∧ tn k s'.heap ∧ (∀ b ∈ fp, H' b = none) ∧ W k m H') (fun m s1 hI => ?_) m ⟨0, H, I, st, fun b hb => (hf b hb).1, w0⟩
  obtain ⟨k, H1, I1, st1, n1, w1⟩ := hI
  have fok : ∀ {H' : Hp}, (∀ b ∈ fp, H' b = none) → ∀ b ∈ fp, FpOk X pins H' b := fun n b hb => ⟨n b hb, (hf b hb).2⟩
  show wpAny _ X.A (Sem.onRaise (compTurn (.ListComp elt gs sc ps) d (.ref it) acc X.env) _) _ _ s1
  refine wpAny_noted (wpAny_mono (Q := fun fin s' => match fin with
    | .done f => f = .next ∧ ∃ H', Inv X pins (wipe σ vs) H' s' ∧ Nx0 H'
    | .again c' => c' = .compLoop (.ListComp elt gs sc ps) d (.ref it) acc X.env ∧ ∃ m', m' < m ∧ ∃ k H', Inv X pins (wipe σ vs) H' s' ∧ tn k s'.heap ∧ (∀ b ∈ fp, H' b = none) ∧ W k m' H') (E := F0) ?_ (fun fin s' h => ?_) fun _ _ z => z.elim)
  · rw [ht]
    unfold turnC
    refine wpAny_bind (wpAny_standAt (wpAny_bind ?_))
    rcases step k m H1 w1 with ⟨stop, q⟩ | ⟨go, Nx, hNx, q⟩
    · refine thnF (T.done X rfl rfl rfl hc k pins s1 _ H1 F0 I1 (fok n1) st1 stop) fun r s2 ⟨hr, I2⟩ => ?_
      subst hr
      exact wpAny_pure ⟨rfl, H1, I2, q⟩
    · refine thnF (T.item X rfl rfl rfl hc k pins s1 _ H1 F0 I1 (fok n1) st1 go) fun r s2 ⟨u, hr, h2⟩ => ?_
      subst hr
      refine wpAny_bind (thnF h2 fun _ s3 ⟨x, H3, I3, r3, y3, st3, n3⟩ => ?_)
      have I3' := I3.pinned (fok n3) (T.obj _ _ st3)
      have a1 := pg.run _ s3 _ H3 x u _ I3' r3 (q x H3 y3)
      rw [hx] at a1
      refine wpAny_bind (thnF a1 fun _ s4 ⟨σ4, H4, I4, e4, q4⟩ => ?_)
      have a2 := pt.run _ s4 σ4 H4 _ I4 q4
      rw [hx] at a2
      -- behind the rest, whatever it was
      have fin : ∀ {s' : Shared} {H' : Hp}, Inv X (pins ++ pinsAt fp s3.heap) (wipe σ vs) H' s' → Nx H' → ∃ m', m' < m ∧ ∃ k H', Inv X pins (wipe σ vs) H' s' ∧ tn k s'.heap ∧ (∀ b ∈ fp, H' b = none) ∧ W k m' H' := fun {s' H'} I' nx => by
        obtain ⟨m', hm, w'⟩ := hNx H' nx
        have stay : ∀ b ∈ fp, ∀ o, s3.heap.get? b = some o → s'.heap.get? b = some o ∧ H' b = none := fun b hb o e => by
          have z := I'.pin (b, o) (List.mem_append_right _ (List.mem_append_right _ (mem_pinsAt hb e)))
          exact ⟨z.1, z.2.1⟩
        refine ⟨m', hm, k + 1, H', I'.unpinned, T.keep _ _ _ st3 fun b hb o e => (stay b hb o e).1, fun b hb => ?_, w'⟩
        obtain ⟨o, e, _⟩ := T.obj _ _ st3 b hb
        exact (stay b hb o e).2
      refine wpAny_bind (thnF a2 fun b s5 ⟨H5, I5, q5⟩ => ?_)
      cases b with
      | false =>
        simp only [Bool.false_eq_true, if_false] at q5 ⊢
        exact wpAny_pure ⟨rfl, fin (weakC (ws := []) I5 e4 (fun j z => by cases z)) q5⟩
      | true =>
        simp only [if_true] at q5 ⊢
        refine thnF (pb.run _ s5 σ4 H5 Nx _ I5 q5) fun f s6 ⟨hf6, H6, I6, nx⟩ => ?_
        subst hf6
        exact ⟨rfl, fin (weakC I6 e4 sub) nx⟩
  · cases fin with
    | done f => exact ⟨by rw [h.1], h.2⟩
    | again c' => exact h

/-- the last clause's rest: the element, appended to the list at D -/
def tElt (D : Addr) (te : TE) : TB := fun σ H Nx => te σ H fun y H' => ∃ a, H' D = some (.lst a) ∧ a.length < sizeLine ∧ Nx (upd H' D (.lst (a ++ [y])))
theorem pb_elt {D : Addr} {te : TE} (hx : X.xe = F0) (he : PE X elt te) : PB X (tailE elt (.ref D) X.env) [] (tElt D te) := by
  refine ⟨fun pins s σ H Nx c I h => ?_⟩
  unfold tailE
  have a := he.run pins s σ H _ I h
  rw [hx] at a
  refine wpAny_bind (wpAny_bind (thnF a fun u s1 ⟨y, H1, I1, r1, ac, hD, hz, nx⟩ => wpAny_bind (app_ok I1 hD hz r1 fun s2 I2 => wpAny_pure (wpAny_pure ⟨rfl, _, I2, nx⟩))))

/-- another clause within -/
def tCl (wi : TI) (g : TG) (tt : TT) (vs : List Nat) (tb : TB) : TB := fun σ H Nx => wi σ H fun J H1 => ∃ W : Nat → Nat → Hp → Prop, (∃ m, W 0 m H1) ∧ ClStep J g tt vs tb σ W Nx
theorem pb_cl {rest : Code → Sem Fin} {wi : TI} (hx : X.xe = F0) (hc : X.calm = true) (hd : gs[d]? = some ⟨t, i, ifs, 0⟩)
    (ht : ∀ it, compTurn (.ListComp elt gs sc ps) d it acc X.env = turnC t i ifs it X.env (rest (.compLoop (.ListComp elt gs sc ps) d it acc X.env)) (.compLoop (.ListComp elt gs sc ps) d it acc X.env))
    (pi : PI X t i wi) (pg : PG X t g) (pt : PTs X ifs tt) (pb : PB X rest ws tb) (sub : ∀ j ∈ ws, j ∈ vs) (hs : ∀ x, foldedSetIterable i X.env x = pure x) :
    PB X (tailN (.ListComp elt gs sc ps) d i acc X.env) vs (tCl wi g tt vs tb) := by
  refine ⟨fun pins s σ H Nx c I h => ?_⟩
  unfold tailN
  have a := pi.run pins s σ H _ I h
  rw [hx] at a
  refine wpAny_bind (thnF a fun v s1 h1 => wpAny_bind (wpAny_standAt (wpAny_bind (wpAny_of_eq (hs v) (wpAny_bind (wpAny_holding (thnF h1 fun itv s2 h2 => ?_)))))))
  obtain ⟨it, fp, tn, J, H2, e, I2, T, st2, f2, W, ⟨m, w0⟩, step⟩ := h2
  subst e
  have loop := loop_run (H := H2) hx hc ht pg pt pb sub T (I2.weak (wipe_length _ _) fun j v q => (wipe_some q).1) st2 f2 w0 step
  refine wpAny_bind (wpAny_runOwn ?_)
  rw [Around.mark_none]
  refine codeAny_of_tree ?_
  show wpAny _ _ (Sem.onRaise (compStart (.ListComp elt gs sc ps) d (.ref it) acc X.env) _) _ _ s2
  refine wpAny_notedAt ?_
  unfold compStart
  have hcl : clausesOf (.ListComp elt gs sc ps) = gs := rfl
  rw [hcl, hd]
  have done : codeAny (model X.prog X.w) X.A (.compLoop (.ListComp elt gs sc ps) d (.ref it) acc X.env) (fun r s' => match r with
      | .ok f => wpAny (model X.prog X.w) X.A (again c) (fun f s' => f = .again c ∧ ∃ H', Inv X pins (wipe σ vs) H' s' ∧ Nx H') F0 s'
      | .error e => cameBackBy (model X.prog X.w) X.A X.env F0 e s') s2 := codeAny_mono loop fun r s' ⟨hr, H', I', q⟩ => by
    subst hr
    exact wpAny_pure ⟨rfl, H', I', q⟩
  show wpAny _ _ (ask >>= _) _ _ s2
  refine wpAny_bind (wpAny_askSetting (wpAny_ite ?_))
  split
  · first
      | exact wpAny_bind (wpAny_pure (wpAny_pure (And.intro rfl done)))
      | exact wpAny_pure (And.intro rfl done)
  · refine wpAny_bind (wpAny_rule (wpAny_bind (wpAny_standAt (wpAny_bind (T.self X.A 0 s2 _ _ st2 ?_)))))
    exact wpAny_pure (And.intro rfl done)

/-- [elt for tg in iter if .. for .. ..]: D the new list, tb D what the first clause does with an item -/
def tLcN (wi : TI) (g : TG) (tt : TT) (vs : List Nat) (tb : Addr → TB) : TE := fun σ H Q => wi σ H fun J H1 => ∀ D, H1 D = none → ∃ W : Nat → Nat → Hp → Prop, (∃ m, W 0 m (upd H1 D (.lst []))) ∧ ClStep J g tt vs (tb D) σ W (fun H' => Q (.ref D) H')

/-- the block, from the state in which its list stands -/
theorem block_run {tg iter : Expr} {rs : List Comprehension} {scope : Scope} {own : List (Str × Nat)} {pos : Pos} {tb : TB} {rest : Env → Code → Sem Fin} {D : Addr} {W : Nat → Nat → Hp → Prop} {m0 : Nat} {R : Result → Shared → Prop}
    (hc : X.calm = true) (hN : X.N.Nodup) (I : Inv X pins σ H s) (ok : BlkOk X.N X.env.scope scope own)
    (ht : ∀ it env, compTurn (.ListComp elt (⟨tg, iter, ifs, 0⟩ :: rs) scope pos) 0 it (.ref D) env = turnC tg iter ifs it env (rest env (.compLoop (.ListComp elt (⟨tg, iter, ifs, 0⟩ :: rs) scope pos) 0 it (.ref D) env)) (.compLoop (.ListComp elt (⟨tg, iter, ifs, 0⟩ :: rs) scope pos) 0 it (.ref D) env))
    (hg : ∀ (s : Shared) (H : Hp) (C : Addr) (cl : List (Str × Addr)) (fp : List Addr), PG (X.blk s H scope (compEnvC scope cl C X.env) fp) tg g)
    (hp : ∀ (s : Shared) (H : Hp) (C : Addr) (cl : List (Str × Addr)) (fp : List Addr), PTs (X.blk s H scope (compEnvC scope cl C X.env) fp) ifs tt)
    (hb : ∀ (s : Shared) (H : Hp) (C : Addr) (cl : List (Str × Addr)) (fp : List Addr), PB (X.blk s H scope (compEnvC scope cl C X.env) fp) (rest (compEnvC scope cl C X.env)) ws tb) (sub : ∀ j ∈ ws, j ∈ own.map (·.2))
    (T : Turn X.prog X.w X.K tg J fp it tn) (st : tn 0 s.heap) (hf : ∀ b ∈ fp, FpOk X pins H b ∧ b < s.heap.objs.size) (w0 : W 0 m0 H) (step : ClStep J g tt (own.map (·.2)) tb σ W Nx0)
    (hR : ∀ s' m H', Inv X pins σ H' s' → Nx0 H' → s'.heap.Ns s.heap.objs.size m → FpOk X pins H' s.heap.objs.size → R (.ok .next) s') :
    codeAny (model X.prog X.w) X.A (.compStart (.ListComp elt (⟨tg, iter, ifs, 0⟩ :: rs) scope pos) 0 (.ref it) (.ref D) (compEnvC scope (cellsFrom (s.heap.objs.size + 1) scope.names (cloFrom X.env.cells scope.names [])) s.heap.objs.size X.env)) R
      { s with heap := pushCells (s.heap.push { cls := .type "dict", data := .dict #[] }) scope.names } := by
  have I4 := block_start I ok hN hf
  have qg := hg s H s.heap.objs.size (cellsFrom (s.heap.objs.size + 1) scope.names (cloFrom X.env.cells scope.names [])) fp
  have qp := hp s H s.heap.objs.size (cellsFrom (s.heap.objs.size + 1) scope.names (cloFrom X.env.cells scope.names [])) fp
  have qb := hb s H s.heap.objs.size (cellsFrom (s.heap.objs.size + 1) scope.names (cloFrom X.env.cells scope.names [])) fp
  have st4 : tn 0 (pushCells (s.heap.push { cls := .type "dict", data := .dict #[] }) scope.names) := T.keep _ _ _ st fun _ _ _ e => pushCells_keeps _ _ _ _ (Heap.get?_push_of_some _ e)
  generalize hce : compEnvC scope (cellsFrom (s.heap.objs.size + 1) scope.names (cloFrom X.env.cells scope.names [])) s.heap.objs.size X.env = ce at I4 qg qp qb ⊢
  have cL : ce.locals = s.heap.objs.size := by rw [← hce]; rfl
  have f4 : ∀ b ∈ fp, FpOk (X.blk s H scope ce fp) [] H b := fun b hb =>
    ⟨(hf b hb).1.1, (I4.ok.exf b hb).1, I4.ok.exfs b hb, .inl hb, fun x c e => (I4.ok.exf b hb).2 x c e, fun p hp => by cases hp⟩
  have loop := loop_run (X := X.blk s H scope ce fp) (it := it) rfl hc (fun it => ht it ce) qg qp qb sub T I4 st4 f4 w0 step
  have fin : codeAny (model X.prog X.w) X.A (.compLoop (.ListComp elt (⟨tg, iter, ifs, 0⟩ :: rs) scope pos) 0 (.ref it) (.ref D) ce) R { s with heap := pushCells (s.heap.push { cls := .type "dict", data := .dict #[] }) scope.names } := by
    refine codeAny_mono loop fun r s' ⟨hr, H', I', nx⟩ => ?_
    subst hr
    obtain ⟨m, hn, _⟩ := I'.loc
    have hn : s'.heap.Ns ce.locals m := hn
    have nC : H' ce.locals = none := I'.free
    rw [cL] at hn nC
    exact hR s' m H' (I.call' (ch := fp) I'.os I'.base I'.hok I'.bare fun b hb => let z := (hf b hb).1.2; ⟨z.2.2.1, z.1, z.2.2.2.1, z.2.2.2.2⟩) nx hn (I.fpOk (Nat.le_refl _) nC)
  exact codeAny_compStart_list fin (T.self X.A 0 _ _ _ st4 fin)

theorem lcN_core {tg iter : Expr} {rs : List Comprehension} {scope : Scope} {own : List (Str × Nat)} {pos pos' : Pos} {wi : TI} {tb : Addr → TB} {rest : Addr → Env → Code → Sem Fin}
    {use : Option (Value → Sem Unit)} {Qf : Value → Shared → Prop} {Q : VK}
    (hc : X.calm = true) (hN : X.N.Nodup) (I : Inv X pins σ H s) (hi : PI X tg iter wi) (ok : BlkOk X.N X.env.scope scope own) (hs : ∀ x, foldedSetIterable iter X.env x = pure x)
    (ht : ∀ it D env, compTurn (.ListComp elt (⟨tg, iter, ifs, 0⟩ :: rs) scope pos) 0 it (.ref D) env = turnC tg iter ifs it env (rest D env (.compLoop (.ListComp elt (⟨tg, iter, ifs, 0⟩ :: rs) scope pos) 0 it (.ref D) env)) (.compLoop (.ListComp elt (⟨tg, iter, ifs, 0⟩ :: rs) scope pos) 0 it (.ref D) env))
    (hg : ∀ (s : Shared) (H : Hp) (C : Addr) (cl : List (Str × Addr)) (fp : List Addr), PG (X.blk s H scope (compEnvC scope cl C X.env) fp) tg g)
    (hp : ∀ (s : Shared) (H : Hp) (C : Addr) (cl : List (Str × Addr)) (fp : List Addr), PTs (X.blk s H scope (compEnvC scope cl C X.env) fp) ifs tt)
    (hb : ∀ (s : Shared) (H : Hp) (C : Addr) (cl : List (Str × Addr)) (fp : List Addr) (D : Addr), PB (X.blk s H scope (compEnvC scope cl C X.env) fp) (rest D (compEnvC scope cl C X.env)) ws (tb D)) (sub : ∀ j ∈ ws, j ∈ own.map (·.2))
    (h : tLcN wi g tt (own.map (·.2)) tb σ H Q)
    (hR : ∀ D C s' m H', Inv X pins σ H' s' → Q (.ref D) H' → s'.heap.Ns C m → FpOk X pins H' C → compPost (model X.prog X.w) X.A X.xe use Qf (.ref D) C (.ok .next) s') :
    wpAny (model X.prog X.w) X.A (comprehension (.ListComp elt (⟨tg, iter, ifs, 0⟩ :: rs) scope pos) scope X.env pos' (newList []) false (eval iter X.env) use) Qf X.xe s := by
  have hfr : ∀ y ∈ scope.names, y.2 = .free → ∃ c, X.env.cells.lookup y.1 = some c := fun y hy e =>
    I.ok.has _ (ok.free y hy e)
  refine wpAny_comprehension_free (use := use) rfl hs (closure_ok hfr) ok.kind (fun y hy e => (ok.uniq y hy).trans (congrArg some e))
    (thn (hi.run pins s σ H _ I h) fun xv s1 h1 => thn h1 fun itv s2 ⟨it, fp, tn, J, H2, e, I2, T, st2, f2, q⟩ => ?_)
  subst e
  refine wpAny_newObj_type (newEnv_comp ?_) (Nat.zero_le _)
  have hfree : H2 s2.heap.objs.size = none := I2.hok.fresh (Nat.le_refl _)
  obtain ⟨W, ⟨m0, w0⟩, step⟩ := q _ hfree
  have small : ∀ b ∈ fp, b < s2.heap.objs.size := fun b hb => let ⟨_, e, _⟩ := T.obj _ _ st2 b hb; Heap.lt_size e
  have I3 : Inv X pins σ (upd H2 s2.heap.objs.size (.lst [])) { s2 with heap := s2.heap.push { cls := .type "list", data := .seq ([] : List Value).toArray } } :=
    I2.laid (t' := s2.toks) (fun _ _ e => Heap.get?_push_of_some _ e) (Nat.le_refl _) ⟨Nat.zero_le _, [], 0, .nil, Heap.get?_push_size _ rfl⟩
  refine block_run (T := T) (tb := tb s2.heap.objs.size) (rest := rest s2.heap.objs.size) hc hN I3 ok (fun it env => ht it _ env) hg hp (fun s H C cl fp => hb s H C cl fp _) sub (T.keep _ _ _ st2 fun _ _ _ e => Heap.get?_push_of_some _ e)
    (fun b hb => ⟨⟨(upd_ne (Nat.ne_of_lt (small b hb))).trans (f2 b hb).1, (f2 b hb).2⟩, ?_⟩) w0 step (fun s' m H' I' q hn f => hR _ _ s' m H' I' q hn f)
  show b < (s2.heap.push _).objs.size
  rw [Heap.size_push]
  exact Nat.lt_succ_of_lt (small b hb)

/-- the rule, as a value -/
theorem pe_lcN {tg iter : Expr} {rs : List Comprehension} {scope : Scope} {own : List (Str × Nat)} {pos : Pos} {wi : TI} {tb : Addr → TB} {rest : Addr → Env → Code → Sem Fin}
    (hc : X.calm = true) (hN : X.N.Nodup) (hi : PI X tg iter wi) (ok : BlkOk X.N X.env.scope scope own)
    (ht : ∀ it D env, compTurn (.ListComp elt (⟨tg, iter, ifs, 0⟩ :: rs) scope pos) 0 it (.ref D) env = turnC tg iter ifs it env (rest D env (.compLoop (.ListComp elt (⟨tg, iter, ifs, 0⟩ :: rs) scope pos) 0 it (.ref D) env)) (.compLoop (.ListComp elt (⟨tg, iter, ifs, 0⟩ :: rs) scope pos) 0 it (.ref D) env))
    (hg : ∀ (s : Shared) (H : Hp) (C : Addr) (cl : List (Str × Addr)) (fp : List Addr), PG (X.blk s H scope (compEnvC scope cl C X.env) fp) tg g)
    (hp : ∀ (s : Shared) (H : Hp) (C : Addr) (cl : List (Str × Addr)) (fp : List Addr), PTs (X.blk s H scope (compEnvC scope cl C X.env) fp) ifs tt)
    (hb : ∀ (s : Shared) (H : Hp) (C : Addr) (cl : List (Str × Addr)) (fp : List Addr) (D : Addr), PB (X.blk s H scope (compEnvC scope cl C X.env) fp) (rest D (compEnvC scope cl C X.env)) ws (tb D)) (sub : ∀ j ∈ ws, j ∈ own.map (·.2))
    (hs : ∀ x, foldedSetIterable iter X.env x = pure x := by intro _; rfl) :
    PE X (.ListComp elt (⟨tg, iter, ifs, 0⟩ :: rs) scope pos) (tLcN wi g tt (own.map (·.2)) tb) := by
  refine ⟨fun pins s σ H Q I h => ?_⟩
  rw [eval_ListComp]
  refine lcN_core hc hN I hi ok hs ht hg hp hb sub h fun D C s' m H' I' q hn f => ⟨m, hn, fun h2 same => ?_⟩
  exact ⟨.ref D, H', I'.turned (t' := s'.toks) (fun b o hb e => (same.2 b hb).trans e) f.1 f.2.1 f.2.2.2.1 f.2.2.2.2.1 f.2.2.2.2.2, rfl, q⟩
/-- y = [..] on one row, y a local in the slot k -/
theorem ps_setLcN {k : Nat} {y : Str} {py : Pos} {tg iter : Expr} {rs : List Comprehension} {scope : Scope} {own : List (Str × Nat)} {pos spos : Pos} {wi : TI} {tb : Addr → TB} {rest : Addr → Env → Code → Sem Fin}
    (hc : X.calm = true) (hN : X.N.Nodup) (hy : X.N[k]? = some y) (hl : X.env.scope.names.lookup y = some .local)
    (hw : swapsWith (.ListComp elt (⟨tg, iter, ifs, 0⟩ :: rs) scope pos) (some (.Name y py)) spos.line X.env = pure true) (hi : PI X tg iter wi) (ok : BlkOk X.N X.env.scope scope own)
    (ht : ∀ it D env, compTurn (.ListComp elt (⟨tg, iter, ifs, 0⟩ :: rs) scope pos) 0 it (.ref D) env = turnC tg iter ifs it env (rest D env (.compLoop (.ListComp elt (⟨tg, iter, ifs, 0⟩ :: rs) scope pos) 0 it (.ref D) env)) (.compLoop (.ListComp elt (⟨tg, iter, ifs, 0⟩ :: rs) scope pos) 0 it (.ref D) env))
    (hg : ∀ (s : Shared) (H : Hp) (C : Addr) (cl : List (Str × Addr)) (fp : List Addr), PG (X.blk s H scope (compEnvC scope cl C X.env) fp) tg g)
    (hp : ∀ (s : Shared) (H : Hp) (C : Addr) (cl : List (Str × Addr)) (fp : List Addr), PTs (X.blk s H scope (compEnvC scope cl C X.env) fp) ifs tt)
    (hb : ∀ (s : Shared) (H : Hp) (C : Addr) (cl : List (Str × Addr)) (fp : List Addr) (D : Addr), PB (X.blk s H scope (compEnvC scope cl C X.env) fp) (rest D (compEnvC scope cl C X.env)) ws (tb D)) (sub : ∀ j ∈ ws, j ∈ own.map (·.2))
    (hs : ∀ x, foldedSetIterable iter X.env x = pure x := by intro _; rfl) :
    PS X (.Assign [.Name y py] (.ListComp elt (⟨tg, iter, ifs, 0⟩ :: rs) scope pos) spos) (tAsg (tLcN wi g tt (own.map (·.2)) tb) (gName k)) := by
  refine ⟨fun pins s σ H D I h => ?_⟩
  rw [exec_Assign_Name_used _ _ _ _ hw]
  refine wpAny_bind (wpAny_standAt (wpAny_bind (wpAny_bind (thn (lcN_core (Qf := fun _ s' => SP X pins D .next s') (Q := fun x H1 => gName k x σ H1 D.nx) hc hN I hi ok hs ht hg hp hb sub h fun L C s' m H' I' q hn f => ?_) fun _ s' hq => wpAny_pure (wpAny_pure hq)))))
  refine wpAny_assign_Name (store_ok2 (v := V.ref L) I' hN hy (.inl hl) rfl (fun s2 I2 ⟨a, same, ha⟩ => ?_) (.inr hl))
  have apart : C ≠ a := ha.elim (fun z => z ▸ f.2.1) fun z e => f.2.2.2.2.1 y a z e.symm
  refine ⟨m, hn.sameBut same apart, fun h3 same3 => ?_⟩
  exact ⟨_, H', I2.turned (t' := s2.toks) (fun b o hb e => (same3.2 b hb).trans e) f.1 f.2.1 f.2.2.2.1 f.2.2.2.2.1 f.2.2.2.2.2, q⟩
end
end L2.Px

/-! Rules beside the hand layer: sorted of a tuple, enumerate of a tuple, repr of data. -/
namespace L2.Px
open PySem PySem.Spec PyProof.Rows

/-- the context one call of a built-in deeper -/
abbrev up1 (X : Cx) : Cx := { X with A := X.A.in1 }
theorem ok_up1 {X : Cx} (o : X.Ok) : (up1 X).Ok := ⟨o.mod, o.kind, o.glob, o.blt, o.above, o.inj, o.has, o.cab, o.hd, o.frames, o.stk, o.exf, o.bs, o.bsz, o.noex, o.exfs, o.funs, o.frf⟩
theorem inv_up1 {X : Cx} {pins : List (Addr × Obj)} {σ : St} {H : Hp} {s : Shared} (I : Inv X pins σ H s) : Inv (up1 X) pins σ H s := ⟨ok_up1 I.ok, I.os, I.bare, I.base, I.loc, I.cell, I.free, I.freeC, I.pin, I.hok, I.len⟩
theorem ok_dn1 {X : Cx} (o : (up1 X).Ok) : X.Ok := ⟨o.mod, o.kind, o.glob, o.blt, o.above, o.inj, o.has, o.cab, o.hd, o.frames, o.stk, o.exf, o.bs, o.bsz, o.noex, o.exfs, o.funs, o.frf⟩
theorem inv_dn1 {X : Cx} {pins : List (Addr × Obj)} {σ : St} {H : Hp} {s : Shared} (I : Inv (up1 X) pins σ H s) : Inv X pins σ H s := ⟨ok_dn1 I.ok, I.os, I.bare, I.base, I.loc, I.cell, I.free, I.freeC, I.pin, I.hok, I.len⟩
section
variable {X : Cx}
/-- sorted(t), t a tuple of ints: a new list -/
def rSortedTI (K : PySem.W.Frag) : List V → Hp → VK → Prop := fun vs H Q => ∃ (a : Addr) (ns : List Int), vs = [V.ref a] ∧ (SqL K H a (ns.map V.int) ∨ SqT K H a (ns.map V.int)) ∧
  ∀ (ms : List Int) (p : Addr), ms.Perm ns → ms.Pairwise (· ≤ ·) → H p = none → Q (.ref p) (upd H p (.lst (ms.map V.int)))
theorem cr_sortedTI : CallR X (.builtin "sorted") (rSortedTI X.K) := by
  intro pins s σ H vs us Q I r h
  obtain ⟨a, ns, rfl, hq, q⟩ := h
  have go : ∀ (T : String) (o : Obj) (its : List Value) (n : Nat), T = "list" ∨ T = "tuple" → Vals (ns.map V.int) its → (ns.map V.int).length ≤ sizeLine → s.heap.get? a = some o → o.cls = .type T → o.data = .seq its.toArray n →
      wpAny (model X.prog X.w) X.A (call (.builtin "sorted") us) (EP X pins σ Q) X.xe s := by
    intro T o its n hT rv hz ho hc hd
    have hi : its.length ≤ sizeLine := rv.length ▸ hz
    rw [Vals.ref1 r]
    refine Calls.call_function_entry kind_sorted plain_sorted entry_sorted (args_sorted1 _) ?_
    unfold Builtin.«sorted»
    refine wpAny_bind (m := checkCount "sorted" 1 1 _) (wpAny_pure (wpAny_bind (wpAny_collect_seq a hT ho hc hd (fun h1 kp => ?_) (by rw [List.size_toArray]; exact hi))))
    refine wpAny_bind (wpAny_newList ?_ hi)
    have I1 : Inv X pins σ H { s with heap := h1 } := I.kept (t' := s.toks) kp
    have hn : H h1.objs.size = none := I1.hok.fresh (Nat.le_refl _)
    have I2 : Inv X pins σ (upd H h1.objs.size (.lst (ns.map V.int))) { s with heap := h1.push { cls := .type "list", data := .seq its.toArray } } :=
      I1.laid (t' := s.toks) (fun _ _ e => Heap.get?_push_of_some _ e) (Nat.le_refl _) ⟨hz, its, 0, rv, Heap.get?_push_size _ rfl⟩
    have srt := mt_sortI (X := up1 X) pins { s with heap := h1.push { cls := .type "list", data := .seq its.toArray } } σ _ (.ref h1.objs.size) [] (.ref h1.objs.size) [] (fun v H' => v = .non ∧ ∃ ms : List Int, ms.Perm ns ∧ ms.Pairwise (· ≤ ·) ∧ H' = upd H h1.objs.size (.lst (ms.map V.int))) (inv_up1 I2) rfl .nil
      ⟨h1.objs.size, ns, rfl, rfl, upd_same, fun ms hp hs => ⟨rfl, ms, hp, hs, upd_upd⟩⟩
    refine wpAny_bind (wpAny_holding (thn srt fun v s3 ⟨x, H3, I3, rx, ex, ms, hp, hs, e3⟩ => ?_))
    subst e3
    exact wpAny_pure ⟨_, rfl, .ref h1.objs.size, _, inv_dn1 I3, rfl, q ms _ hp hs hn⟩
  rcases hq with hq | hq
  · obtain ⟨its, rv, pl, hz⟩ := I.list hq
    obtain ⟨o, ho, hc, n, hd⟩ := pl.isList
    exact go _ o its n (.inl rfl) rv hz ho hc hd
  · obtain ⟨its, rv, pl, hz⟩ := I.tuple hq
    obtain ⟨o, ho, hc, n, hd⟩ := pl
    exact go _ o its n (.inr rfl) rv hz ho hc hd

/-- repr(x) of data, where no repr runs -/
def rReprD (K : PySem.W.Frag) : List V → Hp → VK → Prop := fun vs H Q => ∃ (x : V) (d : PyData), vs = [x] ∧ Dp K H x d ∧ d.showable = true ∧ d.hasDict = false ∧ d.depth ≤ 60 ∧ d.shown.length ≤ sizeLine ∧ Q (.str d.shown) H
theorem cr_reprD (hg : X.A.guards = some []) (hu : X.A.units + 64 < cLine) : CallR X (.builtin "repr") (rReprD X.K) := by
  intro pins s σ H vs us Q I r h
  obtain ⟨x, d, rfl, hd, hs, hnd, hdp, hz, q⟩ := h
  cases r with
  | cons rx rr =>
    cases rr
    have hd0 := hd
    cases hd with
    | non =>
      cases rx
      exact PySem.P.repr_of_none ⟨.str ("None" : Str), H, I.tok _, ⟨_, rfl⟩, q⟩
    | bl b =>
      cases rx
      exact PySem.P.repr_of_bool ⟨.str (if b then ("True" : Str) else ("False" : Str)), H, I.tok _, ⟨_, by cases b <;> rfl⟩, by cases b <;> exact q⟩
    | int i =>
      obtain ⟨t, rfl⟩ := rx
      exact PySem.P.repr_of_int (of_decide_eq_true (by simpa [PyData.showable] using hs)) ⟨.str (toString i : String), H, I.tok _, ⟨_, rfl⟩, q⟩
    | str x =>
      obtain ⟨t, rfl⟩ := rx
      exact PySem.P.repr_of_str ⟨.str (reprText x), H, I.tok _, ⟨_, rfl⟩, q⟩ hz
    | lst hq ha =>
      cases rx
      obtain ⟨as, rd⟩ := Dp.reads I _ _ _ hd0 rfl
      exact repr_of_reads' rd hs (fun z => by rw [hnd] at z; cases z) hg (by omega) (fun _ _ e => e) (fun h' u tk kp => ⟨.str _, H, I.kept (t' := tk) kp, ⟨_, rfl⟩, q⟩) hz
    | tup hq ha =>
      cases rx
      obtain ⟨as, rd⟩ := Dp.reads I _ _ _ hd0 rfl
      exact repr_of_reads' rd hs (fun z => by rw [hnd] at z; cases z) hg (by omega) (fun _ _ e => e) (fun h' u tk kp => ⟨.str _, H, I.kept (t' := tk) kp, ⟨_, rfl⟩, q⟩) hz

/-! ### enumerate(t), t a tuple -/
theorem meets_enum_newT (t : Addr) (items : Array Value) :
    Meets (Builtin.«enumerate.__new__» ⟨[.type "enumerate", .ref t], []⟩) (fun _ R s => s.heap.IsTuple t items ∧
      R (.ok (.ret (.ref (s.heap.push { cls := .type "tuple_iterator", data := .fields #[.ref t, .int 0 0] }).objs.size)))
        { s with heap := (s.heap.push { cls := .type "tuple_iterator", data := .fields #[.ref t, .int 0 0] }).push { cls := .type "enumerate", data := .fields #[.none, .bool false, .ref s.heap.objs.size, rawInt 0, .none, .none] } }) :=
  .of_wp fun prog w A R s h => by
    obtain ⟨hp, g, d, tk, os⟩ := s
    obtain ⟨hl, h⟩ := h
    have hsub := sub_enumerate
    have hL : Heap.IsTuple (Shared.heap ⟨hp, g, d, tk, os⟩) t items := hl
    wp_walk
    refine wpAny_stack_any fun st => wpAny_pure ?_
    split
    · rename_i c _ _ _ _ _
      cases (c == Value.type "enumerate")
      all_goals
        wp_walk using wpAny_pyIter_tuple hL
        exact ⟨_, rfl, h⟩
    · wp_walk using wpAny_pyIter_tuple hL
      exact ⟨_, rfl, h⟩

theorem call_enumT {prog : Program} {w : World} {A : Around} {E : Value → Shared → Prop} {s : Shared} {t : Addr} {items : Array Value} {Q : Value → Shared → Prop} (ht : s.heap.IsTuple t items)
    (h : ∀ h', IsEnum h' (s.heap.objs.size + 1) s.heap.objs.size 0 .none → h'.IsTupleIter s.heap.objs.size t 0 →
      (∀ b o, s.heap.get? b = some o → h'.get? b = some o) → Q (.ref (s.heap.objs.size + 1)) { s with heap := h' }) : wpAny (model prog w) A (call (.type "enumerate") [.ref t]) Q E s := by
  refine callType_new F.called_enumerate (by decide) (F.typeCall_enumerate_1 _) (F.newCall_enumerate_1 _) (fun obj => F.args_object_init_2 obj _) F.entry_enumerate_new (meets_enum_newT t items) ⟨ht, ?_⟩
  have z : (s.heap.push { cls := .type "tuple_iterator", data := .fields #[.ref t, .int 0 0] }).objs.size = s.heap.objs.size + 1 := Heap.size_push ..
  have e2 := Heap.get?_push_size (s.heap.push { cls := .type "tuple_iterator", data := .fields #[.ref t, .int 0 0] }) (o := { cls := .type "enumerate", data := .fields #[.none, .bool false, .ref s.heap.objs.size, rawInt 0, .none, .none] }) rfl
  rw [z] at e2
  show _ ∧ _
  rw [z]
  exact ⟨⟨_, e2, rfl⟩, h _ e2 ⟨_, Heap.get?_push_of_some _ (Heap.get?_push_size _ rfl), rfl, rfl⟩ fun b o x => Heap.get?_push_of_some _ (Heap.get?_push_of_some _ x)⟩

/-- the pairs (i, item i) of the tuple at a, each a new tuple -/
def Itet (K : PySem.W.Frag) (a : Addr) : It :=
  ⟨fun i H => ∃ (xs : List V) (x : V), SqT K H a xs ∧ xs[i]? = some x, fun i H v H' => ∃ T x, v = .ref T ∧ H T = none ∧ H' = upd H T (.tup [.int (i : Nat), x]) ∧ ∀ xs, SqT K H a xs → xs[i]? = some x,
    fun i H => ∃ xs : List V, SqT K H a xs ∧ xs.length = i⟩
theorem turn_enumT {P : Program} {w : World} {K : PySem.W.Frag} {elts : List Expr} {kk : Nat} {tpos : Pos} (a e it : Addr) :
    Turn P w K (.Tuple elts kk tpos) (Itet K a) [e, it] e (fun i h => (∃ old, IsEnum h e it ((i : Nat) : Int) old) ∧ h.IsTupleIter it a i ∧ e ≠ it) where
  mem := List.mem_cons_self
  obj := fun i h ⟨⟨old, he⟩, ⟨o, ho, hc, hd⟩, _⟩ b hb => by
    rcases List.mem_cons.mp hb with z | z
    · subst z
      exact ⟨_, he, fun v q => nomatch q⟩
    · obtain rfl := List.mem_singleton.mp z
      exact ⟨o, ho, fun v q => by rw [hd] at q; cases q⟩
  keep := fun i h h' ⟨⟨old, he⟩, hi, hne⟩ k => ⟨⟨old, k e (by simp) _ he⟩, hi.at fun o q => k it (by simp) o q, hne⟩
  item := by
    intro X hP hw hK hc i pins s σ H E I hf st hg
    subst hP hw hK
    obtain ⟨⟨old, he⟩, hit, hne⟩ := st
    obtain ⟨xs, x, hq, hx⟩ := hg
    obtain ⟨its, rv, tp, hz⟩ := I.tuple hq
    obtain ⟨u, hu, ru⟩ := rv.get hx
    have hel : e < s.heap.objs.size := Heap.lt_size he
    have hil : it < s.heap.objs.size := by obtain ⟨_, q, _⟩ := hit; exact Heap.lt_size q
    have nit : a ≠ it := fun z => by
      subst z
      obtain ⟨o1, h1, c1, d1⟩ := hit
      obtain ⟨o2, h2, c2, n2, d2⟩ := tp
      rw [h1] at h2; cases h2
      rw [d1] at d2; cases d2
    have nea : e ≠ a := fun z => by
      subst z
      obtain ⟨o2, h2, c2, n2, d2⟩ := tp
      have he' : s.heap.get? e = _ := he
      rw [he'] at h2; cases h2; cases d2
    refine wpAny_pyNext_enum_itemD (Draws.tuple (A := X.A.in1) (I.ok.hd hc) it a nit its.toArray) he ⟨hit, tp⟩ (by rw [List.size_toArray, ← rv.length]; exact (List.getElem?_eq_some_iff.mp hx).1) hne (by simp [hne, nea]) fun y h' tk hy ho st' hT hsz hk => ?_
    have ey : y = u := by
      have : its[i]? = some y := by simpa using hy
      rw [hu] at this
      exact (Option.some.inj this).symm
    subst ey
    refine ⟨_, rfl, wpAny_letOwnedTupleGo_enum (s := { s with heap := h', toks := tk + 1 }) ho fun h2 he2 same => ?_⟩
    have hT2 : h2.get? s.heap.objs.size = some { cls := .type "tuple", data := .seq #[.int i tk, y] } := (same.2 _ (Nat.ne_of_gt hel)).trans hT
    have new : ObjOk X.prog X.w (upd H s.heap.objs.size (.tup [.int (i : Nat), x])) h2 s.heap.objs.size (.tup [.int (i : Nat), x]) :=
      ⟨(by decide : 2 ≤ sizeLine), [.int i tk, y], .cons ⟨_, rfl⟩ (.cons ru .nil), ⟨_, hT2, rfl, _, rfl⟩⟩
    have I1 := I.turnedNew (t' := tk + 1) (ch := [e, it]) (fun b ob hb q => by
      have hb1 : b ≠ e := fun z => hb (by simp [z])
      have hb2 : b ≠ it := fun z => hb (by simp [z])
      exact (same.2 b hb1).trans (hk b ob hb1 hb2 q)) hf (Nat.le_refl _) new
    refine ⟨.ref s.heap.objs.size, _, I1, rfl, ⟨_, x, rfl, I.hok.fresh (Nat.le_refl _), rfl, fun ys hy => by rw [I.tuple_inj hy hq]; exact hx⟩, ⟨⟨y, ?_⟩, st'.1.at fun o q => (same.2 it (Ne.symm hne)).trans q, hne⟩, fun b hb => ?_⟩
    · rw [show ((i + 1 : Nat) : Int) = (i : Int) + 1 by omega]
      exact he2
    · have small : b < s.heap.objs.size := by
        rcases List.mem_cons.mp hb with z | z
        · rw [z]; exact hel
        · rw [List.mem_singleton.mp z]; exact hil
      exact (upd_ne (Nat.ne_of_lt small)).trans (hf b hb).1
  done := by
    intro X hP hw hK hc i pins s σ H E I hf st hg
    subst hP hw hK
    obtain ⟨⟨old, he⟩, hit, hne⟩ := st
    obtain ⟨xs, hq, hx⟩ := hg
    obtain ⟨its, rv, tp, hz⟩ := I.tuple hq
    obtain ⟨f0, f1, f2, f3, f4, f5⟩ := hf it (by simp)
    have nit : a ≠ it := fun z => by
      subst z
      obtain ⟨o1, h1, c1, d1⟩ := hit
      obtain ⟨o2, h2, c2, n2, d2⟩ := tp
      rw [h1] at h2; cases h2
      rw [d1] at d2; cases d2
    have ei : its.toArray.size = i := by rw [List.size_toArray, ← rv.length]; exact hx
    rw [← ei] at hit
    refine wpAny_pyNext_enum_endD (Draws.tuple (A := X.A.in1) (I.ok.hd hc) it a nit its.toArray) he ⟨hit, tp⟩ fun h' eb => ?_
    exact ⟨rfl, I.turned (t' := s.toks) (fun b o hb q => eb b o hb q) f0 f1 f3 f4 f5⟩
  self := fun A i s Q E ⟨⟨_, he⟩, _⟩ h => wpAny_pyIter_enum he h

def iEnumT (K : PySem.W.Frag) (ta : TA) : TI := fun σ H R => ta σ H fun vs H1 => ∃ a xs, vs = [.ref a] ∧ SqT K H1 a xs ∧ R (Itet K a) H1
theorem pi_enumT {e : Expr} {ta : TA} {p pos tpos : Pos} {elts : List Expr} {kk : Nat} (hg : Gl X "enumerate") (hm : X.mg "enumerate" = none) (ha : PA X [e] ta) (hs : starEach [e] X.env = [(false, eval e X.env)] := by rfl) :
    PI X (.Tuple elts kk tpos) (.Call (.Name "enumerate" p) [e] [] pos) (iEnumT X.K ta) := by
  refine ⟨fun pins s σ H R I h => ?_⟩
  refine Call_ (ld_blt I hg hm boot_enumerate (PyProof.Rows.callWith_type1 (thn (ha.run pos pins s σ H _ I h) fun us s1 ⟨vs, H1, I1, r1, a, xs, ex, hq, q⟩ => ?_) hs rfl))
  subst ex
  rw [Vals.ref1 r1]
  obtain ⟨its, rv, tp, hz⟩ := I1.tuple hq
  refine call_enumT tp fun h' he hit hk => wpAny_pyIter_enum he ?_
  refine ⟨s1.heap.objs.size + 1, [s1.heap.objs.size + 1, s1.heap.objs.size], _, _, H1, rfl, I1.kept (t' := s1.toks) hk, turn_enumT a (s1.heap.objs.size + 1) s1.heap.objs.size, ⟨⟨.none, he⟩, hit, Nat.succ_ne_self _⟩, fun b hb => ?_, q⟩
  have big : s1.heap.objs.size ≤ b := by
    rcases List.mem_cons.mp hb with z | z
    · rw [z]; exact Nat.le_succ _
    · rw [List.mem_singleton.mp z]; exact Nat.le_refl _
  exact I1.fpOk big (I1.hok.fresh big)

theorem walk_enumT {K : PySem.W.Frag} {a : Addr} {xs : List V} : Walk (Itet K a) xs.length (fun H => SqT K H a xs) (YPair (fun i => some (.int (i : Nat))) (fun i => xs[i]?)) :=
  ⟨fun i H hi h => ⟨xs, xs[i], h, by simp [hi]⟩, fun H h => ⟨xs, h, rfl⟩, fun i H x H' hi h ⟨T, y, e, hT, e2, hy⟩ => ⟨T, _, y, e, hT, e2, rfl, hy xs h⟩⟩

/-- a clause's turns by an invariant -/
theorem cl_it {J : It} {n : Nat} {G : Hp → Prop} {Y : Nat → Hp → V → Hp → Prop} (w : Walk J n G Y) {g : TG} {tt : TT} {vs : List Nat} {tb : TB} {σ : St} {H1 : Hp} {Nx0 : Hp → Prop} (Pv : Nat → Hp → Prop) (h0 : Pv 0 H1) (hG : ∀ i H, i ≤ n → Pv i H → G H)
    (hs : ∀ i x H H', i < n → Pv i H → Y i H x H' → g x (wipe σ vs) H' fun σ2 H2 => wipe σ2 vs = wipe σ vs ∧ tt σ2 H2 fun b H3 => if b = true then tb σ2 H3 (Pv (i + 1)) else Pv (i + 1) H3) (hd : ∀ H, Pv n H → Nx0 H) :
    ∃ W : Nat → Nat → Hp → Prop, (∃ m, W 0 m H1) ∧ ClStep J g tt vs tb σ W Nx0 := by
  refine ⟨fun i m H => m = n - i ∧ i ≤ n ∧ Pv i H, ⟨n, rfl, Nat.zero_le _, h0⟩, fun i m H hw => ?_⟩
  obtain ⟨rfl, hi, p⟩ := hw
  rcases Nat.lt_or_eq_of_le hi with lt | e
  · refine .inr ⟨w.goes i H lt (hG i H hi p), Pv (i + 1), fun H' p' => ⟨n - (i + 1), by omega, rfl, lt, p'⟩, fun x H' y => hs i x H H' lt p (w.yields i H x H' lt (hG i H hi p) y)⟩
  · subst e
    exact .inl ⟨w.stops H (hG i H hi p), hd H p⟩
end
end L2.Px

/-! The law's own def, entered where no repr runs: its promise knows that. -/
namespace L2.Px
open PySem PySem.Spec PyProof.Rows

/-- the promise of a def that is entered where no repr runs -/
structure GFn (P : Program) (w : World) (K : PySem.W.Frag) (mg : Str → Option Value) (base : Heap) (k : Nat) (f : Addr) (fd : FuncData) (ps : List Str) (sp : Sp) : Prop where
  run : ∀ (A : Around) (outer : List Env) (s : Shared) (H : Hp) (args : Args) (us : List Value) (vs : List V) (Q : VK) (E : XK), A.guards = some [] → Room k A → Env0 P w K mg base A outer s H → BindsTo s fd args (ps.zip us) → Vals vs us → sp vs H Q E →
    codeAny (model P w) A (.call (.ref f) args) (CR CX0 outer P w H s Q E) s

theorem gfn_of {P : Program} {w : World} {K : PySem.W.Frag} {mg : Str → Option Value} {base : Heap} {k : Nat} {f : Addr} {x qual : Str} {st : Stmt} {fd : FuncData} {N ps : List Str} {sp : Sp} (F : Fun K x qual st f fd) (S : FnScope N ps (defScope st))
    (len : ∀ vs H Q E, sp vs H Q E → vs.length = ps.length)
    (body : ∀ (cdv : Value) (A : Around) (outer : List Env) (s : Shared) (H : Hp) (vs : List V) (Q : VK) (E : XK), A.guards = some [] → Room k (A.deeper (envOfC qual (defScope st) s.heap.objs.size f cdv)) → sp vs H Q E →
      ∃ t, PSs (cxOf CX0 P w K mg base N qual (defScope st) f cdv A outer s H E).nox (defBody st) t ∧ t { nx := fun _ H' => Q .non H', rt := Q } (start N vs) H) :
    GFn P w K mg base (k + 1) f fd ps sp := by
  obtain ⟨oc, od, kV, doc, pm, an, cdv, ct, osl, rfl, lk, hcd⟩ := F.ex
  refine ⟨fun A outer s H args us vs Q E hg hr e0 hb r q => ?_⟩
  have KX : K.In s.heap := e0.mod.kin.keeps fun b o e => (e0.bs b o e).1
  have lim := e0.mod.nolimit.keeps fun b o e => (e0.bs b o e).1
  refine codeAny_call_function hr.depth (KX _ _ lk) rfl S.co S.gen rfl (PySem.W.codeRec_of KX hcd) (hb _ _ _ _ (wpAny_newFunctionEnv_cells S.kind (fun y hy => ?_) fun env he s1 x => ?_))
  · rcases S.par y.1 (List.of_mem_zip (show (y.1, y.2) ∈ ps.zip us from hy)).1 with z | z
    · exact .inl z
    · exact .inr ⟨z, PySem.W.cellsFrom_some _ _ _ (.inl z)⟩
  · subst he
    refine ⟨lim.keeps x.toInCall.keep, codeAny_func ?_⟩
    obtain ⟨t, pt, tt⟩ := body cdv A outer s H vs Q E hg (hr.deeper _) q
    refine wpAny_mono (pt.nox.run [] s1 (start N vs) H _ (inv_start S hr.hd e0 (len _ _ _ _ q) r x) tt) (fun fl s' h => ?_) fun e s' h => h
    cases fl with
    | ret u => exact let ⟨v, _, H', J, rv, q'⟩ := h; ⟨v, H', J.os, J.bare, J.base, J.hok, rv, q'⟩
    | next => exact let ⟨_, H', J, q'⟩ := h; ⟨.non, H', J.os, J.bare, J.base, J.hok, rfl, q'⟩
    | brk => exact let ⟨_, _, _, q'⟩ := h; q'.elim
    | cont => exact let ⟨_, _, _, q'⟩ := h; q'.elim

/-- the heap that tracks the script alone, if it is not written -/
def scriptH (a : Addr) (o : Obj) (xs : List V) : Hp := fun b => if b = a then some (.frz o (.lst xs)) else none

theorem law_callG {P : Program} {w : World} {K : PySem.W.Frag} {mg mb : Str → Option Value} {k : Nat} {fa a : Addr} {fd : FuncData} {x : Str} {sp : Sp} {s : Shared} {vs : List Value} {ns : List Int}
    (KX : K.In s.heap) (hns : s.heap.Ns mainGlobals mg) (hb : s.heap.Ns builtinsNs mb) (hbb : ∀ x : Str, x ≠ "__name__" → mb x = bootBuiltins x) (hlim : s.heap.NoLimit) (hg : s.gens = #[])
    (ha : s.heap.get? a = some { cls := .type "list", data := .seq vs.toArray }) (hi : IntsAre vs ns) (hl : ns.length ≤ sizeLine) (hr : Room k callerA)
    (F : ∀ base : Heap, K.In base → base.Ns mainGlobals mg → GFn P w K mg base k fa fd [x] sp) (hbind : ∀ (s : Shared) (u : Value), BindsTo s fd ⟨[u], []⟩ [(x, u)])
    (hsp : ∀ H : Hp, SqL K H a (ns.map V.int) → sp [.ref a] H (fun v _ => v = .bl true) fun _ _ _ => False) :
    codeAny (model P w) callerA (.call (.ref fa) ⟨[.ref a], []⟩) (fun r s' => r = .ok (.ret (.bool true)) ∧ OldK s.heap s'.heap ∧ s'.os = s.os ∧ AllBare s'.gens) s := by
  have rv := vals_ints hi
  -- the tracked heap: what it needs
  suffices core : ∀ H : Hp, (∀ b u, H b = some u → b = a ∧ K.lookup a = none ∧ ∃ o xs, u = .frz o (.lst xs)) → SqL K H a (ns.map V.int) → HOk P w H s.heap →
      codeAny (model P w) callerA (.call (.ref fa) ⟨[.ref a], []⟩) (fun r s' => r = .ok (.ret (.bool true)) ∧ OldK s.heap s'.heap ∧ s'.os = s.os ∧ AllBare s'.gens) s by
    cases hk : K.lookup a with
    | some o =>
      have e := KX a o hk
      rw [ha] at e
      cases e
      exact core (fun _ => none) (fun b u z => by cases z) (.inr ⟨_, vs.toArray, _, hk, rfl, rfl, rfl, by rw [List.size_toArray, hi.length]; exact hl, by simpa using rv⟩) fun b u z => by cases z
    | none =>
      refine core (scriptH a { cls := .type "list", data := .seq vs.toArray } (ns.map V.int)) (fun b u z => ?_) (.inl (.inr ⟨_, if_pos rfl⟩)) fun b u z => ?_
      · unfold scriptH at z
        split at z
        · cases z
          rename_i e
          exact ⟨e, hk, _, _, rfl⟩
        · cases z
      · unfold scriptH at z
        split at z
        · cases z
          rename_i e
          subst e
          exact ⟨ha, by rw [List.length_map]; exact hl, vs, _, rv, ha⟩
        · cases z
  intro H hH hS hok
  have old : ∀ {b : Addr} {o : Obj}, s.heap.get? b = some o → (b = a → K.lookup a ≠ none) → H b = none := fun {b o} e n => by
    cases q : H b with
    | none => rfl
    | some u =>
      obtain ⟨e1, e2, _⟩ := hH b u q
      exact absurd e2 (n e1)
  have dict : ∀ {b : Addr} {o : Obj} {es : Array DictEntry} {ep : Nat}, s.heap.get? b = some o → o.data = .dict es ep → (hidT s.heap H).get? b = some o := fun {b o es ep} e d => by
    refine hidT_get e ?_
    cases q : H b with
    | none => rfl
    | some u =>
      obtain ⟨rfl, _, _⟩ := hH b u q
      rw [ha] at e
      cases e
      cases d
  have ns' : ∀ {b : Addr} {m : Str → Option Value}, s.heap.Ns b m → (hidT s.heap H).Ns b m := fun ⟨o, es, ep, e, d, r⟩ => ⟨o, es, ep, dict e d, d, r⟩
  have kin : K.In (hidT s.heap H) := fun b o e => hidT_get (KX b o e) (old (KX b o e) fun z n => by rw [z, n] at e; cases e)
  have e0 : Env0 P w K mg (hidT s.heap H) callerA [] s H := ⟨rfl, ⟨kin, ns' hns, ⟨mb, ns' hb, hbb⟩, let ⟨mc, h1, h2⟩ := hlim; ⟨mc, ns' h1, h2⟩⟩, fun b o e => of_hidT e, Nat.le_of_eq (hidT_size _ _), trivial, fun b z => (by cases z), hok, .of_eq hg⟩
  refine codeAny_mono ((F _ kin (ns' hns)).run callerA [] s H ⟨[.ref a], []⟩ [.ref a] [.ref a] _ _ rfl hr e0 (hbind s (.ref a)) (.cons rfl .nil) (hsp H hS)) fun r s' h => ?_
  match r, h with
  | .ok (.ret u), ⟨v, H', os, bare, un, hok', rr, q⟩ =>
    have q : v = .bl true := q
    subst q
    cases rr
    refine ⟨rfl, OldK.of_keep fun b o e => ?_, os, bare⟩
    cases z : H b with
    | none => exact un.keep b o e z (by intro y; cases y) (by simp)
    | some u =>
      obtain ⟨_, _, o2, xs, rfl⟩ := hH b u z
      have h1 := (hok b _ z).1
      have h2 := (hok' b _ (un.frzs b _ _ z)).1
      rw [e] at h1
      cases h1
      exact h2

/-- the goal that k_head leaves, from the law's promise -/
theorem walkG {l : PySem.W.OpenLaw} {n k : Nat} {q : Program} {loose : List Str} {XP : (Str → Option Value) → Heap → Prop} {YP : World → Heap → Prop} {d : DefRec} {K : Params → PySem.W.Frag} {sp : PySem.W.Frag → Sp} {x : Str}
    (hn : l.most = some n) (hn2 : n ≤ sizeLine) (hdf : d.params.defaults = []) (hr : Room k callerA) (hY : ∀ (w : World) (h : Heap), YP w h → (K w.params).In h)
    (F : ∀ (w : World) (mg : Str → Option Value) (fa : Addr) (h : Heap), (K w.params).In h → h.Ns mainGlobals mg → mg d.name = some (.ref fa) →
      ∃ fd : FuncData, (∀ (s : Shared) (u : Value), BindsTo s fd ⟨[u], []⟩ [(x, u)]) ∧ ∀ base : Heap, (K w.params).In base → base.Ns mainGlobals mg → GFn l.prog w (K w.params) mg base k fa fd [x] (sp (K w.params)))
    (hsp : ∀ (K : PySem.W.Frag) (H : Hp) (a : Addr) (ns : List Int), ns.length ≤ n → SqL K H a (ns.map V.int) → sp K [.ref a] H (fun v _ => v = .bl true) fun _ _ _ => False) :
    PySem.W.WalkO q loose XP YP l.row.toRowW d [] (fun f vs => PySem.call f vs) :=
  Att.attach_call hn hdf fun w s₀ s₁ mg mb fa o pm cd doc a vs ns G Y ho hd hcd hmg hobj hints hlen hg =>
    let ⟨_, hb, hF⟩ := F w mg fa _ (hY w _ Y) G.T.g hmg
    law_callG (hY w _ Y) G.T.g G.T.b G.T.builtins G.T.nolimit hg hobj hints (Nat.le_trans hlen hn2) hr hF hb fun H hS => hsp _ H a ns hlen hS
end L2.Px

/-! Several except clauses, each with a name of its own or without one. -/
namespace L2.Px
open PySem PySem.Spec PyProof.Rows
/-- a clause: the class that it names, the slot of its name, its suite -/
structure Cla where
  c : Value
  i : Option Nat
  ts : Addr → Value → Option Addr → TS
/-- the ends of a suite whose clause has a name -/
def endsAt (D : Ends) : Option Nat → Ends
  | none => D
  | some i => { nx := fun τ G => D.nx (τ.set i none) G, rt := D.rt, bk := fun τ G => D.bk (τ.set i none) G, ct := fun τ G => D.ct (τ.set i none) G }
def slotAt (τ : St) (a : Addr) : Option Nat → St
  | none => τ
  | some i => τ.set i (some (.ref a))
/-- what the clauses wish, one behind the other -/
def wCl (K : PySem.W.Frag) (Wo : WX) (D : Ends) : List Cla → WX
  | [] => Wo
  | q :: r => fun cls d τ G => ∃ b, PySem.W.exmOne K cls q.c = some b ∧ (b = true → ∀ a, G a = none → q.ts a cls d (endsAt D q.i) (slotAt τ a q.i) G) ∧ (b = false → wCl K Wo D r cls d τ G)
inductive ClOk (X : Cx) : List ExceptHandler → List Cla → Prop
  | nil : ClOk X [] []
  | bare {x : Str} {c : Value} {ts : Addr → Value → Option Addr → TS} {st : Stmt} {sts : List Stmt} {p1 p2 : Pos} {hs : List ExceptHandler} {l : List Cla} (nm : Names X x c)
      (sui : ∀ (a : Addr) (ob : Obj) (cls : Value) (d : Option Addr) (pn : List (Addr × Obj)), Zc cls d ob → (∃ vs, ob.data = .fields vs) → PSs (X.suite a ((a, ob) :: pn)) (st :: sts) (ts a cls d)) (r : ClOk X hs l) :
      ClOk X (.ExceptHandler (some (.Name x p1)) none (st :: sts) p2 :: hs) (⟨c, none, ts⟩ :: l)
  | named {x n : Str} {c : Value} {i : Nat} {ts : Addr → Value → Option Addr → TS} {st : Stmt} {sts : List Stmt} {p1 p2 : Pos} {hs : List ExceptHandler} {l : List Cla} (nm : Names X x c) (ni : X.N[i]? = some n) (nk : X.env.kindOf n = some .local)
      (sui : ∀ (a : Addr) (ob : Obj) (cls : Value) (d : Option Addr) (pn : List (Addr × Obj)), Zc cls d ob → (∃ vs, ob.data = .fields vs) → PSs (X.suite a ((a, ob) :: pn)) (st :: sts) (ts a cls d)) (r : ClOk X hs l) :
      ClOk X (.ExceptHandler (some (.Name x p1)) (some n) (st :: sts) p2 :: hs) (⟨c, some i, ts⟩ :: l)
section
variable {X : Cx} {bd : List Stmt} {hd0 : ExceptHandler} {hdr : List ExceptHandler} {cs : List Cla} {ps : Pos} {tb : WX → TS} {Wo : WX}
theorem ps_try_cl (e1 : X.stack = X.env :: X.outer) (e2 : X.env.frame = some X.env.locals) (nod : X.N.Nodup) (tko : Takes X Wo)
    (bod : ∀ (W : WX) (pn : List (Addr × Obj)) (xe : Value → Shared → Prop), Takes (X.tr pn xe) W → PassesOwn (model X.prog X.w) X.A X.env xe → PSs (X.tr pn xe) bd (tb W))
    (clo : ClOk X (hd0 :: hdr) cs) : PS X (.Try bd (hd0 :: hdr) [] [] ps) (fun D τ G => tb (wCl X.K Wo D cs) D τ G) := by
  refine ⟨fun pins s τ G D I wish => ?_⟩
  have okX := I.ok
  have frX : X.A.frames = some (X.env :: X.outer) := by rw [okX.frames, e1]
  refine wpAny_Try_except ?_
  refine wpAny_mono ((bod (wCl X.K Wo D cs) (X.pn ++ pins) (fun e t1 => wpAny (model X.prog X.w) X.A (noteFrame e X.env) (fun _ t2 => wpAny (model X.prog X.w) X.A (setFlight e none) (fun _ t3 =>
    wpAny (model X.prog X.w) X.A (handleBy e X.env (hd0 :: hdr)) (SP X pins D) X.xe t3) X.xe t2) X.xe t1) (fun u t' xx => ?_) PassesOwn.looking).run [] s τ G D (I.toTry _) wish) (fun fl t1 hsp => ?_) (fun _ _ z => z)
  · obtain ⟨a, B, t0, pins', τ', G', cls, d, rfl, J0, nb, up, sky, na, os, ag, w⟩ := xx
    have J : Inv X pins τ' G' t0 := J0.ofTry okX
    have skyX : Sky B (X.env :: X.outer) a (Zc cls d) X.env.locals t'.heap := by rw [← e1]; exact sky
    show wpAny (model X.prog X.w) X.A (noteFrame (.ref a) X.env) _ _ _
    refine Sky.land Zc.steady frX e2 skyX fun hp flp upp => ?_
    have Jp : Inv X pins τ' G' { t' with heap := hp } := J.landed nb flp.1 (up.trans upp) os ag
    obtain ⟨obp, vsp, hep, hzp, hdp⟩ := flp.there
    have nfr : a ∉ frs (X.env :: X.outer) := fun hm => by
      obtain ⟨_, o2, eo, hnf⟩ := flp.2.2.1.mem hm
      rw [hep] at eo
      cases eo
      exact hnf _ hdp
    have nL : a ≠ X.env.locals := fun z => nfr (List.mem_filterMap.mpr ⟨X.env, List.mem_cons_self, by rw [e2, z]⟩)
    have nF : a ∉ X.fs := fun hm => let ⟨y, hy, q⟩ := List.mem_filterMap.mp hm; nfr (List.mem_filterMap.mpr ⟨y, List.mem_cons_of_mem _ hy, q⟩)
    have Sp := Jp.suite hep hdp na nL nF
    have LTp : PySem.W.Looks (model X.prog X.w) hp (typeOf (.ref a)) cls := fun _ _ _ _ k q => wpAny_typeOf_ref (k _ _ hep) (by rw [hzp.1]; exact q)
    have tst : ∀ {x : Str} {c : Value} {np : Pos} {Q : Value → Shared → Prop} {E : Value → Shared → Prop}, Names X x c → Q c { t' with heap := hp } → wpAny (model X.prog X.w) (X.A.mark (some (.ref a))) (eval (.Name x np) X.env) Q E { t' with heap := hp } := fun {x c np Q E} hc q => by
      obtain ⟨hg, hdb, hm | ⟨hm, hv, hnn⟩⟩ := hc
      · exact ld_glob (X := X.suite a ((a, obp) :: (X.pn ++ pins))) Sp hg hm q hdb
      · exact ld_blt (X := X.suite a ((a, obp) :: (X.pn ++ pins))) Sp hg hm hv q hnn hdb
    have go : ∀ {hs' : List ExceptHandler} {l' : List Cla}, ClOk X hs' l' → wCl X.K Wo D l' cls d τ' G' → wpAny (model X.prog X.w) X.A (handleBy (.ref a) X.env hs') (SP X pins D) X.xe { t' with heap := hp } := by
      intro hs' l' hk
      induction hk with
      | nil =>
        intro w
        refine wpAny_handleBy_nil ?_
        obtain ⟨_, _, _, ob, vs, T, oT, _, he, _, hd, h1, _⟩ := id flp
        unfold PySem.passOn
        refine wpAny_bind (wpAny_field he hd h1 ?_)
        rw [if_neg (show ¬ ((Value.ref T == Value.none) = true) from by simp)]
        have fin : wpAny (model X.prog X.w) X.A (setFlight (.ref a) X.env.frame) (fun _ t4 => wpAny (model X.prog X.w) X.A (throw (.ref a) : Sem Flow) (SP X pins D) X.xe t4) X.xe { t' with heap := hp } := by
          rw [e2]
          exact HandSPX.setFlight_upZ flp fun hq flq upq => wpAny_throw (tko _ _ ⟨a, B, t0, pins, τ', G', cls, d, rfl, J, nb, (up.trans upp).trans upq, .inr (.inr (by rw [e1]; exact flq)), na, os, ag, w⟩)
        first
          | exact wpAny_bind (wpAny_pure (wpAny_bind fin))
          | exact wpAny_bind fin
      | @bare x c ts st sts p1 p2 hs2 l2 nm sui r ih =>
        rintro ⟨b, hb1, yes, no⟩
        refine wpAny_handleBy_cons (codeAny_handlers_test ?_) (by intro q; cases q)
        refine tst nm ((PySem.W.exm_one (M := model X.prog X.w) Jp.kIn LTp hb1).here ?_)
        cases b with
        | false => exact ih (no rfl)
        | true =>
          refine codeAny_handlers_suite (HandSPX.lands_againZ flp fun hq flq upq => ?_)
          have Jq : Inv X pins τ' G' { t' with heap := hq } := J.landed nb flq.1 ((up.trans upp).trans upq) os ag
          obtain ⟨obq, vsq, heq, hzq, hdq⟩ := flq.there
          refine wpAny_mono ((sui a obq cls d (X.pn ++ pins) hzq ⟨_, hdq⟩).run [] _ _ G' _ (Jq.suite heq hdq na nL nF) (yes rfl a na)) (fun f s6 hsp => ?_) (fun _ _ z => False.elim z)
          cases f with
          | next => exact let ⟨_, _, S6, q6⟩ := hsp; ⟨_, _, S6.unsuite okX, q6⟩
          | brk => exact let ⟨_, _, S6, q6⟩ := hsp; ⟨_, _, S6.unsuite okX, q6⟩
          | cont => exact let ⟨_, _, S6, q6⟩ := hsp; ⟨_, _, S6.unsuite okX, q6⟩
          | ret u => exact let ⟨_, _, _, S6, r6, q6⟩ := hsp; ⟨_, _, _, S6.unsuite okX, r6, q6⟩
      | @named x n c i ts st sts p1 p2 hs2 l2 nm ni nk sui r ih =>
        rintro ⟨b, hb1, yes, no⟩
        refine wpAny_handleBy_cons (codeAny_handlers_test ?_) (by intro q; cases q)
        refine tst nm ((PySem.W.exm_one (M := model X.prog X.w) Jp.kIn LTp hb1).here ?_)
        cases b with
        | false => exact ih (no rfl)
        | true =>
          refine codeAny_handlers_suite_as (HandSPX.lands_againZ flp fun hq flq upq => ?_)
          have Jq : Inv X pins τ' G' { t' with heap := hq } := J.landed nb flq.1 ((up.trans upp).trans upq) os ag
          obtain ⟨obq, vsq, heq, hzq, hdq⟩ := flq.there
          refine store_ok (X := X.suite a ((a, obq) :: (X.pn ++ pins))) (v := .ref a) (Jq.suite heq hdq na nL nF) nod ni (.inl nk) rfl (fun s5 S5 => ?_) (.inr nk)
          refine wpAny_mono ((sui a obq cls d (X.pn ++ pins) hzq ⟨_, hdq⟩).run [] s5 _ G' _ S5 (yes rfl a na)) (fun f s6 hsp => ?_) (fun _ _ z => False.elim z)
          have fin : ∀ {τ6 : St} {G6 : Hp} {Q : Shared → Prop}, Inv (X.suite a ((a, obq) :: (X.pn ++ pins))) [] τ6 G6 s6 → (∀ s7, Inv X pins (τ6.set i none) G6 s7 → Q s7) → wpAny (model X.prog X.w) X.A (do bindName X.env n .none; unbindBehindTheSuite X.env n p2) (fun _ s7 => Q s7) X.xe s6 :=
            fun {τ6 G6 Q} S6 hq => gone_ok (S6.unsuite okX) nod ni nk hq
          cases f with
          | next => exact let ⟨_, _, S6, q6⟩ := hsp; fin S6 fun _ J7 => ⟨_, _, J7, q6⟩
          | brk => exact let ⟨_, _, S6, q6⟩ := hsp; fin S6 fun _ J7 => ⟨_, _, J7, q6⟩
          | cont => exact let ⟨_, _, S6, q6⟩ := hsp; fin S6 fun _ J7 => ⟨_, _, J7, q6⟩
          | ret u => exact let ⟨_, _, _, S6, r6, q6⟩ := hsp; fin S6 fun _ J7 => ⟨_, _, _, J7, r6, q6⟩
    exact go clo w
  · cases fl with
    | next => exact let ⟨_, _, J0, q⟩ := hsp; wpAny_execs_nil ⟨_, _, J0.ofTry okX, q⟩
    | brk => exact let ⟨_, _, J0, q⟩ := hsp; ⟨_, _, J0.ofTry okX, q⟩
    | cont => exact let ⟨_, _, J0, q⟩ := hsp; ⟨_, _, J0.ofTry okX, q⟩
    | ret u => exact let ⟨_, _, _, J0, r, q⟩ := hsp; ⟨_, _, _, J0.ofTry okX, r, q⟩
end
end L2.Px

/-! What is general of the texts over gluings: ints, tuples of ints, small data, defs. -/
namespace L2.Px
open PySem PySem.Spec PyProof.Rows

/-- an int as a value; a tuple of ints -/
abbrev iV (ns : List Int) : List V := ns.map V.int

abbrev iD (ns : List Int) : List PyData := ns.map PyData.int

theorem dp_ints {K : PySem.W.Frag} {H : Hp} : ∀ ns : List Int, DpAll K H (iV ns) (iD ns)
  | [] => .nil
  | n :: r => .cons (.int n) (dp_ints r)

theorem lay_ints : ∀ ns : List Int, PyData.canLayAll0 (iD ns) = true
  | [] => rfl
  | n :: r => by
    show (PyData.canLay0 (.int n) && PyData.canLayAll0 (iD r)) = true
    rw [lay_ints r]
    rfl

theorem dep_ints : ∀ ns : List Int, PyData.depthAll (iD ns) = 0
  | [] => rfl
  | n :: r => by
    show max (PyData.depth (.int n)) (PyData.depthAll (iD r)) = 0
    rw [dep_ints r]
    rfl

theorem shaped_li (ns : List Int) : SeqAt.shaped (.list (iD ns)) = true := by
  show (PyData.canLayAll0 (iD ns) && decide (PyData.depthAll (iD ns) + 1 ≤ 64)) = true
  rw [lay_ints, dep_ints]
  rfl

theorem shaped_ti (ns : List Int) : SeqAt.shaped (.tuple (iD ns)) = true := by
  show (PyData.canLayAll0 (iD ns) && decide (PyData.depthAll (iD ns) + 1 ≤ 64)) = true
  rw [lay_ints, dep_ints]
  rfl

theorem _root_.L2.Same.upd {H : Hp} {p : Addr} {o : HO} (h : H p = none) : Same H (upd H p o) := fun b x e => (upd_ne (ne_of_none e h)).trans e

theorem _root_.L2.Same.tup {K : PySem.W.Frag} {H H' : Hp} {a : Addr} {xs : List V} (e : Same H H') (h : SqT K H a xs) : SqT K H' a xs := by
  rcases h with (h | ⟨o, h⟩) | h
  · exact .inl (.inl (e _ _ h))
  · exact .inl (.inr ⟨o, e _ _ h⟩)
  · exact .inr h

theorem getD_at {l : List Int} {n : Int} (h0 : 0 ≤ n) (h1 : n < (l.length : Int)) : atI (iV l) n = some (V.int (l.getD n.toNat 0)) := by
  obtain ⟨k, rfl⟩ : ∃ k : Nat, n = (k : Int) := ⟨n.toNat, by omega⟩
  refine atI_nat ?_
  have hk : k < l.length := by omega
  rw [List.getElem?_map, List.getElem?_eq_getElem hk, Int.toNat_natCast, List.getD_eq_getElem?_getD, List.getElem?_eq_getElem hk]
  rfl

theorem iV_get {l : List Int} {i : Nat} {x : V} (h : (iV l)[i]? = some x) : ∃ n, l[i]? = some n ∧ x = .int n := by
  rw [List.getElem?_map] at h
  cases e : l[i]? with
  | none => rw [e] at h; cases h
  | some n => rw [e] at h; exact ⟨n, rfl, (Option.some.inj h).symm⟩

theorem iV_app (a b : List Int) : iV (a ++ b) = iV a ++ iV b := List.map_append

theorem iV_set (a : List Int) (k : Nat) (n : Int) : iV (a.set k n) = (iV a).set k (.int n) := List.map_set

theorem take_snoc {α : Type} {l : List α} {i : Nat} {x : α} (h : l[i]? = some x) : l.take (i + 1) = l.take i ++ [x] := by
  rw [List.take_add_one, h]
  rfl

theorem ixN_nat {l k : Nat} (h : k < l) : ixN l (k : Int) = some k := by
  have h2 : atI (List.range l) (k : Int) = some k := atI_nat (by rw [List.getElem?_range h])
  unfold atI at h2
  cases e : ixN l (k : Int) with
  | none => rw [List.length_range, e] at h2; cases h2
  | some j =>
    rw [List.length_range, e] at h2
    have h3 : (List.range l)[j]? = some k := h2
    rw [List.getElem?_range] at h3
    · exact h3
    · exact Nat.lt_of_lt_of_eq (List.getElem?_eq_some_iff.mp h3).1 List.length_range

/-- a def of the text, where it stands -/
structure At (K : PySem.W.Frag) (mg : Str → Option Value) (x : Str) (st : Stmt) (ps : List Str) (f : Addr) (fd : FuncData) : Prop where
  F : Fun K x x st f fd
  g : mg x = some (.ref f)
  b : Binds K fd ps []

theorem paired_snoc {α β : Type} {R : α → β → Prop} {x : α} {y : β} (r : R x y) : ∀ {xs : List α} {ys : List β}, Paired R xs ys → Paired R (xs ++ [x]) (ys ++ [y])
  | _, _, .nil => .cons r .nil
  | _, _, .cons q t => .cons q (paired_snoc r t)

theorem paired_get {α β : Type} {R : α → β → Prop} : ∀ {xs : List α} {ys : List β} {i : Nat} {x : α}, Paired R xs ys → xs[i]? = some x → ∃ y, ys[i]? = some y ∧ R x y
  | _, _, _, _, .nil, e => by simp at e
  | _, _, 0, _, .cons r _, e => by simp at e; subst e; exact ⟨_, rfl, r⟩
  | _, _, i + 1, x, .cons _ t, e => by
    obtain ⟨u, h1, h2⟩ := paired_get (i := i) (x := x) t (by simpa using e)
    exact ⟨u, by simpa using h1, h2⟩

theorem eqv_tup (a b : List Int) : PyData.eqv (.tuple (iD a)) (.tuple (iD b)) = decide (a = b) := PySem.W.ked_eqvAll a b

theorem u65 {A : Around} {k : Nat} (hr : Room k A) : A.units + 65 < cLine := by have := hr.un; omega

theorem dp_ti {K : PySem.W.Frag} {H : Hp} {a : Addr} {ns : List Int} (h : SqT K H a (iV ns)) : Dp K H (.ref a) (.tuple (iD ns)) := .tup h (dp_ints ns)

/-- isinstance(e, c), e what the suite holds: its class and dict told apart -/
theorem call_isE2 {X : Cx} {a D : Addr} {oe : Obj} {cls : Value} {d : Option Addr} {pn : List (Addr × Obj)} (C : ExcC X.K D) (hz : Zc cls d oe) (hf : ∃ vs, oe.data = .fields vs) :
    CallR (X.suite a ((a, oe) :: pn)) (.builtin "isinstance") (fun xs H Q => cls = .ref D ∧ d = none ∧ rIsE X.K D a xs H Q) := by
  intro pins s σ H xs us Q I r h
  obtain ⟨e1, e2, q⟩ := h
  subst e1 e2
  exact call_isE C hz hf pins s σ H xs us Q I r q

mutual
def sm : PyData → Bool
  | .none => true
  | .bool _ => true
  | .int i => decide (i.natAbs < 1000000000)
  | .str x => x.cps.toList.all fun c => decide (c < 16 ^ 8)
  | .list xs => smAll xs
  | .tuple xs => smAll xs
  | .dict _ => false
def smAll : List PyData → Bool
  | [] => true
  | x :: r => sm x && smAll r
end

theorem int_short {i : Int} (h : i.natAbs < 1000000000) : (PyData.shown (.int i)).length ≤ 20 := by
  show (Str.ofString (toString i)).length ≤ 20
  rw [PySem.ofString_length]
  have := int_text_length_le10 (a := i) (k := 9) (by decide) h
  omega

mutual
theorem sm_ok : ∀ d : PyData, sm d = true → d.showable = true ∧ d.hasDict = false ∧ d.leavesShort 20 = true
  | .none, _ => ⟨rfl, rfl, rfl⟩
  | .bool _, _ => ⟨rfl, rfl, rfl⟩
  | .int i, h => by
    have h : i.natAbs < 1000000000 := of_decide_eq_true h
    refine ⟨decide_eq_true ?_, rfl, decide_eq_true (int_short h)⟩
    by_cases z : i.natAbs = 0
    · rw [z]
      decide
    · exact Nat.lt_of_lt_of_le ((Nat.log2_lt z).mpr (Nat.lt_of_lt_of_le h (by decide : 1000000000 ≤ 2 ^ 30))) (by decide)
  | .str x, h => ⟨rfl, rfl, h⟩
  | .list xs, h => smAll_ok xs h
  | .tuple xs, h => smAll_ok xs h
  | .dict _, h => by cases h
theorem smAll_ok : ∀ xs : List PyData, smAll xs = true → PyData.showableAll xs = true ∧ PyData.hasDictAll xs = false ∧ PyData.leavesShortAll 20 xs = true
  | [], _ => ⟨rfl, rfl, rfl⟩
  | x :: r, h => by
    have h : (sm x && smAll r) = true := h
    rw [Bool.and_eq_true] at h
    obtain ⟨a1, a2, a3⟩ := sm_ok x h.1
    obtain ⟨b1, b2, b3⟩ := smAll_ok r h.2
    refine ⟨?_, ?_, ?_⟩
    · show (PyData.showable x && PyData.showableAll r) = true
      rw [a1, b1]
      rfl
    · show (PyData.hasDict x || PyData.hasDictAll r) = false
      rw [a2, b2]
      rfl
    · show (PyData.leavesShort 20 x && PyData.leavesShortAll 20 r) = true
      rw [a3, b3]
      rfl
end

/-- repr(x) of small data -/
def rReprS (K : PySem.W.Frag) : List V → Hp → VK → Prop := fun vs H Q => ∃ (x : V) (d : PyData), vs = [x] ∧ Dp K H x d ∧ sm d = true ∧ d.depth ≤ 60 ∧ d.weight ≤ 700000 ∧ Q (.str d.shown) H

section
variable {X : Cx}
theorem cr_reprS (hg : X.A.guards = some []) (hu : X.A.units + 64 < cLine) : CallR X (.builtin "repr") (rReprS X.K) := by
  intro pins s σ H vs us Q I r h
  obtain ⟨x, d, e, hd, hs, hp, hw, q⟩ := h
  obtain ⟨s1, s2, s3⟩ := sm_ok d hs
  refine cr_reprD hg hu pins s σ H vs us Q I r ⟨x, d, e, hd, s1, s2, hp, ?_, q⟩
  have := PyData.shown_le 20 (by decide) d s3
  have z : sizeLine = 16777216 := sizeLine_eq
  omega
end

theorem sm_ints : ∀ ns : List Int, (∀ n ∈ ns, n.natAbs < 1000000000) → smAll (iD ns) = true
  | [], _ => rfl
  | n :: r, h => by
    show (decide (n.natAbs < 1000000000) && smAll (iD r)) = true
    rw [decide_eq_true (h n (by simp)), sm_ints r fun m hm => h m (by simp [hm])]
    rfl

theorem wt_int {n : Int} (h : n.natAbs < 1000000000) : PyData.weight (.int n) ≤ 30 := by
  show (if n == 0 then 0 else n.natAbs.log2 + 1) ≤ 30
  split
  · exact Nat.zero_le _
  · rename_i z
    have z : n.natAbs ≠ 0 := fun e => z (by have := Int.natAbs_eq_zero.mp e; simp [this])
    exact (Nat.log2_lt z).mpr (Nat.lt_of_lt_of_le h (by decide : 1000000000 ≤ 2 ^ 30))

theorem wt_ints : ∀ ns : List Int, (∀ n ∈ ns, n.natAbs < 1000000000) → PyData.weightAll (iD ns) ≤ 31 * ns.length
  | [], _ => Nat.le_refl _
  | n :: r, h => by
    have h1 := wt_ints r fun m hm => h m (by simp [hm])
    have h2 := wt_int (h n (by simp))
    show PyData.weight (.int n) + 1 + PyData.weightAll (iD r) ≤ _
    simp only [List.length_cons]
    omega

theorem sl_any {K : PySem.W.Frag} {H : Hp} {a : Addr} {xs : List V} {lo hi : Option Int} {Q : VK} (h : SqT K H a xs) (k : ∀ H' p, Same H H' → SqT K H' p (cutV xs lo hi) → Q (.ref p) H') : rSlA K (.ref a) lo hi H Q := by
  refine ⟨a, xs, rfl, h, fun c => k H a (Same.refl H) ?_, fun _ p hp => k _ p (Same.upd hp) (.of upd_same)⟩
  unfold cutV
  rw [c.1, c.2, List.drop_zero, Nat.sub_zero, List.take_length]
  exact h

theorem cat_any {K : PySem.W.Frag} {H : Hp} {a b : Addr} {xs ys : List V} {Q : VK} (h1 : SqT K H a xs) (h2 : SqT K H b ys) (hz : xs.length + ys.length ≤ sizeLine) (k : ∀ H' p, Same H H' → SqT K H' p (xs ++ ys) → Q (.ref p) H') : rCatA K (.ref a) (.ref b) H Q := by
  refine ⟨a, b, xs, ys, rfl, rfl, h1, h2, hz, fun e => k H b (Same.refl H) ?_, fun _ e => k H a (Same.refl H) ?_, fun _ _ p hp => k _ p (Same.upd hp) (.of upd_same)⟩
  · rw [e, List.nil_append]
    exact h2
  · rw [e, List.append_nil]
    exact h1

/-- t + u, in one: some tuple of both, all else as it was -/
def rCatS (K : PySem.W.Frag) : R2 := fun x y H Q => ∃ a b xs ys, x = .ref a ∧ y = .ref b ∧ SqT K H a xs ∧ SqT K H b ys ∧ xs.length + ys.length ≤ sizeLine ∧ ∀ H' p, Same H H' → SqT K H' p (xs ++ ys) → Q (.ref p) H'

section
variable {X : Cx}
theorem op_catS : OpR X (binaryOp .Add) (rCatS X.K) := by
  intro pins s σ H x y v u Q I rx ry h
  obtain ⟨a, b, xs, ys, rfl, rfl, h1, h2, hz, k⟩ := h
  exact op_catA pins s σ H _ _ v u Q I rx ry (cat_any h1 h2 hz k)
end

/-- t[lo:hi], in one -/
def rSlS (K : PySem.W.Frag) : V → Option Int → Option Int → Hp → VK → Prop := fun x lo hi H Q => ∃ a xs, x = .ref a ∧ SqT K H a xs ∧ ∀ H' p, Same H H' → SqT K H' p (cutV xs lo hi) → Q (.ref p) H'

section
variable {X : Cx}
theorem sl_tupS : SlR X (rSlS X.K) := by
  intro pins s σ H x v vl vu lo hi sl Q I rx hs pl pu h
  obtain ⟨a, xs, rfl, h1, k⟩ := h
  exact sl_tupA pins s σ H _ v vl vu lo hi sl Q I rx hs pl pu (sl_any h1 k)
end

structure Sml (d : PyData) : Prop where
  a : sm d = true
  b : d.depth ≤ 60
  c : d.weight ≤ 700000

mutual
theorem dp_same {K : PySem.W.Frag} {H H' : Hp} (h : Same H H') : ∀ {d : PyData} {v : V}, Dp K H v d → Dp K H' v d
  | .none, _, .non => .non
  | .bool _, _, .bl b => .bl b
  | .int _, _, .int i => .int i
  | .str _, _, .str x => .str x
  | .list _, _, .lst a b => .lst (h.seq a) (dpAll_same h b)
  | .tuple _, _, .tup a b => .tup (h.tup a) (dpAll_same h b)
theorem dpAll_same {K : PySem.W.Frag} {H H' : Hp} (h : Same H H') : ∀ {ds : List PyData} {vs : List V}, DpAll K H vs ds → DpAll K H' vs ds
  | [], _, .nil => .nil
  | _ :: _, _, .cons a b => .cons (dp_same h a) (dpAll_same h b)
end

/-- one more in a list that is one's own -/
theorem own_push {H H' : Hp} {D : Addr} {o : HO} (sm : Same H H') (h : H D = none) : Same H (upd H' D o) := fun c u e => (upd_ne (ne_of_none e h)).trans (sm c u e)

theorem mul_r {i j : Int} (h1 : -(2 ^ 64) < j) (h2 : j < 2 ^ 64) : CMul i j := .inr ⟨h1, h2⟩

theorem sq_over {K : PySem.W.Frag} {H : Hp} {D t : Addr} {l xs : List V} {o : HO} (hd : H D = some (.lst l)) (h : SqT K H t xs) : SqT K (upd H D o) t xs := by
  rcases h with (h | ⟨ob, h⟩) | h
  · exact .inl (.inl ((upd_ne fun z => by rw [z, hd] at h; cases h).trans h))
  · exact .inl (.inr ⟨ob, (upd_ne fun z => by rw [z, hd] at h; cases h).trans h⟩)
  · exact .inr h

/-- an own exception class of the text -/
structure ExN (K : PySem.W.Frag) (mg : Str → Option Value) (x : Str) (C : Addr) : Prop where
  g : mg x = some (.ref C)
  k : PySem.W.keepIn K (.ref C) = true
  x : PySem.W.excIn K C [.type "ValueError", .type "Exception", .type "BaseException", .type "object"] "ValueError.__new__" = true
  b : PySem.W.subIn K (.ref C) (.type "BaseException") = some true
  t : PySem.W.typeIn K (.ref C) = some (.type "type")

theorem cut_to (l : List Int) (k : Nat) (h : k ≤ l.length) : cutV (iV l) none (some (k : Int)) = iV (l.take k) := by
  unfold cutV
  rw [HT.sIx_none, HT.sIx_nat, List.drop_zero, List.length_map, Nat.min_eq_left h, Nat.sub_zero]
  exact List.map_take.symm

theorem cut_from (l : List Int) (k : Nat) (h : k ≤ l.length) : cutV (iV l) (some (k : Int)) none = iV (l.drop k) := by
  unfold cutV
  rw [HT.sIx_none, HT.sIx_nat, List.length_map, Nat.min_eq_left h]
  rw [List.take_of_length_le (by rw [List.length_drop, List.length_map]; omega)]
  exact List.map_drop.symm

theorem exm_of {K : PySem.W.Frag} {S T : Addr} {b : Bool} (h1 : PySem.W.subIn K (.ref T) (.type "BaseException") = some true) (h4 : PySem.W.kitCls K (.ref S) (.ref T) = some b) : PySem.W.exmOne K (.ref S) (.ref T) = some b := by
  have e1 : (PySem.W.subIn K (.ref T) (.type "BaseException") == some true) = true := by rw [h1] <;> rfl
  show (if (PySem.W.subIn K (.ref T) (.type "BaseException") == some true) = true then PySem.W.kitCls K (.ref S) (.ref T) else none) = some b
  rw [if_pos e1]
  exact h4

theorem ps_imq {X : Cx} {st : Stmt} {t u : TS} (h : PS X st t) (k : ∀ D σ H, u D σ H → t D σ H) : PS X st u := ⟨fun pins s σ H D I q => h.run pins s σ H D I (k D σ H q)⟩

theorem small1000x {n : Nat} (h : n ≤ 10000) : n < sizeLine := Nat.lt_of_le_of_lt h (by decide)

/-- l.index(n), a list of ints -/
theorem mt_lidxI {X : Cx} : MtR X "list.index" (fun x xs H Q => ∃ (p : Addr) (ys : List Int) (n : Int), x = .ref p ∧ xs = [.int n] ∧ SqL X.K H p (iV ys) ∧ n ∈ ys ∧ Q (.int (ys.idxOf n : Nat)) H) := by
  intro pins s σ H x xs v us Q I rx rs h
  obtain ⟨p, ys, n, rfl, rfl, hq, hn, q⟩ := h
  have lt := List.idxOf_lt_length_of_mem hn
  refine mt_index pins s σ H _ _ v us Q I rx rs ⟨p, iV ys, .int n, ys.idxOf n, .int n, rfl, rfl, hq, rfl, ?_, ?_, ?_, fun m z' hm e => ?_, q⟩
  · refine List.all_eq_true.mpr fun v hv => ?_
    obtain ⟨k, _, rfl⟩ := List.mem_map.mp hv
    rfl
  · rw [List.getElem?_map, List.getElem?_eq_getElem lt, List.getElem_idxOf]
    rfl
  · exact beq_self_eq_true n
  · obtain ⟨k, hk, rfl⟩ := iV_get e
    show (k == n) = false
    have := List.not_of_lt_findIdx (p := (· == n)) (xs := ys) (i := m) hm
    obtain ⟨lm, ek⟩ := List.getElem?_eq_some_iff.mp hk
    rw [ek] at this
    simpa using this

abbrev cI (l : List Nat) : List Int := l.map fun x : Nat => (x : Int)

theorem rg_nat (m : Nat) : rgV 0 (m : Int) = iV (cI (List.range m)) := by
  unfold rgV
  have : ((m : Int) - 0).toNat = m := by omega
  rw [this]
  unfold iV cI
  rw [List.map_map]
  refine List.map_congr_left fun i _ => ?_
  show V.int (0 + (i : Int)) = V.int (i : Int)
  rw [Int.zero_add]

theorem pass0x {P : Program} {w : World} {X : Cx} : Passes (L2.CX P w) X E0 := fun _ _ _ _ _ _ _ h => by
  obtain ⟨_, _, _, _, _, _, _, _, _, _, _, _, hE⟩ := h
  exact hE.elim

end L2.Px

/-! What is new in a heap; comprehensions that make one item a turn. -/
namespace L2.Px
open PySem PySem.Spec PyProof.Rows
abbrev rLenSeq (K : PySem.W.Frag) : List V → Hp → VK → Prop := fun xs H Q => ∃ p ys, xs = [V.ref p] ∧ (SqL K H p ys ∨ SqT K H p ys) ∧ Q (.int ys.length) H
abbrev rListOf (K : PySem.W.Frag) : List V → Hp → VK → Prop := fun xs H Q => ∃ p ys, xs = [V.ref p] ∧ (SqL K H p ys ∨ SqT K H p ys) ∧ ∀ l, H l = none → Q (.ref l) (upd H l (.lst ys))
abbrev rTupOf (K : PySem.W.Frag) : List V → Hp → VK → Prop := fun xs H Q => ∃ p ys, xs = [V.ref p] ∧ ((SqL K H p ys ∧ ∀ l, H l = none → Q (.ref l) (upd H l (.tup ys))) ∨ (SqT K H p ys ∧ Q (.ref p) H))
abbrev rTupT (K : PySem.W.Frag) : List V → Hp → VK → Prop := fun xs H Q => ∃ a ys, xs = [V.ref a] ∧ SqT K H a ys ∧ Q (.ref a) H
abbrev rInt1 : List V → Hp → VK → Prop := fun xs H Q => (∃ i, xs = [V.int i] ∧ Q (.int i) H) ∨ ∃ k, xs = [V.bl k] ∧ Q (.int (if k then 1 else 0)) H
abbrev rAbs : List V → Hp → VK → Prop := fun xs H Q => ∃ i, xs = [V.int i] ∧ Q (.int (if i < 0 then -i else i)) H
/-- a body in two parts, the second one from its own state -/
theorem cut2 {X : Cx} {body : List Stmt} {D : Ends} {σ : St} {H : Hp} (tl : List Stmt) (P : St → Hp → Prop) (h2 : ∃ u, PSs X tl u ∧ ∀ σ' H', P σ' H' → u D σ' H')
    (h1 : ∀ u, PSs X tl u → (∀ σ' H', P σ' H' → u D σ' H') → ∃ t, PSs X body t ∧ t D σ H) : ∃ t, PSs X body t ∧ t D σ H :=
  let ⟨u, a, b⟩ := h2
  h1 u a b
/-- the heap without an address -/
def hid (D : Addr) (H : Hp) : Hp := fun b => if b = D then none else H b
/-- what is new in H' -/
def nw (H H' : Hp) : Hp := fun b => if H b = none then H' b else none
theorem hid_ne {D b : Addr} {H : Hp} (h : b ≠ D) : hid D H b = H b := if_neg h
theorem hid_some {D b : Addr} {H : Hp} {o : HO} (h : hid D H b = some o) : b ≠ D ∧ H b = some o := by
  unfold hid at h
  split at h
  · cases h
  · rename_i z
    exact ⟨z, h⟩
theorem hid_same {D : Addr} {H : Hp} : Same (hid D H) H := fun _ _ e => (hid_some e).2
theorem hid_self {D : Addr} {H : Hp} : hid D H D = none := if_pos rfl
theorem Same.hid {D : Addr} {H H' : Hp} (s : Same H H') : Same (hid D H) (hid D H') := fun b o e => by
  obtain ⟨n, e⟩ := hid_some e
  rw [hid_ne n]
  exact s b o e
theorem hid_upd {D : Addr} {H : Hp} {o : HO} : hid D (upd H D o) = hid D H := by
  funext b
  unfold hid
  split
  · rfl
  · rename_i z
    exact upd_ne z
theorem upd_hid {D p : Addr} {H : Hp} {o : HO} (n : p ≠ D) : hid D (upd H p o) = upd (hid D H) p o := by
  funext b
  by_cases e : b = p
  · subst e
    rw [hid_ne n, upd_same, upd_same]
  · rw [upd_ne e]
    unfold hid
    split
    · rfl
    · exact upd_ne e
theorem nw_some {H H' : Hp} {b : Addr} {o : HO} (h : nw H H' b = some o) : H b = none ∧ H' b = some o := by
  unfold nw at h
  split at h
  · rename_i z
    exact ⟨z, h⟩
  · cases h
theorem nw_of {H H' : Hp} {b : Addr} {o : HO} (h1 : H b = none) (h2 : H' b = some o) : nw H H' b = some o := by
  unfold nw
  rw [if_pos h1]
  exact h2
theorem nw_same {H H' : Hp} : Same (nw H H') H' := fun _ _ e => (nw_some e).2
theorem none_of_same {H H' : Hp} {b : Addr} (s : Same H H') (h : H' b = none) : H b = none := by
  cases e : H b with
  | none => rfl
  | some o => rw [s b o e] at h; cases h
/-- what is new later is new, and stays -/
theorem nw_mono {H0 H H' H'' : Hp} (s0 : Same H0 H) (s : Same H' H'') : Same (nw H H') (nw H0 H'') := fun b o e => by
  obtain ⟨e1, e2⟩ := nw_some e
  exact nw_of (none_of_same s0 e1) (s b o e2)
theorem nw_hid {H H' : Hp} {D : Addr} {o : HO} (h : H D = some o) : Same (nw H H') (hid D H') := fun b o e => by
  obtain ⟨e1, e2⟩ := nw_some e
  rw [hid_ne fun z => by rw [z, h] at e1; cases e1]
  exact e2
/-- a relation that lasts while objects stand -/
def Lasts {α : Type} (R : Hp → V → α → Prop) : Prop := ∀ H H' v a, Same H H' → R H v a → R H' v a
def RInt : Hp → V → Int → Prop := fun _ v a => v = .int a
theorem lasts_int : Lasts RInt := fun _ _ _ _ _ h => h
def RBl : Hp → V → Bool → Prop := fun _ v a => v = .bl a
theorem lasts_bl : Lasts RBl := fun _ _ _ _ _ h => h
theorem paired_mono {α β : Type} {R S : α → β → Prop} (k : ∀ x y, R x y → S x y) : ∀ {xs : List α} {ys : List β}, Paired R xs ys → Paired S xs ys
  | _, _, .nil => .nil
  | _, _, .cons h r => .cons (k _ _ h) (paired_mono k r)
theorem paired_at {α β : Type} {R : α → β → Prop} : ∀ {xs : List α} {ys : List β} {i : Nat} {y : β}, Paired R xs ys → ys[i]? = some y → ∃ x, xs[i]? = some x ∧ R x y
  | _, _, 0, _, .cons h r, e => by cases e; exact ⟨_, rfl, h⟩
  | _, _, i + 1, _, .cons h r, e => paired_at r (i := i) e
theorem paired_int {xs : List V} {ns : List Int} : ∀ {H : Hp}, Paired (RInt H) xs ns → xs = iV ns := fun {H} h => by
  induction h with
  | nil => rfl
  | cons h r ih => rw [h, ih]; rfl
theorem paired_bl {xs : List V} {ns : List Bool} : ∀ {H : Hp}, Paired (RBl H) xs ns → xs = ns.map V.bl := fun {H} h => by
  induction h with
  | nil => rfl
  | cons h r ih => rw [h, ih]; rfl
section
variable {J : It} {n : Nat} {G : Hp → Prop} {Y : Nat → Hp → V → Hp → Prop} {α : Type}
/-- a comprehension that makes at most one item a turn, and changes nothing else -/
theorem lc_filt (w : Walk J n G Y) (R : Hp → V → α → Prop) (last : Lasts R) (f : Nat → Option α) {g : TG} {tt : TT} {te : TE} {vs : List Nat} {σ : St} {H1 : Hp} {D : Addr} {Qd : Hp → Prop} (hD : H1 D = none) (hn : n ≤ 10000)
    (hG : ∀ H, Same H1 H → G H)
    (hs : ∀ i x H H', i < n → Same H1 H → Y i H x H' → ∀ Nx : Hp → Prop,
      (∀ H4 y a, f i = some a → Same H H4 → R (nw H H4) y a → ∃ acc, H4 D = some (.lst acc) ∧ acc.length < sizeLine ∧ Nx (upd H4 D (.lst (acc ++ [y])))) → (∀ H4, f i = none → Same H H4 → Nx H4) →
      g x (wipe σ vs) H' fun σ2 H2 => wipe σ2 vs = wipe σ vs ∧ tt σ2 H2 fun b H3 => if b = true then te σ2 H3 fun y H4 => ∃ acc, H4 D = some (.lst acc) ∧ acc.length < sizeLine ∧ Nx (upd H4 D (.lst (acc ++ [y]))) else Nx H3)
    (hd : ∀ H ws, Same H1 H → H D = some (.lst ws) → Paired (R (hid D (nw H1 H))) ws ((List.range n).filterMap f) → Qd H) :
    ∃ W : Nat → Nat → Hp → Prop, (∃ m, W 0 m (upd H1 D (.lst []))) ∧ ∀ i m H, W i m H →
      (J.stop i H ∧ Qd H) ∨ (J.go i H ∧ ∃ Nx : Hp → Prop, (∀ H', Nx H' → ∃ m', m' < m ∧ W (i + 1) m' H') ∧ ∀ x H', J.yld i H x H' → g x (wipe σ vs) H' fun σ2 H2 => wipe σ2 vs = wipe σ vs ∧ tt σ2 H2 fun b H3 =>
        if b = true then te σ2 H3 fun y H4 => ∃ acc, H4 D = some (.lst acc) ∧ acc.length < sizeLine ∧ Nx (upd H4 D (.lst (acc ++ [y]))) else Nx H3) := by
  refine lc_it w (fun i H => Same H1 H ∧ ∃ ws, H D = some (.lst ws) ∧ ws.length ≤ i ∧ Paired (R (hid D (nw H1 H))) ws ((List.range i).filterMap f)) ⟨Same.upd hD, [], upd_same, Nat.le_refl _, .nil⟩ (fun i H _ h => hG H h.1) ?_ (fun H ⟨sm, ws, hd', _, p⟩ => hd H ws sm hd' p)
  rintro i x H H' hi ⟨sm, ws, hD', lw, p⟩ y
  have size : ws.length < sizeLine := small1000x (by omega)
  have rng : (List.range (i + 1)).filterMap f = (List.range i).filterMap f ++ (f i).toList := by
    rw [List.range_succ, List.filterMap_append]
    congr 1
  have carry : ∀ H4, Same H H4 → ∀ v a, R (hid D (nw H1 H)) v a → R (hid D (nw H1 H4)) v a := fun H4 s v a h => last _ _ v a (Same.hid (nw_mono (Same.refl _) s)) h
  refine hs i x H H' hi sm y _ (fun H4 z a e s r => ⟨ws, s _ _ hD', size, own_push (sm.trans s) hD, ws ++ [z], upd_same, by rw [List.length_append]; simp only [List.length_cons, List.length_nil]; omega, ?_⟩) (fun H4 e s => ⟨sm.trans s, ws, s _ _ hD', by omega, ?_⟩)
  · have eq : hid D (nw H1 (upd H4 D (.lst (ws ++ [z])))) = hid D (nw H1 H4) := by
      funext b
      unfold hid nw
      split
      · rfl
      · rename_i nb
        rw [upd_ne nb]
    rw [eq, rng, e]
    refine paired_snoc (R := R (hid D (nw H1 H4))) (last _ _ _ _ ?_ r) (paired_mono (carry H4 s) p)
    intro b o hb
    obtain ⟨e1, e2⟩ := nw_some hb
    rw [hid_ne fun q => by rw [q, hD'] at e1; cases e1]
    exact nw_of (none_of_same sm e1) e2
  · rw [rng, e]
    show Paired _ _ (_ ++ [])
    rw [List.append_nil]
    exact paired_mono (carry H4 s) p
/-- a comprehension that makes one item a turn, and changes nothing else -/
theorem lc_map (w : Walk J n G Y) (R : Hp → V → α → Prop) (last : Lasts R) (f : Nat → α) {g : TG} {tt : TT} {te : TE} {vs : List Nat} {σ : St} {H1 : Hp} {D : Addr} {Qd : Hp → Prop} (hD : H1 D = none) (hn : n ≤ 10000)
    (hG : ∀ H, Same H1 H → G H)
    (hs : ∀ i x H H', i < n → Same H1 H → Y i H x H' → ∀ Nx : Hp → Prop,
      (∀ H4 y, Same H H4 → R (nw H H4) y (f i) → ∃ acc, H4 D = some (.lst acc) ∧ acc.length < sizeLine ∧ Nx (upd H4 D (.lst (acc ++ [y])))) →
      g x (wipe σ vs) H' fun σ2 H2 => wipe σ2 vs = wipe σ vs ∧ tt σ2 H2 fun b H3 => if b = true then te σ2 H3 fun y H4 => ∃ acc, H4 D = some (.lst acc) ∧ acc.length < sizeLine ∧ Nx (upd H4 D (.lst (acc ++ [y]))) else Nx H3)
    (hd : ∀ H ws, Same H1 H → H D = some (.lst ws) → Paired (R (hid D (nw H1 H))) ws ((List.range n).map f) → Qd H) :
    ∃ W : Nat → Nat → Hp → Prop, (∃ m, W 0 m (upd H1 D (.lst []))) ∧ ∀ i m H, W i m H →
      (J.stop i H ∧ Qd H) ∨ (J.go i H ∧ ∃ Nx : Hp → Prop, (∀ H', Nx H' → ∃ m', m' < m ∧ W (i + 1) m' H') ∧ ∀ x H', J.yld i H x H' → g x (wipe σ vs) H' fun σ2 H2 => wipe σ2 vs = wipe σ vs ∧ tt σ2 H2 fun b H3 =>
        if b = true then te σ2 H3 fun y H4 => ∃ acc, H4 D = some (.lst acc) ∧ acc.length < sizeLine ∧ Nx (upd H4 D (.lst (acc ++ [y]))) else Nx H3) := by
  refine lc_filt w R last (fun i => some (f i)) hD hn hG (fun i x H H' hi sm y Nx k _ => hs i x H H' hi sm y Nx fun H4 z s r => k H4 z (f i) rfl s r) (fun H ws sm h p => hd H ws sm h ?_)
  rw [List.filterMap_eq_map'] at p
  exact p
end
end L2.Px

namespace L2.Px
open PySem PySem.Spec PyProof.Rows
def top (i : Nat) : Stmt := PySem.Challenge.pw_wedgespace_k38_products_of_matrices.main.body.getD i (.Pass ⟨0, 0, 0, 0⟩)
abbrev s_is_matrix : Stmt := top 6
abbrev s_check_matrix : Stmt := top 7
abbrev s_check_vector : Stmt := top 8
abbrev s_identity : Stmt := top 9
abbrev s_product : Stmt := top 10
abbrev s_times : Stmt := top 11
abbrev s_transposed : Stmt := top 12
abbrev s_identity_rows : Stmt := top 13
abbrev s_product_rows : Stmt := top 14
abbrev s_vector_product : Stmt := top 15
abbrev s_transposed_rows : Stmt := top 16
abbrev s__law_number : Stmt := top 18
abbrev s__law_draws : Stmt := top 19
abbrev s__law_draw : Stmt := top 20
abbrev s__law_pick : Stmt := top 21
abbrev s__law_matrix : Stmt := top 22
abbrev s__law_times : Stmt := top 23
abbrev s__law_product : Stmt := top 24
abbrev s__law_unit : Stmt := top 25
abbrev s__law_is_numbers : Stmt := top 26
abbrev s__law_is_rows : Stmt := top 27
abbrev s__law_refuses : Stmt := top 28
abbrev s__law_is_refused : Stmt := top 29
abbrev s_law : Stmt := top 30
/-- the built-in names that the text leaves alone -/
structure Nm (mg : Str → Option Value) : Prop where
  n_all : mg "all" = none
  n_len : mg "len" = none
  n_range : mg "range" = none
  n_zip : mg "zip" = none
  n_int : mg "int" = none
  n_isinstance : mg "isinstance" = none
  n_list : mg "list" = none
  n_bool : mg "bool" = none
abbrev n_is_matrix : List Str := ["rows", "columns", "row"]
theorem sc_is_matrix : FnScope n_is_matrix ["rows", "columns"] (defScope s_is_matrix) := ⟨rfl, rfl, rfl, by decide +kernel, rfl, by decide +kernel, by decide +kernel⟩
abbrev n_check_matrix : List Str := ["rows", "columns"]
theorem sc_check_matrix : FnScope n_check_matrix ["rows", "columns"] (defScope s_check_matrix) := ⟨rfl, rfl, rfl, by decide +kernel, rfl, by decide +kernel, by decide +kernel⟩
abbrev n_check_vector : List Str := ["vector", "size"]
theorem sc_check_vector : FnScope n_check_vector ["vector", "size"] (defScope s_check_vector) := ⟨rfl, rfl, rfl, by decide +kernel, rfl, by decide +kernel, by decide +kernel⟩
abbrev n_identity : List Str := ["size"]
theorem sc_identity : FnScope n_identity ["size"] (defScope s_identity) := ⟨rfl, rfl, rfl, by decide +kernel, rfl, by decide +kernel, by decide +kernel⟩
abbrev n_product : List Str := ["one", "other", "columns"]
theorem sc_product : FnScope n_product ["one", "other", "columns"] (defScope s_product) := ⟨rfl, rfl, rfl, by decide +kernel, rfl, by decide +kernel, by decide +kernel⟩
abbrev n_times : List Str := ["vector", "rows", "columns"]
theorem sc_times : FnScope n_times ["vector", "rows", "columns"] (defScope s_times) := ⟨rfl, rfl, rfl, by decide +kernel, rfl, by decide +kernel, by decide +kernel⟩
abbrev n_transposed : List Str := ["rows", "columns"]
theorem sc_transposed : FnScope n_transposed ["rows", "columns"] (defScope s_transposed) := ⟨rfl, rfl, rfl, by decide +kernel, rfl, by decide +kernel, by decide +kernel⟩
abbrev n_identity_rows : List Str := ["size", "i", "j"]
theorem sc_identity_rows : FnScope n_identity_rows ["size"] (defScope s_identity_rows) := ⟨rfl, rfl, rfl, by decide +kernel, rfl, by decide +kernel, by decide +kernel⟩
abbrev n_product_rows : List Str := ["one", "other", "columns", "row"]
theorem sc_product_rows : FnScope n_product_rows ["one", "other", "columns"] (defScope s_product_rows) := ⟨rfl, rfl, rfl, by decide +kernel, rfl, by decide +kernel, by decide +kernel⟩
abbrev n_vector_product : List Str := ["vector", "rows", "columns", "total", "factor", "row", "_", "entry", "more"]
theorem sc_vector_product : FnScope n_vector_product ["vector", "rows", "columns"] (defScope s_vector_product) := ⟨rfl, rfl, rfl, by decide +kernel, rfl, by decide +kernel, by decide +kernel⟩
abbrev n_transposed_rows : List Str := ["rows", "columns", "j", "row"]
theorem sc_transposed_rows : FnScope n_transposed_rows ["rows", "columns"] (defScope s_transposed_rows) := ⟨rfl, rfl, rfl, by decide +kernel, rfl, by decide +kernel, by decide +kernel⟩
abbrev n__law_number : List Str := ["cell"]
theorem sc__law_number : FnScope n__law_number ["cell"] (defScope s__law_number) := ⟨rfl, rfl, rfl, by decide +kernel, rfl, by decide +kernel, by decide +kernel⟩
abbrev n__law_draws : List Str := ["script", "draws", "seed", "cell", "rest", "k", "once", "twice"]
theorem sc__law_draws : FnScope n__law_draws ["script"] (defScope s__law_draws) := ⟨rfl, rfl, rfl, by decide +kernel, rfl, by decide +kernel, by decide +kernel⟩
abbrev n__law_draw : List Str := ["draws"]
theorem sc__law_draw : FnScope n__law_draw ["draws"] (defScope s__law_draw) := ⟨rfl, rfl, rfl, by decide +kernel, rfl, by decide +kernel, by decide +kernel⟩
abbrev n__law_pick : List Str := ["draws", "many"]
theorem sc__law_pick : FnScope n__law_pick ["draws", "many"] (defScope s__law_pick) := ⟨rfl, rfl, rfl, by decide +kernel, rfl, by decide +kernel, by decide +kernel⟩
abbrev n__law_matrix : List Str := ["draws", "rows", "columns", "matrix", "i", "row", "j", "number"]
theorem sc__law_matrix : FnScope n__law_matrix ["draws", "rows", "columns"] (defScope s__law_matrix) := ⟨rfl, rfl, rfl, by decide +kernel, rfl, by decide +kernel, by decide +kernel⟩
abbrev n__law_times : List Str := ["vector", "rows", "columns", "total", "i", "j"]
theorem sc__law_times : FnScope n__law_times ["vector", "rows", "columns"] (defScope s__law_times) := ⟨rfl, rfl, rfl, by decide +kernel, rfl, by decide +kernel, by decide +kernel⟩
abbrev n__law_product : List Str := ["one", "other", "columns", "row"]
theorem sc__law_product : FnScope n__law_product ["one", "other", "columns"] (defScope s__law_product) := ⟨rfl, rfl, rfl, by decide +kernel, rfl, by decide +kernel, by decide +kernel⟩
abbrev n__law_unit : List Str := ["size", "i", "j"]
theorem sc__law_unit : FnScope n__law_unit ["size"] (defScope s__law_unit) := ⟨rfl, rfl, rfl, by decide +kernel, rfl, by decide +kernel, by decide +kernel⟩
abbrev n__law_is_numbers : List Str := ["vector", "size", "number"]
theorem sc__law_is_numbers : FnScope n__law_is_numbers ["vector", "size"] (defScope s__law_is_numbers) := ⟨rfl, rfl, rfl, by decide +kernel, rfl, by decide +kernel, by decide +kernel⟩
abbrev n__law_is_rows : List Str := ["rows", "count", "columns", "row"]
theorem sc__law_is_rows : FnScope n__law_is_rows ["rows", "count", "columns"] (defScope s__law_is_rows) := ⟨rfl, rfl, rfl, by decide +kernel, rfl, by decide +kernel, by decide +kernel⟩
abbrev n__law_refuses : List Str := ["way", "one", "other", "columns", "e"]
theorem sc__law_refuses : FnScope n__law_refuses ["way", "one", "other", "columns"] (defScope s__law_refuses) := ⟨rfl, rfl, rfl, by decide +kernel, rfl, by decide +kernel, by decide +kernel⟩
abbrev n__law_is_refused : List Str := ["one", "middle", "columns", "bad", "way", "good", "k", "row"]
theorem sc__law_is_refused : FnScope n__law_is_refused ["one", "middle", "columns"] (defScope s__law_is_refused) := ⟨rfl, rfl, rfl, by decide +kernel, rfl, by decide +kernel, by decide +kernel⟩
abbrev n_law : List Str := ["script", "draws", "count", "middle", "columns", "one", "other", "vector", "given", "both", "moved", "turned", "k", "row", "j"]
theorem sc_law : FnScope n_law ["script"] (defScope s_law) := ⟨rfl, rfl, rfl, by decide +kernel, rfl, by decide +kernel, by decide +kernel⟩
end L2.Px

namespace L2.Px
open PySem PySem.Spec PyProof.Rows
/-! ### matrices as data -/
abbrev Mat := List (List Int)
def VecV (K : PySem.W.Frag) (H : Hp) (v : V) (ns : List Int) : Prop := ∃ a, v = .ref a ∧ SqL K H a (iV ns)
def MatV (K : PySem.W.Frag) (H : Hp) (v : V) (M : Mat) : Prop := ∃ a vs, v = .ref a ∧ SqL K H a vs ∧ Paired (VecV K H) vs M
theorem lasts_vec {K : PySem.W.Frag} : Lasts (VecV K) := fun H H' v ns s h => by
  obtain ⟨a, rfl, h⟩ := h
  exact ⟨a, rfl, s.seq h⟩
theorem lasts_mat {K : PySem.W.Frag} : Lasts (MatV K) := fun H H' v M s h => by
  obtain ⟨a, vs, rfl, h, p⟩ := h
  exact ⟨a, vs, rfl, s.seq h, paired_mono (fun _ _ q => lasts_vec _ _ _ _ s q) p⟩
theorem VecV.to {K : PySem.W.Frag} {H H' : Hp} {v : V} {ns : List Int} (h : VecV K H v ns) (s : Same H H') : VecV K H' v ns := lasts_vec _ _ _ _ s h
theorem MatV.to {K : PySem.W.Frag} {H H' : Hp} {v : V} {M : Mat} (h : MatV K H v M) (s : Same H H') : MatV K H' v M := lasts_mat _ _ _ _ s h
theorem MatV.mk {K : PySem.W.Frag} {H H1 : Hp} {D : Addr} {ws : List V} {M : Mat} (h : H D = some (.lst ws)) (n : H1 D = none) (p : Paired (VecV K (hid D (nw H1 H))) ws M) : MatV K (nw H1 H) (.ref D) M :=
  ⟨D, ws, rfl, .of (nw_of n h), paired_mono (fun _ _ q => q.to hid_same) p⟩
theorem VecV.mk {K : PySem.W.Frag} {H H1 : Hp} {D : Addr} {ns : List Int} (h : H D = some (.lst (iV ns))) (n : H1 D = none) : VecV K (nw H1 H) (.ref D) ns := ⟨D, rfl, .of (nw_of n h)⟩
/-- is it a matrix with c columns -/
def isM (M : Mat) (c : Int) : Bool := (decide (0 ≤ c) && decide (c ≤ 120)) && decide ((M.length : Int) ≤ 120) && M.all fun r => decide ((r.length : Int) = c)
def rowAdd (f : Int) (t r : List Int) : List Int := List.zipWith (fun e m => e + f * m) t r
/-- a vector times rows, on top of what is there -/
def vp (t : List Int) : List Int → Mat → List Int
  | f :: v, r :: M => vp (rowAdd f t r) v M
  | _, _ => t
def vpL (v : List Int) (M : Mat) (c : Nat) : List Int := vp (List.replicate c 0) v M
def unitL (n : Nat) : Mat := (List.range n).map fun i => (List.range n).map fun j => if i = j then (1 : Int) else 0
def transL (M : Mat) (c : Nat) : Mat := (List.range c).map fun j => M.map fun r => r.getD j 0
section
variable {P : Program} {w : World} {K : PySem.W.Frag} {mg : Str → Option Value} {base : Heap}
/-! ### is_matrix -/
def sp_is_matrix (K : PySem.W.Frag) : Sp := fun vs H Q _ => ∃ (v : V) (M : Mat) (c : Int), vs = [v, .int c] ∧ MatV K H v M ∧ ∀ H', Same H H' → Q (.bl (isM M c)) H'
theorem ok_is_matrix {f : Addr} {fd : FuncData} {k_MOST_LINES : Tok} (F : Fun K "is_matrix" "is_matrix" s_is_matrix f fd) (N : Nm mg) (M_MOST_LINES : mg "MOST_LINES" = some (.int 120 k_MOST_LINES)) :
    FnOk P w K mg base CX0 1 f fd ["rows", "columns"] (sp_is_matrix K) := by
  refine F.ok sc_is_matrix (fun vs H Q E h => ?_) (fun cdv A outer s H vs Q E hr h => ?_)
  · obtain ⟨v, M, c, rfl, _⟩ := h
    rfl
  · obtain ⟨v, M, c, rfl, hM, k⟩ := h
    refine ⟨_, pss_cons (ps_if (PW.pt (pw_or (pt_not (pt_chain op_le op_le pe_int (pv 1) (pe_glob rfl M_MOST_LINES (v := .int 120) ⟨_, rfl⟩))) (pw_or1 (pt_cmpR op_gt (pe_callB call_len_seq (by rfl) N.n_len PySem.boot_len (pa_cons (pv 0) pa_nil)) (pe_glob rfl M_MOST_LINES (v := .int 120) ⟨_, rfl⟩) (nomark _))))) (pss_one (ps_ret pe_bl)) pss_nil)
      (pss_one (ps_ret (pe_callB (cr_all rfl) (by rfl) N.n_all (by decide +kernel) (pa_cons (pe_lc (own := [("row", 2)]) (g := gName 2) (tt := tYes) (te := tOp (rEq) (tCB (rLenSeq K) (tCons (tVar 2) (tNil))) (tVar 1)) rfl sc_is_matrix.nd (pi_list (pv 0)) (blkOk_by (N := n_is_matrix) (sc := defScope s_is_matrix) (by decide +kernel)) (fun _ _ _ _ _ => (pg_name (i := 2) sc_is_matrix.nd rfl (.inl rfl))) (fun _ _ _ _ _ => pts_nil) (fun _ _ _ _ _ => (pe_cmpR op_eq (pe_callB call_len_seq (by rfl) N.n_len PySem.boot_len (pa_cons (pv 2) pa_nil)) (pv 1) (nomark _)))) pa_nil)))), ?_⟩
    obtain ⟨a, vs, rfl, ha, pa⟩ := hM
    have lv := Paired.length pa
    refine ⟨.int c, rfl, 0, c, rfl, rfl, _, rfl, ?_⟩
    refine ite2 (fun c0 => ?_) (fun c0 => ?_)
    · refine ⟨c, 120, rfl, rfl, _, rfl, ?_⟩
      by_cases c1 : c ≤ 120
      · rw [decide_eq_true c1]
        refine iteF ⟨.ref a, rfl, a, vs, rfl, .inl ha, _, _, rfl, rfl, _, rfl, ite2 (fun c2 => ?_) (fun c2 => ?_)⟩
        · have : isM M c = false := by
            unfold isM
            have c2 := of_decide_eq_true c2
            rw [decide_eq_false (by rw [← lv]; omega : ¬ (M.length : Int) ≤ 120), Bool.and_false]
            rfl
          rw [← this]
          exact k H (Same.refl H)
        · have c2 : ¬ (120 : Int) < vs.length := fun z => c2 (decide_eq_true z)
          refine ⟨.ref a, rfl, a, rfl, ⟨_, ha⟩, fun D hD => lc_map (walk_list (K := K) (a := a) (xs := vs)) RBl lasts_bl (fun i => decide (((M.getD i []).length : Int) = c)) hD (by omega) (fun H' s => s.seq ha) ?_ ?_⟩
          · rintro i x H1 H2 hi s1 ⟨rfl, hx⟩ Nx kk
            obtain ⟨r, hr', b, rfl, hb⟩ := paired_get pa hx
            refine ⟨rfl, .ref b, rfl, b, _, rfl, .inl (s1.seq hb), .int c, rfl, rfl, ?_⟩
            refine kk H2 _ (Same.refl _) ?_
            show V.bl _ = V.bl _
            rw [List.length_map, List.getD_eq_getElem?_getD, hr']
            simp
          · intro H1 ws s1 hd p
            have e := paired_bl p
            subst e
            refine ⟨D, _, rfl, .of hd, ?_⟩
            have : isM M c = ((List.range vs.length).map fun i => decide (((M.getD i []).length : Int) = c)).all id := by
              unfold isM
              rw [decide_eq_true (of_decide_eq_true c0 : 0 ≤ c), decide_eq_true c1, decide_eq_true (by omega : (M.length : Int) ≤ 120), lv]
              show (true && M.all _) = _
              rw [Bool.true_and, List.all_map]
              apply Bool.eq_iff_iff.mpr
              rw [List.all_eq_true, List.all_eq_true]
              constructor
              · intro h i hi
                have hi := List.mem_range.mp hi
                have := h _ (List.getElem_mem hi)
                show decide (((M.getD i []).length : Int) = c) = true
                rw [List.getD_eq_getElem?_getD, List.getElem?_eq_getElem hi]
                exact this
              · intro h r hr'
                obtain ⟨i, hi, rfl⟩ := List.mem_iff_getElem.mp hr'
                have := h i (List.mem_range.mpr hi)
                have this : decide (((M.getD i []).length : Int) = c) = true := this
                rw [List.getD_eq_getElem?_getD, List.getElem?_eq_getElem hi] at this
                exact this
            rw [← this]
            exact k H1 s1
      · rw [decide_eq_false c1]
        refine iteT ?_
        have : isM M c = false := by
          unfold isM
          rw [decide_eq_false c1, Bool.and_false]
          rfl
        have g := k H (Same.refl H)
        rw [this] at g
        exact g
    · have c0 : ¬ (0 : Int) ≤ c := fun z => c0 (decide_eq_true z)
      refine ⟨_, rfl, ?_⟩
      have : isM M c = false := by
        unfold isM
        rw [decide_eq_false c0]
        rfl
      have g := k H (Same.refl H)
      rw [this] at g
      exact iteT g
end
end L2.Px

namespace L2.Px
open PySem PySem.Spec PyProof.Rows
section
variable {P : Program} {w : World} {K : PySem.W.Frag} {mg : Str → Option Value} {base : Heap}
def sp_check_matrix (K : PySem.W.Frag) (C : Addr) : Sp := fun vs H Q E => ∃ (v : V) (M : Mat) (c : Int), vs = [v, .int c] ∧ MatV K H v M ∧ (isM M c = true → ∀ H', Same H H' → Q .non H') ∧ (isM M c = false → ∀ H', Same H H' → E (.ref C) none H')
theorem ok_check_matrix {f : Addr} {fd : FuncData} {f_is_matrix : Addr} {d_is_matrix : FuncData} {c_NotMatrix : Addr} (F : Fun K "check_matrix" "check_matrix" s_check_matrix f fd) (N : Nm mg) (B_NotMatrix : ExN K mg "NotMatrix" c_NotMatrix)
    (t_is_matrix : At K mg "is_matrix" s_is_matrix ["rows", "columns"] f_is_matrix d_is_matrix) (G_is_matrix : FnOk P w K mg base CX0 1 f_is_matrix d_is_matrix ["rows", "columns"] (sp_is_matrix K)) :
    FnOk P w K mg base (L2.CX P w) 2 f fd ["rows", "columns"] (sp_check_matrix K c_NotMatrix) := by
  refine F.okX sc_check_matrix (fun vs H Q E h => ?_) (fun cdv A outer s H vs Q E hr h => ?_)
  · obtain ⟨v, M, c, rfl, _⟩ := h
    rfl
  · obtain ⟨v, M, c, rfl, hM, k1, k2⟩ := h
    refine ⟨_, pss_one (ps_if (pt_not (pt_val (pe_call G_is_matrix (hr.mono (by decide)) rfl t_is_matrix.g t_is_matrix.F.kp t_is_matrix.b .nil pass0 (pa_cons (pv 0) (pa_cons (pv 1) pa_nil))))) (pss_one (ps_raise rfl (takes_of rfl rfl rfl rfl) (pmk_own PySem.F.excBase_ValueError B_NotMatrix.x B_NotMatrix.g B_NotMatrix.k (raises_own B_NotMatrix.b B_NotMatrix.t) rfl))) pss_nil), ?_⟩
    refine ⟨v, rfl, _, rfl, v, M, c, rfl, hM, fun H' s => ⟨_, rfl, ?_⟩⟩
    cases e : isM M c with
    | true => exact iteF (k1 e H' s)
    | false => exact iteT (k2 e H' s)
def sp_check_vector (K : PySem.W.Frag) (C : Addr) : Sp := fun vs H Q E => ∃ (v : V) (ns : List Int) (c : Int), vs = [v, .int c] ∧ VecV K H v ns ∧ ((ns.length : Int) = c → ∀ H', Same H H' → Q .non H') ∧ ((ns.length : Int) ≠ c → ∀ H', Same H H' → E (.ref C) none H')
theorem ok_check_vector {f : Addr} {fd : FuncData} {c_NotMatrix : Addr} (F : Fun K "check_vector" "check_vector" s_check_vector f fd) (N : Nm mg) (B_NotMatrix : ExN K mg "NotMatrix" c_NotMatrix) :
    FnOk P w K mg base (L2.CX P w) 1 f fd ["vector", "size"] (sp_check_vector K c_NotMatrix) := by
  refine F.okX sc_check_vector (fun vs H Q E h => ?_) (fun cdv A outer s H vs Q E hr h => ?_)
  · obtain ⟨v, ns, c, rfl, _⟩ := h
    rfl
  · obtain ⟨v, ns, c, rfl, hv, k1, k2⟩ := h
    refine ⟨_, pss_one (ps_if (pt_cmpR op_ne (pe_callB call_len_seq (by rfl) N.n_len PySem.boot_len (pa_cons (pv 0) pa_nil)) (pv 1) (nomark _)) (pss_one (ps_raise rfl (takes_of rfl rfl rfl rfl) (pmk_own PySem.F.excBase_ValueError B_NotMatrix.x B_NotMatrix.g B_NotMatrix.k (raises_own B_NotMatrix.b B_NotMatrix.t) rfl))) pss_nil), ?_⟩
    obtain ⟨a, rfl, ha⟩ := hv
    refine ⟨.ref a, rfl, a, _, rfl, .inl ha, _, rfl, rfl, _, rfl, ?_⟩
    by_cases e : (ns.length : Int) = c
    · refine iteNS (by rw [List.length_map, e]) (k1 e H (Same.refl H))
    · have : decide (V.int ((iV ns).length : Nat) = V.int c) = false := decide_eq_false fun z => e (by injection z with z; rw [List.length_map] at z; exact z)
      rw [this]
      exact iteT (k2 e H (Same.refl H))
/-! ### identity_rows -/
def sp_identity_rows (K : PySem.W.Frag) : Sp := fun vs H Q _ => ∃ n : Nat, vs = [.int (n : Int)] ∧ n ≤ 120 ∧ ∀ H' v, Same H H' → MatV K (nw H H') v (unitL n) → Q v H'
theorem ok_identity_rows {f : Addr} {fd : FuncData} (F : Fun K "identity_rows" "identity_rows" s_identity_rows f fd) (N : Nm mg) :
    FnOk P w K mg base CX0 1 f fd ["size"] (sp_identity_rows K) := by
  refine F.ok sc_identity_rows (fun vs H Q E h => ?_) (fun cdv A outer s H vs Q E hr h => ?_)
  · obtain ⟨n, rfl, _⟩ := h
    rfl
  · obtain ⟨n, rfl, hn, k⟩ := h
    refine ⟨_, pss_one (ps_ret (pe_lc (own := [("i", 1)]) (g := gName 1) (tt := tYes) (te := tLc (iRng1 (tCons (tVar 0) (tNil))) (gName 2) (tYes) (tIf (tTest (tOp (rEq) (tVar 1) (tVar 2))) (L2.tC (.int 1)) (L2.tC (.int 0))) [2]) rfl sc_identity_rows.nd (pi_range1 (by rfl) N.n_range (pa_cons (pv 0) pa_nil)) (blkOk_by (N := n_identity_rows) (sc := defScope s_identity_rows) (by decide +kernel)) (fun _ _ _ _ _ => (pg_name (i := 1) sc_identity_rows.nd rfl (.inr rfl))) (fun _ _ _ _ _ => pts_nil) (fun _ _ _ _ _ => (pe_lc (own := [("j", 2)]) (g := gName 2) (tt := tYes) (te := tIf (tTest (tOp (rEq) (tVar 1) (tVar 2))) (L2.tC (.int 1)) (L2.tC (.int 0))) rfl sc_identity_rows.nd (pi_range1 (by rfl) N.n_range (pa_cons (pv 0) pa_nil)) (by refine blkOk_by (N := n_identity_rows) (sc := { kind := .function, names := [(".0", .local), ("i", .cell), ("range", .globalImplicit), ("size", .cell)], isGenerator := false, isCoroutine := false }) ?_; decide +kernel) (fun _ _ _ _ _ => (pg_name (i := 2) sc_identity_rows.nd rfl (.inl rfl))) (fun _ _ _ _ _ => pts_nil) (fun _ _ _ _ _ => (pe_ifExp (pt_cmpR op_eq (pv 1) (pv 2) (nomark _)) pe_int pe_int)))))), ?_⟩
    refine ⟨_, rfl, (n : Int), rfl, by omega, by omega, ?_⟩
    rw [Int.toNat_natCast]
    intro D hD
    refine lc_map (walk_range (lo := 0)) (VecV K) lasts_vec (fun i => (List.range n).map fun j => if i = j then (1 : Int) else 0) hD (by omega) (fun _ _ => trivial) ?_ ?_
    · rintro i x H1 H2 hi s1 ⟨rfl, rfl⟩ Nx kk
      refine ⟨rfl, _, rfl, (n : Int), rfl, by omega, by omega, ?_⟩
      rw [Int.toNat_natCast]
      intro D2 hD2
      refine lc_map (walk_range (lo := 0)) RInt lasts_int (fun j => if i = j then (1 : Int) else 0) hD2 (by omega) (fun _ _ => trivial) ?_ ?_
      · rintro j x H3 H4 hj s3 ⟨rfl, rfl⟩ Nx2 kk2
        refine ⟨rfl, _, rfl, _, rfl, rfl, _, rfl, ?_⟩
        by_cases e : i = j
        · subst e
          rw [decide_eq_true rfl]
          exact iteT (kk2 _ _ (Same.refl _) (by rw [if_pos rfl]; rfl))
        · rw [decide_eq_false fun z => e (by injection z with z; omega)]
          exact iteF (kk2 _ _ (Same.refl _) (by rw [if_neg e]; rfl))
      · intro H3 ws s3 hd p
        have e := paired_int p
        subst e
        exact kk H3 _ s3 (VecV.mk hd hD2)
    · intro H1 ws s1 hd p
      exact k H1 _ s1 (MatV.mk hd hD p)
/-! ### transposed_rows -/
def sp_transposed_rows (K : PySem.W.Frag) : Sp := fun vs H Q _ => ∃ (v : V) (M : Mat) (c : Nat), vs = [v, .int (c : Int)] ∧ MatV K H v M ∧ c ≤ 120 ∧ M.length ≤ 120 ∧ (∀ r ∈ M, r.length = c) ∧ ∀ H' y, Same H H' → MatV K (nw H H') y (transL M c) → Q y H'
theorem map_get {α β : Type} (l : List α) (f : α → β) (d : α) : l.map f = (List.range l.length).map fun i => f (l.getD i d) := by
  refine List.ext_getElem (by rw [List.length_map, List.length_map, List.length_range]) fun i h1 h2 => ?_
  rw [List.getElem_map, List.getElem_map, List.getElem_range, List.getD_eq_getElem?_getD, List.getElem?_eq_getElem (by rwa [List.length_map] at h1)]
  rfl
theorem ok_transposed_rows {f : Addr} {fd : FuncData} (F : Fun K "transposed_rows" "transposed_rows" s_transposed_rows f fd) (N : Nm mg) :
    FnOk P w K mg base CX0 1 f fd ["rows", "columns"] (sp_transposed_rows K) := by
  refine F.ok sc_transposed_rows (fun vs H Q E h => ?_) (fun cdv A outer s H vs Q E hr h => ?_)
  · obtain ⟨v, M, c, rfl, _⟩ := h
    rfl
  · obtain ⟨v, M, c, rfl, hM, hc, hl, hr2, k⟩ := h
    refine ⟨_, pss_one (ps_ret (pe_lc (own := [("j", 2)]) (g := gName 2) (tt := tYes) (te := tLc (iList K (tVar 0)) (gName 3) (tYes) (tOp (rIxL K) (tVar 3) (tVar 2)) [3]) rfl sc_transposed_rows.nd (pi_range1 (by rfl) N.n_range (pa_cons (pv 1) pa_nil)) (blkOk_by (N := n_transposed_rows) (sc := defScope s_transposed_rows) (by decide +kernel)) (fun _ _ _ _ _ => (pg_name (i := 2) sc_transposed_rows.nd rfl (.inr rfl))) (fun _ _ _ _ _ => pts_nil) (fun _ _ _ _ _ => (pe_lc (own := [("row", 3)]) (g := gName 3) (tt := tYes) (te := tOp (rIxL K) (tVar 3) (tVar 2)) rfl sc_transposed_rows.nd (pi_list (pv 0)) (by refine blkOk_by (N := n_transposed_rows) (sc := { kind := .function, names := [(".0", .local), ("j", .cell), ("rows", .cell)], isGenerator := false, isCoroutine := false }) ?_; decide +kernel) (fun _ _ _ _ _ => (pg_name (i := 3) sc_transposed_rows.nd rfl (.inl rfl))) (fun _ _ _ _ _ => pts_nil) (fun _ _ _ _ _ => (pe_ix ix_list (pv 3) (pv 2) (fun _ _ => rfl))))))), ?_⟩
    obtain ⟨a, vs, rfl, ha, pa⟩ := hM
    have lv := Paired.length pa
    refine ⟨_, rfl, (c : Int), rfl, by omega, by omega, ?_⟩
    rw [Int.toNat_natCast]
    intro D hD
    refine lc_map (walk_range (lo := 0)) (VecV K) lasts_vec (fun j => M.map fun r => r.getD j 0) hD (by omega) (fun _ _ => trivial) ?_ ?_
    · rintro j x H1 H2 hj s1 ⟨rfl, rfl⟩ Nx kk
      refine ⟨rfl, .ref a, rfl, a, rfl, ⟨_, s1.seq ha⟩, fun D2 hD2 => lc_map (walk_list (K := K) (a := a) (xs := vs)) RInt lasts_int (fun i => (M.getD i []).getD j 0) hD2 (by omega) (fun H' s => s.seq (s1.seq ha)) ?_ ?_⟩
      · rintro i x H3 H4 hi s3 ⟨rfl, hx⟩ Nx2 kk2
        obtain ⟨r, hr', b, rfl, hb⟩ := paired_get pa hx
        have lr := hr2 r (List.mem_of_getElem? hr')
        refine ⟨rfl, .ref b, rfl, _, rfl, b, iV r, _, _, rfl, rfl, s3.seq (s1.seq hb), getD_at (by omega) (by omega), kk2 _ _ (Same.refl _) ?_⟩
        show V.int _ = V.int _
        rw [List.getD_eq_getElem?_getD (l := M), hr']
        have : (0 + (j : Int)).toNat = j := by omega
        rw [this]
        rfl
      · intro H3 ws s3 hd p
        have e := paired_int p
        rw [lv, ← map_get M (fun r => r.getD j 0) []] at e
        subst e
        exact kk H3 _ s3 (VecV.mk hd hD2)
    · intro H1 ws s1 hd p
      exact k H1 _ s1 (MatV.mk hd hD p)
/-! ### vector_product -/
def totL (ns : List Int) (M : Mat) (c : Nat) : Nat → List Int
  | 0 => List.replicate c 0
  | i + 1 => rowAdd (ns.getD i 0) (totL ns M c i) (M.getD i [])
def vpT (ns : List Int) (M : Mat) (c : Nat) : List Int := totL ns M c (min ns.length M.length)
theorem rowAdd_len {f : Int} {t r : List Int} {c : Nat} (h1 : t.length = c) (h2 : r.length = c) : (rowAdd f t r).length = c := by
  unfold rowAdd
  rw [List.length_zipWith, h1, h2, Nat.min_self]
theorem rowAdd_zero {t r : List Int} (h : t.length = r.length) : rowAdd 0 t r = t := by
  unfold rowAdd
  refine List.ext_getElem (by rw [List.length_zipWith, h, Nat.min_self]) fun i h1 h2 => ?_
  rw [List.getElem_zipWith]
  omega
theorem row_len {M : Mat} {c i : Nat} (h : ∀ r ∈ M, r.length = c) (hi : i < M.length) : (M.getD i []).length = c := by
  rw [List.getD_eq_getElem?_getD, List.getElem?_eq_getElem hi]
  exact h _ (List.getElem_mem hi)
theorem totL_len {ns : List Int} {M : Mat} {c : Nat} (h : ∀ r ∈ M, r.length = c) : ∀ i, i ≤ M.length → (totL ns M c i).length = c
  | 0, _ => List.length_replicate
  | i + 1, hi => rowAdd_len (totL_len h i (by omega)) (row_len h (by omega))
theorem zip_get (f : Int) (t r : List Int) (h : t.length = r.length) : rowAdd f t r = (List.range t.length).map fun i => t.getD i 0 + f * r.getD i 0 := by
  unfold rowAdd
  refine List.ext_getElem (by rw [List.length_zipWith, List.length_map, List.length_range, h, Nat.min_self]) fun i h1 h2 => ?_
  have hi : i < t.length := by rwa [List.length_map, List.length_range] at h2
  rw [List.getElem_zipWith, List.getElem_map, List.getElem_range, List.getD_eq_getElem?_getD, List.getElem?_eq_getElem hi, List.getD_eq_getElem?_getD, List.getElem?_eq_getElem (h ▸ hi)]
  rfl
def sp_vector_product (K : PySem.W.Frag) : Sp := fun vs H Q _ => ∃ (x m : V) (ns : List Int) (M : Mat) (c : Nat), vs = [x, m, .int (c : Int)] ∧ VecV K H x ns ∧ MatV K H m M ∧ c ≤ 120 ∧ (∀ r ∈ M, r.length = c) ∧ (∀ f ∈ ns, -(2 ^ 64) < f ∧ f < 2 ^ 64) ∧
  ∀ H' y, Same H H' → VecV K (nw H H') y (vpT ns M c) → Q y H'
theorem ok_vector_product {f : Addr} {fd : FuncData} (F : Fun K "vector_product" "vector_product" s_vector_product f fd) (N : Nm mg) :
    FnOk P w K mg base CX0 1 f fd ["vector", "rows", "columns"] (sp_vector_product K) := by
  refine F.ok sc_vector_product (fun vs H Q E h => ?_) (fun cdv A outer s H vs Q E hr h => ?_)
  · obtain ⟨x, m, ns, M, c, rfl, _⟩ := h
    rfl
  · obtain ⟨x, m, ns, M, c, rfl, hx, hM, hc, hr2, hb, k⟩ := h
    refine ⟨_, pss_cons (ps_setLc (i := 3) (own := [("_", 6)]) (g := gName 6) (tt := tYes) (te := L2.tC (.int 0)) rfl sc_vector_product.nd rfl rfl (sw_true rfl rfl rfl (by decide +kernel)) (pi_range1 (by rfl) N.n_range (pa_cons (pv 2) pa_nil)) (blkOk_by (N := n_vector_product) (sc := defScope s_vector_product) (by decide +kernel)) (fun _ _ _ _ _ => (pg_name (i := 6) sc_vector_product.nd rfl (.inl rfl))) (fun _ _ _ _ _ => pts_nil) (fun _ _ _ _ _ => pe_int))
      (pss_cons (ps_for PassesOwn.never rfl (pi_zip (by rfl) N.n_zip (pa_cons (pv 0) (pa_cons (pv 1) pa_nil))) (pg_tup rfl (pgs_cons (pg_name (i := 4) sc_vector_product.nd rfl (.inr rfl)) (pgs_cons (pg_name (i := 5) sc_vector_product.nd rfl (.inl rfl)) pgs_nil))) (pss_one (ps_if (pt_cmpR op_ne (pv 4) pe_int (nomark _)) (pss_one (ps_setLc (i := 3) (own := [("entry", 7), ("more", 8)]) (g := gTup K 2 (gCons (gName 7) (gCons (gName 8) (gNil)))) (tt := tYes) (te := tOp (rI0 fun i j => .int (i + j)) (tVar 7) (tOp (rI CMul fun i j => .int (i * j)) (tVar 4) (tVar 8))) rfl sc_vector_product.nd rfl rfl (sw_true rfl rfl rfl (by decide +kernel)) (pi_zip (by rfl) N.n_zip (pa_cons (pv 3) (pa_cons (pv 5) pa_nil))) (blkOk_by (N := n_vector_product) (sc := defScope s_vector_product) (by decide +kernel)) (fun _ _ _ _ _ => (pg_tup rfl (pgs_cons (pg_name (i := 7) sc_vector_product.nd rfl (.inl rfl)) (pgs_cons (pg_name (i := 8) sc_vector_product.nd rfl (.inl rfl)) pgs_nil)))) (fun _ _ _ _ _ => pts_nil) (fun _ _ _ _ _ => (pe_op op_add (pv 7) (pe_op op_mul (pv 4) (pv 8)))))) pss_nil)))
      (pss_one (ps_ret (pv 3)))), ?_⟩
    obtain ⟨a, rfl, ha⟩ := hx
    obtain ⟨b, vs, rfl, hb', pb⟩ := hM
    have lv := Paired.length pb
    refine ⟨_, rfl, (c : Int), rfl, by omega, by omega, ?_⟩
    rw [Int.toNat_natCast]
    intro D hD
    refine lc_map (walk_range (lo := 0)) RInt lasts_int (fun _ => (0 : Int)) hD (by omega) (fun _ _ => trivial) ?_ ?_
    · rintro i x H1 H2 hi s1 ⟨rfl, rfl⟩ Nx kk
      exact ⟨rfl, kk _ _ (Same.refl _) rfl⟩
    intro H1 ws s1 hd p
    have e := paired_int p
    rw [List.map_const', List.length_range] at e
    subst e
    refine ⟨_, rfl, _, rfl, a, b, iV ns, vs, rfl, s1.seq ha, s1.seq hb', ?_⟩
    refine for_it (walk_zip rfl) (fun i σ H' => ∃ (y4 y5 : Option V) (t : Addr), σ = [some (.ref a), some (.ref b), some (.int (c : Int)), some (.ref t), y4, y5, none, none, none] ∧ Same H H' ∧ VecV K (nw H H') (.ref t) (totL ns M c i))
      ⟨none, none, D, rfl, s1, VecV.mk hd hD⟩ (fun i σ H' _ ⟨_, _, _, _, s, _⟩ => ⟨s.seq ha, s.seq hb'⟩) ?_ ?_
    · rintro i z σ H2 H3 hi ⟨y4, y5, t, rfl, s2, ht⟩ ⟨T, x1, x2, rfl, hT, rfl, e1, e2⟩
      obtain ⟨f, hf, rfl⟩ := iV_get e1
      obtain ⟨r, hr', q, rfl, hq⟩ := paired_get pb e2
      have lr := hr2 r (List.mem_of_getElem? hr')
      have hi2 : i < M.length := by
        have := (List.getElem?_eq_some_iff.mp hr').1
        exact this
      have lt := totL_len (ns := ns) hr2 i (by omega)
      have ef : ns.getD i 0 = f := by rw [List.getD_eq_getElem?_getD, hf]; rfl
      have er : M.getD i [] = r := by rw [List.getD_eq_getElem?_getD, hr']; rfl
      have sT : Same H2 (upd H2 T (.tup [V.int f, V.ref q])) := Same.upd hT
      have step : totL ns M c (i + 1) = rowAdd f (totL ns M c i) r := by
        show rowAdd (ns.getD i 0) _ (M.getD i []) = _
        rw [ef, er]
      refine ⟨T, _, rfl, .of upd_same, rfl, _, _, rfl, _, _, rfl, rfl, .int f, rfl, rfl, _, rfl, ?_⟩
      by_cases f0 : f = 0
      · subst f0
        refine iteNS rfl ⟨_, _, t, rfl, s2.trans sT, ?_⟩
        rw [step, rowAdd_zero (by omega)]
        exact ht.to (nw_mono (Same.refl _) sT)
      · rw [decide_eq_false fun z => f0 (by injection z)]
        have ht2 := (ht.to nw_same).to sT
        obtain ⟨t', et, ht2⟩ := ht2
        cases et
        refine iteT ⟨.ref t, rfl, .ref q, rfl, t, q, iV (totL ns M c i), iV r, rfl, ht2, sT.seq (s2.seq hq), fun D2 hD2 => ?_⟩
        refine lc_map (walk_zip rfl) RInt lasts_int (fun j => (totL ns M c i).getD j 0 + f * r.getD j 0) hD2 (by rw [List.length_map, List.length_map]; omega) (fun H' s => ⟨s.seq ht2, s.seq (sT.seq (s2.seq hq))⟩) ?_ ?_
        · rintro j z H4 H5 hj s4 ⟨T2, w1, w2, rfl, hT2, rfl, g1, g2⟩ Nx kk
          obtain ⟨e, he, rfl⟩ := iV_get g1
          obtain ⟨m, hm, rfl⟩ := iV_get g2
          have sT2 : Same H4 (upd H4 T2 (.tup [V.int e, V.int m])) := Same.upd hT2
          have fb := hb f (List.mem_of_getElem? hf)
          refine ⟨T2, _, rfl, .of upd_same, rfl, _, _, rfl, _, _, rfl, rfl, rfl, .int e, rfl, .int f, rfl, .int m, rfl, _, _, rfl, rfl, .inl fb, _, _, rfl, rfl, kk _ _ sT2 ?_⟩
          show V.int _ = V.int _
          rw [List.getD_eq_getElem?_getD, he, List.getD_eq_getElem?_getD, hm]
          rfl
        · intro H4 ws s4 hd4 p4
          have e4 := paired_int p4
          have mn : min (iV (totL ns M c i)).length (iV r).length = (totL ns M c i).length := by rw [List.length_map, List.length_map, lt, lr, Nat.min_self]
          rw [mn, ← zip_get f _ r (by omega), ← step] at e4
          subst e4
          refine ⟨_, _, D2, rfl, s2.trans (sT.trans s4), ?_⟩
          exact VecV.mk hd4 (none_of_same (s2.trans sT) hD2)
    · rintro σ H2 ⟨y4, y5, t, rfl, s2, ht⟩
      refine ⟨_, rfl, k H2 _ s2 ?_⟩
      have : vpT ns M c = totL ns M c (min (iV ns).length vs.length) := by
        unfold vpT
        rw [List.length_map, lv]
      rw [this]
      exact ht
end
end L2.Px

namespace L2.Px
open PySem PySem.Spec PyProof.Rows
section
variable {P : Program} {w : World} {K : PySem.W.Frag} {mg : Str → Option Value} {base : Heap}
def Small (M : Mat) : Prop := ∀ r ∈ M, ∀ f ∈ r, -(2 ^ 64) < f ∧ f < (2 : Int) ^ 64
def prodM (A B : Mat) (c : Nat) : Mat := A.map fun r => vpT r B c
theorem isM_of {M : Mat} {c : Int} (h : isM M c = true) : 0 ≤ c ∧ c ≤ 120 ∧ M.length ≤ 120 ∧ ∀ r ∈ M, r.length = c.toNat := by
  unfold isM at h
  simp only [Bool.and_eq_true, decide_eq_true_eq, List.all_eq_true] at h
  obtain ⟨⟨⟨h1, h2⟩, h3⟩, h4⟩ := h
  exact ⟨h1, h2, by omega, fun r hr => by have := h4 r hr; omega⟩
/-! ### product_rows -/
def sp_product_rows (K : PySem.W.Frag) : Sp := fun vs H Q _ => ∃ (v m : V) (A B : Mat) (c : Nat), vs = [v, m, .int (c : Int)] ∧ MatV K H v A ∧ MatV K H m B ∧ c ≤ 120 ∧ A.length ≤ 120 ∧ (∀ r ∈ B, r.length = c) ∧ Small A ∧
  ∀ H' y, Same H H' → MatV K (nw H H') y (prodM A B c) → Q y H'
theorem ok_product_rows {f : Addr} {fd : FuncData} {f_vector_product : Addr} {d_vector_product : FuncData} (F : Fun K "product_rows" "product_rows" s_product_rows f fd) (N : Nm mg)
    (t_vector_product : At K mg "vector_product" s_vector_product ["vector", "rows", "columns"] f_vector_product d_vector_product) (G_vector_product : FnOk P w K mg base CX0 1 f_vector_product d_vector_product ["vector", "rows", "columns"] (sp_vector_product K)) :
    FnOk P w K mg base CX0 2 f fd ["one", "other", "columns"] (sp_product_rows K) := by
  refine F.ok sc_product_rows (fun vs H Q E h => ?_) (fun cdv A outer s H vs Q E hr h => ?_)
  · obtain ⟨v, m, A, B, c, rfl, _⟩ := h
    rfl
  · obtain ⟨v, m, A, B, c, rfl, hA, hB, hc, hl, hr2, hb, k⟩ := h
    refine ⟨_, pss_one (ps_ret (pe_lc (own := [("row", 3)]) (g := gName 3) (tt := tYes) (te := tCall (sp_vector_product K) [] E0 (tCons (tVar 3) (tCons (tVar 1) (tCons (tVar 2) (tNil))))) rfl sc_product_rows.nd (pi_list (pv 0)) (blkOk_by (N := n_product_rows) (sc := defScope s_product_rows) (by decide +kernel)) (fun _ _ _ _ _ => (pg_name (i := 3) sc_product_rows.nd rfl (.inl rfl))) (fun _ _ _ _ _ => pts_nil) (fun _ _ _ _ _ => (pe_call G_vector_product (hr.mono (by decide)) rfl t_vector_product.g t_vector_product.F.kp t_vector_product.b .nil pass0 (pa_cons (pv 3) (pa_cons (pv 1) (pa_cons (pv 2) pa_nil))))))), ?_⟩
    obtain ⟨a, vs, rfl, ha, pa⟩ := hA
    have lv := Paired.length pa
    refine ⟨.ref a, rfl, a, rfl, ⟨_, ha⟩, fun D hD => lc_map (walk_list (K := K) (a := a) (xs := vs)) (VecV K) lasts_vec (fun i => vpT (A.getD i []) B c) hD (by omega) (fun H' s => s.seq ha) ?_ ?_⟩
    · rintro i x H1 H2 hi s1 ⟨rfl, hx⟩ Nx kk
      obtain ⟨r, hr', hv⟩ := paired_get pa hx
      refine ⟨rfl, x, rfl, m, rfl, _, rfl, x, m, r, B, c, rfl, hv.to s1, hB.to s1, hc, hr2, hb r (List.mem_of_getElem? hr'), fun H3 y s3 hy => kk H3 y s3 ?_⟩
      rw [List.getD_eq_getElem?_getD, hr']
      exact hy
    · intro H1 ws s1 hd p
      rw [lv, ← map_get A (fun r => vpT r B c) []] at p
      exact k H1 _ s1 (MatV.mk hd hD p)
/-! ### identity, product, times, transposed -/
def sp_identity (K : PySem.W.Frag) (C : Addr) : Sp := fun vs H Q E => ∃ c : Int, vs = [.int c] ∧ (0 ≤ c ∧ c ≤ 120 → ∀ H' v, Same H H' → MatV K (nw H H') v (unitL c.toNat) → Q v H') ∧ (¬ (0 ≤ c ∧ c ≤ 120) → ∀ H', Same H H' → E (.ref C) none H')
theorem ok_identity {f : Addr} {fd : FuncData} {f_identity_rows : Addr} {d_identity_rows : FuncData} {c_NotMatrix : Addr} {k_MOST_LINES : Tok} (F : Fun K "identity" "identity" s_identity f fd) (N : Nm mg) (M_MOST_LINES : mg "MOST_LINES" = some (.int 120 k_MOST_LINES)) (B_NotMatrix : ExN K mg "NotMatrix" c_NotMatrix)
    (t_identity_rows : At K mg "identity_rows" s_identity_rows ["size"] f_identity_rows d_identity_rows) (G_identity_rows : FnOk P w K mg base CX0 1 f_identity_rows d_identity_rows ["size"] (sp_identity_rows K)) :
    FnOk P w K mg base (L2.CX P w) 2 f fd ["size"] (sp_identity K c_NotMatrix) := by
  refine F.okX sc_identity (fun vs H Q E h => ?_) (fun cdv A outer s H vs Q E hr h => ?_)
  · obtain ⟨c, rfl, _⟩ := h
    rfl
  · obtain ⟨c, rfl, k1, k2⟩ := h
    refine ⟨_, pss_cons (ps_if (pt_not (pt_chain op_le op_le pe_int (pv 0) (pe_glob rfl M_MOST_LINES (v := .int 120) ⟨_, rfl⟩))) (pss_one (ps_raise rfl (takes_of rfl rfl rfl rfl) (pmk_own PySem.F.excBase_ValueError B_NotMatrix.x B_NotMatrix.g B_NotMatrix.k (raises_own B_NotMatrix.b B_NotMatrix.t) rfl))) pss_nil)
      (pss_one (ps_ret (pe_call G_identity_rows (hr.mono (by decide)) rfl t_identity_rows.g t_identity_rows.F.kp t_identity_rows.b .nil pass0 (pa_cons (pv 0) pa_nil)))), ?_⟩
    refine ⟨.int c, rfl, 0, c, rfl, rfl, _, rfl, ite2 (fun c0 => ⟨c, 120, rfl, rfl, _, rfl, ?_⟩) (fun c0 => ⟨_, rfl, iteT (k2 (fun z => c0 (decide_eq_true z.1)) H (Same.refl H))⟩)⟩
    have c0 := of_decide_eq_true c0
    by_cases c1 : c ≤ 120
    · rw [decide_eq_true c1]
      refine iteF ⟨_, rfl, c.toNat, by rw [Int.toNat_of_nonneg c0]; rfl, by omega, fun H' v s hv => k1 ⟨c0, c1⟩ H' v s hv⟩
    · rw [decide_eq_false c1]
      exact iteT (k2 (fun z => c1 z.2) H (Same.refl H))
def sp_product (K : PySem.W.Frag) (C : Addr) : Sp := fun vs H Q E => ∃ (v m : V) (A B : Mat) (c : Int), vs = [v, m, .int c] ∧ MatV K H v A ∧ MatV K H m B ∧ Small A ∧
  (isM B c = true → isM A B.length = true → ∀ H' y, Same H H' → MatV K (nw H H') y (prodM A B c.toNat) → Q y H') ∧ (¬ (isM B c = true ∧ isM A B.length = true) → ∀ H', Same H H' → E (.ref C) none H')
theorem ok_product {f : Addr} {fd : FuncData} {f_check_matrix : Addr} {d_check_matrix : FuncData} {f_product_rows : Addr} {d_product_rows : FuncData} {c_NotMatrix : Addr} (F : Fun K "product" "product" s_product f fd) (N : Nm mg) (B_NotMatrix : ExN K mg "NotMatrix" c_NotMatrix)
    (t_check_matrix : At K mg "check_matrix" s_check_matrix ["rows", "columns"] f_check_matrix d_check_matrix) (G_check_matrix : FnOk P w K mg base (L2.CX P w) 2 f_check_matrix d_check_matrix ["rows", "columns"] (sp_check_matrix K c_NotMatrix))
    (t_product_rows : At K mg "product_rows" s_product_rows ["one", "other", "columns"] f_product_rows d_product_rows) (G_product_rows : FnOk P w K mg base CX0 2 f_product_rows d_product_rows ["one", "other", "columns"] (sp_product_rows K)) :
    FnOk P w K mg base (L2.CX P w) 3 f fd ["one", "other", "columns"] (sp_product K c_NotMatrix) := by
  refine F.okX sc_product (fun vs H Q E h => ?_) (fun cdv A outer s H vs Q E hr h => ?_)
  · obtain ⟨v, m, A, B, c, rfl, _⟩ := h
    rfl
  · obtain ⟨v, m, A, B, c, rfl, hA, hB, hs, k1, k2⟩ := h
    refine ⟨_, pss_cons (ps_expr (pe_call (E := E) G_check_matrix (hr.mono (by decide)) rfl t_check_matrix.g t_check_matrix.F.kp t_check_matrix.b .nil (passes_call (takes_of rfl rfl rfl rfl) fun _ _ _ _ z => z) (pa_cons (pv 1) (pa_cons (pv 2) pa_nil))))
      (pss_cons (ps_expr (pe_call (E := E) G_check_matrix (hr.mono (by decide)) rfl t_check_matrix.g t_check_matrix.F.kp t_check_matrix.b .nil (passes_call (takes_of rfl rfl rfl rfl) fun _ _ _ _ z => z) (pa_cons (pv 0) (pa_cons (pe_callB call_len_seq (by rfl) N.n_len PySem.boot_len (pa_cons (pv 1) pa_nil)) pa_nil))))
      (pss_one (ps_ret (pe_call G_product_rows (hr.mono (by decide)) rfl t_product_rows.g t_product_rows.F.kp t_product_rows.b .nil pass0 (pa_cons (pv 0) (pa_cons (pv 1) (pa_cons (pv 2) pa_nil))))))), ?_⟩
    refine ⟨m, rfl, _, rfl, m, B, c, rfl, hB, fun h1 H1 s1 => ?_, fun h1 H1 s1 => k2 (fun z => by rw [h1] at z; cases z.1) H1 s1⟩
    obtain ⟨b, bs, rfl, hb, pb⟩ := hB
    have lb := Paired.length pb
    refine ⟨v, rfl, .ref b, rfl, b, bs, rfl, .inl (s1.seq hb), v, A, _, rfl, hA.to s1, fun h2 H2 s2 => ?_, fun h2 H2 s2 => k2 (fun z => by rw [lb] at h2; rw [h2] at z; cases z.2) H2 (s1.trans s2)⟩
    rw [lb] at h2
    obtain ⟨c0, c1, c2, c3⟩ := isM_of h1
    obtain ⟨_, _, a2, a3⟩ := isM_of h2
    have sm := s1.trans s2
    refine ⟨v, rfl, .ref b, rfl, _, rfl, v, .ref b, A, B, c.toNat, by rw [Int.toNat_of_nonneg c0]; rfl, hA.to sm, MatV.to ⟨b, bs, rfl, hb, pb⟩ sm, by omega, a2, c3, hs, fun H' y s3 hy => k1 h1 h2 H' y (sm.trans s3) (hy.to (nw_mono sm (Same.refl _)))⟩
def sp_times (K : PySem.W.Frag) (C : Addr) : Sp := fun vs H Q E => ∃ (x m : V) (ns : List Int) (B : Mat) (c : Int), vs = [x, m, .int c] ∧ VecV K H x ns ∧ MatV K H m B ∧ (∀ f ∈ ns, -(2 ^ 64) < f ∧ f < (2 : Int) ^ 64) ∧
  (isM B c = true → ns.length = B.length → ∀ H' y, Same H H' → VecV K (nw H H') y (vpT ns B c.toNat) → Q y H') ∧ (¬ (isM B c = true ∧ ns.length = B.length) → ∀ H', Same H H' → E (.ref C) none H')
theorem ok_times {f : Addr} {fd : FuncData} {f_check_matrix : Addr} {d_check_matrix : FuncData} {f_check_vector : Addr} {d_check_vector : FuncData} {f_vector_product : Addr} {d_vector_product : FuncData} {c_NotMatrix : Addr} (F : Fun K "times" "times" s_times f fd) (N : Nm mg) (B_NotMatrix : ExN K mg "NotMatrix" c_NotMatrix)
    (t_check_matrix : At K mg "check_matrix" s_check_matrix ["rows", "columns"] f_check_matrix d_check_matrix) (G_check_matrix : FnOk P w K mg base (L2.CX P w) 2 f_check_matrix d_check_matrix ["rows", "columns"] (sp_check_matrix K c_NotMatrix))
    (t_check_vector : At K mg "check_vector" s_check_vector ["vector", "size"] f_check_vector d_check_vector) (G_check_vector : FnOk P w K mg base (L2.CX P w) 1 f_check_vector d_check_vector ["vector", "size"] (sp_check_vector K c_NotMatrix))
    (t_vector_product : At K mg "vector_product" s_vector_product ["vector", "rows", "columns"] f_vector_product d_vector_product) (G_vector_product : FnOk P w K mg base CX0 1 f_vector_product d_vector_product ["vector", "rows", "columns"] (sp_vector_product K)) :
    FnOk P w K mg base (L2.CX P w) 3 f fd ["vector", "rows", "columns"] (sp_times K c_NotMatrix) := by
  refine F.okX sc_times (fun vs H Q E h => ?_) (fun cdv A outer s H vs Q E hr h => ?_)
  · obtain ⟨x, m, ns, B, c, rfl, _⟩ := h
    rfl
  · obtain ⟨x, m, ns, B, c, rfl, hx, hB, hs, k1, k2⟩ := h
    refine ⟨_, pss_cons (ps_expr (pe_call (E := E) G_check_matrix (hr.mono (by decide)) rfl t_check_matrix.g t_check_matrix.F.kp t_check_matrix.b .nil (passes_call (takes_of rfl rfl rfl rfl) fun _ _ _ _ z => z) (pa_cons (pv 1) (pa_cons (pv 2) pa_nil))))
      (pss_cons (ps_expr (pe_call (E := E) G_check_vector (hr.mono (by decide)) rfl t_check_vector.g t_check_vector.F.kp t_check_vector.b .nil (passes_call (takes_of rfl rfl rfl rfl) fun _ _ _ _ z => z) (pa_cons (pv 0) (pa_cons (pe_callB call_len_seq (by rfl) N.n_len PySem.boot_len (pa_cons (pv 1) pa_nil)) pa_nil))))
      (pss_one (ps_ret (pe_call G_vector_product (hr.mono (by decide)) rfl t_vector_product.g t_vector_product.F.kp t_vector_product.b .nil pass0 (pa_cons (pv 0) (pa_cons (pv 1) (pa_cons (pv 2) pa_nil))))))), ?_⟩
    refine ⟨m, rfl, _, rfl, m, B, c, rfl, hB, fun h1 H1 s1 => ?_, fun h1 H1 s1 => k2 (fun z => by rw [h1] at z; cases z.1) H1 s1⟩
    obtain ⟨b, bs, rfl, hb, pb⟩ := hB
    have lb := Paired.length pb
    refine ⟨x, rfl, .ref b, rfl, b, bs, rfl, .inl (s1.seq hb), x, ns, _, rfl, hx.to s1, fun h2 H2 s2 => ?_, fun h2 H2 s2 => k2 (fun z => h2 (by rw [lb]; exact congrArg _ z.2)) H2 (s1.trans s2)⟩
    rw [lb] at h2
    obtain ⟨c0, c1, c2, c3⟩ := isM_of h1
    have sm := s1.trans s2
    refine ⟨x, rfl, .ref b, rfl, _, rfl, x, .ref b, ns, B, c.toNat, by rw [Int.toNat_of_nonneg c0]; rfl, hx.to sm, MatV.to ⟨b, bs, rfl, hb, pb⟩ sm, by omega, c3, hs, fun H' y s3 hy => k1 h1 (by omega) H' y (sm.trans s3) (hy.to (nw_mono sm (Same.refl _)))⟩
def sp_transposed (K : PySem.W.Frag) (C : Addr) : Sp := fun vs H Q E => ∃ (m : V) (B : Mat) (c : Int), vs = [m, .int c] ∧ MatV K H m B ∧
  (isM B c = true → ∀ H' y, Same H H' → MatV K (nw H H') y (transL B c.toNat) → Q y H') ∧ (¬ isM B c = true → ∀ H', Same H H' → E (.ref C) none H')
theorem ok_transposed {f : Addr} {fd : FuncData} {f_check_matrix : Addr} {d_check_matrix : FuncData} {f_transposed_rows : Addr} {d_transposed_rows : FuncData} {c_NotMatrix : Addr} (F : Fun K "transposed" "transposed" s_transposed f fd) (N : Nm mg) (B_NotMatrix : ExN K mg "NotMatrix" c_NotMatrix)
    (t_check_matrix : At K mg "check_matrix" s_check_matrix ["rows", "columns"] f_check_matrix d_check_matrix) (G_check_matrix : FnOk P w K mg base (L2.CX P w) 2 f_check_matrix d_check_matrix ["rows", "columns"] (sp_check_matrix K c_NotMatrix))
    (t_transposed_rows : At K mg "transposed_rows" s_transposed_rows ["rows", "columns"] f_transposed_rows d_transposed_rows) (G_transposed_rows : FnOk P w K mg base CX0 1 f_transposed_rows d_transposed_rows ["rows", "columns"] (sp_transposed_rows K)) :
    FnOk P w K mg base (L2.CX P w) 3 f fd ["rows", "columns"] (sp_transposed K c_NotMatrix) := by
  refine F.okX sc_transposed (fun vs H Q E h => ?_) (fun cdv A outer s H vs Q E hr h => ?_)
  · obtain ⟨m, B, c, rfl, _⟩ := h
    rfl
  · obtain ⟨m, B, c, rfl, hB, k1, k2⟩ := h
    refine ⟨_, pss_cons (ps_expr (pe_call (E := E) G_check_matrix (hr.mono (by decide)) rfl t_check_matrix.g t_check_matrix.F.kp t_check_matrix.b .nil (passes_call (takes_of rfl rfl rfl rfl) fun _ _ _ _ z => z) (pa_cons (pv 0) (pa_cons (pv 1) pa_nil))))
      (pss_one (ps_ret (pe_call G_transposed_rows (hr.mono (by decide)) rfl t_transposed_rows.g t_transposed_rows.F.kp t_transposed_rows.b .nil pass0 (pa_cons (pv 0) (pa_cons (pv 1) pa_nil))))), ?_⟩
    refine ⟨m, rfl, _, rfl, m, B, c, rfl, hB, fun h1 H1 s1 => ?_, fun h1 H1 s1 => k2 (fun z => by rw [h1] at z; cases z) H1 s1⟩
    obtain ⟨c0, c1, c2, c3⟩ := isM_of h1
    exact ⟨m, rfl, _, rfl, m, B, c.toNat, by rw [Int.toNat_of_nonneg c0]; rfl, hB.to s1, by omega, c2, c3, fun H' y s3 hy => k1 h1 H' y (s1.trans s3) (hy.to (nw_mono s1 (Same.refl _)))⟩
/-! ### what the law draws -/
def sp__law_number (K : PySem.W.Frag) : Sp := fun vs H Q _ => ∃ c : Int, vs = [.int c] ∧ ∀ r : Int, 0 ≤ r → Q (.int r) H
theorem ok__law_number {f : Addr} {fd : FuncData} (F : Fun K "_law_number" "_law_number" s__law_number f fd) (N : Nm mg) :
    FnOk P w K mg base CX0 1 f fd ["cell"] (sp__law_number K) := by
  refine F.ok sc__law_number (fun vs H Q E h => ?_) (fun cdv A outer s H vs Q E hr h => ?_)
  · obtain ⟨c, rfl, _⟩ := h
    rfl
  · obtain ⟨c, rfl, k⟩ := h
    refine ⟨_, pss_cons (ps_if (pt_cmpR op_lt (pv 0) pe_int (nomark _)) (pss_one (ps_ret (pe_op op_sub pe_int (pv 0)))) pss_nil)
      (pss_one (ps_ret (pv 0))), ?_⟩
    refine ⟨.int c, rfl, c, 0, rfl, rfl, _, rfl, ite2 (fun c0 => ⟨_, rfl, 0, c, rfl, rfl, k _ (by have := of_decide_eq_true c0; omega)⟩) (fun c0 => ⟨_, rfl, k _ (by have : ¬ c < 0 := fun z => c0 (decide_eq_true z); omega)⟩)⟩
/-- the list of what is left to be drawn -/
def Drw (H : Hp) (dr : Addr) : Prop := ∃ ds : List Int, H dr = some (.lst (iV ds)) ∧ (∀ d ∈ ds, 0 ≤ d ∧ d < 1000) ∧ ds.length ≤ 5000
abbrev SameX (dr : Addr) (H H' : Hp) : Prop := Same (hid dr H) (hid dr H')
theorem emod_bd (r : Int) : 0 ≤ r % 1000 ∧ r % 1000 < 1000 := ⟨Int.emod_nonneg _ (by decide), Int.emod_lt_of_pos _ (by decide)⟩
def sp__law_draws (K : PySem.W.Frag) : Sp := fun vs H Q _ => ∃ (a : Addr) (ns : List Int), vs = [.ref a] ∧ SqL K H a (iV ns) ∧ ns.length ≤ 63 ∧ ∀ H' p, Same H H' → H p = none → Drw H' p → Q (.ref p) H'
theorem ok__law_draws {f : Addr} {fd : FuncData} {f__law_number : Addr} {d__law_number : FuncData} (F : Fun K "_law_draws" "_law_draws" s__law_draws f fd) (N : Nm mg)
    (t__law_number : At K mg "_law_number" s__law_number ["cell"] f__law_number d__law_number) (G__law_number : FnOk P w K mg base CX0 1 f__law_number d__law_number ["cell"] (sp__law_number K)) :
    FnOk P w K mg base CX0 2 f fd ["script"] (sp__law_draws K) := by
  refine F.ok sc__law_draws (fun vs H Q E h => ?_) (fun cdv A outer s H vs Q E hr h => ?_)
  · obtain ⟨a, ns, rfl, _⟩ := h
    rfl
  · obtain ⟨a, ns, rfl, ha, hn, k⟩ := h
    refine ⟨_, pss_cons (ps_set (i := 1) sc__law_draws.nd rfl (.inl rfl) (pe_lst pa_nil))
      (pss_cons (ps_set (i := 2) sc__law_draws.nd rfl (.inl rfl) pe_int)
      (pss_cons (ps_for PassesOwn.never rfl (pi_list (pv 0)) (pg_name (i := 3) sc__law_draws.nd rfl (.inl rfl)) (pss_cons (ps_set (i := 4) sc__law_draws.nd rfl (.inl rfl) (pe_call G__law_number (hr.mono (by decide)) rfl t__law_number.g t__law_number.F.kp t__law_number.b .nil pass0 (pa_cons (pv 3) pa_nil)))
      (pss_cons (ps_set (i := 2) sc__law_draws.nd rfl (.inl rfl) (pe_op op_mod (pe_callTy call_int1 (by rfl) N.n_int (by decide +kernel) (pa_cons (pe_op op_add (pe_op op_mul (pv 2) pe_int) (pv 4)) pa_nil)) pe_int))
      (pss_one (ps_if (pt_cmpR op_ge (pv 4) pe_int (nomark _)) (pss_one (ps_for PassesOwn.never rfl (pi_range1 (by rfl) N.n_range (pa_cons pe_int pa_nil)) (pg_name (i := 5) sc__law_draws.nd rfl (.inl rfl)) (pss_cons (ps_if (pt_cmpR op_eq (pv 4) pe_int (nomark _)) (pss_one (ps_break)) pss_nil)
      (pss_cons (ps_expr (pe_bm PySem.F.plainAttrs_list PySem.F.slot_list_append PySem.F.type_list_append mt_append (pv 1) (pa_cons (pe_op op_mod (pe_callTy call_int1 (by rfl) N.n_int (by decide +kernel) (pa_cons (pv 4) pa_nil)) pe_int) pa_nil)))
      (pss_one (ps_set (i := 4) sc__law_draws.nd rfl (.inl rfl) (pe_op op_fdiv (pv 4) pe_int))))))) (pss_cons (ps_set (i := 6) sc__law_draws.nd rfl (.inl rfl) (pe_op op_mod (pe_callTy call_int1 (by rfl) N.n_int (by decide +kernel) (pa_cons (pe_op op_add (pe_op op_mul (pv 4) pe_int) pe_int) pa_nil)) pe_int))
      (pss_cons (ps_set (i := 7) sc__law_draws.nd rfl (.inl rfl) (pe_op op_mod (pe_callTy call_int1 (by rfl) N.n_int (by decide +kernel) (pa_cons (pe_op op_add (pe_op op_mul (pv 6) pe_int) (pv 4)) pa_nil)) pe_int))
      (pss_one (ps_expr (pe_bm PySem.F.plainAttrs_list PySem.F.slot_list_extend PySem.F.type_list_extend mt_extend (pv 1) (pa_cons (pe_lst (pa_cons (pe_op op_mod (pe_callTy call_int1 (by rfl) N.n_int (by decide +kernel) (pa_cons (pv 4) pa_nil)) pe_int) (pa_cons (pe_op op_mod (pe_callTy call_int1 (by rfl) N.n_int (by decide +kernel) (pa_cons (pv 6) pa_nil)) pe_int) (pa_cons (pe_op op_mod (pe_callTy call_int1 (by rfl) N.n_int (by decide +kernel) (pa_cons (pv 7) pa_nil)) pe_int) pa_nil)))) pa_nil)))))))))))
      (pss_cons (ps_for PassesOwn.never rfl (pi_range1 (by rfl) N.n_range (pa_cons pe_int pa_nil)) (pg_name (i := 5) sc__law_draws.nd rfl (.inl rfl)) (pss_cons (ps_set (i := 2) sc__law_draws.nd rfl (.inl rfl) (pe_op op_mod (pe_callTy call_int1 (by rfl) N.n_int (by decide +kernel) (pa_cons (pe_op op_add (pe_op op_mul (pv 2) pe_int) pe_int) pa_nil)) pe_int))
      (pss_one (ps_expr (pe_bm PySem.F.plainAttrs_list PySem.F.slot_list_append PySem.F.type_list_append mt_append (pv 1) (pa_cons (pe_op op_mod (pe_callTy call_int1 (by rfl) N.n_int (by decide +kernel) (pa_cons (pe_op op_fdiv (pv 2) pe_int) pa_nil)) pe_int) pa_nil))))))
      (pss_cons (ps_expr (pe_bm0 PySem.F.plainAttrs_list PySem.F.slot_list_reverse PySem.F.type_list_reverse mt_reverse (pv 1)))
      (pss_one (ps_ret (pv 1))))))), ?_⟩
    refine ⟨Nat.zero_le _, fun D hD => ?_⟩
    refine ⟨_, rfl, a, rfl, ⟨_, (Same.upd hD).seq ha⟩, ?_⟩
    refine for_it (walk_list (K := K) (a := a) (xs := iV ns)) (fun i σ H' => ∃ (sd : Int) (y3 y4 y5 y6 y7 : Option V) (ds : List Int), σ = [some (.ref a), some (.ref D), some (.int sd), y3, y4, y5, y6, y7] ∧ Same H H' ∧ H' D = some (.lst (iV ds)) ∧ (∀ d ∈ ds, 0 ≤ d ∧ d < 1000) ∧ ds.length ≤ 60 * i)
      ⟨7, none, none, none, none, none, [], rfl, Same.upd hD, upd_same, fun d hd => by (cases hd), Nat.le_refl _⟩ (fun i σ H' _ ⟨_, _, _, _, _, _, _, _, s, _⟩ => s.seq ha) ?_ ?_
    · rintro i x σ H1 H2 hi ⟨sd, y3, y4, y5, y6, y7, ds, rfl, s1, hd, hb, hl⟩ ⟨rfl, hx⟩
      have hi : i < ns.length := by rw [List.length_map] at hi; exact hi
      obtain ⟨c, hc, rfl⟩ := iV_get hx
      refine ⟨_, rfl, c, rfl, fun r r0 => ?_⟩
      refine ⟨_, rfl, _, _, rfl, rfl, mul_r (by decide) (by decide), _, rfl, _, _, rfl, rfl, .inl ⟨_, rfl, _, _, rfl, rfl, (by decide : (0 : Int) < 2147483647), ?_⟩⟩
      refine ⟨_, rfl, r, 1000000000000000000, rfl, rfl, _, rfl, ite2 (fun _ => ?_) (fun _ => ?_)⟩
      · refine ⟨60, rfl, by decide, by decide, ?_⟩
        refine for_it (walk_range (lo := 0)) (fun j σ H' => ∃ (rr : Int) (y5 : Option V) (es : List Int), σ = [some (.ref a), some (.ref D), some (.int ((sd * 48271 + r) % 2147483647)), some (.int c), some (.int rr), y5, y6, y7] ∧ Same H H' ∧ H' D = some (.lst (iV es)) ∧ (∀ d ∈ es, 0 ≤ d ∧ d < 1000) ∧ es.length ≤ 60 * i + j)
          ⟨r, y5, ds, rfl, s1, hd, hb, hl⟩ (fun _ _ _ _ _ => trivial) ?_ ?_
        · rintro j x σ H3 H4 hj ⟨rr, y5, es, rfl, s3, hd3, hb3, hl3⟩ ⟨rfl, rfl⟩
          have hj : j < 60 := hj
          refine ⟨_, rfl, rfl, _, rfl, ite2 (fun _ => ⟨_, _, _, _, _, _, es, rfl, s3, hd3, hb3, by omega⟩) (fun _ => ?_)⟩
          refine ⟨.ref D, rfl, .inl ⟨rfl, _, .of hd3⟩, _, rfl, .inl ⟨_, rfl, _, _, rfl, rfl, (by decide : (0 : Int) < 1000), D, _, _, rfl, rfl, hd3, by rw [List.length_map]; exact small1000x (by omega), ?_⟩⟩
          refine ⟨_, rfl, _, _, rfl, rfl, ⟨by decide, by decide⟩, ?_⟩
          refine ⟨_, _, es ++ [rr % 1000], rfl, own_push s3 hD, by rw [upd_same, iV_app]; rfl, fun d hd => ?_, by rw [List.length_append]; simp only [List.length_cons, List.length_nil]; omega⟩
          rcases List.mem_append.mp hd with h | h
          · exact hb3 d h
          · rw [List.mem_singleton.mp h]
            exact emod_bd rr
        · rintro σ H3 ⟨rr, y5, es, rfl, s3, hd3, hb3, hl3⟩
          exact ⟨_, _, _, _, _, _, es, rfl, s3, hd3, hb3, by omega⟩
      · refine ⟨_, rfl, _, _, rfl, rfl, mul_r (by decide) (by decide), _, _, rfl, rfl, .inl ⟨_, rfl, _, _, rfl, rfl, (by decide : (0 : Int) < 2147483647), ?_⟩⟩
        refine ⟨_, rfl, _, _, rfl, rfl, mul_r (by decide) (by decide), _, rfl, _, _, rfl, rfl, .inl ⟨_, rfl, _, _, rfl, rfl, (by decide : (0 : Int) < 2147483629), ?_⟩⟩
        refine ⟨.ref D, rfl, .inl ⟨rfl, _, .of hd⟩, ?_⟩
        refine ⟨_, rfl, .inl ⟨_, rfl, _, _, rfl, rfl, (by decide : (0 : Int) < 1000), _, rfl, .inl ⟨_, rfl, _, _, rfl, rfl, (by decide : (0 : Int) < 1000), _, rfl, .inl ⟨_, rfl, _, _, rfl, rfl, (by decide : (0 : Int) < 1000), by show 3 ≤ sizeLine; decide, fun p np => ?_⟩⟩⟩⟩
        have sp := Same.upd (o := .lst (iV [r % 1000, (r * 48271 + 11) % 2147483647 % 1000, ((r * 48271 + 11) % 2147483647 * 69621 + r) % 2147483629 % 1000])) np
        refine ⟨D, p, _, _, rfl, rfl, sp _ _ hd, upd_same, by rw [List.length_map]; exact Nat.le_of_lt (small1000x (by simp only [List.length_cons, List.length_nil]; omega)), ?_⟩
        refine ⟨_, _, _, _, _, _, ds ++ [r % 1000, (r * 48271 + 11) % 2147483647 % 1000, ((r * 48271 + 11) % 2147483647 * 69621 + r) % 2147483629 % 1000], rfl, own_push (s1.trans sp) hD, by rw [upd_same, iV_app]; rfl, fun d hd => ?_, by rw [List.length_append]; simp only [List.length_cons, List.length_nil]; omega⟩
        rcases List.mem_append.mp hd with h | h
        · exact hb d h
        · simp only [List.mem_cons, List.mem_nil_iff, or_false] at h
          rcases h with rfl | rfl | rfl <;> exact emod_bd _
    · rintro σ H1 ⟨sd, y3, y4, y5, y6, y7, ds, rfl, s1, hd, hb, hl⟩
      have hl : ds.length ≤ 60 * ns.length := by rw [List.length_map] at hl; exact hl
      refine ⟨200, rfl, by decide, by decide, ?_⟩
      refine for_it (walk_range (lo := 0)) (fun j σ H' => ∃ (sd : Int) (y5 : Option V) (es : List Int), σ = [some (.ref a), some (.ref D), some (.int sd), y3, y4, y5, y6, y7] ∧ Same H H' ∧ H' D = some (.lst (iV es)) ∧ (∀ d ∈ es, 0 ≤ d ∧ d < 1000) ∧ es.length ≤ ds.length + j)
        ⟨sd, y5, ds, rfl, s1, hd, hb, Nat.le_refl _⟩ (fun _ _ _ _ _ => trivial) ?_ ?_
      · rintro j x σ H3 H4 hj ⟨sd, y5, es, rfl, s3, hd3, hb3, hl3⟩ ⟨rfl, rfl⟩
        have hj : j < 200 := hj
        refine ⟨_, rfl, _, _, rfl, rfl, mul_r (by decide) (by decide), _, _, rfl, rfl, .inl ⟨_, rfl, _, _, rfl, rfl, (by decide : (0 : Int) < 2147483647), ?_⟩⟩
        refine ⟨.ref D, rfl, .inl ⟨rfl, _, .of hd3⟩, _, rfl, _, _, rfl, rfl, ⟨by decide, by decide⟩, .inl ⟨_, rfl, _, _, rfl, rfl, (by decide : (0 : Int) < 1000), D, _, _, rfl, rfl, hd3, by rw [List.length_map]; exact small1000x (by omega), ?_⟩⟩
        refine ⟨_, _, es ++ [_], rfl, own_push s3 hD, by rw [upd_same, iV_app]; rfl, fun d hd => ?_, by rw [List.length_append]; simp only [List.length_cons, List.length_nil]; omega⟩
        rcases List.mem_append.mp hd with h | h
        · exact hb3 d h
        · rw [List.mem_singleton.mp h]
          exact emod_bd _
      · rintro σ H3 ⟨sd, y5, es, rfl, s3, hd3, hb3, hl3⟩
        refine ⟨.ref D, rfl, .inl ⟨rfl, _, .of hd3⟩, D, _, rfl, rfl, hd3, ?_⟩
        refine ⟨_, rfl, k _ D (own_push s3 hD) hD ⟨es.reverse, by rw [upd_same]; exact congrArg (fun l => some (HO.lst l)) List.map_reverse.symm, fun d hd => hb3 d (List.mem_reverse.mp hd), ?_⟩⟩
        rw [List.length_reverse]
        have hl3 : es.length ≤ ds.length + 200 := hl3
        omega
end
end L2.Px

namespace L2.Px
open PySem PySem.Spec PyProof.Rows
section
variable {P : Program} {w : World} {K : PySem.W.Frag} {mg : Str → Option Value} {base : Heap}
theorem Drw.ne {H : Hp} {dr : Addr} (h : Drw H dr) : H dr ≠ none := fun z => by
  obtain ⟨ds, e, _⟩ := h
  rw [e] at z
  cases z
theorem Drw.ne_new {H : Hp} {dr p : Addr} (h : Drw H dr) (n : H p = none) : p ≠ dr := fun z => h.ne (z ▸ n)
theorem none_x {dr b : Addr} {H H' : Hp} (s : SameX dr H H') (h : Drw H' dr) (n : H' b = none) : H b = none := by
  have nb := h.ne_new n
  cases e : H b with
  | none => rfl
  | some o =>
    have := (hid_some (s b o (by rw [hid_ne nb]; exact e))).2
    rw [n] at this
    cases this
/-- what is new when the draws are left out -/
theorem nw_x {dr : Addr} {H H1 H2 : Hp} (d : Drw H dr) (s : SameX dr H1 H2) : Same (nw H H1) (nw H H2) := fun b o e => by
  obtain ⟨e1, e2⟩ := nw_some e
  have nb := d.ne_new e1
  exact nw_of e1 (hid_some (s b o (by rw [hid_ne nb]; exact e2))).2
theorem nw_x0 {dr : Addr} {H0 H H1 : Hp} (d : Drw H dr) (s : SameX dr H0 H) : Same (nw H H1) (nw H0 H1) := fun b o e => by
  obtain ⟨e1, e2⟩ := nw_some e
  exact nw_of (none_x s d e1) e2
theorem x_own {dr D : Addr} {H H' : Hp} {o : HO} (s : SameX dr H H') (n : H D = none) : SameX dr H (upd H' D o) := fun b u e => by
  obtain ⟨nb, e1⟩ := hid_some e
  rw [hid_ne nb, upd_ne (ne_of_none e1 n)]
  exact (hid_some (s b u e)).2
def sp__law_draw (K : PySem.W.Frag) : Sp := fun vs H Q _ => ∃ dr : Addr, vs = [.ref dr] ∧ Drw H dr ∧ ∀ (H' : Hp) (d : Int), SameX dr H H' → Drw H' dr → 0 ≤ d → d < 1000 → Q (.int d) H'
theorem ok__law_draw {f : Addr} {fd : FuncData} (F : Fun K "_law_draw" "_law_draw" s__law_draw f fd) (N : Nm mg) :
    FnOk P w K mg base CX0 1 f fd ["draws"] (sp__law_draw K) := by
  refine F.ok sc__law_draw (fun vs H Q E h => ?_) (fun cdv A outer s H vs Q E hr h => ?_)
  · obtain ⟨dr, rfl, _⟩ := h
    rfl
  · obtain ⟨dr, rfl, ⟨ds, hd, hb, hl⟩, k⟩ := h
    refine ⟨_, pss_cons (ps_if (pt_truth (pv 0) (by intro _; rfl)) (pss_one (ps_ret (pe_bm0 PySem.F.plainAttrs_list PySem.F.slot_list_pop PySem.F.type_list_pop mt_pop (pv 0)))) pss_nil)
      (pss_one (ps_ret pe_int)), ?_⟩
    refine ⟨.ref dr, rfl, !(iV ds).isEmpty, .inl ⟨_, .of hd, rfl⟩, ?_⟩
    cases e : ds.isEmpty with
    | true =>
      have : (!(iV ds).isEmpty) = false := by rw [List.isEmpty_map, e]; rfl
      rw [this]
      exact iteF (k H 0 (Same.refl _) ⟨ds, hd, hb, hl⟩ (by decide) (by decide))
    | false =>
      have ee : (!(iV ds).isEmpty) = true := by rw [List.isEmpty_map, e]; rfl
      rw [ee]
      have pos : 0 < ds.length := by
        cases ds with
        | nil => cases e
        | cons _ _ => exact Nat.succ_pos _
      have lt : ds.length - 1 < ds.length := by omega
      refine iteT ⟨.ref dr, rfl, .inl ⟨rfl, _, .of hd⟩, dr, iV ds, .int (ds[ds.length - 1]), rfl, rfl, hd, ?_, ?_⟩
      · rw [List.length_map, List.getElem?_map, List.getElem?_eq_getElem lt]
        rfl
      · obtain ⟨b1, b2⟩ := hb _ (List.getElem_mem lt)
        refine k _ _ ?_ ⟨ds.dropLast, by rw [upd_same]; exact congrArg (fun l => some (HO.lst l)) (by simp [List.map_dropLast]), fun d h => hb d ((List.dropLast_sublist ds).subset h), by rw [List.length_dropLast]; omega⟩ b1 b2
        rw [SameX, hid_upd]
        exact Same.refl _
def sp__law_pick (K : PySem.W.Frag) : Sp := fun vs H Q _ => ∃ (dr : Addr) (m : Int), vs = [.ref dr, .int m] ∧ 0 < m ∧ Drw H dr ∧ ∀ (H' : Hp) (d : Int), SameX dr H H' → Drw H' dr → 0 ≤ d → d < m → Q (.int d) H'
theorem ok__law_pick {f : Addr} {fd : FuncData} {f__law_draw : Addr} {d__law_draw : FuncData} (F : Fun K "_law_pick" "_law_pick" s__law_pick f fd) (N : Nm mg)
    (t__law_draw : At K mg "_law_draw" s__law_draw ["draws"] f__law_draw d__law_draw) (G__law_draw : FnOk P w K mg base CX0 1 f__law_draw d__law_draw ["draws"] (sp__law_draw K)) :
    FnOk P w K mg base CX0 2 f fd ["draws", "many"] (sp__law_pick K) := by
  refine F.ok sc__law_pick (fun vs H Q E h => ?_) (fun cdv A outer s H vs Q E hr h => ?_)
  · obtain ⟨dr, m, rfl, _⟩ := h
    rfl
  · obtain ⟨dr, m, rfl, m0, hd, k⟩ := h
    refine ⟨_, pss_one (ps_ret (pe_op op_mod (pe_callTy call_int1 (by rfl) N.n_int (by decide +kernel) (pa_cons (pe_call G__law_draw (hr.mono (by decide)) rfl t__law_draw.g t__law_draw.F.kp t__law_draw.b .nil pass0 (pa_cons (pv 0) pa_nil)) pa_nil)) (pv 1))), ?_⟩
    exact ⟨.ref dr, rfl, dr, rfl, hd, fun H' d s hd' d0 d1 => .inl ⟨_, rfl, _, rfl, _, _, rfl, rfl, m0, k H' _ s hd' (Int.emod_nonneg _ (by omega)) (Int.emod_lt_of_pos _ m0)⟩⟩
def sp__law_matrix (K : PySem.W.Frag) : Sp := fun vs H Q _ => ∃ (dr : Addr) (r c : Nat), vs = [.ref dr, .int (r : Int), .int (c : Int)] ∧ r ≤ 10 ∧ c ≤ 10 ∧ Drw H dr ∧ ∀ (H' : Hp) (v : V) (M : Mat), SameX dr H H' → Drw H' dr → MatV K (nw H H') v M → M.length = r → (∀ r ∈ M, r.length = c) → Small M → Q v H'
theorem ok__law_matrix {f : Addr} {fd : FuncData} {f__law_pick : Addr} {d__law_pick : FuncData} {f__law_draw : Addr} {d__law_draw : FuncData} (F : Fun K "_law_matrix" "_law_matrix" s__law_matrix f fd) (N : Nm mg)
    (t__law_pick : At K mg "_law_pick" s__law_pick ["draws", "many"] f__law_pick d__law_pick) (G__law_pick : FnOk P w K mg base CX0 2 f__law_pick d__law_pick ["draws", "many"] (sp__law_pick K))
    (t__law_draw : At K mg "_law_draw" s__law_draw ["draws"] f__law_draw d__law_draw) (G__law_draw : FnOk P w K mg base CX0 1 f__law_draw d__law_draw ["draws"] (sp__law_draw K)) :
    FnOk P w K mg base CX0 3 f fd ["draws", "rows", "columns"] (sp__law_matrix K) := by
  refine F.ok sc__law_matrix (fun vs H Q E h => ?_) (fun cdv A outer s H vs Q E hr h => ?_)
  · obtain ⟨dr, r, c, rfl, _⟩ := h
    rfl
  · obtain ⟨dr, r, c, rfl, hr2, hc, hd, k⟩ := h
    refine ⟨_, pss_cons (ps_set (i := 3) sc__law_matrix.nd rfl (.inl rfl) (pe_lst pa_nil))
      (pss_cons (ps_for PassesOwn.never rfl (pi_range1 (by rfl) N.n_range (pa_cons (pv 1) pa_nil)) (pg_name (i := 4) sc__law_matrix.nd rfl (.inl rfl)) (pss_cons (ps_set (i := 5) sc__law_matrix.nd rfl (.inl rfl) (pe_lst pa_nil))
      (pss_cons (ps_for PassesOwn.never rfl (pi_range1 (by rfl) N.n_range (pa_cons (pv 2) pa_nil)) (pg_name (i := 6) sc__law_matrix.nd rfl (.inl rfl)) (pss_cons (ps_set (i := 7) sc__law_matrix.nd rfl (.inl rfl) (pe_op op_sub (pe_call G__law_pick (hr.mono (by decide)) rfl t__law_pick.g t__law_pick.F.kp t__law_pick.b .nil pass0 (pa_cons (pv 0) (pa_cons pe_int pa_nil))) pe_int))
      (pss_cons (ps_if (pt_cmpR op_eq (pe_call G__law_pick (hr.mono (by decide)) rfl t__law_pick.g t__law_pick.F.kp t__law_pick.b .nil pass0 (pa_cons (pv 0) (pa_cons pe_int pa_nil))) pe_int (nomark _)) (pss_one (ps_set (i := 7) sc__law_matrix.nd rfl (.inl rfl) pe_int)) pss_nil)
      (pss_cons (ps_if (pt_cmpR op_eq (pe_call G__law_pick (hr.mono (by decide)) rfl t__law_pick.g t__law_pick.F.kp t__law_pick.b .nil pass0 (pa_cons (pv 0) (pa_cons pe_int pa_nil))) pe_int (nomark _)) (pss_one (ps_set (i := 7) sc__law_matrix.nd rfl (.inl rfl) (pe_op op_mul (pe_op op_mul (pv 7) pe_int) (pe_op op_add pe_int (pe_call G__law_draw (hr.mono (by decide)) rfl t__law_draw.g t__law_draw.F.kp t__law_draw.b .nil pass0 (pa_cons (pv 0) pa_nil)))))) pss_nil)
      (pss_one (ps_expr (pe_bm PySem.F.plainAttrs_list PySem.F.slot_list_append PySem.F.type_list_append mt_append (pv 5) (pa_cons (pv 7) pa_nil))))))))
      (pss_one (ps_expr (pe_bm PySem.F.plainAttrs_list PySem.F.slot_list_append PySem.F.type_list_append mt_append (pv 3) (pa_cons (pv 5) pa_nil)))))))
      (pss_one (ps_ret (pv 3)))), ?_⟩
    refine ⟨Nat.zero_le _, fun D hD => ?_⟩
    have nD := hd.ne_new hD
    refine ⟨_, rfl, (r : Int), rfl, by omega, by omega, ?_⟩
    rw [Int.toNat_natCast]
    have hd0 : Drw (upd H D (.lst [])) dr := by
      obtain ⟨ds, e, z⟩ := hd
      exact ⟨ds, (upd_ne (Ne.symm nD)).trans e, z⟩
    refine for_it (walk_range (lo := 0)) (fun i σ H' => ∃ (y4 y5 y6 y7 : Option V) (vs : List V) (M : Mat), σ = [some (.ref dr), some (.int (r : Int)), some (.int (c : Int)), some (.ref D), y4, y5, y6, y7] ∧ SameX dr H H' ∧ Drw H' dr ∧ H' D = some (.lst vs) ∧ Paired (VecV K (hid D (nw H H'))) vs M ∧ M.length = i ∧ (∀ r ∈ M, r.length = c) ∧ Small M)
      ⟨none, none, none, none, [], [], rfl, x_own (Same.refl _) hD, hd0, upd_same, .nil, rfl, (fun r h => by cases h), (fun r h => by cases h)⟩ (fun _ _ _ _ _ => trivial) ?_ ?_
    · rintro i x σ H1 H2 hi ⟨y4, y5, y6, y7, vs, M, rfl, s1, d1, hD1, pM, lM, cM, sM⟩ ⟨rfl, rfl⟩
      refine ⟨Nat.zero_le _, fun R hR => ?_⟩
      have nR := d1.ne_new hR
      have nRD : R ≠ D := fun z => by rw [z, hD1] at hR; cases hR
      have hR0 : H R = none := none_x s1 d1 hR
      refine ⟨_, rfl, (c : Int), rfl, by omega, by omega, ?_⟩
      rw [Int.toNat_natCast]
      have d2 : Drw (upd H2 R (.lst [])) dr := by
        obtain ⟨ds, e, z⟩ := d1
        exact ⟨ds, (upd_ne (Ne.symm nR)).trans e, z⟩
      refine for_it (walk_range (lo := 0)) (fun j σ H' => ∃ (y6 y7 : Option V) (ns : List Int), σ = [some (.ref dr), some (.int (r : Int)), some (.int (c : Int)), some (.ref D), some (.int (0 + (i : Int))), some (.ref R), y6, y7] ∧ SameX dr H2 H' ∧ Drw H' dr ∧ H' R = some (.lst (iV ns)) ∧ ns.length = j ∧ ∀ f ∈ ns, -(2 ^ 64) < f ∧ f < (2 : Int) ^ 64)
        ⟨y6, y7, [], rfl, x_own (Same.refl _) hR, d2, upd_same, rfl, fun f h => by cases h⟩ (fun _ _ _ _ _ => trivial) ?_ ?_
      · rintro j x σ H3 H4 hj ⟨y6, y7, ns, rfl, s3, d3, hR3, ln, bn⟩ ⟨rfl, rfl⟩
        have hj : j < c := hj
        have keep : ∀ H5, SameX dr H4 H5 → H5 R = some (.lst (iV ns)) := fun H5 s => (hid_some (s R _ (by rw [hid_ne nR]; exact hR3))).2
        refine ⟨_, rfl, dr, 7, rfl, by decide, d3, fun H5 n s5 d5 n0 n1 => ⟨_, _, rfl, rfl, ?_⟩⟩
        refine ⟨_, rfl, dr, 3, rfl, by decide, d5, fun H6 m s6 d6 m0 m1 => ⟨rfl, _, rfl, ?_⟩⟩
        have s46 : SameX dr H4 H6 := s5.trans s6
        refine ite2 (fun _ => ?_) (fun _ => ?_)
        · refine ⟨_, rfl, dr, 30, rfl, by decide, d6, fun H7 u s7 d7 u0 u1 => ⟨rfl, _, rfl, ite2 (fun _ => ?_) (fun _ => ?_)⟩⟩
          · refine ⟨_, rfl, _, _, rfl, rfl, mul_r (by decide) (by decide), _, rfl, dr, rfl, d7, fun H8 z s8 d8 z0 z1 => ⟨_, _, rfl, rfl, _, _, rfl, rfl, .inr ⟨by omega, by omega⟩, ?_⟩⟩
            have hR8 := keep H8 ((s46.trans s7).trans s8)
            refine ⟨.ref R, rfl, .inl ⟨rfl, _, .of hR8⟩, _, rfl, R, _, _, rfl, rfl, hR8, by rw [List.length_map]; exact small1000x (by omega), ?_⟩
            refine ⟨_, _, ns ++ [0 * 1000003 * (1 + z)], rfl, x_own (((s3.trans s46).trans s7).trans s8) hR, ?_, by rw [upd_same, iV_app]; rfl, by rw [List.length_append, ln]; rfl, fun f hf => ?_⟩
            · obtain ⟨ds, e, q⟩ := d8
              exact ⟨ds, (upd_ne (Ne.symm nR)).trans e, q⟩
            · rcases List.mem_append.mp hf with h | h
              · exact bn f h
              · rw [List.mem_singleton.mp h]
                omega
          · have hR7 := keep H7 (s46.trans s7)
            refine ⟨.ref R, rfl, .inl ⟨rfl, _, .of hR7⟩, _, rfl, R, _, _, rfl, rfl, hR7, by rw [List.length_map]; exact small1000x (by omega), ?_⟩
            refine ⟨_, _, ns ++ [0], rfl, x_own ((s3.trans s46).trans s7) hR, ?_, by rw [upd_same, iV_app]; rfl, by rw [List.length_append, ln]; rfl, fun f hf => ?_⟩
            · obtain ⟨ds, e, q⟩ := d7
              exact ⟨ds, (upd_ne (Ne.symm nR)).trans e, q⟩
            · rcases List.mem_append.mp hf with h | h
              · exact bn f h
              · rw [List.mem_singleton.mp h]
                omega
        · refine ⟨_, rfl, dr, 30, rfl, by decide, d6, fun H7 u s7 d7 u0 u1 => ⟨rfl, _, rfl, ite2 (fun _ => ?_) (fun _ => ?_)⟩⟩
          · refine ⟨_, rfl, _, _, rfl, rfl, mul_r (by decide) (by decide), _, rfl, dr, rfl, d7, fun H8 z s8 d8 z0 z1 => ⟨_, _, rfl, rfl, _, _, rfl, rfl, .inr ⟨by omega, by omega⟩, ?_⟩⟩
            have hR8 := keep H8 ((s46.trans s7).trans s8)
            refine ⟨.ref R, rfl, .inl ⟨rfl, _, .of hR8⟩, _, rfl, R, _, _, rfl, rfl, hR8, by rw [List.length_map]; exact small1000x (by omega), ?_⟩
            refine ⟨_, _, ns ++ [(n - 3) * 1000003 * (1 + z)], rfl, x_own (((s3.trans s46).trans s7).trans s8) hR, ?_, by rw [upd_same, iV_app]; rfl, by rw [List.length_append, ln]; rfl, fun f hf => ?_⟩
            · obtain ⟨ds, e, q⟩ := d8
              exact ⟨ds, (upd_ne (Ne.symm nR)).trans e, q⟩
            · rcases List.mem_append.mp hf with h | h
              · exact bn f h
              · rw [List.mem_singleton.mp h]
                have : n = 0 ∨ n = 1 ∨ n = 2 ∨ n = 3 ∨ n = 4 ∨ n = 5 ∨ n = 6 := by omega
                rcases this with rfl | rfl | rfl | rfl | rfl | rfl | rfl <;> omega
          · have hR7 := keep H7 (s46.trans s7)
            refine ⟨.ref R, rfl, .inl ⟨rfl, _, .of hR7⟩, _, rfl, R, _, _, rfl, rfl, hR7, by rw [List.length_map]; exact small1000x (by omega), ?_⟩
            refine ⟨_, _, ns ++ [n - 3], rfl, x_own ((s3.trans s46).trans s7) hR, ?_, by rw [upd_same, iV_app]; rfl, by rw [List.length_append, ln]; rfl, fun f hf => ?_⟩
            · obtain ⟨ds, e, q⟩ := d7
              exact ⟨ds, (upd_ne (Ne.symm nR)).trans e, q⟩
            · rcases List.mem_append.mp hf with h | h
              · exact bn f h
              · rw [List.mem_singleton.mp h]
                omega
      · rintro σ H3 ⟨y6, y7, ns, rfl, s3, d3, hR3, ln, bn⟩
        have hD3 : H3 D = some (.lst vs) := (hid_some (s3 D _ (by rw [hid_ne nD]; exact hD1))).2
        refine ⟨.ref D, rfl, .inl ⟨rfl, _, .of hD3⟩, _, rfl, D, _, _, rfl, rfl, hD3, by rw [Paired.length pM, lM]; exact small1000x (by have : i < r := hi; omega), ?_⟩
        have dD : Drw (upd H3 D (.lst (vs ++ [.ref R]))) dr := by
          obtain ⟨ds, e, q⟩ := d3
          exact ⟨ds, (upd_ne (Ne.symm nD)).trans e, q⟩
        refine ⟨_, _, _, _, vs ++ [.ref R], M ++ [ns], rfl, x_own (s1.trans s3) hD, dD, upd_same, ?_, by rw [List.length_append, lM]; rfl, fun q hq => ?_, fun q hq => ?_⟩
        · have eq : hid D (nw H (upd H3 D (.lst (vs ++ [.ref R])))) = hid D (nw H H3) := by
            funext b
            unfold hid nw
            split
            · rfl
            · rename_i nb
              rw [upd_ne nb]
          rw [eq]
          refine paired_snoc (R := VecV K (hid D (nw H H3))) ⟨R, rfl, .of (by rw [hid_ne nRD]; exact nw_of hR0 hR3)⟩ (paired_mono (fun _ _ q => q.to (Same.hid (nw_x hd s3))) pM)
        · rcases List.mem_append.mp hq with h | h
          · exact cM q h
          · rw [List.mem_singleton.mp h, ln]
        · rcases List.mem_append.mp hq with h | h
          · exact sM q h
          · rw [List.mem_singleton.mp h]
            exact bn
    · rintro σ H1 ⟨y4, y5, y6, y7, vs, M, rfl, s1, d1, hD1, pM, lM, cM, sM⟩
      exact ⟨_, rfl, k H1 _ M s1 d1 (MatV.mk hD1 hD pM) lM cM sM⟩
end
end L2.Px

namespace L2.Px
open PySem PySem.Spec PyProof.Rows
section
variable {P : Program} {w : World} {K : PySem.W.Frag} {mg : Str → Option Value} {base : Heap}
theorem ty_sql {K : PySem.W.Frag} {H : Hp} {a : Addr} {xs : List V} (h : SqL K H a xs) : TyX K H (.ref a) (.type "list") := by
  rcases h with (h | ⟨o, h⟩) | ⟨o, its, n, h1, h2, _⟩
  · exact .base (.lst h)
  · exact .base (.frz h)
  · exact .kList h1 h2
/-- half done: the first j places of u, the rest of t -/
def half (t u : List Int) (j : Nat) : List Int := u.take j ++ t.drop j
theorem half_set {t u : List Int} {j : Nat} {x : Int} (h : t.length = u.length) (hj : j < t.length) (e : u.getD j 0 = x) : (half t u j).set j x = half t u (j + 1) := by
  have hj2 : j < u.length := h ▸ hj
  have lt : (u.take j).length = j := by rw [List.length_take]; omega
  have ex : u[j] = x := by
    rw [List.getD_eq_getElem?_getD, List.getElem?_eq_getElem hj2] at e
    exact e
  unfold half
  rw [List.set_append_right _ _ (by omega), lt, Nat.sub_self, List.drop_eq_getElem_cons hj, List.set_cons_zero, List.take_succ_eq_append_getElem hj2, ex, List.append_assoc]
  rfl
theorem half_at {t u : List Int} {j : Nat} (h : t.length = u.length) (hj : j < t.length) : (half t u j).getD j 0 = t.getD j 0 := by
  have lt : (u.take j).length = j := by rw [List.length_take]; omega
  unfold half
  rw [List.getD_eq_getElem?_getD, List.getElem?_append_right (by omega), lt, Nat.sub_self, List.getElem?_drop, Nat.add_zero, List.getD_eq_getElem?_getD]
theorem half_len {t u : List Int} {j : Nat} (h : t.length = u.length) (hj : j ≤ t.length) : (half t u j).length = t.length := by
  unfold half
  rw [List.length_append, List.length_take, List.length_drop]
  omega
def sp__law_times (K : PySem.W.Frag) : Sp := fun vs H Q _ => ∃ (x m : V) (ns : List Int) (M : Mat) (c : Nat), vs = [x, m, .int (c : Int)] ∧ VecV K H x ns ∧ MatV K H m M ∧ c ≤ 120 ∧ ns.length = M.length ∧ ns.length ≤ 120 ∧ (∀ r ∈ M, r.length = c) ∧ (∀ f ∈ ns, -(2 ^ 64) < f ∧ f < (2 : Int) ^ 64) ∧
  ∀ H' y, Same H H' → VecV K (nw H H') y (vpT ns M c) → Q y H'
theorem ok__law_times {f : Addr} {fd : FuncData} (F : Fun K "_law_times" "_law_times" s__law_times f fd) (N : Nm mg) :
    FnOk P w K mg base CX0 1 f fd ["vector", "rows", "columns"] (sp__law_times K) := by
  refine F.ok sc__law_times (fun vs H Q E h => ?_) (fun cdv A outer s H vs Q E hr h => ?_)
  · obtain ⟨x, m, ns, M, c, rfl, _⟩ := h
    rfl
  · obtain ⟨x, m, ns, M, c, rfl, hx, hM, hc, hl, hl2, hr2, hb, k⟩ := h
    refine ⟨_, pss_cons (ps_set (i := 3) sc__law_times.nd rfl (.inl rfl) (pe_op op_rep (pe_lst (pa_cons pe_int pa_nil)) (pv 2)))
      (pss_cons (ps_for PassesOwn.never rfl (pi_range1 (by rfl) N.n_range (pa_cons (pe_callB call_len_seq (by rfl) N.n_len PySem.boot_len (pa_cons (pv 0) pa_nil)) pa_nil)) (pg_name (i := 4) sc__law_times.nd rfl (.inl rfl)) (pss_one (ps_for PassesOwn.never rfl (pi_range1 (by rfl) N.n_range (pa_cons (pv 2) pa_nil)) (pg_name (i := 5) sc__law_times.nd rfl (.inl rfl)) (pss_one (ps_asg (pe_op op_add (pe_ix ix_list (pv 3) (pv 5) (fun _ _ => rfl)) (pe_op op_mul (pe_ix ix_list (pv 0) (pv 4) (fun _ _ => rfl)) (pe_ix ix_list (pe_ix ix_list (pv 1) (pv 4) (fun _ _ => rfl)) (pv 5) (fun _ _ => rfl)))) (pg_sub (pv 3) (pv 5) set_list))))))
      (pss_one (ps_ret (pv 3)))), ?_⟩
    obtain ⟨a, rfl, ha⟩ := hx
    obtain ⟨b, vs, rfl, hb', pb⟩ := hM
    have lv := Paired.length pb
    refine ⟨by show 1 ≤ sizeLine; decide, fun p np => ⟨_, rfl, p, (c : Int), _, rfl, rfl, upd_same, by omega, by omega, by rw [Int.toNat_natCast]; show 1 * c ≤ sizeLine; exact Nat.le_of_lt (small1000x (by omega)), fun D hD' => ?_⟩⟩
    have s0 := Same.upd (o := .lst [V.int 0]) np
    have hD : H D = none := none_of_same s0 hD'
    have s1 : Same H (upd (upd H p (.lst [.int 0])) D (.lst (List.replicate (c : Int).toNat [V.int 0]).flatten)) := own_push s0 hD
    have e0 : (List.replicate (c : Int).toNat [V.int 0]).flatten = iV (List.replicate c 0) := by
      rw [Int.toNat_natCast]
      clear hc k hr2 s1
      induction c with
      | zero => rfl
      | succ n ih =>
        rw [List.replicate_succ, List.replicate_succ, List.flatten_cons, ih]
        rfl
    rw [e0] at s1 ⊢
    refine ⟨.ref a, rfl, a, _, rfl, .inl (s1.seq ha), _, rfl, by rw [List.length_map]; omega, by rw [List.length_map]; omega, ?_⟩
    rw [Int.toNat_natCast, List.length_map]
    refine for_it (walk_range (lo := 0)) (fun i σ H' => ∃ (y4 y5 : Option V), σ = [some (.ref a), some (.ref b), some (.int (c : Int)), some (.ref D), y4, y5] ∧ Same H H' ∧ H' D = some (.lst (iV (totL ns M c i))))
      ⟨none, none, rfl, s1, upd_same⟩ (fun _ _ _ _ _ => trivial) ?_ ?_
    · rintro i x σ H1 H2 hi ⟨y4, y5, rfl, s2, hd2⟩ ⟨rfl, rfl⟩
      have hi : i < ns.length := hi
      refine ⟨_, rfl, (c : Int), rfl, by omega, by omega, ?_⟩
      rw [Int.toNat_natCast]
      have e1 : (iV ns)[i]? = some (.int (ns.getD i 0)) := by
        rw [List.getElem?_map, List.getElem?_eq_getElem hi, List.getD_eq_getElem?_getD, List.getElem?_eq_getElem hi]
        rfl
      obtain ⟨q, hq1, hq2⟩ := paired_at pb (i := i) (y := M.getD i []) (by rw [List.getD_eq_getElem?_getD, List.getElem?_eq_getElem (by omega)]; rfl)
      obtain ⟨qa, rfl, hqa⟩ := hq2
      have lr := row_len hr2 (i := i) (by omega)
      have lt := totL_len (ns := ns) hr2 i (by omega)
      have lu : (totL ns M c (i + 1)).length = c := totL_len hr2 (i + 1) (by omega)
      have fb := hb (ns.getD i 0) (by rw [List.getD_eq_getElem?_getD, List.getElem?_eq_getElem hi]; exact List.getElem_mem hi)
      refine for_it (walk_range (lo := 0)) (fun j σ H' => ∃ (y5 : Option V), σ = [some (.ref a), some (.ref b), some (.int (c : Int)), some (.ref D), some (.int (0 + (i : Int))), y5] ∧ Same H H' ∧ H' D = some (.lst (iV (half (totL ns M c i) (totL ns M c (i + 1)) j))))
        ⟨y5, rfl, s2, hd2⟩ (fun _ _ _ _ _ => trivial) ?_ ?_
      · rintro j x σ H3 H4 hj ⟨y5, rfl, s3, hd3⟩ ⟨rfl, rfl⟩
        have hj : j < c := hj
        have ei : (0 + (i : Int)).toNat = i := by omega
        have ej : (0 + (j : Int)).toNat = j := by omega
        have lh := half_len (t := totL ns M c i) (u := totL ns M c (i + 1)) (j := j) (by omega) (by omega)
        refine ⟨.ref D, rfl, _, rfl, D, _, _, _, rfl, rfl, .of hd3, getD_at (by omega) (by omega), ?_⟩
        rw [ej, half_at (by omega) (by omega)]
        refine ⟨.ref a, rfl, _, rfl, a, iV ns, _, _, rfl, rfl, s3.seq ha, getD_at (by omega) (by omega), ?_⟩
        rw [ei]
        refine ⟨.ref b, rfl, _, rfl, b, vs, (i : Int), .ref qa, rfl, by rw [Int.zero_add], s3.seq hb', atI_nat hq1, _, rfl, qa, iV (M.getD i []), _, _, rfl, rfl, s3.seq hqa, getD_at (by omega) (by omega), ?_⟩
        rw [ej]
        refine ⟨_, _, rfl, rfl, .inl fb, _, _, rfl, rfl, .ref D, rfl, _, rfl, D, _, 0 + (j : Int), j, rfl, rfl, hd3, by rw [Int.zero_add]; exact ixN_nat (by rw [List.length_map]; omega), ?_⟩
        refine ⟨_, rfl, own_push s3 hD, ?_⟩
        rw [upd_same, ← iV_set, half_set (by omega) (by omega) ?_]
        show (rowAdd (ns.getD i 0) (totL ns M c i) (M.getD i [])).getD j 0 = _
        rw [zip_get _ _ _ (by omega), List.getD_eq_getElem?_getD, List.getElem?_map, List.getElem?_range (by omega)]
        rfl
      · rintro σ H3 ⟨y5, rfl, s3, hd3⟩
        refine ⟨_, _, rfl, s3, ?_⟩
        rw [hd3]
        unfold half
        rw [List.take_of_length_le (by omega), List.drop_eq_nil_of_le (by omega), List.append_nil]
    · rintro σ H1 ⟨y4, y5, rfl, s2, hd2⟩
      refine ⟨_, rfl, k H1 _ s2 (VecV.mk ?_ hD)⟩
      rw [hd2]
      unfold vpT
      rw [← hl, Nat.min_self]
def sp__law_product (K : PySem.W.Frag) : Sp := fun vs H Q _ => ∃ (v m : V) (A B : Mat) (c : Nat), vs = [v, m, .int (c : Int)] ∧ MatV K H v A ∧ MatV K H m B ∧ c ≤ 120 ∧ A.length ≤ 120 ∧ B.length ≤ 120 ∧ (∀ r ∈ A, r.length = B.length) ∧ (∀ r ∈ B, r.length = c) ∧ Small A ∧
  ∀ H' y, Same H H' → MatV K (nw H H') y (prodM A B c) → Q y H'
theorem ok__law_product {f : Addr} {fd : FuncData} {f__law_times : Addr} {d__law_times : FuncData} (F : Fun K "_law_product" "_law_product" s__law_product f fd) (N : Nm mg)
    (t__law_times : At K mg "_law_times" s__law_times ["vector", "rows", "columns"] f__law_times d__law_times) (G__law_times : FnOk P w K mg base CX0 1 f__law_times d__law_times ["vector", "rows", "columns"] (sp__law_times K)) :
    FnOk P w K mg base CX0 2 f fd ["one", "other", "columns"] (sp__law_product K) := by
  refine F.ok sc__law_product (fun vs H Q E h => ?_) (fun cdv A outer s H vs Q E hr h => ?_)
  · obtain ⟨v, m, A, B, c, rfl, _⟩ := h
    rfl
  · obtain ⟨v, m, A, B, c, rfl, hA, hB, hc, hl, hl2, ha2, hr2, hb, k⟩ := h
    refine ⟨_, pss_one (ps_ret (pe_lc (own := [("row", 3)]) (g := gName 3) (tt := tYes) (te := tCall (sp__law_times K) [] E0 (tCons (tVar 3) (tCons (tVar 1) (tCons (tVar 2) (tNil))))) rfl sc__law_product.nd (pi_list (pv 0)) (blkOk_by (N := n__law_product) (sc := defScope s__law_product) (by decide +kernel)) (fun _ _ _ _ _ => (pg_name (i := 3) sc__law_product.nd rfl (.inl rfl))) (fun _ _ _ _ _ => pts_nil) (fun _ _ _ _ _ => (pe_call G__law_times (hr.mono (by decide)) rfl t__law_times.g t__law_times.F.kp t__law_times.b .nil pass0 (pa_cons (pv 3) (pa_cons (pv 1) (pa_cons (pv 2) pa_nil))))))), ?_⟩
    obtain ⟨a, vs, rfl, ha, pa⟩ := hA
    have lv := Paired.length pa
    refine ⟨.ref a, rfl, a, rfl, ⟨_, ha⟩, fun D hD => lc_map (walk_list (K := K) (a := a) (xs := vs)) (VecV K) lasts_vec (fun i => vpT (A.getD i []) B c) hD (by omega) (fun H' s => s.seq ha) ?_ ?_⟩
    · rintro i x H1 H2 hi s1 ⟨rfl, hx⟩ Nx kk
      obtain ⟨r, hr', hv⟩ := paired_get pa hx
      have lr := ha2 r (List.mem_of_getElem? hr')
      refine ⟨rfl, x, rfl, m, rfl, _, rfl, x, m, r, B, c, rfl, hv.to s1, hB.to s1, hc, lr, by omega, hr2, hb r (List.mem_of_getElem? hr'), fun H3 y s3 hy => kk H3 y s3 ?_⟩
      rw [List.getD_eq_getElem?_getD, hr']
      exact hy
    · intro H1 ws s1 hd p
      rw [lv, ← map_get A (fun r => vpT r B c) []] at p
      exact k H1 _ s1 (MatV.mk hd hD p)
def sp__law_unit (K : PySem.W.Frag) : Sp := fun vs H Q _ => ∃ n : Nat, vs = [.int (n : Int)] ∧ n ≤ 120 ∧ ∀ H' v, Same H H' → MatV K (nw H H') v (unitL n) → Q v H'
theorem ok__law_unit {f : Addr} {fd : FuncData} (F : Fun K "_law_unit" "_law_unit" s__law_unit f fd) (N : Nm mg) :
    FnOk P w K mg base CX0 1 f fd ["size"] (sp__law_unit K) := by
  refine F.ok sc__law_unit (fun vs H Q E h => ?_) (fun cdv A outer s H vs Q E hr h => ?_)
  · obtain ⟨n, rfl, _⟩ := h
    rfl
  · obtain ⟨n, rfl, hn, k⟩ := h
    refine ⟨_, pss_one (ps_ret (pe_lc (own := [("i", 1)]) (g := gName 1) (tt := tYes) (te := tLc (iRng1 (tCons (tVar 0) (tNil))) (gName 2) (tYes) (tCB rInt1 (tCons (tOp (rEq) (tVar 1) (tVar 2)) (tNil))) [2]) rfl sc__law_unit.nd (pi_range1 (by rfl) N.n_range (pa_cons (pv 0) pa_nil)) (blkOk_by (N := n__law_unit) (sc := defScope s__law_unit) (by decide +kernel)) (fun _ _ _ _ _ => (pg_name (i := 1) sc__law_unit.nd rfl (.inr rfl))) (fun _ _ _ _ _ => pts_nil) (fun _ _ _ _ _ => (pe_lc (own := [("j", 2)]) (g := gName 2) (tt := tYes) (te := tCB rInt1 (tCons (tOp (rEq) (tVar 1) (tVar 2)) (tNil))) rfl sc__law_unit.nd (pi_range1 (by rfl) N.n_range (pa_cons (pv 0) pa_nil)) (by refine blkOk_by (N := n__law_unit) (sc := { kind := .function, names := [(".0", .local), ("i", .cell), ("range", .globalImplicit), ("size", .cell)], isGenerator := false, isCoroutine := false }) ?_; decide +kernel) (fun _ _ _ _ _ => (pg_name (i := 2) sc__law_unit.nd rfl (.inl rfl))) (fun _ _ _ _ _ => pts_nil) (fun _ _ _ _ _ => (pe_callTy call_int1 (by rfl) N.n_int (by decide +kernel) (pa_cons (pe_cmpR op_eq (pv 1) (pv 2) (nomark _)) pa_nil))))))), ?_⟩
    refine ⟨_, rfl, (n : Int), rfl, by omega, by omega, ?_⟩
    rw [Int.toNat_natCast]
    intro D hD
    refine lc_map (walk_range (lo := 0)) (VecV K) lasts_vec (fun i => (List.range n).map fun j => if i = j then (1 : Int) else 0) hD (by omega) (fun _ _ => trivial) ?_ ?_
    · rintro i x H1 H2 hi s1 ⟨rfl, rfl⟩ Nx kk
      refine ⟨rfl, _, rfl, (n : Int), rfl, by omega, by omega, ?_⟩
      rw [Int.toNat_natCast]
      intro D2 hD2
      refine lc_map (walk_range (lo := 0)) RInt lasts_int (fun j => if i = j then (1 : Int) else 0) hD2 (by omega) (fun _ _ => trivial) ?_ ?_
      · rintro j x H3 H4 hj s3 ⟨rfl, rfl⟩ Nx2 kk2
        refine ⟨rfl, _, rfl, _, rfl, rfl, .inr ⟨_, rfl, kk2 _ _ (Same.refl _) ?_⟩⟩
        show V.int _ = V.int _
        by_cases e : i = j
        · subst e
          rw [if_pos rfl, decide_eq_true rfl]
          rfl
        · rw [if_neg e, decide_eq_false fun z => e (by injection z with z; omega)]
          rfl
      · intro H3 ws s3 hd p
        have e := paired_int p
        subst e
        exact kk H3 _ s3 (VecV.mk hd hD2)
    · intro H1 ws s1 hd p
      exact k H1 _ s1 (MatV.mk hd hD p)
def sp__law_is_numbers (K : PySem.W.Frag) : Sp := fun vs H Q _ => ∃ (x : V) (ns : List Int) (c : Int), vs = [x, .int c] ∧ VecV K H x ns ∧ (ns.length : Int) = c ∧ Q (.bl true) H
theorem ok__law_is_numbers {f : Addr} {fd : FuncData} (F : Fun K "_law_is_numbers" "_law_is_numbers" s__law_is_numbers f fd) (N : Nm mg) :
    FnOk P w K mg base CX0 1 f fd ["vector", "size"] (sp__law_is_numbers K) := by
  refine F.ok sc__law_is_numbers (fun vs H Q E h => ?_) (fun cdv A outer s H vs Q E hr h => ?_)
  · obtain ⟨x, ns, c, rfl, _⟩ := h
    rfl
  · obtain ⟨x, ns, c, rfl, hx, hc, k⟩ := h
    refine ⟨_, pss_cons (ps_if (PW.pt (pw_or (pt_not (pt_val (pe_callB call_isi (by rfl) N.n_isinstance (by decide +kernel) (pa_cons (pv 0) (pa_cons (pe_bltn (v := .ty "list") rfl N.n_list (by rfl) rfl) pa_nil))))) (pw_or1 (pt_cmpR op_ne (pe_callB call_len_seq (by rfl) N.n_len PySem.boot_len (pa_cons (pv 0) pa_nil)) (pv 1) (nomark _))))) (pss_one (ps_ret pe_bl)) pss_nil)
      (pss_cons (ps_for PassesOwn.never rfl (pi_list (pv 0)) (pg_name (i := 2) sc__law_is_numbers.nd rfl (.inl rfl)) (pss_one (ps_if (PW.pt (pw_or (pt_not (pt_val (pe_callB call_isi (by rfl) N.n_isinstance (by decide +kernel) (pa_cons (pv 2) (pa_cons (pe_bltn (v := .ty "int") rfl N.n_int (by rfl) rfl) pa_nil))))) (pw_or1 (pt_val (pe_callB call_isi (by rfl) N.n_isinstance (by decide +kernel) (pa_cons (pv 2) (pa_cons (pe_bltn (v := .ty "bool") rfl N.n_bool (by rfl) rfl) pa_nil))))))) (pss_one (ps_ret pe_bl)) pss_nil)))
      (pss_one (ps_ret pe_bl))), ?_⟩
    obtain ⟨a, rfl, ha⟩ := hx
    refine ⟨.ref a, rfl, .ref a, .ty "list", .type "list", .type "list", true, rfl, .ty "list", ty_sql ha, kit_ty (by decide +kernel), true, rfl, iteF ?_⟩
    refine ⟨.ref a, rfl, a, _, rfl, .inl ha, _, rfl, rfl, _, rfl, iteNS (by rw [List.length_map, hc]) ?_⟩
    refine ⟨.ref a, rfl, a, rfl, ⟨_, ha⟩, for_it (walk_list (K := K) (a := a) (xs := iV ns)) (fun i σ H' => ∃ y2 : Option V, σ = [some (.ref a), some (.int c), y2] ∧ H' = H) ⟨none, rfl, rfl⟩ (fun i σ H' _ ⟨_, _, e⟩ => e ▸ ha) ?_ ?_⟩
    · rintro i x σ H1 H2 hi ⟨y2, rfl, rfl⟩ ⟨rfl, hx⟩
      obtain ⟨n, hn, rfl⟩ := iV_get hx
      refine ⟨.int n, rfl, .int n, .ty "int", .type "int", .type "int", true, rfl, .ty "int", .base (.int n), kit_ty (by decide +kernel), true, rfl, iteF ?_⟩
      refine ⟨.int n, rfl, .int n, .ty "bool", .type "int", .type "bool", false, rfl, .ty "bool", .base (.int n), kit_ty (by decide +kernel), false, rfl, iteF ⟨_, rfl, rfl⟩⟩
    · rintro σ H1 ⟨y2, rfl, rfl⟩
      exact k
def sp__law_is_rows (K : PySem.W.Frag) : Sp := fun vs H Q _ => ∃ (x : V) (M : Mat) (r c : Int), vs = [x, .int r, .int c] ∧ MatV K H x M ∧ (M.length : Int) = r ∧ (∀ q ∈ M, (q.length : Int) = c) ∧ Q (.bl true) H
theorem ok__law_is_rows {f : Addr} {fd : FuncData} {f__law_is_numbers : Addr} {d__law_is_numbers : FuncData} (F : Fun K "_law_is_rows" "_law_is_rows" s__law_is_rows f fd) (N : Nm mg)
    (t__law_is_numbers : At K mg "_law_is_numbers" s__law_is_numbers ["vector", "size"] f__law_is_numbers d__law_is_numbers) (G__law_is_numbers : FnOk P w K mg base CX0 1 f__law_is_numbers d__law_is_numbers ["vector", "size"] (sp__law_is_numbers K)) :
    FnOk P w K mg base CX0 2 f fd ["rows", "count", "columns"] (sp__law_is_rows K) := by
  refine F.ok sc__law_is_rows (fun vs H Q E h => ?_) (fun cdv A outer s H vs Q E hr h => ?_)
  · obtain ⟨x, M, r, c, rfl, _⟩ := h
    rfl
  · obtain ⟨x, M, r, c, rfl, hx, hl, hc, k⟩ := h
    refine ⟨_, pss_cons (ps_if (PW.pt (pw_or (pt_not (pt_val (pe_callB call_isi (by rfl) N.n_isinstance (by decide +kernel) (pa_cons (pv 0) (pa_cons (pe_bltn (v := .ty "list") rfl N.n_list (by rfl) rfl) pa_nil))))) (pw_or1 (pt_cmpR op_ne (pe_callB call_len_seq (by rfl) N.n_len PySem.boot_len (pa_cons (pv 0) pa_nil)) (pv 1) (nomark _))))) (pss_one (ps_ret pe_bl)) pss_nil)
      (pss_cons (ps_for PassesOwn.never rfl (pi_list (pv 0)) (pg_name (i := 3) sc__law_is_rows.nd rfl (.inl rfl)) (pss_one (ps_if (pt_not (pt_val (pe_call G__law_is_numbers (hr.mono (by decide)) rfl t__law_is_numbers.g t__law_is_numbers.F.kp t__law_is_numbers.b .nil pass0 (pa_cons (pv 3) (pa_cons (pv 2) pa_nil))))) (pss_one (ps_ret pe_bl)) pss_nil)))
      (pss_one (ps_ret pe_bl))), ?_⟩
    obtain ⟨a, vs, rfl, ha, pa⟩ := hx
    have lv := Paired.length pa
    refine ⟨.ref a, rfl, .ref a, .ty "list", .type "list", .type "list", true, rfl, .ty "list", ty_sql ha, kit_ty (by decide +kernel), true, rfl, iteF ?_⟩
    refine ⟨.ref a, rfl, a, _, rfl, .inl ha, _, rfl, rfl, _, rfl, iteNS (by rw [lv, hl]) ?_⟩
    refine ⟨.ref a, rfl, a, rfl, ⟨_, ha⟩, for_it (walk_list (K := K) (a := a) (xs := vs)) (fun i σ H' => ∃ y2 : Option V, σ = [some (.ref a), some (.int r), some (.int c), y2] ∧ H' = H) ⟨none, rfl, rfl⟩ (fun i σ H' _ ⟨_, _, e⟩ => e ▸ ha) ?_ ?_⟩
    · rintro i x σ H1 H2 hi ⟨y2, rfl, rfl⟩ ⟨rfl, hx⟩
      obtain ⟨q, hq, hv⟩ := paired_get pa hx
      exact ⟨x, rfl, _, rfl, x, q, c, rfl, hv, hc q (List.mem_of_getElem? hq), true, rfl, iteF ⟨_, rfl, rfl⟩⟩
    · rintro σ H1 ⟨y2, rfl, rfl⟩
      exact k
/-- the call is refused -/
def Wrong (way : Nat) (A B : Mat) (c : Int) : Prop :=
  (way = 0 → ¬ (isM B c = true ∧ isM A B.length = true)) ∧ (way = 1 → ¬ isM A c = true) ∧ (way = 2 → ¬ isM A c = true) ∧ (way = 3 → ¬ (0 ≤ c ∧ c ≤ 120)) ∧ way ≤ 3
def sp__law_refuses (K : PySem.W.Frag) : Sp := fun vs H Q _ => ∃ (way : Nat) (x m : V) (A B : Mat) (c : Int), vs = [.int (way : Int), x, m, .int c] ∧ MatV K H x A ∧ MatV K H m B ∧ Small A ∧ A.length ≤ 1000 ∧ Wrong way A B c ∧ ∀ H', Same H H' → Q (.bl true) H'
theorem nat_eq {a b : Nat} : decide (V.int (a : Int) = V.int (b : Int)) = decide (a = b) := by
  by_cases e : a = b
  · subst e; simp
  · rw [decide_eq_false e, decide_eq_false]
    intro z
    injection z with z
    omega
theorem ok__law_refuses {f : Addr} {fd : FuncData} {f_product : Addr} {d_product : FuncData} {f_times : Addr} {d_times : FuncData} {f_transposed : Addr} {d_transposed : FuncData} {f_identity : Addr} {d_identity : FuncData} {c_WedgeError : Addr} {c_NotMatrix : Addr} {c_BadNumber : Addr} (F : Fun K "_law_refuses" "_law_refuses" s__law_refuses f fd) (N : Nm mg) (B_WedgeError : ExN K mg "WedgeError" c_WedgeError) (B_NotMatrix : ExN K mg "NotMatrix" c_NotMatrix) (B_BadNumber : ExN K mg "BadNumber" c_BadNumber)
    (t_product : At K mg "product" s_product ["one", "other", "columns"] f_product d_product) (G_product : FnOk P w K mg base (L2.CX P w) 3 f_product d_product ["one", "other", "columns"] (sp_product K c_NotMatrix))
    (t_times : At K mg "times" s_times ["vector", "rows", "columns"] f_times d_times) (G_times : FnOk P w K mg base (L2.CX P w) 3 f_times d_times ["vector", "rows", "columns"] (sp_times K c_NotMatrix))
    (t_transposed : At K mg "transposed" s_transposed ["rows", "columns"] f_transposed d_transposed) (G_transposed : FnOk P w K mg base (L2.CX P w) 3 f_transposed d_transposed ["rows", "columns"] (sp_transposed K c_NotMatrix))
    (t_identity : At K mg "identity" s_identity ["size"] f_identity d_identity) (G_identity : FnOk P w K mg base (L2.CX P w) 2 f_identity d_identity ["size"] (sp_identity K c_NotMatrix)) (e_NotMatrix : ExcC K c_NotMatrix) (m_W : PySem.W.exmOne K (.ref c_NotMatrix) (.ref c_WedgeError) = some true) (m_N : PySem.W.kitOne K (.ref c_NotMatrix) (.ref c_NotMatrix) = some true) (m_B : PySem.W.kitOne K (.ref c_NotMatrix) (.ref c_BadNumber) = some false) :
    FnOk P w K mg base CX0 4 f fd ["way", "one", "other", "columns"] (sp__law_refuses K) := by
  refine F.ok sc__law_refuses (fun vs H Q E h => ?_) (fun cdv A outer s H vs Q E hr h => ?_)
  · obtain ⟨way, x, m, A, B, c, rfl, _⟩ := h
    rfl
  · obtain ⟨way, x, m, A, B, c, rfl, hA, hB, hs, hz, hw, k⟩ := h
    obtain ⟨w0, w1, w2, w3, w4⟩ := hw
    refine ⟨_, pss_cons (ps_try_as (i := 4) (tb := fun W => tIfS (tTest (tOp (rEq) (tVar 0) (L2.tC (.int 0)))) (tDrop (tCallS (sp_product K c_NotMatrix) (WE W) (tCons (tVar 1) (tCons (tVar 2) (tCons (tVar 3) (tNil)))))) (tIfS (tTest (tOp (rEq) (tVar 0) (L2.tC (.int 1)))) (tDrop (tCallS (sp_times K c_NotMatrix) (WE W) (tCons (tOp rRep (tLst (tCons (L2.tC (.int 0)) (tNil))) (tCB (rLenSeq K) (tCons (tVar 1) (tNil)))) (tCons (tVar 1) (tCons (tVar 3) (tNil)))))) (tIfS (tTest (tOp (rEq) (tVar 0) (L2.tC (.int 2)))) (tDrop (tCallS (sp_transposed K c_NotMatrix) (WE W) (tCons (tVar 1) (tCons (tVar 3) (tNil))))) (tDrop (tCallS (sp_identity K c_NotMatrix) (WE W) (tCons (tVar 3) (tNil))))))) (ts := fun a cls d => tRet (tAndV (tCB (fun xs H Q => cls = .ref c_NotMatrix ∧ d = none ∧ rIsE K c_NotMatrix a xs H Q) (tCons (tVar 4) (tCons (L2.tC (.ref c_NotMatrix)) (tNil)))) (tNotV (tCB (fun xs H Q => cls = .ref c_NotMatrix ∧ d = none ∧ rIsE K c_NotMatrix a xs H Q) (tCons (tVar 4) (tCons (L2.tC (.ref c_BadNumber)) (tNil))))))) (Wout := fun _ _ _ _ => False) rfl rfl sc__law_refuses.nd rfl rfl ⟨rfl, by decide, .inl B_WedgeError.g⟩ takes0
      (fun W pn xe tk _ => pss_one (ps_if (pt_cmpR op_eq (pv 0) pe_int (nomark _)) (pss_one (ps_expr (by exact (pe_callS G_product (hr.mono (by decide)) rfl t_product.g t_product.F.kp t_product.b (fun σ => passAt tk σ) (pa_cons (pv 1) (pa_cons (pv 2) (pa_cons (pv 3) pa_nil))))))) (pss_one (ps_if (pt_cmpR op_eq (pv 0) pe_int (nomark _)) (pss_one (ps_expr (by exact (pe_callS G_times (hr.mono (by decide)) rfl t_times.g t_times.F.kp t_times.b (fun σ => passAt tk σ) (pa_cons (pe_op op_rep (pe_lst (pa_cons pe_int pa_nil)) (pe_callB call_len_seq (by rfl) N.n_len PySem.boot_len (pa_cons (pv 1) pa_nil))) (pa_cons (pv 1) (pa_cons (pv 3) pa_nil))))))) (pss_one (ps_if (pt_cmpR op_eq (pv 0) pe_int (nomark _)) (pss_one (ps_expr (by exact (pe_callS G_transposed (hr.mono (by decide)) rfl t_transposed.g t_transposed.F.kp t_transposed.b (fun σ => passAt tk σ) (pa_cons (pv 1) (pa_cons (pv 3) pa_nil)))))) (pss_one (ps_expr (by exact (pe_callS G_identity (hr.mono (by decide)) rfl t_identity.g t_identity.F.kp t_identity.b (fun σ => passAt tk σ) (pa_cons (pv 3) pa_nil)))))))))))
      (fun a oe cls d pn hz hf => pss_one (ps_ret (pe_and (by exact (pe_callB (call_isE2 e_NotMatrix hz hf) (by rfl) N.n_isinstance (by decide +kernel) (pa_cons (pv 4) (pa_cons (pe_glob rfl B_NotMatrix.g (v := .ref c_NotMatrix) rfl) pa_nil)))) (pe_one (pe_not (by exact (pe_callB (call_isE2 e_NotMatrix hz hf) (by rfl) N.n_isinstance (by decide +kernel) (pa_cons (pv 4) (pa_cons (pe_glob rfl B_BadNumber.g (v := .ref c_BadNumber) rfl) pa_nil))))))))))
      (pss_one (ps_ret pe_bl)), ?_⟩
    have suite : ∀ (H' : Hp) (xx : Addr), Same H H' → H' xx = none → (tRet (tAndV (tCB (fun xs H Q => (Value.ref c_NotMatrix) = .ref c_NotMatrix ∧ (none : Option Addr) = none ∧ rIsE K c_NotMatrix xx xs H Q) (tCons (tVar 4) (tCons (L2.tC (.ref c_NotMatrix)) (tNil)))) (tNotV (tCB (fun xs H Q => (Value.ref c_NotMatrix) = .ref c_NotMatrix ∧ (none : Option Addr) = none ∧ rIsE K c_NotMatrix xx xs H Q) (tCons (tVar 4) (tCons (L2.tC (.ref c_BadNumber)) (tNil))))))) { nx := fun _ H' => Q .non H', rt := Q } [some (.int (way : Int)), some x, some m, some (.int c), some (.ref xx)] H' := by
      intro H' xx s hx
      refine ⟨.ref xx, rfl, rfl, rfl, .ref c_NotMatrix, .ref c_NotMatrix, true, rfl, fun u hu => hu, m_N, true, rfl, iteT ?_⟩
      exact ⟨.ref xx, rfl, rfl, rfl, .ref c_BadNumber, .ref c_BadNumber, false, rfl, fun u hu => hu, m_B, false, rfl, k H' s⟩
    refine ⟨_, rfl, rfl, _, rfl, ?_⟩
    rw [show decide (V.int (way : Int) = V.int 0) = decide (way = 0) from nat_eq (b := 0)]
    refine ite2 (fun c0 => ?_) (fun c0 => ?_)
    · have c0 : way = 0 := of_decide_eq_true c0
      exact ⟨x, rfl, m, rfl, _, rfl, x, m, A, B, c, rfl, hA, hB, hs, fun h1 h2 => absurd ⟨h1, h2⟩ (w0 c0), fun _ H' s => ⟨true, m_W, fun _ xx hx => suite H' xx s hx, fun z => by cases z⟩⟩
    · have c0 : ¬ way = 0 := fun z => c0 (decide_eq_true z)
      refine ⟨_, rfl, rfl, _, rfl, ?_⟩
      rw [show decide (V.int (way : Int) = V.int 1) = decide (way = 1) from nat_eq (b := 1)]
      refine ite2 (fun c1 => ?_) (fun c1 => ?_)
      · have c1 : way = 1 := of_decide_eq_true c1
        obtain ⟨a, vs, rfl, ha, pa⟩ := hA
        have lv := Paired.length pa
        refine ⟨by show 1 ≤ sizeLine; decide, fun p np => ?_⟩
        have s0 := Same.upd (o := .lst [V.int 0]) np
        refine ⟨.ref a, rfl, a, vs, rfl, .inl (s0.seq ha), p, (vs.length : Int), _, rfl, rfl, upd_same, by omega, by omega, by rw [Int.toNat_natCast]; show 1 * vs.length ≤ sizeLine; exact Nat.le_of_lt (small1000x (by omega)), fun D hD' => ?_⟩
        have s1 := s0.trans (Same.upd (o := .lst (List.replicate (vs.length : Int).toNat [V.int 0]).flatten) hD')
        have e0 : (List.replicate (vs.length : Int).toNat [V.int 0]).flatten = iV (List.replicate vs.length 0) := by
          rw [Int.toNat_natCast]
          generalize vs.length = n
          induction n with
          | zero => rfl
          | succ n ih =>
            rw [List.replicate_succ, List.replicate_succ, List.flatten_cons, ih]
            rfl
        rw [e0] at s1 ⊢
        exact ⟨.ref a, rfl, _, rfl, .ref D, .ref a, List.replicate vs.length 0, A, c, rfl, ⟨D, rfl, .of upd_same⟩, MatV.to ⟨a, vs, rfl, ha, pa⟩ s1, fun f hf => by rw [List.eq_of_mem_replicate hf]; decide, fun h1 _ => absurd h1 (w1 c1), fun _ H' s => ⟨true, m_W, fun _ xx hx => suite H' xx (s1.trans s) hx, fun z => by cases z⟩⟩
      · have c1 : ¬ way = 1 := fun z => c1 (decide_eq_true z)
        refine ⟨_, rfl, rfl, _, rfl, ?_⟩
        rw [show decide (V.int (way : Int) = V.int 2) = decide (way = 2) from nat_eq (b := 2)]
        refine ite2 (fun c2 => ?_) (fun c2 => ?_)
        · have c2 : way = 2 := of_decide_eq_true c2
          exact ⟨x, rfl, _, rfl, x, A, c, rfl, hA, fun h1 => absurd h1 (w2 c2), fun _ H' s => ⟨true, m_W, fun _ xx hx => suite H' xx s hx, fun z => by cases z⟩⟩
        · have c2 : ¬ way = 2 := fun z => c2 (decide_eq_true z)
          exact ⟨_, rfl, c, rfl, fun h1 => absurd h1 (w3 (by omega)), fun _ H' s => ⟨true, m_W, fun _ xx hx => suite H' xx s hx, fun z => by cases z⟩⟩
end
end L2.Px

namespace L2.Px
open PySem PySem.Spec PyProof.Rows
/-! ### matrices as data that are compared -/
abbrev mD (M : Mat) : PyData := .list (M.map fun r => .list (iD r))
theorem VecV.dp {K : PySem.W.Frag} {H : Hp} {v : V} {ns : List Int} (h : VecV K H v ns) : Dp K H v (.list (iD ns)) := by
  obtain ⟨a, rfl, h⟩ := h
  exact .lst h (dp_ints ns)
theorem dp_rows {K : PySem.W.Frag} {H : Hp} : ∀ {vs : List V} {M : Mat}, Paired (VecV K H) vs M → DpAll K H vs (M.map fun r => .list (iD r))
  | _, _, .nil => .nil
  | _, _, .cons h t => .cons h.dp (dp_rows t)
theorem MatV.dp {K : PySem.W.Frag} {H : Hp} {v : V} {M : Mat} (h : MatV K H v M) : Dp K H v (mD M) := by
  obtain ⟨a, vs, rfl, h, p⟩ := h
  exact .lst h (dp_rows p)
theorem lay_rows : ∀ M : Mat, PyData.canLayAll0 (M.map fun r => .list (iD r)) = true
  | [] => rfl
  | n :: r => by
    show (PyData.canLayAll0 (iD n) && PyData.canLayAll0 (r.map fun r => .list (iD r))) = true
    rw [lay_rows r, lay_ints]
    rfl
theorem dep_rows : ∀ M : Mat, PyData.depthAll (M.map fun r => .list (iD r)) ≤ 1
  | [] => Nat.zero_le _
  | n :: r => by
    show max (PyData.depthAll (iD n) + 1) (PyData.depthAll (r.map fun r => .list (iD r))) ≤ 1
    rw [dep_ints]
    have := dep_rows r
    omega
theorem shaped_m (M : Mat) : SeqAt.shaped (mD M) = true := by
  show (PyData.canLayAll0 (M.map fun r => .list (iD r)) && decide (PyData.depthAll (M.map fun r => .list (iD r)) + 1 ≤ 64)) = true
  rw [lay_rows, decide_eq_true (by have := dep_rows M; omega)]
  rfl
abbrev gvD (A B : Mat) (ns : List Int) : PyData := .tuple [mD A, mD B, .list (iD ns)]
theorem shaped_gv (A B : Mat) (ns : List Int) : SeqAt.shaped (gvD A B ns) = true := by
  show ((PyData.canLayAll0 (A.map fun r => .list (iD r)) && (PyData.canLayAll0 (B.map fun r => .list (iD r)) && (PyData.canLayAll0 (iD ns) && true))) &&
    decide (max (PyData.depthAll (A.map fun r => .list (iD r)) + 1) (max (PyData.depthAll (B.map fun r => .list (iD r)) + 1) (max (PyData.depthAll (iD ns) + 1) 0)) + 1 ≤ 64)) = true
  rw [lay_rows, lay_rows, lay_ints, dep_ints, decide_eq_true (by have := dep_rows A; have := dep_rows B; omega)]
  rfl
theorem ne_self {d : PyData} (h : SeqAt.shaped d = true) : (!PyData.eqv d d) = false := by
  rw [SeqAt.eqv_refl d (Bool.and_eq_true_iff.mp h).1]
  rfl
theorem bad_row {A : Mat} {m : Nat} : isM (A ++ [List.replicate (m + 1) 0]) m = false := by
  cases e : isM (A ++ [List.replicate (m + 1) 0]) m with
  | false => rfl
  | true =>
    obtain ⟨_, _, _, h⟩ := isM_of e
    have := h _ (List.mem_append_right _ (List.mem_singleton.mpr rfl))
    rw [List.length_replicate] at this
    omega
theorem rep_zero (n : Nat) : (List.replicate n [V.int 0]).flatten = iV (List.replicate n 0) := by
  induction n with
  | zero => rfl
  | succ n ih =>
    rw [List.replicate_succ, List.replicate_succ, List.flatten_cons, ih]
    rfl
theorem rep_one {α : Type} (x : α) (n : Nat) : (List.replicate n [x]).flatten = List.replicate n x := by
  induction n with
  | zero => rfl
  | succ n ih =>
    rw [List.replicate_succ, List.replicate_succ, List.flatten_cons, ih]
    rfl
section
variable {P : Program} {w : World} {K : PySem.W.Frag} {mg : Str → Option Value} {base : Heap}
theorem paired_repl {α β : Type} {R : α → β → Prop} {x : α} {y : β} (h : R x y) : ∀ n, Paired R (List.replicate n x) (List.replicate n y)
  | 0 => .nil
  | n + 1 => .cons h (paired_repl h n)
/-- [list(row) for row in rows] -/
theorem copy_rows {H : Hp} {a : Addr} {vs : List V} {M : Mat} {σ : St} {i : Nat} {Q : Hp → Addr → Prop} (ha : SqL K H a vs) (pa : Paired (VecV K H) vs M) (hl : M.length ≤ 1000) (hi : i < σ.length)
    (k : ∀ H' D ws, Same H H' → H D = none → H' D = some (.lst ws) → Paired (VecV K H') ws M → MatV K (nw H H') (.ref D) M → Q H' D) :
    ∀ D, H D = none → ∃ W : Nat → Nat → Hp → Prop, (∃ m, W 0 m (upd H D (.lst []))) ∧ ∀ i' m H', W i' m H' →
      ((Itl K a).stop i' H' ∧ Q H' D) ∨ ((Itl K a).go i' H' ∧ ∃ Nx : Hp → Prop, (∀ H'', Nx H'' → ∃ m', m' < m ∧ W (i' + 1) m' H'') ∧ ∀ x H'', (Itl K a).yld i' H' x H'' → gName i x (wipe σ [i]) H'' fun σ2 H2 => wipe σ2 [i] = wipe σ [i] ∧ tYes σ2 H2 fun b H3 =>
        if b = true then tCB (rListOf K) (tCons (tVar i) tNil) σ2 H3 fun y H4 => ∃ acc, H4 D = some (.lst acc) ∧ acc.length < sizeLine ∧ Nx (upd H4 D (.lst (acc ++ [y]))) else Nx H3) := by
  intro D hD
  have lv := Paired.length pa
  refine lc_map (walk_list (K := K) (a := a) (xs := vs)) (VecV K) lasts_vec (fun i => M.getD i []) hD (by omega) (fun H' s => s.seq ha) ?_ ?_
  · rintro i' x H1 H2 hi' s1 ⟨rfl, hx⟩ Nx kk
    obtain ⟨r, hr', b, rfl, hb⟩ := paired_get pa hx
    refine ⟨by show (((σ.set i none).set i (some (V.ref b))).set i none) = σ.set i none; rw [List.set_set, List.set_set], .ref b, by show ((σ.set i none).set i (some (V.ref b)))[i]? = _; rw [List.getElem?_set_self (by rw [List.length_set]; exact hi)], b, iV r, rfl, .inl (s1.seq hb), fun l hl => kk _ _ (Same.upd hl) ?_⟩
    rw [List.getD_eq_getElem?_getD, hr']
    exact VecV.mk upd_same hl
  · intro H1 ws s1 hd p
    have e : (List.range vs.length).map (fun i => M.getD i []) = M := by
      rw [lv]
      have := map_get M id []
      rw [List.map_id] at this
      exact this.symm
    rw [e] at p
    exact k H1 D ws s1 hD hd (paired_mono (fun _ _ q => (q.to hid_same).to nw_same) p) (MatV.mk hd hD p)
end
end L2.Px

namespace L2.Px
open PySem PySem.Spec PyProof.Rows
section
variable {P : Program} {w : World} {K : PySem.W.Frag} {mg : Str → Option Value} {base : Heap}
def sp__law_is_refused (K : PySem.W.Frag) : Sp := fun vs H Q _ => ∃ (x : V) (A : Mat) (m c : Nat), vs = [x, .int (m : Int), .int (c : Int)] ∧ MatV K H x A ∧ (∀ r ∈ A, r.length = m) ∧ Small A ∧ A.length ≤ 100 ∧ m ≤ 100 ∧ c ≤ 100 ∧ ∀ H', Same H H' → Q (.bl true) H'
theorem ok__law_is_refused {f : Addr} {fd : FuncData} {f__law_refuses : Addr} {d__law_refuses : FuncData} (F : Fun K "_law_is_refused" "_law_is_refused" s__law_is_refused f fd) (N : Nm mg)
    (t__law_refuses : At K mg "_law_refuses" s__law_refuses ["way", "one", "other", "columns"] f__law_refuses d__law_refuses) (G__law_refuses : FnOk P w K mg base CX0 4 f__law_refuses d__law_refuses ["way", "one", "other", "columns"] (sp__law_refuses K)) :
    FnOk P w K mg base CX0 5 f fd ["one", "middle", "columns"] (sp__law_is_refused K) := by
  refine F.ok sc__law_is_refused (fun vs H Q E h => ?_) (fun cdv A outer s H vs Q E hr h => ?_)
  · obtain ⟨x, A, m, c, rfl, _⟩ := h
    rfl
  · obtain ⟨x, A, m, c, rfl, hA, hr2, hs, hz, hm, hc, k⟩ := h
    refine ⟨_, pss_cons (ps_set (i := 3) sc__law_is_refused.nd rfl (.inl rfl) (pe_op op_cat (pe_lc (own := [("row", 7)]) (g := gName 7) (tt := tYes) (te := tCB (rListOf K) (tCons (tVar 7) (tNil))) rfl sc__law_is_refused.nd (pi_list (pv 0)) (blkOk_by (N := n__law_is_refused) (sc := defScope s__law_is_refused) (by decide +kernel)) (fun _ _ _ _ _ => (pg_name (i := 7) sc__law_is_refused.nd rfl (.inl rfl))) (fun _ _ _ _ _ => pts_nil) (fun _ _ _ _ _ => (pe_callTy call_list_of (by rfl) N.n_list (by decide +kernel) (pa_cons (pv 7) pa_nil)))) (pe_lst (pa_cons (pe_op op_rep (pe_lst (pa_cons pe_int pa_nil)) (pe_op op_add (pv 1) pe_int)) pa_nil))))
      (pss_cons (ps_for PassesOwn.never rfl (pi_list (pe_lst (pa_cons pe_int (pa_cons pe_int pa_nil)))) (pg_name (i := 4) sc__law_is_refused.nd rfl (.inl rfl)) (pss_cons (ps_if (PW.pt (pw_or (pt_not (pt_val (pe_call G__law_refuses (hr.mono (by decide)) rfl t__law_refuses.g t__law_refuses.F.kp t__law_refuses.b .nil pass0 (pa_cons (pv 4) (pa_cons (pv 3) (pa_cons (pv 0) (pa_cons (pv 1) pa_nil))))))) (pw_or1 (pt_not (pt_val (pe_call G__law_refuses (hr.mono (by decide)) rfl t__law_refuses.g t__law_refuses.F.kp t__law_refuses.b .nil pass0 (pa_cons (pv 4) (pa_cons (pe_lst pa_nil) (pa_cons (pv 0) (pa_cons pe_int pa_nil)))))))))) (pss_one (ps_ret pe_bl)) pss_nil)
      (pss_one (ps_if (PW.pt (pw_or (pt_not (pt_val (pe_call G__law_refuses (hr.mono (by decide)) rfl t__law_refuses.g t__law_refuses.F.kp t__law_refuses.b .nil pass0 (pa_cons (pv 4) (pa_cons (pe_op op_rep (pe_lst (pa_cons (pe_lst pa_nil) pa_nil)) pe_int) (pa_cons (pv 0) (pa_cons pe_int pa_nil))))))) (pw_or1 (pt_not (pt_val (pe_call G__law_refuses (hr.mono (by decide)) rfl t__law_refuses.g t__law_refuses.F.kp t__law_refuses.b .nil pass0 (pa_cons (pv 4) (pa_cons (pv 0) (pa_cons (pv 0) (pa_cons (pe_un un_neg pe_int) pa_nil)))))))))) (pss_one (ps_ret pe_bl)) pss_nil))))
      (pss_cons (ps_setLc (i := 5) (own := [("k", 6)]) (g := gName 6) (tt := tYes) (te := tOp rRep (tLst (tCons (L2.tC (.int 0)) (tNil))) (tVar 2)) rfl sc__law_is_refused.nd rfl rfl (sw_true rfl rfl rfl (by decide +kernel)) (pi_range1 (by rfl) N.n_range (pa_cons (pv 1) pa_nil)) (blkOk_by (N := n__law_is_refused) (sc := defScope s__law_is_refused) (by decide +kernel)) (fun _ _ _ _ _ => (pg_name (i := 6) sc__law_is_refused.nd rfl (.inl rfl))) (fun _ _ _ _ _ => pts_nil) (fun _ _ _ _ _ => (pe_op op_rep (pe_lst (pa_cons pe_int pa_nil)) (pv 2))))
      (pss_cons (ps_if (PW.pt (pw_or (pt_not (pt_val (pe_call G__law_refuses (hr.mono (by decide)) rfl t__law_refuses.g t__law_refuses.F.kp t__law_refuses.b .nil pass0 (pa_cons pe_int (pa_cons (pv 3) (pa_cons (pv 5) (pa_cons (pv 2) pa_nil))))))) (pw_or1 (pt_not (pt_val (pe_call G__law_refuses (hr.mono (by decide)) rfl t__law_refuses.g t__law_refuses.F.kp t__law_refuses.b .nil pass0 (pa_cons pe_int (pa_cons (pv 5) (pa_cons (pe_op op_cat (pe_lst (pa_cons (pe_lst (pa_cons pe_int pa_nil)) pa_nil)) (pe_lst (pa_cons (pe_lst (pa_cons pe_int (pa_cons pe_int pa_nil))) pa_nil))) (pa_cons pe_int pa_nil)))))))))) (pss_one (ps_ret pe_bl)) pss_nil)
      (pss_one (ps_ret (pe_and (pe_call G__law_refuses (hr.mono (by decide)) rfl t__law_refuses.g t__law_refuses.F.kp t__law_refuses.b .nil pass0 (pa_cons pe_int (pa_cons (pv 0) (pa_cons (pv 0) (pa_cons (pe_un un_neg pe_int) pa_nil))))) (pe_one (pe_call G__law_refuses (hr.mono (by decide)) rfl t__law_refuses.g t__law_refuses.F.kp t__law_refuses.b .nil pass0 (pa_cons pe_int (pa_cons (pv 0) (pa_cons (pv 0) (pa_cons pe_int pa_nil)))))))))))), ?_⟩
    have hA0 := hA
    obtain ⟨a, vs, rfl, ha, pa⟩ := hA
    refine ⟨.ref a, rfl, a, rfl, ⟨_, ha⟩, copy_rows (Q := fun _ _ => _) ha pa (by omega) (by show 7 < 8; decide) fun H1 D ws s1 nD hD pw _ => ?_⟩
    refine ⟨by show 1 ≤ sizeLine; decide, fun p1 n1 => ⟨_, rfl, _, _, rfl, rfl, p1, (m : Int) + 1, _, rfl, rfl, upd_same, by omega, by omega, by show 1 * ((m : Int) + 1).toNat ≤ sizeLine; exact Nat.le_of_lt (small1000x (by omega)), fun p2 n2 => ⟨by show 1 ≤ sizeLine; decide, fun p3 n3 => ?_⟩⟩⟩
    have em : ((m : Int) + 1).toNat = m + 1 := by omega
    rw [em, rep_zero] at n3 ⊢
    have s2 := Same.upd (o := .lst [V.int 0]) n1
    have s3 := Same.upd (o := .lst (iV (List.replicate (m + 1) 0))) n2
    have s4 := Same.upd (o := .lst [V.ref p2]) n3
    refine ⟨D, p3, ws, [.ref p2], rfl, rfl, s4 _ _ (s3 _ _ (s2 _ _ hD)), upd_same, by rw [Paired.length pw]; exact Nat.le_of_lt (small1000x (by simp only [List.length_cons, List.length_nil]; omega)), fun B n5 => ?_⟩
    have s5 := Same.upd (o := .lst (ws ++ [.ref p2])) n5
    have s14 := s2.trans (s3.trans (s4.trans s5))
    have bad : MatV K (upd (upd (upd (upd H1 p1 (.lst [V.int 0])) p2 (.lst (iV (List.replicate (m + 1) 0)))) p3 (.lst [V.ref p2])) B (.lst (ws ++ [.ref p2]))) (.ref B) (A ++ [List.replicate (m + 1) 0]) :=
      ⟨B, _, rfl, .of upd_same, paired_snoc (R := VecV K _) ⟨p2, rfl, .of (s5 _ _ (s4 _ _ upd_same))⟩ (paired_mono (fun _ _ q => q.to s14) pw)⟩
    have one := hA0.to (s1.trans s14)
    have s0 := s1.trans s14
    generalize upd (upd (upd (upd H1 p1 (.lst [V.int 0])) p2 (.lst (iV (List.replicate (m + 1) 0)))) p3 (.lst [V.ref p2])) B (.lst (ws ++ [.ref p2])) = H2 at bad one s0
    have sBad : Small (A ++ [List.replicate (m + 1) 0]) := fun r hr f hf => by
      rcases List.mem_append.mp hr with h | h
      · exact hs r h f hf
      · rw [List.mem_singleton.mp h] at hf
        rw [List.eq_of_mem_replicate hf]
        decide
    have lBad : (A ++ [List.replicate (m + 1) 0]).length ≤ 1000 := by rw [List.length_append]; simp only [List.length_cons, List.length_nil]; omega
    refine ⟨by show 2 ≤ sizeLine; decide, fun L nL => ⟨_, rfl, ⟨_, .of upd_same⟩, ?_⟩⟩
    have sL := Same.upd (o := .lst [V.int 1, V.int 2]) nL
    refine for_it (walk_list (K := K) (a := L) (xs := [.int 1, .int 2])) (fun i σ H' => ∃ y4 : Option V, σ = [some (.ref a), some (.int (m : Int)), some (.int (c : Int)), some (.ref B), y4, none, none, none] ∧ Same (upd H2 L (.lst [V.int 1, V.int 2])) H') ⟨none, rfl, Same.refl _⟩ (fun i σ H' _ ⟨_, _, s⟩ => .of (s _ _ upd_same)) ?_ ?_
    · rintro i x σ H3 H4 hi ⟨y4, rfl, s3⟩ ⟨rfl, hx⟩
      have hi : i < 2 := hi
      obtain ⟨way, rfl, hw⟩ : ∃ way : Nat, x = .int (way : Int) ∧ (way = 1 ∨ way = 2) := by
        match i, hi, hx with
        | 0, _, e => cases e; exact ⟨1, rfl, .inl rfl⟩
        | 1, _, e => cases e; exact ⟨2, rfl, .inr rfl⟩
      have wr : ∀ (A' B' : Mat) (c' : Int), ¬ isM A' c' = true → Wrong way A' B' c' := fun A' B' c' h => ⟨fun z => by omega, fun _ => h, fun _ => h, fun z => by omega, by omega⟩
      have sm := sL.trans s3
      refine ⟨_, rfl, .ref B, rfl, .ref a, rfl, _, rfl, way, .ref B, .ref a, _, A, (m : Int), rfl, bad.to sm, one.to sm, sBad, lBad, wr _ _ _ (by rw [bad_row]; decide), fun H5 s5 => ⟨true, rfl, iteF ?_⟩⟩
      refine ⟨_, rfl, Nat.zero_le _, fun p np => ?_⟩
      have sp := Same.upd (o := .lst []) np
      refine ⟨.ref a, rfl, way, .ref p, .ref a, [], A, 121, rfl, ⟨p, [], rfl, .of upd_same, .nil⟩, one.to (sm.trans (s5.trans sp)), (fun r h => by cases h), Nat.zero_le _, wr _ _ _ (by decide), fun H6 s6 => ⟨true, rfl, iteF ?_⟩⟩
      have sm6 := sm.trans (s5.trans (sp.trans s6))
      refine ⟨_, rfl, Nat.zero_le _, fun q nq => ⟨by show 1 ≤ sizeLine; decide, fun q2 nq2 => ⟨q2, 121, _, rfl, rfl, upd_same, by decide, by decide, by show 1 * 121 ≤ sizeLine; decide, fun q3 nq3 => ?_⟩⟩⟩
      have sq := Same.upd (o := .lst []) nq
      have sq2 := Same.upd (o := .lst [V.ref q]) nq2
      have e121 : (List.replicate (121 : Int).toNat [V.ref q]).flatten = List.replicate 121 (V.ref q) := rep_one _ 121
      rw [e121]
      have sq3 := Same.upd (o := .lst (List.replicate 121 (V.ref q))) nq3
      refine ⟨.ref a, rfl, way, .ref q3, .ref a, List.replicate 121 [], A, 0, rfl, ⟨q3, _, rfl, .of upd_same, paired_repl ⟨q, rfl, .of (sq3 _ _ (sq2 _ _ upd_same))⟩ 121⟩, one.to (sm6.trans (sq.trans (sq2.trans sq3))), (fun r h => by rw [List.eq_of_mem_replicate h]; intro f hf; cases hf), by rw [List.length_replicate]; decide, wr _ _ _ (by decide), fun H7 s7 => ⟨true, rfl, iteF ?_⟩⟩
      have sm7 := sm6.trans (sq.trans (sq2.trans (sq3.trans s7)))
      refine ⟨_, rfl, .ref a, rfl, .ref a, rfl, 1, rfl, way, .ref a, .ref a, A, A, -1, rfl, one.to sm7, one.to sm7, hs, by omega, wr _ _ _ (fun z => by have := (isM_of z).1; omega), fun H8 s8 => ⟨true, rfl, iteF ?_⟩⟩
      exact ⟨_, rfl, s3.trans (s5.trans (sp.trans (s6.trans (sq.trans (sq2.trans (sq3.trans (s7.trans s8)))))))⟩
    · rintro σ H3 ⟨y4, rfl, s3⟩
      have sm := sL.trans s3
      refine ⟨_, rfl, (m : Int), rfl, by omega, by omega, ?_⟩
      rw [Int.toNat_natCast]
      intro G nG
      refine lc_map (walk_range (lo := 0)) (VecV K) lasts_vec (fun _ => List.replicate c 0) nG (by omega) (fun _ _ => trivial) ?_ ?_
      · rintro i x H4 H5 hi s4 ⟨rfl, rfl⟩ Nx kk
        refine ⟨rfl, by show 1 ≤ sizeLine; decide, fun p np => ⟨_, rfl, p, (c : Int), _, rfl, rfl, upd_same, by omega, by omega, by rw [Int.toNat_natCast]; show 1 * c ≤ sizeLine; exact Nat.le_of_lt (small1000x (by omega)), fun q nq => ?_⟩⟩
        have e0 : (List.replicate (c : Int).toNat [V.int 0]).flatten = iV (List.replicate c 0) := by rw [Int.toNat_natCast, rep_zero]
        rw [e0]
        have sp := Same.upd (o := .lst [V.int 0]) np
        exact kk _ _ (sp.trans (Same.upd nq)) (VecV.mk upd_same (none_of_same sp nq))
      · intro H4 gs s4 hG pG
        have eg : (List.range m).map (fun _ => List.replicate c (0 : Int)) = List.replicate m (List.replicate c 0) := by rw [List.map_const', List.length_range]
        rw [eg] at pG
        have good : MatV K H4 (.ref G) (List.replicate m (List.replicate c 0)) := (MatV.mk hG nG pG).to nw_same
        have sGood : Small (List.replicate m (List.replicate c 0)) := fun r hr f hf => by
          rw [List.eq_of_mem_replicate hr] at hf
          rw [List.eq_of_mem_replicate hf]
          decide
        have sm4 := sm.trans s4
        refine ⟨.ref B, rfl, .ref G, rfl, _, rfl, 0, .ref B, .ref G, _, _, (c : Int), rfl, bad.to sm4, good, sBad, lBad, ⟨fun _ z => ?_, fun z => by omega, fun z => by omega, fun z => by omega, by omega⟩, fun H5 s5 => ⟨true, rfl, iteF ?_⟩⟩
        · have := z.2
          rw [List.length_replicate, bad_row] at this
          cases this
        refine ⟨.ref G, rfl, by show 1 ≤ sizeLine; decide, fun p1 n1 => ⟨by show 1 ≤ sizeLine; decide, fun p2 n2 => ⟨by show 2 ≤ sizeLine; decide, fun p3 n3 => ⟨by show 1 ≤ sizeLine; decide, fun p4 n4 => ?_⟩⟩⟩⟩
        have t1 := Same.upd (o := .lst [V.int 0]) n1
        have t2 := Same.upd (o := .lst [V.ref p1]) n2
        have t3 := Same.upd (o := .lst [V.int 0, V.int 0]) n3
        have t4 := Same.upd (o := .lst [V.ref p3]) n4
        refine ⟨p2, p4, [.ref p1], [.ref p3], rfl, rfl, t4 _ _ (t3 _ _ upd_same), upd_same, by show 2 ≤ sizeLine; decide, fun p5 n5 => ?_⟩
        have t5 := Same.upd (o := .lst [V.ref p1, V.ref p3]) n5
        have tm := t1.trans (t2.trans (t3.trans (t4.trans t5)))
        refine ⟨0, .ref G, .ref p5, _, [[0], [0, 0]], 1, rfl, good.to (s5.trans tm), ⟨p5, _, rfl, .of upd_same, .cons ⟨p1, rfl, .of (t5 _ _ (t4 _ _ (t3 _ _ (t2 _ _ upd_same))))⟩ (.cons ⟨p3, rfl, .of (t5 _ _ (t4 _ _ upd_same))⟩ .nil)⟩, sGood, by rw [List.length_replicate]; omega, ⟨fun _ z => by have := z.1; revert this; decide, fun z => by omega, fun z => by omega, fun z => by omega, by omega⟩, fun H6 s6 => ⟨true, rfl, iteF ?_⟩⟩
        have sm6 := sm4.trans (s5.trans (tm.trans s6))
        refine ⟨.ref a, rfl, .ref a, rfl, 1, rfl, 3, .ref a, .ref a, A, A, -1, rfl, one.to sm6, one.to sm6, hs, by omega, ⟨fun z => by omega, fun z => by omega, fun z => by omega, fun _ => by omega, by omega⟩, fun H7 s7 => ⟨true, rfl, iteT ?_⟩⟩
        exact ⟨.ref a, rfl, .ref a, rfl, 3, .ref a, .ref a, A, A, 121, rfl, one.to (sm6.trans s7), one.to (sm6.trans s7), hs, by omega, ⟨fun z => by omega, fun z => by omega, fun z => by omega, fun _ => by omega, by omega⟩, fun H8 s8 => k H8 (s0.trans (sm6.trans (s7.trans s8)))⟩
end
end L2.Px

namespace L2.Px
open PySem PySem.Spec PyProof.Rows
section
variable {P : Program} {w : World} {K : PySem.W.Frag} {mg : Str → Option Value} {base : Heap}
theorem Drw.hid {H H' : Hp} {dr : Addr} (h : Drw H dr) : Same (nw H H') (Px.hid dr H') := by
  obtain ⟨ds, e, _⟩ := h
  exact nw_hid e
theorem Drw.upd {H : Hp} {dr p : Addr} {o : HO} (h : Drw H dr) (n : H p = none) : Drw (upd H p o) dr := by
  have ne := h.ne_new n
  obtain ⟨ds, e, z⟩ := h
  exact ⟨ds, (upd_ne (Ne.symm ne)).trans e, z⟩
theorem isM_mk {M : Mat} {c : Nat} (h1 : c ≤ 120) (h2 : M.length ≤ 120) (h3 : ∀ r ∈ M, r.length = c) : isM M c = true := by
  unfold isM
  simp only [Bool.and_eq_true, decide_eq_true_eq, List.all_eq_true]
  exact ⟨⟨⟨by omega, by omega⟩, by omega⟩, fun r hr => by rw [h3 r hr]⟩
theorem vpT_len {ns : List Int} {M : Mat} {c : Nat} (h : ∀ r ∈ M, r.length = c) : (vpT ns M c).length = c := totL_len h _ (Nat.min_le_right _ _)
/-- what is given to the program, and what it is made of -/
structure Giv (K : PySem.W.Frag) (H : Hp) (a1 a2 D T G1 G2 G3 : Addr) (A B : Mat) (vn : List Int) (r m c : Nat) : Prop where
  one : MatV K H (.ref a1) A
  other : MatV K H (.ref a2) B
  vec : VecV K H (.ref D) vn
  g1 : MatV K H (.ref G1) A
  g2 : MatV K H (.ref G2) B
  g3 : VecV K H (.ref G3) vn
  hT : H T = some (.tup [V.ref G1, V.ref G2, V.ref G3])
  tr : ∃ w1, H G1 = some (.lst w1) ∧ Paired (VecV K H) w1 A
  lA : A.length = r
  cA : ∀ q ∈ A, q.length = m
  sA : Small A
  lB : B.length = m
  cB : ∀ q ∈ B, q.length = c
  lV : vn.length = m
  bV : ∀ f ∈ vn, -(2 ^ 64) < f ∧ f < (2 : Int) ^ 64
  r6 : r < 6
  m6 : m < 6
  c6 : c < 6
theorem Giv.to {K : PySem.W.Frag} {H H' : Hp} {a1 a2 D T G1 G2 G3 : Addr} {A B : Mat} {vn : List Int} {r m c : Nat} (g : Giv K H a1 a2 D T G1 G2 G3 A B vn r m c) (s : Same H H') : Giv K H' a1 a2 D T G1 G2 G3 A B vn r m c :=
  ⟨g.one.to s, g.other.to s, g.vec.to s, g.g1.to s, g.g2.to s, g.g3.to s, s _ _ g.hT, let ⟨w, h, p⟩ := g.tr; ⟨w, s _ _ h, paired_mono (fun _ _ q => VecV.to q s) p⟩, g.lA, g.cA, g.sA, g.lB, g.cB, g.lV, g.bV, g.r6, g.m6, g.c6⟩
abbrev PGiv (K : PySem.W.Frag) (σ : St) (H : Hp) : Prop := ∃ (a dr a1 a2 D T G1 G2 G3 : Addr) (A B : Mat) (vn : List Int) (r m c : Nat) (y9 y10 y11 : Option V),
  σ = [some (.ref a), some (.ref dr), some (.int (r : Int)), some (.int (m : Int)), some (.int (c : Int)), some (.ref a1), some (.ref a2), some (.ref D), some (.ref T), y9, y10, y11, none, none, none] ∧ Giv K H a1 a2 D T G1 G2 G3 A B vn r m c
def sp_law (K : PySem.W.Frag) : Sp := fun vs H Q _ => ∃ (a : Addr) (ns : List Int), vs = [.ref a] ∧ SqL K H a (iV ns) ∧ ns.length ≤ 63 ∧ ∀ H', Q (.bl true) H'
theorem ok_law {f : Addr} {fd : FuncData} {f__law_draws : Addr} {d__law_draws : FuncData} {f__law_pick : Addr} {d__law_pick : FuncData} {f__law_matrix : Addr} {d__law_matrix : FuncData} {f_product : Addr} {d_product : FuncData} {f_times : Addr} {d_times : FuncData} {f_transposed : Addr} {d_transposed : FuncData} {f__law_is_refused : Addr} {d__law_is_refused : FuncData} {f_is_matrix : Addr} {d_is_matrix : FuncData} {f__law_is_rows : Addr} {d__law_is_rows : FuncData} {f__law_product : Addr} {d__law_product : FuncData} {f__law_is_numbers : Addr} {d__law_is_numbers : FuncData} {f__law_times : Addr} {d__law_times : FuncData} {f_identity : Addr} {d_identity : FuncData} {f__law_unit : Addr} {d__law_unit : FuncData} {c_NotMatrix : Addr} (F : Fun K "law" "law" s_law f fd) (N : Nm mg) (B_NotMatrix : ExN K mg "NotMatrix" c_NotMatrix)
    (t__law_draws : At K mg "_law_draws" s__law_draws ["script"] f__law_draws d__law_draws) (G__law_draws : FnOk P w K mg base CX0 2 f__law_draws d__law_draws ["script"] (sp__law_draws K))
    (t__law_pick : At K mg "_law_pick" s__law_pick ["draws", "many"] f__law_pick d__law_pick) (G__law_pick : FnOk P w K mg base CX0 2 f__law_pick d__law_pick ["draws", "many"] (sp__law_pick K))
    (t__law_matrix : At K mg "_law_matrix" s__law_matrix ["draws", "rows", "columns"] f__law_matrix d__law_matrix) (G__law_matrix : FnOk P w K mg base CX0 3 f__law_matrix d__law_matrix ["draws", "rows", "columns"] (sp__law_matrix K))
    (t_product : At K mg "product" s_product ["one", "other", "columns"] f_product d_product) (G_product : FnOk P w K mg base (L2.CX P w) 3 f_product d_product ["one", "other", "columns"] (sp_product K c_NotMatrix))
    (t_times : At K mg "times" s_times ["vector", "rows", "columns"] f_times d_times) (G_times : FnOk P w K mg base (L2.CX P w) 3 f_times d_times ["vector", "rows", "columns"] (sp_times K c_NotMatrix))
    (t_transposed : At K mg "transposed" s_transposed ["rows", "columns"] f_transposed d_transposed) (G_transposed : FnOk P w K mg base (L2.CX P w) 3 f_transposed d_transposed ["rows", "columns"] (sp_transposed K c_NotMatrix))
    (t__law_is_refused : At K mg "_law_is_refused" s__law_is_refused ["one", "middle", "columns"] f__law_is_refused d__law_is_refused) (G__law_is_refused : FnOk P w K mg base CX0 5 f__law_is_refused d__law_is_refused ["one", "middle", "columns"] (sp__law_is_refused K))
    (t_is_matrix : At K mg "is_matrix" s_is_matrix ["rows", "columns"] f_is_matrix d_is_matrix) (G_is_matrix : FnOk P w K mg base CX0 1 f_is_matrix d_is_matrix ["rows", "columns"] (sp_is_matrix K))
    (t__law_is_rows : At K mg "_law_is_rows" s__law_is_rows ["rows", "count", "columns"] f__law_is_rows d__law_is_rows) (G__law_is_rows : FnOk P w K mg base CX0 2 f__law_is_rows d__law_is_rows ["rows", "count", "columns"] (sp__law_is_rows K))
    (t__law_product : At K mg "_law_product" s__law_product ["one", "other", "columns"] f__law_product d__law_product) (G__law_product : FnOk P w K mg base CX0 2 f__law_product d__law_product ["one", "other", "columns"] (sp__law_product K))
    (t__law_is_numbers : At K mg "_law_is_numbers" s__law_is_numbers ["vector", "size"] f__law_is_numbers d__law_is_numbers) (G__law_is_numbers : FnOk P w K mg base CX0 1 f__law_is_numbers d__law_is_numbers ["vector", "size"] (sp__law_is_numbers K))
    (t__law_times : At K mg "_law_times" s__law_times ["vector", "rows", "columns"] f__law_times d__law_times) (G__law_times : FnOk P w K mg base CX0 1 f__law_times d__law_times ["vector", "rows", "columns"] (sp__law_times K))
    (t_identity : At K mg "identity" s_identity ["size"] f_identity d_identity) (G_identity : FnOk P w K mg base (L2.CX P w) 2 f_identity d_identity ["size"] (sp_identity K c_NotMatrix))
    (t__law_unit : At K mg "_law_unit" s__law_unit ["size"] f__law_unit d__law_unit) (G__law_unit : FnOk P w K mg base CX0 1 f__law_unit d__law_unit ["size"] (sp__law_unit K)) :
    GFn P w K mg base 6 f fd ["script"] (sp_law K) := by
  refine gfn_of F sc_law (fun vs H Q E h => ?_) (fun cdv A outer s H vs Q E hg hr h => ?_)
  · obtain ⟨a, ns, rfl, _⟩ := h
    rfl
  · obtain ⟨a, ns, rfl, hS, hl, k⟩ := h
    have hu := hr.units
    refine cut2 ((defBody s_law).drop 15) (PGiv K) ?_ fun u15 p15 q15 => ?_
    · refine ⟨_, pss_cons (ps_if (PW.pt (pw_or (pt_cmpR (op_neD hu) (pv 8) (pe_tup (pa_cons (pv 5) (pa_cons (pv 6) (pa_cons (pv 7) pa_nil)))) (nomark _)) (pw_or1 (pt_cmpR (op_neD hu) (pe_call (E := E0) G_identity (hr.mono (by decide)) rfl t_identity.g t_identity.F.kp t_identity.b .nil pass0x (pa_cons (pv 4) pa_nil)) (pe_call G__law_unit (hr.mono (by decide)) rfl t__law_unit.g t__law_unit.F.kp t__law_unit.b .nil pass0 (pa_cons (pv 4) pa_nil)) (nomark _))))) (pss_one (ps_ret pe_bl)) pss_nil)
      (pss_one (ps_ret (pe_call G__law_is_refused (hr.mono (by decide)) rfl t__law_is_refused.g t__law_is_refused.F.kp t__law_is_refused.b .nil pass0 (pa_cons (pv 5) (pa_cons (pv 3) (pa_cons (pv 4) pa_nil)))))), ?_⟩
      rintro σ' H10 ⟨a, dr, a1, a2, D, T, G1, G2, G3, A, B, vn, r, m, c, y9, y10, y11, rfl, gv⟩
      obtain ⟨one, other, vec, g1, g2, g3, hT, ⟨w1, hG1', pG1'⟩, lA, cA, sA, lB, cB, lV, bV, r6, m6, c6⟩ := id gv
      have m1 : isM A m = true := isM_mk (by omega) (by omega) cA
      have m2 : isM B c = true := isM_mk (by omega) (by omega) cB
      -- nothing is modified
      refine ⟨.ref T, rfl, .ref a1, rfl, .ref a2, rfl, .ref D, rfl, by show 3 ≤ sizeLine; decide, fun T2 nT2 => ?_⟩
      have sT2 := Same.upd (o := .tup [V.ref a1, V.ref a2, V.ref D]) nT2
      refine ⟨gvD A B vn, gvD A B vn, .tup (.of (sT2 _ _ hT)) (.cons (g1.to sT2).dp (.cons (g2.to sT2).dp (.cons (g3.to sT2).dp .nil))), .tup (.of upd_same) (.cons (one.to sT2).dp (.cons (other.to sT2).dp (.cons (vec.to sT2).dp .nil))), shaped_gv _ _ _, shaped_gv _ _ _, _, rfl, ?_⟩
      rw [ne_self (shaped_gv _ _ _)]
      refine iteF ?_
      -- the identity
      refine ⟨_, rfl, (c : Int), rfl, fun _ H22 e1 u he1 => ?_, fun hn => absurd ⟨by omega, by omega⟩ hn⟩
      have he1 : MatV K H22 e1 (unitL c) := MatV.to he1 nw_same
      refine ⟨_, rfl, c, rfl, by omega, fun H23 e2 u2 he2 => ⟨mD (unitL c), mD (unitL c), (he1.to u2).dp, (he2.to nw_same).dp, shaped_m _, shaped_m _, _, rfl, ?_⟩⟩
      rw [ne_self (shaped_m _)]
      refine iteF ?_
      exact ⟨.ref a1, rfl, _, rfl, _, rfl, .ref a1, A, m, c, rfl, one.to (sT2.trans (u.trans u2)), cA, sA, by omega, by omega, by omega, fun H24 u3 => k H24⟩
    refine cut2 ((defBody s_law).drop 13) (PGiv K) ?_ fun u13 p13 q13 => ?_
    · refine ⟨_, pss_cons (ps_set (i := 11) sc_law.nd rfl (.inl rfl) (pe_call (E := E0) G_transposed (hr.mono (by decide)) rfl t_transposed.g t_transposed.F.kp t_transposed.b .nil pass0x (pa_cons (pe_ix ix_tup (pv 8) pe_int (fun _ _ => rfl)) (pa_cons (pv 4) pa_nil))))
      (pss_cons (ps_if (PW.pt (pw_or (pt_not (pt_val (pe_call G__law_is_rows (hr.mono (by decide)) rfl t__law_is_rows.g t__law_is_rows.F.kp t__law_is_rows.b .nil pass0 (pa_cons (pv 11) (pa_cons (pv 4) (pa_cons (pv 3) pa_nil)))))) (pw_or1 (pt_cmpR (op_neD hu) (pv 11) (pe_lc (own := [("j", 14)]) (g := gName 14) (tt := tYes) (te := tLc (iList K (tVar 6)) (gName 13) (tYes) (tOp (rIxL K) (tVar 13) (tVar 14)) [13]) rfl sc_law.nd (pi_range1 (by rfl) N.n_range (pa_cons (pv 4) pa_nil)) (blkOk_by (N := n_law) (sc := defScope s_law) (by decide +kernel)) (fun _ _ _ _ _ => (pg_name (i := 14) sc_law.nd rfl (.inr rfl))) (fun _ _ _ _ _ => pts_nil) (fun _ _ _ _ _ => (pe_lc (own := [("row", 13)]) (g := gName 13) (tt := tYes) (te := tOp (rIxL K) (tVar 13) (tVar 14)) rfl sc_law.nd (pi_list (pv 6)) (by refine blkOk_by (N := n_law) (sc := { kind := .function, names := [(".0", .local), ("j", .cell), ("other", .cell)], isGenerator := false, isCoroutine := false }) ?_; decide +kernel) (fun _ _ _ _ _ => (pg_name (i := 13) sc_law.nd rfl (.inl rfl))) (fun _ _ _ _ _ => pts_nil) (fun _ _ _ _ _ => (pe_ix ix_list (pv 13) (pv 14) (fun _ _ => rfl)))))) (nomark _))))) (pss_one (ps_ret pe_bl)) pss_nil)
      (p15)), ?_⟩
      rintro σ' H10 ⟨a, dr, a1, a2, D, T, G1, G2, G3, A, B, vn, r, m, c, y9, y10, y11, rfl, gv⟩
      obtain ⟨one, other, vec, g1, g2, g3, hT, ⟨w1, hG1', pG1'⟩, lA, cA, sA, lB, cB, lV, bV, r6, m6, c6⟩ := id gv
      have m1 : isM A m = true := isM_mk (by omega) (by omega) cA
      have m2 : isM B c = true := isM_mk (by omega) (by omega) cB
      -- transposed
      refine ⟨.ref T, rfl, T, _, 1, .ref G2, rfl, rfl, .of hT, atI_nat (j := 1) rfl, _, rfl, .ref G2, B, (c : Int), rfl, g2, fun _ H17 y2 u hy => ?_, fun hn => absurd m2 hn⟩
      have hy := hy.to nw_same
      rw [Int.toNat_natCast] at hy
      have lT : (transL B c).length = c := by unfold transL; rw [List.length_map, List.length_range]
      have cT : ∀ q ∈ transL B c, (q.length : Int) = m := fun q hq => by
        obtain ⟨z, _, rfl⟩ := List.mem_map.mp hq
        rw [List.length_map, lB]
      refine ⟨y2, rfl, _, rfl, _, rfl, y2, transL B c, _, _, rfl, hy, by rw [lT], cT, true, rfl, iteF ?_⟩
      have other17 := other.to u
      obtain ⟨b2, wb, eb, hb2, pb2⟩ := other17
      cases eb
      have lb := Paired.length pb2
      refine ⟨y2, rfl, _, rfl, (c : Int), rfl, by omega, by omega, ?_⟩
      rw [Int.toNat_natCast]
      intro D2 hD2
      refine lc_map (walk_range (lo := 0)) (VecV K) lasts_vec (fun j => B.map fun q => q.getD j 0) hD2 (by omega) (fun _ _ => trivial) ?_ ?_
      · rintro j xx H18 H19 hj s18 ⟨rfl, rfl⟩ Nx kk
        refine ⟨rfl, .ref a2, rfl, a2, rfl, ⟨_, s18.seq hb2⟩, fun D3 hD3 => lc_map (walk_list (K := K) (a := a2) (xs := wb)) RInt lasts_int (fun i => (B.getD i []).getD j 0) hD3 (by omega) (fun H' s => s.seq (s18.seq hb2)) ?_ ?_⟩
        · rintro i xx H20 H21 hi s20 ⟨rfl, hxx⟩ Nx2 kk2
          obtain ⟨q, hq', b, rfl, hb⟩ := paired_get pb2 hxx
          have lq := cB q (List.mem_of_getElem? hq')
          refine ⟨rfl, .ref b, rfl, _, rfl, b, iV q, _, _, rfl, rfl, s20.seq (s18.seq hb), getD_at (by omega) (by have : j < c := hj; omega), kk2 _ _ (Same.refl _) ?_⟩
          show V.int _ = V.int _
          rw [List.getD_eq_getElem?_getD (l := B), hq']
          have : (0 + (j : Int)).toNat = j := by omega
          rw [this]
          rfl
        · intro H20 ws s20 hd p
          have e := paired_int p
          rw [lb, ← map_get B (fun q => q.getD j 0) []] at e
          subst e
          exact kk H20 _ s20 (VecV.mk hd hD3)
      intro H18 ws s18 hd2 p2
      have tr : MatV K H18 (.ref D2) (transL B c) := (MatV.mk hd2 hD2 p2).to nw_same
      refine ⟨mD (transL B c), mD (transL B c), (hy.to s18).dp, tr.dp, shaped_m _, shaped_m _, _, rfl, ?_⟩
      rw [ne_self (shaped_m _)]
      refine iteF ?_
      exact q15 _ _ ⟨_, _, _, _, _, _, _, _, _, _, _, _, _, _, _, _, _, _, rfl, gv.to (u.trans s18)⟩
    refine cut2 ((defBody s_law).drop 11) (PGiv K) ?_ fun u11 p11 q11 => ?_
    · refine ⟨_, pss_cons (ps_set (i := 10) sc_law.nd rfl (.inl rfl) (pe_call (E := E0) G_times (hr.mono (by decide)) rfl t_times.g t_times.F.kp t_times.b .nil pass0x (pa_cons (pe_ix ix_tup (pv 8) pe_int (fun _ _ => rfl)) (pa_cons (pe_ix ix_tup (pv 8) pe_int (fun _ _ => rfl)) (pa_cons (pv 4) pa_nil)))))
      (pss_cons (ps_if (PW.pt (pw_or (pt_not (pt_val (pe_call G__law_is_numbers (hr.mono (by decide)) rfl t__law_is_numbers.g t__law_is_numbers.F.kp t__law_is_numbers.b .nil pass0 (pa_cons (pv 10) (pa_cons (pv 4) pa_nil))))) (pw_or1 (pt_cmpR (op_neD hu) (pv 10) (pe_call G__law_times (hr.mono (by decide)) rfl t__law_times.g t__law_times.F.kp t__law_times.b .nil pass0 (pa_cons (pv 7) (pa_cons (pv 6) (pa_cons (pv 4) pa_nil)))) (nomark _))))) (pss_one (ps_ret pe_bl)) pss_nil)
      (p13)), ?_⟩
      rintro σ' H10 ⟨a, dr, a1, a2, D, T, G1, G2, G3, A, B, vn, r, m, c, y9, y10, y11, rfl, gv⟩
      obtain ⟨one, other, vec, g1, g2, g3, hT, ⟨w1, hG1', pG1'⟩, lA, cA, sA, lB, cB, lV, bV, r6, m6, c6⟩ := id gv
      have m1 : isM A m = true := isM_mk (by omega) (by omega) cA
      have m2 : isM B c = true := isM_mk (by omega) (by omega) cB
      -- times
      refine ⟨.ref T, rfl, T, _, 2, .ref G3, rfl, rfl, .of hT, atI_nat (j := 2) rfl, .ref T, rfl, T, _, 1, .ref G2, rfl, rfl, .of hT, atI_nat (j := 1) rfl, _, rfl, .ref G3, .ref G2, vn, B, (c : Int), rfl, g3, g2, bV, fun _ _ H15 x u hx => ?_, fun hn => absurd ⟨m2, by omega⟩ hn⟩
      have hx := hx.to nw_same
      rw [Int.toNat_natCast] at hx
      refine ⟨x, rfl, _, rfl, x, vpT vn B c, _, rfl, hx, by rw [vpT_len cB], true, rfl, iteF ?_⟩
      refine ⟨x, rfl, .ref D, rfl, .ref a2, rfl, _, rfl, .ref D, .ref a2, vn, B, c, rfl, vec.to u, other.to u, by omega, by omega, by omega, cB, bV, fun H16 z u2 hz => ⟨.list (iD (vpT vn B c)), .list (iD (vpT vn B c)), (hx.to u2).dp, (hz.to nw_same).dp, shaped_li _, shaped_li _, _, rfl, ?_⟩⟩
      rw [ne_self (shaped_li _)]
      refine iteF ?_
      exact q13 _ _ ⟨_, _, _, _, _, _, _, _, _, _, _, _, _, _, _, _, _, _, rfl, gv.to (u.trans u2)⟩
    refine cut2 ((defBody s_law).drop 9) (PGiv K) ?_ fun u9 p9 q9 => ?_
    · refine ⟨_, pss_cons (ps_set (i := 9) sc_law.nd rfl (.inl rfl) (pe_call (E := E0) G_product (hr.mono (by decide)) rfl t_product.g t_product.F.kp t_product.b .nil pass0x (pa_cons (pe_ix ix_tup (pv 8) pe_int (fun _ _ => rfl)) (pa_cons (pe_ix ix_tup (pv 8) pe_int (fun _ _ => rfl)) (pa_cons (pv 4) pa_nil)))))
      (pss_cons (ps_if (PW.pt (pw_or (pt_not (pt_val (pe_call G__law_is_rows (hr.mono (by decide)) rfl t__law_is_rows.g t__law_is_rows.F.kp t__law_is_rows.b .nil pass0 (pa_cons (pv 9) (pa_cons (pv 2) (pa_cons (pv 4) pa_nil)))))) (pw_or1 (pt_cmpR (op_neD hu) (pv 9) (pe_call G__law_product (hr.mono (by decide)) rfl t__law_product.g t__law_product.F.kp t__law_product.b .nil pass0 (pa_cons (pv 5) (pa_cons (pv 6) (pa_cons (pv 4) pa_nil)))) (nomark _))))) (pss_one (ps_ret pe_bl)) pss_nil)
      (p11)), ?_⟩
      rintro σ' H10 ⟨a, dr, a1, a2, D, T, G1, G2, G3, A, B, vn, r, m, c, y9, y10, y11, rfl, gv⟩
      obtain ⟨one, other, vec, g1, g2, g3, hT, ⟨w1, hG1', pG1'⟩, lA, cA, sA, lB, cB, lV, bV, r6, m6, c6⟩ := id gv
      have m1 : isM A m = true := isM_mk (by omega) (by omega) cA
      have m2 : isM B c = true := isM_mk (by omega) (by omega) cB
      -- the product
      refine ⟨.ref T, rfl, T, _, 0, .ref G1, rfl, rfl, .of hT, atI_nat (j := 0) rfl, .ref T, rfl, T, _, 1, .ref G2, rfl, rfl, .of hT, atI_nat (j := 1) rfl, _, rfl, .ref G1, .ref G2, A, B, (c : Int), rfl, g1, g2, sA, fun _ _ H13 y u hy => ?_, fun hn => absurd ⟨m2, by rw [lB]; exact m1⟩ hn⟩
      have hy := hy.to nw_same
      rw [Int.toNat_natCast] at hy
      have lP : (prodM A B c).length = r := by unfold prodM; rw [List.length_map, lA]
      have cP : ∀ q ∈ prodM A B c, (q.length : Int) = c := fun q hq => by
        obtain ⟨z, _, rfl⟩ := List.mem_map.mp hq
        rw [vpT_len cB]
      refine ⟨y, rfl, _, rfl, _, rfl, y, prodM A B c, _, _, rfl, hy, by rw [lP], cP, true, rfl, iteF ?_⟩
      refine ⟨y, rfl, .ref a1, rfl, .ref a2, rfl, _, rfl, .ref a1, .ref a2, A, B, c, rfl, one.to u, other.to u, by omega, by omega, by omega, fun q hq => by rw [cA q hq, lB], cB, sA, fun H14 z u2 hz => ⟨mD (prodM A B c), mD (prodM A B c), (hy.to u2).dp, (hz.to nw_same).dp, shaped_m _, shaped_m _, _, rfl, ?_⟩⟩
      rw [ne_self (shaped_m _)]
      refine iteF ?_
      exact q11 _ _ ⟨_, _, _, _, _, _, _, _, _, _, _, _, _, _, _, _, _, _, rfl, gv.to (u.trans u2)⟩
    refine cut2 ((defBody s_law).drop 8) (PGiv K) ?_ fun u8 p8 q8 => ?_
    · refine ⟨_, pss_cons (ps_if (PW.pt (pw_or (pt_cmpR op_notBl (pe_call G_is_matrix (hr.mono (by decide)) rfl t_is_matrix.g t_is_matrix.F.kp t_is_matrix.b .nil pass0 (pa_cons (pe_ix ix_tup (pv 8) pe_int (fun _ _ => rfl)) (pa_cons (pv 3) pa_nil))) pe_bl (nomark _)) (pw_or1 (pt_cmpR op_notBl (pe_call G_is_matrix (hr.mono (by decide)) rfl t_is_matrix.g t_is_matrix.F.kp t_is_matrix.b .nil pass0 (pa_cons (pe_op op_cat (pe_ix ix_tup (pv 8) pe_int (fun _ _ => rfl)) (pe_lst (pa_cons (pe_op op_rep (pe_lst (pa_cons pe_int pa_nil)) (pe_op op_add (pv 3) pe_int)) pa_nil))) (pa_cons (pv 3) pa_nil))) pe_bl (nomark _))))) (pss_one (ps_ret pe_bl)) pss_nil)
      (p9), ?_⟩
      rintro σ' H10 ⟨a, dr, a1, a2, D, T, G1, G2, G3, A, B, vn, r, m, c, y9, y10, y11, rfl, gv⟩
      obtain ⟨one, other, vec, g1, g2, g3, hT, ⟨w1, hG1', pG1'⟩, lA, cA, sA, lB, cB, lV, bV, r6, m6, c6⟩ := id gv
      have m1 : isM A m = true := isM_mk (by omega) (by omega) cA
      have m2 : isM B c = true := isM_mk (by omega) (by omega) cB
      -- is_matrix
      refine ⟨.ref T, rfl, T, _, 0, .ref G1, rfl, rfl, .of hT, atI_nat (j := 0) rfl, _, rfl, .ref G1, A, (m : Int), rfl, g1, fun H11 u1 => ?_⟩
      rw [m1]
      refine ⟨true, true, rfl, rfl, _, rfl, iteNS rfl ?_⟩
      refine ⟨.ref T, rfl, T, _, 0, .ref G1, rfl, rfl, .of (u1 _ _ hT), atI_nat (j := 0) rfl, by show 1 ≤ sizeLine; decide, fun p1 np1 => ⟨_, rfl, _, _, rfl, rfl, p1, (m : Int) + 1, _, rfl, rfl, upd_same, by omega, by omega, by show 1 * ((m : Int) + 1).toNat ≤ sizeLine; exact Nat.le_of_lt (small1000x (by omega)), fun p2 np2 => ⟨by show 1 ≤ sizeLine; decide, fun p3 np3 => ?_⟩⟩⟩
      have em : ((m : Int) + 1).toNat = m + 1 := by omega
      rw [em, rep_zero] at np3 ⊢
      have v2' := Same.upd (o := .lst [V.int 0]) np1
      have v3' := Same.upd (o := .lst (iV (List.replicate (m + 1) 0))) np2
      have v4' := Same.upd (o := .lst [V.ref p2]) np3
      refine ⟨G1, p3, w1, [.ref p2], rfl, rfl, v4' _ _ (v3' _ _ (v2' _ _ (u1 _ _ hG1'))), upd_same, by rw [Paired.length pG1']; exact Nat.le_of_lt (small1000x (by simp only [List.length_cons, List.length_nil]; omega)), fun p4 np4 => ?_⟩
      have v5' := Same.upd (o := .lst (w1 ++ [.ref p2])) np4
      have v25 := v2'.trans (v3'.trans (v4'.trans v5'))
      refine ⟨_, rfl, .ref p4, A ++ [List.replicate (m + 1) 0], (m : Int), rfl, ⟨p4, _, rfl, .of upd_same, paired_snoc (R := VecV K _) ⟨p2, rfl, .of (v5' _ _ (v4' _ _ upd_same))⟩ (paired_mono (fun _ _ q => VecV.to q (u1.trans v25)) pG1')⟩, fun H12 u2 => ?_⟩
      rw [bad_row]
      refine ⟨false, false, rfl, rfl, _, rfl, iteNS rfl ?_⟩
      exact q9 _ _ ⟨_, _, _, _, _, _, _, _, _, _, _, _, _, _, _, _, _, _, rfl, gv.to (u1.trans (v25.trans u2))⟩
    refine ⟨_, pss_cons (ps_set (i := 1) sc_law.nd rfl (.inr rfl) (pe_call G__law_draws (hr.mono (by decide)) rfl t__law_draws.g t__law_draws.F.kp t__law_draws.b .nil pass0 (pa_cons (pv 0) pa_nil)))
      (pss_cons (ps_set (i := 2) sc_law.nd rfl (.inl rfl) (pe_call G__law_pick (hr.mono (by decide)) rfl t__law_pick.g t__law_pick.F.kp t__law_pick.b .nil pass0 (pa_cons (pv 1) (pa_cons pe_int pa_nil))))
      (pss_cons (ps_set (i := 3) sc_law.nd rfl (.inl rfl) (pe_call G__law_pick (hr.mono (by decide)) rfl t__law_pick.g t__law_pick.F.kp t__law_pick.b .nil pass0 (pa_cons (pv 1) (pa_cons pe_int pa_nil))))
      (pss_cons (ps_set (i := 4) sc_law.nd rfl (.inl rfl) (pe_call G__law_pick (hr.mono (by decide)) rfl t__law_pick.g t__law_pick.F.kp t__law_pick.b .nil pass0 (pa_cons (pv 1) (pa_cons pe_int pa_nil))))
      (pss_cons (ps_set (i := 5) sc_law.nd rfl (.inl rfl) (pe_call G__law_matrix (hr.mono (by decide)) rfl t__law_matrix.g t__law_matrix.F.kp t__law_matrix.b .nil pass0 (pa_cons (pv 1) (pa_cons (pv 2) (pa_cons (pv 3) pa_nil)))))
      (pss_cons (ps_set (i := 6) sc_law.nd rfl (.inr rfl) (pe_call G__law_matrix (hr.mono (by decide)) rfl t__law_matrix.g t__law_matrix.F.kp t__law_matrix.b .nil pass0 (pa_cons (pv 1) (pa_cons (pv 3) (pa_cons (pv 4) pa_nil)))))
      (pss_cons (ps_setLc (i := 7) (own := [("k", 12)]) (g := gName 12) (tt := tYes) (te := tOp (rI0 fun i j => .int (i - j)) (tCall (sp__law_pick K) [] E0 (tCons (tVar 1) (tCons (L2.tC (.int 9)) (tNil)))) (L2.tC (.int 4))) rfl sc_law.nd rfl rfl (sw_true rfl rfl rfl (by decide +kernel)) (pi_range1 (by rfl) N.n_range (pa_cons (pv 3) pa_nil)) (blkOk_by (N := n_law) (sc := defScope s_law) (by decide +kernel)) (fun _ _ _ _ _ => (pg_name (i := 12) sc_law.nd rfl (.inl rfl))) (fun _ _ _ _ _ => pts_nil) (fun _ _ _ _ _ => (pe_op op_sub (pe_call G__law_pick (hr.mono (by decide)) rfl t__law_pick.g t__law_pick.F.kp t__law_pick.b .nil pass0 (pa_cons (pv 1) (pa_cons pe_int pa_nil))) pe_int)))
      (pss_cons (ps_set (i := 8) sc_law.nd rfl (.inl rfl) (pe_tup (pa_cons (pe_lc (own := [("row", 13)]) (g := gName 13) (tt := tYes) (te := tCB (rListOf K) (tCons (tVar 13) (tNil))) rfl sc_law.nd (pi_list (pv 5)) (blkOk_by (N := n_law) (sc := defScope s_law) (by decide +kernel)) (fun _ _ _ _ _ => (pg_name (i := 13) sc_law.nd rfl (.inl rfl))) (fun _ _ _ _ _ => pts_nil) (fun _ _ _ _ _ => (pe_callTy call_list_of (by rfl) N.n_list (by decide +kernel) (pa_cons (pv 13) pa_nil)))) (pa_cons (pe_lc (own := [("row", 13)]) (g := gName 13) (tt := tYes) (te := tCB (rListOf K) (tCons (tVar 13) (tNil))) rfl sc_law.nd (pi_list (pv 6)) (blkOk_by (N := n_law) (sc := defScope s_law) (by decide +kernel)) (fun _ _ _ _ _ => (pg_name (i := 13) sc_law.nd rfl (.inl rfl))) (fun _ _ _ _ _ => pts_nil) (fun _ _ _ _ _ => (pe_callTy call_list_of (by rfl) N.n_list (by decide +kernel) (pa_cons (pv 13) pa_nil)))) (pa_cons (pe_callTy call_list_of (by rfl) N.n_list (by decide +kernel) (pa_cons (pv 7) pa_nil)) pa_nil)))))
      (p8)))))))), ?_⟩
    refine ⟨.ref a, rfl, a, ns, rfl, hS, hl, fun H1 dr s1 n1 d1 => ?_⟩
    refine ⟨.ref dr, rfl, dr, 6, rfl, by decide, d1, fun H2 cnt s2 d2 a0 a1 => ?_⟩
    refine ⟨.ref dr, rfl, dr, 6, rfl, by decide, d2, fun H3 mid s3 d3 b0 b1 => ?_⟩
    refine ⟨.ref dr, rfl, dr, 6, rfl, by decide, d3, fun H4 col s4 d4 c0 c1 => ?_⟩
    obtain ⟨r, rfl⟩ := Int.eq_ofNat_of_zero_le a0
    obtain ⟨m, rfl⟩ := Int.eq_ofNat_of_zero_le b0
    obtain ⟨c, rfl⟩ := Int.eq_ofNat_of_zero_le c0
    refine ⟨.ref dr, rfl, _, rfl, _, rfl, dr, r, m, rfl, by omega, by omega, d4, fun H5 v1 A s5 d5 hA lA cA sA => ?_⟩
    have hA := hA.to (d4.hid (H' := H5))
    refine ⟨.ref dr, rfl, _, rfl, _, rfl, dr, m, c, rfl, by omega, by omega, d5, fun H6 v2 B s6 d6 hB lB cB sB => ?_⟩
    have hB := hB.to (d5.hid (H' := H6))
    have hA := hA.to s6
    -- the vector
    refine ⟨_, rfl, (m : Int), rfl, by omega, by omega, ?_⟩
    rw [Int.toNat_natCast]
    intro D hD
    have nD := d6.ne_new hD
    refine lc_it (walk_range (lo := 0)) (fun i H' => SameX dr H6 H' ∧ Drw H' dr ∧ ∃ es : List Int, H' D = some (.lst (iV es)) ∧ es.length = i ∧ ∀ f ∈ es, -(2 ^ 64) < f ∧ f < (2 : Int) ^ 64) ⟨x_own (Same.refl _) hD, d6.upd hD, [], upd_same, rfl, fun f h => by cases h⟩ (fun _ _ _ _ => trivial) ?_ ?_
    · rintro i x H7 H8 hi ⟨s7, d7, es, hd, le, be⟩ ⟨rfl, rfl⟩
      refine ⟨rfl, .ref dr, rfl, dr, 9, rfl, by decide, d7, fun H9 z s9 d9 z0 z1 => ⟨_, _, rfl, rfl, iV es, ?_, ?_, ?_⟩⟩
      · exact (hid_some (s9 D _ (by rw [hid_ne nD]; exact hd))).2
      · rw [List.length_map]
        exact small1000x (by have : i < m := hi; omega)
      · have d10 : Drw (upd H9 D (.lst (iV es ++ [V.int (z - 4)]))) dr := by
          obtain ⟨ds, e, q⟩ := d9
          exact ⟨ds, (upd_ne (Ne.symm nD)).trans e, q⟩
        refine ⟨x_own (s7.trans s9) hD, d10, es ++ [z - 4], by rw [upd_same, iV_app]; rfl, by rw [List.length_append, le]; rfl, fun f hf => ?_⟩
        rcases List.mem_append.mp hf with h | h
        · exact be f h
        · rw [List.mem_singleton.mp h]
          omega
    rintro H7 ⟨s7, d7, vn, hVn, lV, bV⟩
    have lV : vn.length = m := lV
    have hA := (hA.to s7).to hid_same
    have hB := (hB.to s7).to hid_same
    have m1 : isM A m = true := isM_mk (by omega) (by omega) cA
    have m2 : isM B c = true := isM_mk (by omega) (by omega) cB
    clear s1 s2 s3 s4 s5 s6 s7 d1 d2 d3 d4 d5 d6 d7 hD
    obtain ⟨a1, vs1, rfl, ha1, pa1⟩ := hA
    obtain ⟨a2, vs2, rfl, ha2, pa2⟩ := hB
    -- what is given
    refine ⟨.ref a1, rfl, a1, rfl, ⟨_, ha1⟩, copy_rows (Q := fun _ _ => _) ha1 pa1 (by omega) (by show 13 < 15; decide) fun H8 G1 w1 t1 nG1 hG1 pG1 _ => ?_⟩
    refine ⟨.ref a2, rfl, a2, rfl, ⟨_, t1.seq ha2⟩, copy_rows (Q := fun _ _ => _) (t1.seq ha2) (paired_mono (fun _ _ q => VecV.to q t1) pa2) (by omega) (by show 13 < 15; decide) fun H9 G2 w2 t2 nG2 hG2 pG2 _ => ?_⟩
    refine ⟨.ref D, rfl, D, iV vn, rfl, .inl (.of (t2 _ _ (t1 _ _ hVn))), fun G3 nG3 => ⟨by show 3 ≤ sizeLine; decide, fun T nT => ?_⟩⟩
    have t3 := Same.upd (o := .lst (iV vn)) nG3
    have t4 := Same.upd (o := .tup [V.ref G1, V.ref G2, V.ref G3]) nT
    have t := t1.trans (t2.trans (t3.trans t4))
    have t34 := t3.trans t4
    have one : MatV K (upd (upd H9 G3 (.lst (iV vn))) T (.tup [V.ref G1, V.ref G2, V.ref G3])) (.ref a1) A := MatV.to ⟨a1, vs1, rfl, ha1, pa1⟩ t
    have other : MatV K (upd (upd H9 G3 (.lst (iV vn))) T (.tup [V.ref G1, V.ref G2, V.ref G3])) (.ref a2) B := MatV.to ⟨a2, vs2, rfl, ha2, pa2⟩ t
    have vec : VecV K (upd (upd H9 G3 (.lst (iV vn))) T (.tup [V.ref G1, V.ref G2, V.ref G3])) (.ref D) vn := ⟨D, rfl, .of (t _ _ hVn)⟩
    have g1 : MatV K (upd (upd H9 G3 (.lst (iV vn))) T (.tup [V.ref G1, V.ref G2, V.ref G3])) (.ref G1) A := MatV.to ⟨G1, w1, rfl, .of hG1, pG1⟩ (t2.trans t34)
    have g2 : MatV K (upd (upd H9 G3 (.lst (iV vn))) T (.tup [V.ref G1, V.ref G2, V.ref G3])) (.ref G2) B := MatV.to ⟨G2, w2, rfl, .of hG2, pG2⟩ t34
    have g3 : VecV K (upd (upd H9 G3 (.lst (iV vn))) T (.tup [V.ref G1, V.ref G2, V.ref G3])) (.ref G3) vn := ⟨G3, rfl, .of (t4 _ _ upd_same)⟩
    have hG1' := t34 _ _ (t2 _ _ hG1)
    have pG1' := paired_mono (fun _ _ q => VecV.to q (t2.trans t34)) pG1
    have hT : (upd (upd H9 G3 (.lst (iV vn))) T (.tup [V.ref G1, V.ref G2, V.ref G3])) T = some (.tup [V.ref G1, V.ref G2, V.ref G3]) := upd_same
    generalize upd (upd H9 G3 (.lst (iV vn))) T (.tup [V.ref G1, V.ref G2, V.ref G3]) = H10 at one other vec g1 g2 g3 hG1' pG1' hT
    clear t t1 t2 t3 t4 t34 hG1 hG2 pG1 pG2 nG1 nG2 nG3 nT ha1 ha2 pa1 pa2 hVn
    exact q8 _ _ ⟨_, _, _, _, _, _, _, _, _, _, _, _, _, _, _, _, _, _, rfl, one, other, vec, g1, g2, g3, hT, ⟨w1, hG1', pG1'⟩, lA, cA, sA, lB, cB, lV, bV, by omega, by omega, by omega⟩
end
end L2.Px

namespace L2.Px
open PySem PySem.Spec PyProof.Rows
/-- a def of the text, from what the table of the program says of it -/
theorem at_mk {K : PySem.W.Frag} {h : Heap} {mg : Str → Option Value} (X : K.In h) (G : h.Ns mainGlobals mg) {x : Str} {st : Stmt} {ps : List Str} {f : Addr} {oc kV doc pm cdv ct : Value} {od an : Option Addr} {osl : Array (Option Value)}
    (g : PySem.W.nsIn K mainGlobals x = some (some (.ref f)))
    (l : K.lookup f = some ⟨oc, od, .func (PySem.W.fnOf x x (defArgs st) (defBody st) (defScope st) .none kV doc pm an cdv ct), osl⟩)
    (c : PySem.W.codeIn K cdv x = true) (k : PySem.W.keepIn K (.ref f) = true)
    (hb : ∀ (kV doc pm : Value) (an : Option Addr) (cdv ct : Value) (us : List Value), us.length = ps.length → bindArgs (PySem.W.fnOf x x (defArgs st) (defBody st) (defScope st) .none kV doc pm an cdv ct) ⟨us, []⟩ = pure (ps.zip us)) :
    At K mg x st ps f (PySem.W.fnOf x x (defArgs st) (defBody st) (defScope st) .none kV doc pm an cdv ct) :=
  ⟨fun_mk l c k, PySem.W.mg_of X G g, (fun_mk l c k).binds hb⟩
theorem kit_own {K : PySem.W.Frag} {S T : Addr} {b : Bool} (h2 : PySem.W.isClsIn K T = true) (h3 : PySem.W.typeIn K (.ref T) = some (.type "type")) (h4 : PySem.W.subIn K (.ref S) (.ref T) = some b) : PySem.W.kitCls K (.ref S) (.ref T) = some b := by
  have e2 : ((PySem.W.clsIn K T).isSome && PySem.W.typeIn K (.ref T) == some (.type "type")) = true := by
    have h2' : (PySem.W.clsIn K T).isSome = true := h2
    rw [h2', h3] <;> rfl
  show (if ((PySem.W.clsIn K T).isSome && PySem.W.typeIn K (.ref T) == some (.type "type")) = true then PySem.W.subIn K (.ref S) (.ref T) else none) = some b
  rw [if_pos e2]
  exact h4
theorem exm_self {K : PySem.W.Frag} {S : Addr} (h1 : PySem.W.subIn K (.ref S) (.type "BaseException") = some true) (h4 : PySem.W.kitCls K (.ref S) (.ref S) = some true) : PySem.W.exmOne K (.ref S) (.ref S) = some true := by
  have e1 : (PySem.W.subIn K (.ref S) (.type "BaseException") == some true) = true := by rw [h1] <;> rfl
  show (if (PySem.W.subIn K (.ref S) (.type "BaseException") == some true) = true then PySem.W.kitCls K (.ref S) (.ref S) else none) = some true
  rw [if_pos e1]
  exact h4
theorem kit_yes {K : PySem.W.Frag} {S T : Addr} (h : PySem.W.kitCls K (.ref S) (.ref T) = some true) : PySem.W.kitOne K (.ref S) (.ref T) = some true := by
  show (if ((Value.ref S) == (.ref T)) = true then some true else PySem.W.kitCls K (.ref S) (.ref T)) = some true
  split
  · rfl
  · exact h
theorem kit_no {K : PySem.W.Frag} {S T : Addr} (n : (S == T) = false) (h : PySem.W.kitCls K (.ref S) (.ref T) = some false) : PySem.W.kitOne K (.ref S) (.ref T) = some false := by
  show (if ((Value.ref S) == (.ref T)) = true then some true else PySem.W.kitCls K (.ref S) (.ref T)) = some false
  rw [if_neg, h]
  intro z
  have : S = T := Value.ref.inj (beq_iff_eq.mp z)
  subst this
  rw [show (S == S) = true from beq_self_eq_true S] at n
  cases n
/-- a tuple of four ints at the top -/
theorem idn_mk {K : PySem.W.Frag} {a : Addr} {od : Option Addr} {osl : Array (Option Value)} {n : Nat} {y0 y1 y2 y3 : Tok} (l : K.lookup a = some ⟨.type "tuple", od, .seq #[.int 0 y0, .int 1 y1, .int 2 y2, .int 3 y3] n, osl⟩) : ∀ H, SqT K H a (iV [0, 1, 2, 3]) := fun H => by
  have r : ∀ (i : Int) (t : Tok), RelV (.int i) (.int i t) := fun i t => by first | exact rfl | exact ⟨t, rfl⟩
  exact .inr ⟨_, _, n, l, rfl, rfl, by show 4 ≤ sizeLine; decide, .cons (r _ _) (.cons (r _ _) (.cons (r _ _) (.cons (r _ _) .nil)))⟩

open PySem.OEX in
theorem all_mk {P : Program} {w : World} {K : PySem.W.Frag} {h : Heap} {mg : Str → Option Value} {fa : Addr} (X : K.In h) (G : h.Ns mainGlobals mg) (hfa : mg "law" = some (.ref fa))
    {k_MOST_LINES : Tok}
    {c_NotMatrix : Addr}
    {c_WedgeError : Addr}
    {c_BadNumber : Addr}
    {f0 : Addr} {oc0 kV0 doc0 pm0 cd0 ct0 : Value} {od0 an0 : Option Addr} {sl0 : Array (Option Value)}
    {f1 : Addr} {oc1 kV1 doc1 pm1 cd1 ct1 : Value} {od1 an1 : Option Addr} {sl1 : Array (Option Value)}
    {f2 : Addr} {oc2 kV2 doc2 pm2 cd2 ct2 : Value} {od2 an2 : Option Addr} {sl2 : Array (Option Value)}
    {f3 : Addr} {oc3 kV3 doc3 pm3 cd3 ct3 : Value} {od3 an3 : Option Addr} {sl3 : Array (Option Value)}
    {f4 : Addr} {oc4 kV4 doc4 pm4 cd4 ct4 : Value} {od4 an4 : Option Addr} {sl4 : Array (Option Value)}
    {f5 : Addr} {oc5 kV5 doc5 pm5 cd5 ct5 : Value} {od5 an5 : Option Addr} {sl5 : Array (Option Value)}
    {f6 : Addr} {oc6 kV6 doc6 pm6 cd6 ct6 : Value} {od6 an6 : Option Addr} {sl6 : Array (Option Value)}
    {f7 : Addr} {oc7 kV7 doc7 pm7 cd7 ct7 : Value} {od7 an7 : Option Addr} {sl7 : Array (Option Value)}
    {f8 : Addr} {oc8 kV8 doc8 pm8 cd8 ct8 : Value} {od8 an8 : Option Addr} {sl8 : Array (Option Value)}
    {f9 : Addr} {oc9 kV9 doc9 pm9 cd9 ct9 : Value} {od9 an9 : Option Addr} {sl9 : Array (Option Value)}
    {f10 : Addr} {oc10 kV10 doc10 pm10 cd10 ct10 : Value} {od10 an10 : Option Addr} {sl10 : Array (Option Value)}
    {f11 : Addr} {oc11 kV11 doc11 pm11 cd11 ct11 : Value} {od11 an11 : Option Addr} {sl11 : Array (Option Value)}
    {f12 : Addr} {oc12 kV12 doc12 pm12 cd12 ct12 : Value} {od12 an12 : Option Addr} {sl12 : Array (Option Value)}
    {f13 : Addr} {oc13 kV13 doc13 pm13 cd13 ct13 : Value} {od13 an13 : Option Addr} {sl13 : Array (Option Value)}
    {f14 : Addr} {oc14 kV14 doc14 pm14 cd14 ct14 : Value} {od14 an14 : Option Addr} {sl14 : Array (Option Value)}
    {f15 : Addr} {oc15 kV15 doc15 pm15 cd15 ct15 : Value} {od15 an15 : Option Addr} {sl15 : Array (Option Value)}
    {f16 : Addr} {oc16 kV16 doc16 pm16 cd16 ct16 : Value} {od16 an16 : Option Addr} {sl16 : Array (Option Value)}
    {f17 : Addr} {oc17 kV17 doc17 pm17 cd17 ct17 : Value} {od17 an17 : Option Addr} {sl17 : Array (Option Value)}
    {f18 : Addr} {oc18 kV18 doc18 pm18 cd18 ct18 : Value} {od18 an18 : Option Addr} {sl18 : Array (Option Value)}
    {f19 : Addr} {oc19 kV19 doc19 pm19 cd19 ct19 : Value} {od19 an19 : Option Addr} {sl19 : Array (Option Value)}
    {f20 : Addr} {oc20 kV20 doc20 pm20 cd20 ct20 : Value} {od20 an20 : Option Addr} {sl20 : Array (Option Value)}
    {f21 : Addr} {oc21 kV21 doc21 pm21 cd21 ct21 : Value} {od21 an21 : Option Addr} {sl21 : Array (Option Value)}
    {f22 : Addr} {oc22 kV22 doc22 pm22 cd22 ct22 : Value} {od22 an22 : Option Addr} {sl22 : Array (Option Value)}
    {fl : Addr} {ocl kVl docl pml cdl ctl : Value} {odl anl : Option Addr} {sll : Array (Option Value)}
    (gM_MOST_LINES : PySem.W.nsIn K mainGlobals "MOST_LINES" = some (some (.int 120 k_MOST_LINES)))
    (gBc_NotMatrix : PySem.W.nsIn K mainGlobals "NotMatrix" = some (some (.ref c_NotMatrix)))
    (kBc_NotMatrix : PySem.W.keepIn K (.ref c_NotMatrix) = true)
    (xBc_NotMatrix : PySem.W.excIn K c_NotMatrix [.type "ValueError", .type "Exception", .type "BaseException", .type "object"] "ValueError.__new__" = true)
    (bBc_NotMatrix : PySem.W.subIn K (.ref c_NotMatrix) (.type "BaseException") = some true)
    (tBc_NotMatrix : PySem.W.typeIn K (.ref c_NotMatrix) = some (.type "type"))
    (gBc_WedgeError : PySem.W.nsIn K mainGlobals "WedgeError" = some (some (.ref c_WedgeError)))
    (kBc_WedgeError : PySem.W.keepIn K (.ref c_WedgeError) = true)
    (xBc_WedgeError : PySem.W.excIn K c_WedgeError [.type "ValueError", .type "Exception", .type "BaseException", .type "object"] "ValueError.__new__" = true)
    (bBc_WedgeError : PySem.W.subIn K (.ref c_WedgeError) (.type "BaseException") = some true)
    (tBc_WedgeError : PySem.W.typeIn K (.ref c_WedgeError) = some (.type "type"))
    (gBc_BadNumber : PySem.W.nsIn K mainGlobals "BadNumber" = some (some (.ref c_BadNumber)))
    (kBc_BadNumber : PySem.W.keepIn K (.ref c_BadNumber) = true)
    (xBc_BadNumber : PySem.W.excIn K c_BadNumber [.type "ValueError", .type "Exception", .type "BaseException", .type "object"] "ValueError.__new__" = true)
    (bBc_BadNumber : PySem.W.subIn K (.ref c_BadNumber) (.type "BaseException") = some true)
    (tBc_BadNumber : PySem.W.typeIn K (.ref c_BadNumber) = some (.type "type"))
    (e1c_NotMatrix : PySem.W.findIn K (.ref c_NotMatrix) "__getattribute__" = some (some (.builtin "BaseException.__getattribute__")))
    (e2c_NotMatrix : PySem.W.findIn K (.ref c_NotMatrix) "__getattr__" = some none)
    (e3c_NotMatrix : PySem.W.hasDictIn K c_NotMatrix = true)
    (e4c_NotMatrix : PySem.W.findIn K (.ref c_NotMatrix) "__class__" = some (some (.builtin "object.__class__")))
    (e7c_NotMatrix : PySem.W.mroIn K c_NotMatrix (.type "object") = some true)
    (e5 : PySem.W.specialIn K (.builtin "object.__class__") "__get__" = some (some (.builtin "getset_descriptor.__get__")))
    (e6 : PySem.W.takesIn K (.builtin "object.__class__") = some true)
    (iBc_NotMatrix : PySem.W.isClsIn K c_NotMatrix = true)
    (iBc_WedgeError : PySem.W.isClsIn K c_WedgeError = true)
    (iBc_BadNumber : PySem.W.isClsIn K c_BadNumber = true)
    (sc_NotMatrixc_NotMatrix : PySem.W.subIn K (.ref c_NotMatrix) (.ref c_NotMatrix) = some true)
    (sc_NotMatrixc_WedgeError : PySem.W.subIn K (.ref c_NotMatrix) (.ref c_WedgeError) = some true)
    (sc_NotMatrixc_BadNumber : PySem.W.subIn K (.ref c_NotMatrix) (.ref c_BadNumber) = some false)
    (nc_NotMatrixc_BadNumber : (c_NotMatrix == c_BadNumber) = false)
    (g0 : PySem.W.nsIn K mainGlobals "is_matrix" = some (some (.ref f0)))
    (l0 : K.lookup f0 = some ⟨oc0, od0, .func (PySem.W.fnOf "is_matrix" "is_matrix" (defArgs s_is_matrix) (defBody s_is_matrix) (defScope s_is_matrix) .none kV0 doc0 pm0 an0 cd0 ct0), sl0⟩)
    (c0 : PySem.W.codeIn K cd0 "is_matrix" = true)
    (k0 : PySem.W.keepIn K (.ref f0) = true)
    (g1 : PySem.W.nsIn K mainGlobals "check_matrix" = some (some (.ref f1)))
    (l1 : K.lookup f1 = some ⟨oc1, od1, .func (PySem.W.fnOf "check_matrix" "check_matrix" (defArgs s_check_matrix) (defBody s_check_matrix) (defScope s_check_matrix) .none kV1 doc1 pm1 an1 cd1 ct1), sl1⟩)
    (c1 : PySem.W.codeIn K cd1 "check_matrix" = true)
    (k1 : PySem.W.keepIn K (.ref f1) = true)
    (g2 : PySem.W.nsIn K mainGlobals "check_vector" = some (some (.ref f2)))
    (l2 : K.lookup f2 = some ⟨oc2, od2, .func (PySem.W.fnOf "check_vector" "check_vector" (defArgs s_check_vector) (defBody s_check_vector) (defScope s_check_vector) .none kV2 doc2 pm2 an2 cd2 ct2), sl2⟩)
    (c2 : PySem.W.codeIn K cd2 "check_vector" = true)
    (k2 : PySem.W.keepIn K (.ref f2) = true)
    (g3 : PySem.W.nsIn K mainGlobals "identity" = some (some (.ref f3)))
    (l3 : K.lookup f3 = some ⟨oc3, od3, .func (PySem.W.fnOf "identity" "identity" (defArgs s_identity) (defBody s_identity) (defScope s_identity) .none kV3 doc3 pm3 an3 cd3 ct3), sl3⟩)
    (c3 : PySem.W.codeIn K cd3 "identity" = true)
    (k3 : PySem.W.keepIn K (.ref f3) = true)
    (g4 : PySem.W.nsIn K mainGlobals "product" = some (some (.ref f4)))
    (l4 : K.lookup f4 = some ⟨oc4, od4, .func (PySem.W.fnOf "product" "product" (defArgs s_product) (defBody s_product) (defScope s_product) .none kV4 doc4 pm4 an4 cd4 ct4), sl4⟩)
    (c4 : PySem.W.codeIn K cd4 "product" = true)
    (k4 : PySem.W.keepIn K (.ref f4) = true)
    (g5 : PySem.W.nsIn K mainGlobals "times" = some (some (.ref f5)))
    (l5 : K.lookup f5 = some ⟨oc5, od5, .func (PySem.W.fnOf "times" "times" (defArgs s_times) (defBody s_times) (defScope s_times) .none kV5 doc5 pm5 an5 cd5 ct5), sl5⟩)
    (c5 : PySem.W.codeIn K cd5 "times" = true)
    (k5 : PySem.W.keepIn K (.ref f5) = true)
    (g6 : PySem.W.nsIn K mainGlobals "transposed" = some (some (.ref f6)))
    (l6 : K.lookup f6 = some ⟨oc6, od6, .func (PySem.W.fnOf "transposed" "transposed" (defArgs s_transposed) (defBody s_transposed) (defScope s_transposed) .none kV6 doc6 pm6 an6 cd6 ct6), sl6⟩)
    (c6 : PySem.W.codeIn K cd6 "transposed" = true)
    (k6 : PySem.W.keepIn K (.ref f6) = true)
    (g7 : PySem.W.nsIn K mainGlobals "identity_rows" = some (some (.ref f7)))
    (l7 : K.lookup f7 = some ⟨oc7, od7, .func (PySem.W.fnOf "identity_rows" "identity_rows" (defArgs s_identity_rows) (defBody s_identity_rows) (defScope s_identity_rows) .none kV7 doc7 pm7 an7 cd7 ct7), sl7⟩)
    (c7 : PySem.W.codeIn K cd7 "identity_rows" = true)
    (k7 : PySem.W.keepIn K (.ref f7) = true)
    (g8 : PySem.W.nsIn K mainGlobals "product_rows" = some (some (.ref f8)))
    (l8 : K.lookup f8 = some ⟨oc8, od8, .func (PySem.W.fnOf "product_rows" "product_rows" (defArgs s_product_rows) (defBody s_product_rows) (defScope s_product_rows) .none kV8 doc8 pm8 an8 cd8 ct8), sl8⟩)
    (c8 : PySem.W.codeIn K cd8 "product_rows" = true)
    (k8 : PySem.W.keepIn K (.ref f8) = true)
    (g9 : PySem.W.nsIn K mainGlobals "vector_product" = some (some (.ref f9)))
    (l9 : K.lookup f9 = some ⟨oc9, od9, .func (PySem.W.fnOf "vector_product" "vector_product" (defArgs s_vector_product) (defBody s_vector_product) (defScope s_vector_product) .none kV9 doc9 pm9 an9 cd9 ct9), sl9⟩)
    (c9 : PySem.W.codeIn K cd9 "vector_product" = true)
    (k9 : PySem.W.keepIn K (.ref f9) = true)
    (g10 : PySem.W.nsIn K mainGlobals "transposed_rows" = some (some (.ref f10)))
    (l10 : K.lookup f10 = some ⟨oc10, od10, .func (PySem.W.fnOf "transposed_rows" "transposed_rows" (defArgs s_transposed_rows) (defBody s_transposed_rows) (defScope s_transposed_rows) .none kV10 doc10 pm10 an10 cd10 ct10), sl10⟩)
    (c10 : PySem.W.codeIn K cd10 "transposed_rows" = true)
    (k10 : PySem.W.keepIn K (.ref f10) = true)
    (g11 : PySem.W.nsIn K mainGlobals "_law_number" = some (some (.ref f11)))
    (l11 : K.lookup f11 = some ⟨oc11, od11, .func (PySem.W.fnOf "_law_number" "_law_number" (defArgs s__law_number) (defBody s__law_number) (defScope s__law_number) .none kV11 doc11 pm11 an11 cd11 ct11), sl11⟩)
    (c11 : PySem.W.codeIn K cd11 "_law_number" = true)
    (k11 : PySem.W.keepIn K (.ref f11) = true)
    (g12 : PySem.W.nsIn K mainGlobals "_law_draws" = some (some (.ref f12)))
    (l12 : K.lookup f12 = some ⟨oc12, od12, .func (PySem.W.fnOf "_law_draws" "_law_draws" (defArgs s__law_draws) (defBody s__law_draws) (defScope s__law_draws) .none kV12 doc12 pm12 an12 cd12 ct12), sl12⟩)
    (c12 : PySem.W.codeIn K cd12 "_law_draws" = true)
    (k12 : PySem.W.keepIn K (.ref f12) = true)
    (g13 : PySem.W.nsIn K mainGlobals "_law_draw" = some (some (.ref f13)))
    (l13 : K.lookup f13 = some ⟨oc13, od13, .func (PySem.W.fnOf "_law_draw" "_law_draw" (defArgs s__law_draw) (defBody s__law_draw) (defScope s__law_draw) .none kV13 doc13 pm13 an13 cd13 ct13), sl13⟩)
    (c13 : PySem.W.codeIn K cd13 "_law_draw" = true)
    (k13 : PySem.W.keepIn K (.ref f13) = true)
    (g14 : PySem.W.nsIn K mainGlobals "_law_pick" = some (some (.ref f14)))
    (l14 : K.lookup f14 = some ⟨oc14, od14, .func (PySem.W.fnOf "_law_pick" "_law_pick" (defArgs s__law_pick) (defBody s__law_pick) (defScope s__law_pick) .none kV14 doc14 pm14 an14 cd14 ct14), sl14⟩)
    (c14 : PySem.W.codeIn K cd14 "_law_pick" = true)
    (k14 : PySem.W.keepIn K (.ref f14) = true)
    (g15 : PySem.W.nsIn K mainGlobals "_law_matrix" = some (some (.ref f15)))
    (l15 : K.lookup f15 = some ⟨oc15, od15, .func (PySem.W.fnOf "_law_matrix" "_law_matrix" (defArgs s__law_matrix) (defBody s__law_matrix) (defScope s__law_matrix) .none kV15 doc15 pm15 an15 cd15 ct15), sl15⟩)
    (c15 : PySem.W.codeIn K cd15 "_law_matrix" = true)
    (k15 : PySem.W.keepIn K (.ref f15) = true)
    (g16 : PySem.W.nsIn K mainGlobals "_law_times" = some (some (.ref f16)))
    (l16 : K.lookup f16 = some ⟨oc16, od16, .func (PySem.W.fnOf "_law_times" "_law_times" (defArgs s__law_times) (defBody s__law_times) (defScope s__law_times) .none kV16 doc16 pm16 an16 cd16 ct16), sl16⟩)
    (c16 : PySem.W.codeIn K cd16 "_law_times" = true)
    (k16 : PySem.W.keepIn K (.ref f16) = true)
    (g17 : PySem.W.nsIn K mainGlobals "_law_product" = some (some (.ref f17)))
    (l17 : K.lookup f17 = some ⟨oc17, od17, .func (PySem.W.fnOf "_law_product" "_law_product" (defArgs s__law_product) (defBody s__law_product) (defScope s__law_product) .none kV17 doc17 pm17 an17 cd17 ct17), sl17⟩)
    (c17 : PySem.W.codeIn K cd17 "_law_product" = true)
    (k17 : PySem.W.keepIn K (.ref f17) = true)
    (g18 : PySem.W.nsIn K mainGlobals "_law_unit" = some (some (.ref f18)))
    (l18 : K.lookup f18 = some ⟨oc18, od18, .func (PySem.W.fnOf "_law_unit" "_law_unit" (defArgs s__law_unit) (defBody s__law_unit) (defScope s__law_unit) .none kV18 doc18 pm18 an18 cd18 ct18), sl18⟩)
    (c18 : PySem.W.codeIn K cd18 "_law_unit" = true)
    (k18 : PySem.W.keepIn K (.ref f18) = true)
    (g19 : PySem.W.nsIn K mainGlobals "_law_is_numbers" = some (some (.ref f19)))
    (l19 : K.lookup f19 = some ⟨oc19, od19, .func (PySem.W.fnOf "_law_is_numbers" "_law_is_numbers" (defArgs s__law_is_numbers) (defBody s__law_is_numbers) (defScope s__law_is_numbers) .none kV19 doc19 pm19 an19 cd19 ct19), sl19⟩)
    (c19 : PySem.W.codeIn K cd19 "_law_is_numbers" = true)
    (k19 : PySem.W.keepIn K (.ref f19) = true)
    (g20 : PySem.W.nsIn K mainGlobals "_law_is_rows" = some (some (.ref f20)))
    (l20 : K.lookup f20 = some ⟨oc20, od20, .func (PySem.W.fnOf "_law_is_rows" "_law_is_rows" (defArgs s__law_is_rows) (defBody s__law_is_rows) (defScope s__law_is_rows) .none kV20 doc20 pm20 an20 cd20 ct20), sl20⟩)
    (c20 : PySem.W.codeIn K cd20 "_law_is_rows" = true)
    (k20 : PySem.W.keepIn K (.ref f20) = true)
    (g21 : PySem.W.nsIn K mainGlobals "_law_refuses" = some (some (.ref f21)))
    (l21 : K.lookup f21 = some ⟨oc21, od21, .func (PySem.W.fnOf "_law_refuses" "_law_refuses" (defArgs s__law_refuses) (defBody s__law_refuses) (defScope s__law_refuses) .none kV21 doc21 pm21 an21 cd21 ct21), sl21⟩)
    (c21 : PySem.W.codeIn K cd21 "_law_refuses" = true)
    (k21 : PySem.W.keepIn K (.ref f21) = true)
    (g22 : PySem.W.nsIn K mainGlobals "_law_is_refused" = some (some (.ref f22)))
    (l22 : K.lookup f22 = some ⟨oc22, od22, .func (PySem.W.fnOf "_law_is_refused" "_law_is_refused" (defArgs s__law_is_refused) (defBody s__law_is_refused) (defScope s__law_is_refused) .none kV22 doc22 pm22 an22 cd22 ct22), sl22⟩)
    (c22 : PySem.W.codeIn K cd22 "_law_is_refused" = true)
    (k22 : PySem.W.keepIn K (.ref f22) = true)
    (gl : PySem.W.nsIn K mainGlobals "law" = some (some (.ref fl)))
    (ll : K.lookup fl = some ⟨ocl, odl, .func (PySem.W.fnOf "law" "law" (defArgs s_law) (defBody s_law) (defScope s_law) .none kVl docl pml anl cdl ctl), sll⟩)
    (cl : PySem.W.codeIn K cdl "law" = true)
    (kl : PySem.W.keepIn K (.ref fl) = true)
    (n0 : PySem.W.nsIn K mainGlobals "all" = some none)
    (n1 : PySem.W.nsIn K mainGlobals "len" = some none)
    (n2 : PySem.W.nsIn K mainGlobals "range" = some none)
    (n3 : PySem.W.nsIn K mainGlobals "zip" = some none)
    (n4 : PySem.W.nsIn K mainGlobals "int" = some none)
    (n5 : PySem.W.nsIn K mainGlobals "isinstance" = some none)
    (n6 : PySem.W.nsIn K mainGlobals "list" = some none)
    (n7 : PySem.W.nsIn K mainGlobals "bool" = some none) :
    ∃ fd : FuncData, (∀ (s : Shared) (u : Value), BindsTo s fd ⟨[u], []⟩ [("script", u)]) ∧ ∀ base : Heap, K.In base → base.Ns mainGlobals mg → GFn P w K mg base 6 fa fd ["script"] (sp_law K) := by
  have e := hfa.symm.trans (PySem.W.mg_of X G gl)
  cases e
  have N : Nm mg := ⟨PySem.W.mg_none_of X G n0, PySem.W.mg_none_of X G n1, PySem.W.mg_none_of X G n2, PySem.W.mg_none_of X G n3, PySem.W.mg_none_of X G n4, PySem.W.mg_none_of X G n5, PySem.W.mg_none_of X G n6, PySem.W.mg_none_of X G n7⟩
  have A0 := at_mk (st := s_is_matrix) (ps := ["rows", "columns"]) X G g0 l0 c0 k0 (fun _ _ _ _ _ _ us hl => match us, hl with | [_, _], _ => rfl)
  have A1 := at_mk (st := s_check_matrix) (ps := ["rows", "columns"]) X G g1 l1 c1 k1 (fun _ _ _ _ _ _ us hl => match us, hl with | [_, _], _ => rfl)
  have A2 := at_mk (st := s_check_vector) (ps := ["vector", "size"]) X G g2 l2 c2 k2 (fun _ _ _ _ _ _ us hl => match us, hl with | [_, _], _ => rfl)
  have A3 := at_mk (st := s_identity) (ps := ["size"]) X G g3 l3 c3 k3 (fun _ _ _ _ _ _ us hl => match us, hl with | [_], _ => rfl)
  have A4 := at_mk (st := s_product) (ps := ["one", "other", "columns"]) X G g4 l4 c4 k4 (fun _ _ _ _ _ _ us hl => match us, hl with | [_, _, _], _ => rfl)
  have A5 := at_mk (st := s_times) (ps := ["vector", "rows", "columns"]) X G g5 l5 c5 k5 (fun _ _ _ _ _ _ us hl => match us, hl with | [_, _, _], _ => rfl)
  have A6 := at_mk (st := s_transposed) (ps := ["rows", "columns"]) X G g6 l6 c6 k6 (fun _ _ _ _ _ _ us hl => match us, hl with | [_, _], _ => rfl)
  have A7 := at_mk (st := s_identity_rows) (ps := ["size"]) X G g7 l7 c7 k7 (fun _ _ _ _ _ _ us hl => match us, hl with | [_], _ => rfl)
  have A8 := at_mk (st := s_product_rows) (ps := ["one", "other", "columns"]) X G g8 l8 c8 k8 (fun _ _ _ _ _ _ us hl => match us, hl with | [_, _, _], _ => rfl)
  have A9 := at_mk (st := s_vector_product) (ps := ["vector", "rows", "columns"]) X G g9 l9 c9 k9 (fun _ _ _ _ _ _ us hl => match us, hl with | [_, _, _], _ => rfl)
  have A10 := at_mk (st := s_transposed_rows) (ps := ["rows", "columns"]) X G g10 l10 c10 k10 (fun _ _ _ _ _ _ us hl => match us, hl with | [_, _], _ => rfl)
  have A11 := at_mk (st := s__law_number) (ps := ["cell"]) X G g11 l11 c11 k11 (fun _ _ _ _ _ _ us hl => match us, hl with | [_], _ => rfl)
  have A12 := at_mk (st := s__law_draws) (ps := ["script"]) X G g12 l12 c12 k12 (fun _ _ _ _ _ _ us hl => match us, hl with | [_], _ => rfl)
  have A13 := at_mk (st := s__law_draw) (ps := ["draws"]) X G g13 l13 c13 k13 (fun _ _ _ _ _ _ us hl => match us, hl with | [_], _ => rfl)
  have A14 := at_mk (st := s__law_pick) (ps := ["draws", "many"]) X G g14 l14 c14 k14 (fun _ _ _ _ _ _ us hl => match us, hl with | [_, _], _ => rfl)
  have A15 := at_mk (st := s__law_matrix) (ps := ["draws", "rows", "columns"]) X G g15 l15 c15 k15 (fun _ _ _ _ _ _ us hl => match us, hl with | [_, _, _], _ => rfl)
  have A16 := at_mk (st := s__law_times) (ps := ["vector", "rows", "columns"]) X G g16 l16 c16 k16 (fun _ _ _ _ _ _ us hl => match us, hl with | [_, _, _], _ => rfl)
  have A17 := at_mk (st := s__law_product) (ps := ["one", "other", "columns"]) X G g17 l17 c17 k17 (fun _ _ _ _ _ _ us hl => match us, hl with | [_, _, _], _ => rfl)
  have A18 := at_mk (st := s__law_unit) (ps := ["size"]) X G g18 l18 c18 k18 (fun _ _ _ _ _ _ us hl => match us, hl with | [_], _ => rfl)
  have A19 := at_mk (st := s__law_is_numbers) (ps := ["vector", "size"]) X G g19 l19 c19 k19 (fun _ _ _ _ _ _ us hl => match us, hl with | [_, _], _ => rfl)
  have A20 := at_mk (st := s__law_is_rows) (ps := ["rows", "count", "columns"]) X G g20 l20 c20 k20 (fun _ _ _ _ _ _ us hl => match us, hl with | [_, _, _], _ => rfl)
  have A21 := at_mk (st := s__law_refuses) (ps := ["way", "one", "other", "columns"]) X G g21 l21 c21 k21 (fun _ _ _ _ _ _ us hl => match us, hl with | [_, _, _, _], _ => rfl)
  have A22 := at_mk (st := s__law_is_refused) (ps := ["one", "middle", "columns"]) X G g22 l22 c22 k22 (fun _ _ _ _ _ _ us hl => match us, hl with | [_, _, _], _ => rfl)
  have M_MOST_LINES := PySem.W.mg_of X G gM_MOST_LINES
  have B_NotMatrix : ExN K mg "NotMatrix" c_NotMatrix := ⟨PySem.W.mg_of X G gBc_NotMatrix, kBc_NotMatrix, xBc_NotMatrix, bBc_NotMatrix, tBc_NotMatrix⟩
  have B_WedgeError : ExN K mg "WedgeError" c_WedgeError := ⟨PySem.W.mg_of X G gBc_WedgeError, kBc_WedgeError, xBc_WedgeError, bBc_WedgeError, tBc_WedgeError⟩
  have B_BadNumber : ExN K mg "BadNumber" c_BadNumber := ⟨PySem.W.mg_of X G gBc_BadNumber, kBc_BadNumber, xBc_BadNumber, bBc_BadNumber, tBc_BadNumber⟩
  have e_NotMatrix : ExcC K c_NotMatrix := ⟨e1c_NotMatrix, e2c_NotMatrix, bBc_NotMatrix, e3c_NotMatrix, e4c_NotMatrix, e5, e6, e7c_NotMatrix⟩
  have m_W : PySem.W.exmOne K (.ref c_NotMatrix) (.ref c_WedgeError) = some true := exm_of bBc_WedgeError (kit_own iBc_WedgeError tBc_WedgeError sc_NotMatrixc_WedgeError)
  have m_N : PySem.W.kitOne K (.ref c_NotMatrix) (.ref c_NotMatrix) = some true := kit_yes (kit_own iBc_NotMatrix tBc_NotMatrix sc_NotMatrixc_NotMatrix)
  have m_B : PySem.W.kitOne K (.ref c_NotMatrix) (.ref c_BadNumber) = some false := kit_no nc_NotMatrixc_BadNumber (kit_own iBc_BadNumber tBc_BadNumber sc_NotMatrixc_BadNumber)
  exact ⟨_, fun s u => .of_eq rfl, fun base _ _ => 
    have G__law_number : FnOk P w K mg base CX0 1 f11 _ ["cell"] (sp__law_number K) := ok__law_number (A11).F N
    have G__law_draws : FnOk P w K mg base CX0 2 f12 _ ["script"] (sp__law_draws K) := ok__law_draws (A12).F N A11 G__law_number
    have G__law_draw : FnOk P w K mg base CX0 1 f13 _ ["draws"] (sp__law_draw K) := ok__law_draw (A13).F N
    have G__law_pick : FnOk P w K mg base CX0 2 f14 _ ["draws", "many"] (sp__law_pick K) := ok__law_pick (A14).F N A13 G__law_draw
    have G__law_matrix : FnOk P w K mg base CX0 3 f15 _ ["draws", "rows", "columns"] (sp__law_matrix K) := ok__law_matrix (A15).F N A14 G__law_pick A13 G__law_draw
    have G_is_matrix : FnOk P w K mg base CX0 1 f0 _ ["rows", "columns"] (sp_is_matrix K) := ok_is_matrix (A0).F N M_MOST_LINES
    have G_check_matrix : FnOk P w K mg base (L2.CX P w) 2 f1 _ ["rows", "columns"] (sp_check_matrix K c_NotMatrix) := ok_check_matrix (A1).F N B_NotMatrix A0 G_is_matrix
    have G_vector_product : FnOk P w K mg base CX0 1 f9 _ ["vector", "rows", "columns"] (sp_vector_product K) := ok_vector_product (A9).F N
    have G_product_rows : FnOk P w K mg base CX0 2 f8 _ ["one", "other", "columns"] (sp_product_rows K) := ok_product_rows (A8).F N A9 G_vector_product
    have G_product : FnOk P w K mg base (L2.CX P w) 3 f4 _ ["one", "other", "columns"] (sp_product K c_NotMatrix) := ok_product (A4).F N B_NotMatrix A1 G_check_matrix A8 G_product_rows
    have G_check_vector : FnOk P w K mg base (L2.CX P w) 1 f2 _ ["vector", "size"] (sp_check_vector K c_NotMatrix) := ok_check_vector (A2).F N B_NotMatrix
    have G_times : FnOk P w K mg base (L2.CX P w) 3 f5 _ ["vector", "rows", "columns"] (sp_times K c_NotMatrix) := ok_times (A5).F N B_NotMatrix A1 G_check_matrix A2 G_check_vector A9 G_vector_product
    have G_transposed_rows : FnOk P w K mg base CX0 1 f10 _ ["rows", "columns"] (sp_transposed_rows K) := ok_transposed_rows (A10).F N
    have G_transposed : FnOk P w K mg base (L2.CX P w) 3 f6 _ ["rows", "columns"] (sp_transposed K c_NotMatrix) := ok_transposed (A6).F N B_NotMatrix A1 G_check_matrix A10 G_transposed_rows
    have G_identity_rows : FnOk P w K mg base CX0 1 f7 _ ["size"] (sp_identity_rows K) := ok_identity_rows (A7).F N
    have G_identity : FnOk P w K mg base (L2.CX P w) 2 f3 _ ["size"] (sp_identity K c_NotMatrix) := ok_identity (A3).F N M_MOST_LINES B_NotMatrix A7 G_identity_rows
    have G__law_refuses : FnOk P w K mg base CX0 4 f21 _ ["way", "one", "other", "columns"] (sp__law_refuses K) := ok__law_refuses (A21).F N B_WedgeError B_NotMatrix B_BadNumber A4 G_product A5 G_times A6 G_transposed A3 G_identity e_NotMatrix m_W m_N m_B
    have G__law_is_refused : FnOk P w K mg base CX0 5 f22 _ ["one", "middle", "columns"] (sp__law_is_refused K) := ok__law_is_refused (A22).F N A21 G__law_refuses
    have G__law_is_numbers : FnOk P w K mg base CX0 1 f19 _ ["vector", "size"] (sp__law_is_numbers K) := ok__law_is_numbers (A19).F N
    have G__law_is_rows : FnOk P w K mg base CX0 2 f20 _ ["rows", "count", "columns"] (sp__law_is_rows K) := ok__law_is_rows (A20).F N A19 G__law_is_numbers
    have G__law_times : FnOk P w K mg base CX0 1 f16 _ ["vector", "rows", "columns"] (sp__law_times K) := ok__law_times (A16).F N
    have G__law_product : FnOk P w K mg base CX0 2 f17 _ ["one", "other", "columns"] (sp__law_product K) := ok__law_product (A17).F N A16 G__law_times
    have G__law_unit : FnOk P w K mg base CX0 1 f18 _ ["size"] (sp__law_unit K) := ok__law_unit (A18).F N
    ok_law (fun_mk ll cl kl) N B_NotMatrix A12 G__law_draws A14 G__law_pick A15 G__law_matrix A4 G_product A5 G_times A6 G_transposed A22 G__law_is_refused A0 G_is_matrix A20 G__law_is_rows A17 G__law_product A19 G__law_is_numbers A16 G__law_times A3 G_identity A18 G__law_unit⟩
end L2.Px

open PySem PySem.W PyProof.Rows
set_option maxRecDepth 100000 in
set_option maxHeartbeats 8000000 in
theorem PySem.Challenge.cw_wedgespace_k38_products_of_matrices_holds : PySem.Challenge.rw_wedgespace_k38_products_of_matrices.Holds := by
  w_on; o_law; k_head; (case hw => w_witness2)
  k_fill
  refine L2.Px.walkG (l := PySem.Challenge.rw_wedgespace_k38_products_of_matrices) (n := 63) (k := 6) (x := "script") (sp := L2.Px.sp_law) rfl (by decide) rfl ⟨rfl, by decide, by decide⟩ (fun w h Y => PySem.W.kIn_of Y) ?F ?S
  case F =>
    intro w mg fa h KX G hmg
    refine' L2.Px.all_mk KX G hmg ?zgM_MOST_LINES ?zgBc_NotMatrix ?zkBc_NotMatrix ?zxBc_NotMatrix ?zbBc_NotMatrix ?ztBc_NotMatrix ?zgBc_WedgeError ?zkBc_WedgeError ?zxBc_WedgeError ?zbBc_WedgeError ?ztBc_WedgeError ?zgBc_BadNumber ?zkBc_BadNumber ?zxBc_BadNumber ?zbBc_BadNumber ?ztBc_BadNumber ?ze1c_NotMatrix ?ze2c_NotMatrix ?ze3c_NotMatrix ?ze4c_NotMatrix ?ze7c_NotMatrix ?ze5 ?ze6 ?ziBc_NotMatrix ?ziBc_WedgeError ?ziBc_BadNumber ?zsc_NotMatrixc_NotMatrix ?zsc_NotMatrixc_WedgeError ?zsc_NotMatrixc_BadNumber ?znc_NotMatrixc_BadNumber ?zg0 ?zl0 ?zc0 ?zk0 ?zg1 ?zl1 ?zc1 ?zk1 ?zg2 ?zl2 ?zc2 ?zk2 ?zg3 ?zl3 ?zc3 ?zk3 ?zg4 ?zl4 ?zc4 ?zk4 ?zg5 ?zl5 ?zc5 ?zk5 ?zg6 ?zl6 ?zc6 ?zk6 ?zg7 ?zl7 ?zc7 ?zk7 ?zg8 ?zl8 ?zc8 ?zk8 ?zg9 ?zl9 ?zc9 ?zk9 ?zg10 ?zl10 ?zc10 ?zk10 ?zg11 ?zl11 ?zc11 ?zk11 ?zg12 ?zl12 ?zc12 ?zk12 ?zg13 ?zl13 ?zc13 ?zk13 ?zg14 ?zl14 ?zc14 ?zk14 ?zg15 ?zl15 ?zc15 ?zk15 ?zg16 ?zl16 ?zc16 ?zk16 ?zg17 ?zl17 ?zc17 ?zk17 ?zg18 ?zl18 ?zc18 ?zk18 ?zg19 ?zl19 ?zc19 ?zk19 ?zg20 ?zl20 ?zc20 ?zk20 ?zg21 ?zl21 ?zc21 ?zk21 ?zg22 ?zl22 ?zc22 ?zk22 ?zgl ?zll ?zcl ?zkl ?zn0 ?zn1 ?zn2 ?zn3 ?zn4 ?zn5 ?zn6 ?zn7

    (case zgM_MOST_LINES => k_is)
    (case zgBc_NotMatrix => k_is)
    (case zkBc_NotMatrix => k_is)
    (case zxBc_NotMatrix => k_exc)
    (case zbBc_NotMatrix => k_is)
    (case ztBc_NotMatrix => k_is)
    (case zgBc_WedgeError => k_is)
    (case zkBc_WedgeError => k_is)
    (case zxBc_WedgeError => k_exc)
    (case zbBc_WedgeError => k_is)
    (case ztBc_WedgeError => k_is)
    (case zgBc_BadNumber => k_is)
    (case zkBc_BadNumber => k_is)
    (case zxBc_BadNumber => k_exc)
    (case zbBc_BadNumber => k_is)
    (case ztBc_BadNumber => k_is)
    (case ze1c_NotMatrix => k_is)
    (case ze2c_NotMatrix => k_is)
    (case ze3c_NotMatrix => k_is)
    (case ze4c_NotMatrix => k_is)
    (case ze7c_NotMatrix => k_is)
    (case ze5 => k_is)
    (case ze6 => k_is)
    (case ziBc_NotMatrix => k_is)
    (case ziBc_WedgeError => k_is)
    (case ziBc_BadNumber => k_is)
    (case zsc_NotMatrixc_NotMatrix => first | rfl | k_is)
    (case zsc_NotMatrixc_WedgeError => k_is)
    (case zsc_NotMatrixc_BadNumber => k_is)
    (case znc_NotMatrixc_BadNumber => rfl)
    (case zg0 => k_is)
    (case zl0 => k_is)
    (case zc0 => k_is)
    (case zk0 => k_is)
    (case zg1 => k_is)
    (case zl1 => k_is)
    (case zc1 => k_is)
    (case zk1 => k_is)
    (case zg2 => k_is)
    (case zl2 => k_is)
    (case zc2 => k_is)
    (case zk2 => k_is)
    (case zg3 => k_is)
    (case zl3 => k_is)
    (case zc3 => k_is)
    (case zk3 => k_is)
    (case zg4 => k_is)
    (case zl4 => k_is)
    (case zc4 => k_is)
    (case zk4 => k_is)
    (case zg5 => k_is)
    (case zl5 => k_is)
    (case zc5 => k_is)
    (case zk5 => k_is)
    (case zg6 => k_is)
    (case zl6 => k_is)
    (case zc6 => k_is)
    (case zk6 => k_is)
    (case zg7 => k_is)
    (case zl7 => k_is)
    (case zc7 => k_is)
    (case zk7 => k_is)
    (case zg8 => k_is)
    (case zl8 => k_is)
    (case zc8 => k_is)
    (case zk8 => k_is)
    (case zg9 => k_is)
    (case zl9 => k_is)
    (case zc9 => k_is)
    (case zk9 => k_is)
    (case zg10 => k_is)
    (case zl10 => k_is)
    (case zc10 => k_is)
    (case zk10 => k_is)
    (case zg11 => k_is)
    (case zl11 => k_is)
    (case zc11 => k_is)
    (case zk11 => k_is)
    (case zg12 => k_is)
    (case zl12 => k_is)
    (case zc12 => k_is)
    (case zk12 => k_is)
    (case zg13 => k_is)
    (case zl13 => k_is)
    (case zc13 => k_is)
    (case zk13 => k_is)
    (case zg14 => k_is)
    (case zl14 => k_is)
    (case zc14 => k_is)
    (case zk14 => k_is)
    (case zg15 => k_is)
    (case zl15 => k_is)
    (case zc15 => k_is)
    (case zk15 => k_is)
    (case zg16 => k_is)
    (case zl16 => k_is)
    (case zc16 => k_is)
    (case zk16 => k_is)
    (case zg17 => k_is)
    (case zl17 => k_is)
    (case zc17 => k_is)
    (case zk17 => k_is)
    (case zg18 => k_is)
    (case zl18 => k_is)
    (case zc18 => k_is)
    (case zk18 => k_is)
    (case zg19 => k_is)
    (case zl19 => k_is)
    (case zc19 => k_is)
    (case zk19 => k_is)
    (case zg20 => k_is)
    (case zl20 => k_is)
    (case zc20 => k_is)
    (case zk20 => k_is)
    (case zg21 => k_is)
    (case zl21 => k_is)
    (case zc21 => k_is)
    (case zk21 => k_is)
    (case zg22 => k_is)
    (case zl22 => k_is)
    (case zc22 => k_is)
    (case zk22 => k_is)
    (case zgl => k_is)
    (case zll => k_is)
    (case zcl => k_is)
    (case zkl => k_is)
    (case zn0 => k_is)
    (case zn1 => k_is)
    (case zn2 => k_is)
    (case zn3 => k_is)
    (case zn4 => k_is)
    (case zn5 => k_is)
    (case zn6 => k_is)
    (case zn7 => k_is)
  case S =>
    intro K H a ns hl hS
    exact ⟨a, ns, rfl, hS, hl, fun _ => rfl⟩


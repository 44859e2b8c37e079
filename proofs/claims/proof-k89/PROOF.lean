import PyProof.Rows.All
import Wide.All
import OpenK.AllK
import Wide.FinOn
import HandS.ForExc
import HandS.Comp
import PyProof.ReprRoads
import KE.GoesMore
import HandS.Iter
import HandS.SortInts
import HandS.Walk
import HandS.Base
import HandS.Call
import HandS.Exc
import PyProof.ReprLen
import HandS.Zip
import HandS.Style
import HandS.Deep
import HandS.ExcIs
import HandS.IsInst
import HandS.TupSets
import HandS.TupAny
import HandS.Conv
import HandS.Rev
import HandS.ExcInit
import KE.KIndexOf
import KE.KSortedM
import KE.KEqDeep
import KE.KRevSl
import HandS.SetKeys
import HandS.SetIn
import HandS.Words
import HandS.WordsExc
import KE.KSetDisp
import HandS.DictComp
import HandS.ExcField
import KE.KExcSuper
import HandS.Nested
import HandS.ClsMeth
import HandS.FStr
import HandS.List
import KE.DataCmp
import HandS.Text
import PySem.Challenge.RW_wedgespace_k89_words_of_lines
set_option Elab.async false
set_option linter.all false
set_option maxRecDepth 100000
set_option maxHeartbeats 4000000
/-! List comprehensions of any number of clauses. -/
namespace L2.Px
open PySem PySem.Spec PyProof.Rows

/-- what a clause does with an item that has passed: from slots and heap, to reach the wanted heap -/
abbrev TB := St → Hp → (Hp → Prop) → Prop

/-- the rest of a turn at the last clause -/
def tailE (elt : Expr) (acc : Value) (env : Env) (c : Code) : Sem Fin := do
  (do let _ ← call (.builtin "list.append") [acc, ← eval elt env])
  again c
/-- the rest of a turn ahead of another clause, its source i1 -/
def tailN (nd : Expr) (d : Nat) (i1 : Expr) (acc : Value) (env : Env) (c : Code) : Sem Fin := do
  let x ← eval i1 env
  standAt i1.pos
  let y ← foldedSetIterable i1 env x
  let it ← holding [y] (pyIter y)
  let _ ← runOwn (.compStart nd d it acc env) env
  again c

/-- one turn of a clause, its rest a letter -/
def turnC (t i : Expr) (ifs : List Expr) (it : Value) (env : Env) (rest : Sem Fin) (c : Code) : Sem Fin := do
  standAt i.pos
  match ← pyNext it with
  | none => pure (.done .next)
  | some v =>
    letOwnedTupleGo t it v
    assign t env v
    let mut ok := true
    for c in ifs do
      if ok then ok ← isTrue c env (eval c env)
    if ok then rest else again c

theorem turn_last {elt t i : Expr} {ifs : List Expr} {gs : List Comprehension} {sc : Scope} {ps : Pos} {d : Nat} {it acc : Value} {env : Env} (hg : gs[d]? = some ⟨t, i, ifs, 0⟩) (hn : gs[d + 1]? = none) :
    compTurn (.ListComp elt gs sc ps) d it acc env = turnC t i ifs it env (tailE elt acc env (.compLoop (.ListComp elt gs sc ps) d it acc env)) (.compLoop (.ListComp elt gs sc ps) d it acc env) := by
  unfold compTurn turnC tailE
  simp only [hg, hn]
  rfl
theorem turn_next {elt t i t1 i1 : Expr} {ifs ifs1 : List Expr} {gs : List Comprehension} {sc : Scope} {ps : Pos} {d : Nat} {it acc : Value} {env : Env} (hg : gs[d]? = some ⟨t, i, ifs, 0⟩) (hn : gs[d + 1]? = some ⟨t1, i1, ifs1, 0⟩) :
    compTurn (.ListComp elt gs sc ps) d it acc env = turnC t i ifs it env (tailN (.ListComp elt gs sc ps) (d + 1) i1 acc env (.compLoop (.ListComp elt gs sc ps) d it acc env)) (.compLoop (.ListComp elt gs sc ps) d it acc env) := by
  unfold compTurn turnC tailN
  simp only [hg, hn]
  rfl

/-- the wish where nothing is raised -/
abbrev F0 : Value → Shared → Prop := fun _ _ => False

/-- the rest of a turn, from the block's state: it comes to the turn's end with the wanted heap; ws: the names that it forgets -/
structure PB (X : Cx) (rest : Code → Sem Fin) (ws : List Nat) (tb : TB) : Prop where
  run : ∀ (pins : List (Addr × Obj)) (s : Shared) (σ : St) (H : Hp) (Nx : Hp → Prop) (c : Code), Inv X pins σ H s → tb σ H Nx →
    wpAny (model X.prog X.w) X.A (rest c) (fun f s' => f = .again c ∧ ∃ H', Inv X pins (wipe σ ws) H' s' ∧ Nx H') F0 s

/-- a clause's turns: W by the turn and a measure -/
def ClStep (J : It) (g : TG) (tt : TT) (vs : List Nat) (tb : TB) (σ : St) (W : Nat → Nat → Hp → Prop) (Nx0 : Hp → Prop) : Prop :=
  ∀ i m H, W i m H → (J.stop i H ∧ Nx0 H) ∨ (J.go i H ∧ ∃ Nx : Hp → Prop, (∀ H', Nx H' → ∃ m', m' < m ∧ W (i + 1) m' H') ∧
    ∀ x H', J.yld i H x H' → g x (wipe σ vs) H' fun σ2 H2 => wipe σ2 vs = wipe σ vs ∧ tt σ2 H2 fun b H3 => if b = true then tb σ2 H3 Nx else Nx H3)

theorem weakC {X : Cx} {pins : List (Addr × Obj)} {σ σ2 : St} {H : Hp} {s : Shared} {vs ws : List Nat} (I : Inv X pins (wipe σ2 ws) H s) (e : wipe σ2 vs = wipe σ vs) (sub : ∀ j ∈ ws, j ∈ vs) : Inv X pins (wipe σ vs) H s := by
  refine I.weak (by rw [← e, wipe_length, wipe_length]) fun j v q => ?_
  rw [← e] at q
  obtain ⟨q1, q2⟩ := wipe_some q
  rw [wipe_out fun z => q2 (sub j z)]
  exact q1

section
variable {X : Cx} {elt t i : Expr} {ifs : List Expr} {gs : List Comprehension} {sc : Scope} {ps : Pos} {d : Nat} {acc : Value}
  {g : TG} {tt : TT} {tb : TB} {vs ws : List Nat} {J : It} {fp : List Addr} {it : Addr} {tn : Nat → Heap → Prop} {pins : List (Addr × Obj)} {s : Shared} {σ : St} {H : Hp} {Nx0 : Hp → Prop}

/-- the loop of a clause -/
theorem loop_run {rest : Code → Sem Fin} (hx : X.xe = F0) (hc : X.calm = true)
    (ht : ∀ it, compTurn (.ListComp elt gs sc ps) d it acc X.env = turnC t i ifs it X.env (rest (.compLoop (.ListComp elt gs sc ps) d it acc X.env)) (.compLoop (.ListComp elt gs sc ps) d it acc X.env))
    (pg : PG X t g) (pt : PTs X ifs tt) (pb : PB X rest ws tb) (sub : ∀ j ∈ ws, j ∈ vs)
    (T : Turn X.prog X.w X.K t J fp it tn) (I : Inv X pins (wipe σ vs) H s) (st : tn 0 s.heap) (hf : ∀ b ∈ fp, FpOk X pins H b)
    {W : Nat → Nat → Hp → Prop} {m : Nat} (w0 : W 0 m H) (step : ClStep J g tt vs tb σ W Nx0) :
    codeAny (model X.prog X.w) X.A (.compLoop (.ListComp elt gs sc ps) d (.ref it) acc X.env) (fun r s' => r = .ok .next ∧ ∃ H', Inv X pins (wipe σ vs) H' s' ∧ Nx0 H') s := by
  refine codeAny_loop rfl (fun m s' => ∃ k H', Inv X pins (wipe σ vs) H' s' ∧ tn k s'.heap ∧ (∀ b ∈ fp, H' b = none) ∧ W k m H') (fun m s1 hI => ?_) m ⟨0, H, I, st, fun b hb => (hf b hb).1, w0⟩
  obtain ⟨k, H1, I1, st1, n1, w1⟩ := hI
  have fok : ∀ {H' : Hp}, (∀ b ∈ fp, H' b = none) → ∀ b ∈ fp, FpOk X pins H' b := fun n b hb => ⟨n b hb, (hf b hb).2⟩
  show wpAny _ X.A (Sem.onRaise (compTurn (.ListComp elt gs sc ps) d (.ref it) acc X.env) _) _ _ s1
  refine wpAny_noted (wpAny_mono (Q := fun fin s' => match fin with
    | .done f => f = .next ∧ ∃ H', Inv X pins (wipe σ vs) H' s' ∧ Nx0 H'
    | .again c' => c' = .compLoop (.ListComp elt gs sc ps) d (.ref it) acc X.env ∧ ∃ m', m' < m ∧ ∃ k H', Inv X pins (wipe σ vs) H' s' ∧ tn k s'.heap ∧ (∀ b ∈ fp, H' b = none) ∧ W k m' H') (E := F0) ?_ (fun fin s' h => ?_) fun _ _ z => z.elim)
  · rw [ht]
    unfold turnC
    refine wpAny_bind (wpAny_standAt (wpAny_bind ?_))
    rcases step k m H1 w1 with ⟨stop, q⟩ | ⟨go, Nx, hNx, q⟩
    · refine thnF (T.done X rfl rfl rfl hc k pins s1 _ H1 F0 I1 (fok n1) st1 stop) fun r s2 ⟨hr, I2⟩ => ?_
      subst hr
      exact wpAny_pure ⟨rfl, H1, I2, q⟩
    · refine thnF (T.item X rfl rfl rfl hc k pins s1 _ H1 F0 I1 (fok n1) st1 go) fun r s2 ⟨u, hr, h2⟩ => ?_
      subst hr
      refine wpAny_bind (thnF h2 fun _ s3 ⟨x, H3, I3, r3, y3, st3, n3⟩ => ?_)
      have I3' := I3.pinned (fok n3) (T.obj _ _ st3)
      have a1 := pg.run _ s3 _ H3 x u _ I3' r3 (q x H3 y3)
      rw [hx] at a1
      refine wpAny_bind (thnF a1 fun _ s4 ⟨σ4, H4, I4, e4, q4⟩ => ?_)
      have a2 := pt.run _ s4 σ4 H4 _ I4 q4
      rw [hx] at a2
      -- behind the rest, whatever it was
      have fin : ∀ {s' : Shared} {H' : Hp}, Inv X (pins ++ pinsAt fp s3.heap) (wipe σ vs) H' s' → Nx H' → ∃ m', m' < m ∧ ∃ k H', Inv X pins (wipe σ vs) H' s' ∧ tn k s'.heap ∧ (∀ b ∈ fp, H' b = none) ∧ W k m' H' := fun {s' H'} I' nx => by
        obtain ⟨m', hm, w'⟩ := hNx H' nx
        have stay : ∀ b ∈ fp, ∀ o, s3.heap.get? b = some o → s'.heap.get? b = some o ∧ H' b = none := fun b hb o e => by
          have z := I'.pin (b, o) (List.mem_append_right _ (List.mem_append_right _ (mem_pinsAt hb e)))
          exact ⟨z.1, z.2.1⟩
        refine ⟨m', hm, k + 1, H', I'.unpinned, T.keep _ _ _ st3 fun b hb o e => (stay b hb o e).1, fun b hb => ?_, w'⟩
        obtain ⟨o, e, _⟩ := T.obj _ _ st3 b hb
        exact (stay b hb o e).2
      refine wpAny_bind (thnF a2 fun b s5 ⟨H5, I5, q5⟩ => ?_)
      cases b with
      | false =>
        simp only [Bool.false_eq_true, if_false] at q5 ⊢
        exact wpAny_pure ⟨rfl, fin (weakC (ws := []) I5 e4 (fun j z => by cases z)) q5⟩
      | true =>
        simp only [if_true] at q5 ⊢
        refine thnF (pb.run _ s5 σ4 H5 Nx _ I5 q5) fun f s6 ⟨hf6, H6, I6, nx⟩ => ?_
        subst hf6
        exact ⟨rfl, fin (weakC I6 e4 sub) nx⟩
  · cases fin with
    | done f => exact ⟨by rw [h.1], h.2⟩
    | again c' => exact h

/-- the last clause's rest: the element, appended to the list at D -/
def tElt (D : Addr) (te : TE) : TB := fun σ H Nx => te σ H fun y H' => ∃ a, H' D = some (.lst a) ∧ a.length < sizeLine ∧ Nx (upd H' D (.lst (a ++ [y])))
theorem pb_elt {D : Addr} {te : TE} (hx : X.xe = F0) (he : PE X elt te) : PB X (tailE elt (.ref D) X.env) [] (tElt D te) := by
  refine ⟨fun pins s σ H Nx c I h => ?_⟩
  unfold tailE
  have a := he.run pins s σ H _ I h
  rw [hx] at a
  refine wpAny_bind (wpAny_bind (thnF a fun u s1 ⟨y, H1, I1, r1, ac, hD, hz, nx⟩ => wpAny_bind (app_ok I1 hD hz r1 fun s2 I2 => wpAny_pure (wpAny_pure ⟨rfl, _, I2, nx⟩))))

/-- another clause within -/
def tCl (wi : TI) (g : TG) (tt : TT) (vs : List Nat) (tb : TB) : TB := fun σ H Nx => wi σ H fun J H1 => ∃ W : Nat → Nat → Hp → Prop, (∃ m, W 0 m H1) ∧ ClStep J g tt vs tb σ W Nx
theorem pb_cl {rest : Code → Sem Fin} {wi : TI} (hx : X.xe = F0) (hc : X.calm = true) (hd : gs[d]? = some ⟨t, i, ifs, 0⟩)
    (ht : ∀ it, compTurn (.ListComp elt gs sc ps) d it acc X.env = turnC t i ifs it X.env (rest (.compLoop (.ListComp elt gs sc ps) d it acc X.env)) (.compLoop (.ListComp elt gs sc ps) d it acc X.env))
    (pi : PI X t i wi) (pg : PG X t g) (pt : PTs X ifs tt) (pb : PB X rest ws tb) (sub : ∀ j ∈ ws, j ∈ vs) (hs : ∀ x, foldedSetIterable i X.env x = pure x) :
    PB X (tailN (.ListComp elt gs sc ps) d i acc X.env) vs (tCl wi g tt vs tb) := by
  refine ⟨fun pins s σ H Nx c I h => ?_⟩
  unfold tailN
  have a := pi.run pins s σ H _ I h
  rw [hx] at a
  refine wpAny_bind (thnF a fun v s1 h1 => wpAny_bind (wpAny_standAt (wpAny_bind (wpAny_of_eq (hs v) (wpAny_bind (wpAny_holding (thnF h1 fun itv s2 h2 => ?_)))))))
  obtain ⟨it, fp, tn, J, H2, e, I2, T, st2, f2, W, ⟨m, w0⟩, step⟩ := h2
  subst e
  have loop := loop_run (H := H2) hx hc ht pg pt pb sub T (I2.weak (wipe_length _ _) fun j v q => (wipe_some q).1) st2 f2 w0 step
  refine wpAny_bind (wpAny_runOwn ?_)
  rw [Around.mark_none]
  refine codeAny_of_tree ?_
  show wpAny _ _ (Sem.onRaise (compStart (.ListComp elt gs sc ps) d (.ref it) acc X.env) _) _ _ s2
  refine wpAny_notedAt ?_
  unfold compStart
  have hcl : clausesOf (.ListComp elt gs sc ps) = gs := rfl
  rw [hcl, hd]
  have done : codeAny (model X.prog X.w) X.A (.compLoop (.ListComp elt gs sc ps) d (.ref it) acc X.env) (fun r s' => match r with
      | .ok f => wpAny (model X.prog X.w) X.A (again c) (fun f s' => f = .again c ∧ ∃ H', Inv X pins (wipe σ vs) H' s' ∧ Nx H') F0 s'
      | .error e => cameBackBy (model X.prog X.w) X.A X.env F0 e s') s2 := codeAny_mono loop fun r s' ⟨hr, H', I', q⟩ => by
    subst hr
    exact wpAny_pure ⟨rfl, H', I', q⟩
  show wpAny _ _ (ask >>= _) _ _ s2
  refine wpAny_bind (wpAny_askSetting (wpAny_ite ?_))
  split
  · first
      | exact wpAny_bind (wpAny_pure (wpAny_pure (And.intro rfl done)))
      | exact wpAny_pure (And.intro rfl done)
  · refine wpAny_bind (wpAny_rule (wpAny_bind (wpAny_standAt (wpAny_bind (T.self X.A 0 s2 _ _ st2 ?_)))))
    exact wpAny_pure (And.intro rfl done)

/-- [elt for tg in iter if .. for .. ..]: D the new list, tb D what the first clause does with an item -/
def tLcN (wi : TI) (g : TG) (tt : TT) (vs : List Nat) (tb : Addr → TB) : TE := fun σ H Q => wi σ H fun J H1 => ∀ D, H1 D = none → ∃ W : Nat → Nat → Hp → Prop, (∃ m, W 0 m (upd H1 D (.lst []))) ∧ ClStep J g tt vs (tb D) σ W (fun H' => Q (.ref D) H')

/-- the block, from the state in which its list stands -/
theorem block_run {tg iter : Expr} {rs : List Comprehension} {scope : Scope} {own : List (Str × Nat)} {pos : Pos} {tb : TB} {rest : Env → Code → Sem Fin} {D : Addr} {W : Nat → Nat → Hp → Prop} {m0 : Nat} {R : Result → Shared → Prop}
    (hc : X.calm = true) (hN : X.N.Nodup) (I : Inv X pins σ H s) (ok : BlkOk X.N X.env.scope scope own)
    (ht : ∀ it env, compTurn (.ListComp elt (⟨tg, iter, ifs, 0⟩ :: rs) scope pos) 0 it (.ref D) env = turnC tg iter ifs it env (rest env (.compLoop (.ListComp elt (⟨tg, iter, ifs, 0⟩ :: rs) scope pos) 0 it (.ref D) env)) (.compLoop (.ListComp elt (⟨tg, iter, ifs, 0⟩ :: rs) scope pos) 0 it (.ref D) env))
    (hg : ∀ (s : Shared) (H : Hp) (C : Addr) (cl : List (Str × Addr)) (fp : List Addr), PG (X.blk s H scope (compEnvC scope cl C X.env) fp) tg g)
    (hp : ∀ (s : Shared) (H : Hp) (C : Addr) (cl : List (Str × Addr)) (fp : List Addr), PTs (X.blk s H scope (compEnvC scope cl C X.env) fp) ifs tt)
    (hb : ∀ (s : Shared) (H : Hp) (C : Addr) (cl : List (Str × Addr)) (fp : List Addr), PB (X.blk s H scope (compEnvC scope cl C X.env) fp) (rest (compEnvC scope cl C X.env)) ws tb) (sub : ∀ j ∈ ws, j ∈ own.map (·.2))
    (T : Turn X.prog X.w X.K tg J fp it tn) (st : tn 0 s.heap) (hf : ∀ b ∈ fp, FpOk X pins H b ∧ b < s.heap.objs.size) (w0 : W 0 m0 H) (step : ClStep J g tt (own.map (·.2)) tb σ W Nx0)
    (hR : ∀ s' m H', Inv X pins σ H' s' → Nx0 H' → s'.heap.Ns s.heap.objs.size m → FpOk X pins H' s.heap.objs.size → R (.ok .next) s') :
    codeAny (model X.prog X.w) X.A (.compStart (.ListComp elt (⟨tg, iter, ifs, 0⟩ :: rs) scope pos) 0 (.ref it) (.ref D) (compEnvC scope (cellsFrom (s.heap.objs.size + 1) scope.names (cloFrom X.env.cells scope.names [])) s.heap.objs.size X.env)) R
      { s with heap := pushCells (s.heap.push { cls := .type "dict", data := .dict #[] }) scope.names } := by
  have I4 := block_start I ok hN hf
  have qg := hg s H s.heap.objs.size (cellsFrom (s.heap.objs.size + 1) scope.names (cloFrom X.env.cells scope.names [])) fp
  have qp := hp s H s.heap.objs.size (cellsFrom (s.heap.objs.size + 1) scope.names (cloFrom X.env.cells scope.names [])) fp
  have qb := hb s H s.heap.objs.size (cellsFrom (s.heap.objs.size + 1) scope.names (cloFrom X.env.cells scope.names [])) fp
  have st4 : tn 0 (pushCells (s.heap.push { cls := .type "dict", data := .dict #[] }) scope.names) := T.keep _ _ _ st fun _ _ _ e => pushCells_keeps _ _ _ _ (Heap.get?_push_of_some _ e)
  generalize hce : compEnvC scope (cellsFrom (s.heap.objs.size + 1) scope.names (cloFrom X.env.cells scope.names [])) s.heap.objs.size X.env = ce at I4 qg qp qb ⊢
  have cL : ce.locals = s.heap.objs.size := by rw [← hce]; rfl
  have f4 : ∀ b ∈ fp, FpOk (X.blk s H scope ce fp) [] H b := fun b hb =>
    ⟨(hf b hb).1.1, (I4.ok.exf b hb).1, I4.ok.exfs b hb, .inl hb, fun x c e => (I4.ok.exf b hb).2 x c e, fun p hp => by cases hp⟩
  have loop := loop_run (X := X.blk s H scope ce fp) (it := it) rfl hc (fun it => ht it ce) qg qp qb sub T I4 st4 f4 w0 step
  have fin : codeAny (model X.prog X.w) X.A (.compLoop (.ListComp elt (⟨tg, iter, ifs, 0⟩ :: rs) scope pos) 0 (.ref it) (.ref D) ce) R { s with heap := pushCells (s.heap.push { cls := .type "dict", data := .dict #[] }) scope.names } := by
    refine codeAny_mono loop fun r s' ⟨hr, H', I', nx⟩ => ?_
    subst hr
    obtain ⟨m, hn, _⟩ := I'.loc
    have hn : s'.heap.Ns ce.locals m := hn
    have nC : H' ce.locals = none := I'.free
    rw [cL] at hn nC
    exact hR s' m H' (I.call' (ch := fp) I'.os I'.base I'.hok I'.bare fun b hb => let z := (hf b hb).1.2; ⟨z.2.2.1, z.1, z.2.2.2.1, z.2.2.2.2⟩) nx hn (I.fpOk (Nat.le_refl _) nC)
  exact codeAny_compStart_list fin (T.self X.A 0 _ _ _ st4 fin)

theorem lcN_core {tg iter : Expr} {rs : List Comprehension} {scope : Scope} {own : List (Str × Nat)} {pos pos' : Pos} {wi : TI} {tb : Addr → TB} {rest : Addr → Env → Code → Sem Fin}
    {use : Option (Value → Sem Unit)} {Qf : Value → Shared → Prop} {Q : VK}
    (hc : X.calm = true) (hN : X.N.Nodup) (I : Inv X pins σ H s) (hi : PI X tg iter wi) (ok : BlkOk X.N X.env.scope scope own) (hs : ∀ x, foldedSetIterable iter X.env x = pure x)
    (ht : ∀ it D env, compTurn (.ListComp elt (⟨tg, iter, ifs, 0⟩ :: rs) scope pos) 0 it (.ref D) env = turnC tg iter ifs it env (rest D env (.compLoop (.ListComp elt (⟨tg, iter, ifs, 0⟩ :: rs) scope pos) 0 it (.ref D) env)) (.compLoop (.ListComp elt (⟨tg, iter, ifs, 0⟩ :: rs) scope pos) 0 it (.ref D) env))
    (hg : ∀ (s : Shared) (H : Hp) (C : Addr) (cl : List (Str × Addr)) (fp : List Addr), PG (X.blk s H scope (compEnvC scope cl C X.env) fp) tg g)
    (hp : ∀ (s : Shared) (H : Hp) (C : Addr) (cl : List (Str × Addr)) (fp : List Addr), PTs (X.blk s H scope (compEnvC scope cl C X.env) fp) ifs tt)
    (hb : ∀ (s : Shared) (H : Hp) (C : Addr) (cl : List (Str × Addr)) (fp : List Addr) (D : Addr), PB (X.blk s H scope (compEnvC scope cl C X.env) fp) (rest D (compEnvC scope cl C X.env)) ws (tb D)) (sub : ∀ j ∈ ws, j ∈ own.map (·.2))
    (h : tLcN wi g tt (own.map (·.2)) tb σ H Q)
    (hR : ∀ D C s' m H', Inv X pins σ H' s' → Q (.ref D) H' → s'.heap.Ns C m → FpOk X pins H' C → compPost (model X.prog X.w) X.A X.xe use Qf (.ref D) C (.ok .next) s') :
    wpAny (model X.prog X.w) X.A (comprehension (.ListComp elt (⟨tg, iter, ifs, 0⟩ :: rs) scope pos) scope X.env pos' (newList []) false (eval iter X.env) use) Qf X.xe s := by
  have hfr : ∀ y ∈ scope.names, y.2 = .free → ∃ c, X.env.cells.lookup y.1 = some c := fun y hy e =>
    I.ok.has _ (ok.free y hy e)
  refine wpAny_comprehension_free (use := use) rfl hs (closure_ok hfr) ok.kind (fun y hy e => (ok.uniq y hy).trans (congrArg some e))
    (thn (hi.run pins s σ H _ I h) fun xv s1 h1 => thn h1 fun itv s2 ⟨it, fp, tn, J, H2, e, I2, T, st2, f2, q⟩ => ?_)
  subst e
  refine wpAny_newObj_type (newEnv_comp ?_) (Nat.zero_le _)
  have hfree : H2 s2.heap.objs.size = none := I2.hok.fresh (Nat.le_refl _)
  obtain ⟨W, ⟨m0, w0⟩, step⟩ := q _ hfree
  have small : ∀ b ∈ fp, b < s2.heap.objs.size := fun b hb => let ⟨_, e, _⟩ := T.obj _ _ st2 b hb; Heap.lt_size e
  have I3 : Inv X pins σ (upd H2 s2.heap.objs.size (.lst [])) { s2 with heap := s2.heap.push { cls := .type "list", data := .seq ([] : List Value).toArray } } :=
    I2.laid (t' := s2.toks) (fun _ _ e => Heap.get?_push_of_some _ e) (Nat.le_refl _) ⟨Nat.zero_le _, [], 0, .nil, Heap.get?_push_size _ rfl⟩
  refine block_run (T := T) (tb := tb s2.heap.objs.size) (rest := rest s2.heap.objs.size) hc hN I3 ok (fun it env => ht it _ env) hg hp (fun s H C cl fp => hb s H C cl fp _) sub (T.keep _ _ _ st2 fun _ _ _ e => Heap.get?_push_of_some _ e)
    (fun b hb => ⟨⟨(upd_ne (Nat.ne_of_lt (small b hb))).trans (f2 b hb).1, (f2 b hb).2⟩, ?_⟩) w0 step (fun s' m H' I' q hn f => hR _ _ s' m H' I' q hn f)
  show b < (s2.heap.push _).objs.size
  rw [Heap.size_push]
  exact Nat.lt_succ_of_lt (small b hb)

/-- the rule, as a value -/
theorem pe_lcN {tg iter : Expr} {rs : List Comprehension} {scope : Scope} {own : List (Str × Nat)} {pos : Pos} {wi : TI} {tb : Addr → TB} {rest : Addr → Env → Code → Sem Fin}
    (hc : X.calm = true) (hN : X.N.Nodup) (hi : PI X tg iter wi) (ok : BlkOk X.N X.env.scope scope own)
    (ht : ∀ it D env, compTurn (.ListComp elt (⟨tg, iter, ifs, 0⟩ :: rs) scope pos) 0 it (.ref D) env = turnC tg iter ifs it env (rest D env (.compLoop (.ListComp elt (⟨tg, iter, ifs, 0⟩ :: rs) scope pos) 0 it (.ref D) env)) (.compLoop (.ListComp elt (⟨tg, iter, ifs, 0⟩ :: rs) scope pos) 0 it (.ref D) env))
    (hg : ∀ (s : Shared) (H : Hp) (C : Addr) (cl : List (Str × Addr)) (fp : List Addr), PG (X.blk s H scope (compEnvC scope cl C X.env) fp) tg g)
    (hp : ∀ (s : Shared) (H : Hp) (C : Addr) (cl : List (Str × Addr)) (fp : List Addr), PTs (X.blk s H scope (compEnvC scope cl C X.env) fp) ifs tt)
    (hb : ∀ (s : Shared) (H : Hp) (C : Addr) (cl : List (Str × Addr)) (fp : List Addr) (D : Addr), PB (X.blk s H scope (compEnvC scope cl C X.env) fp) (rest D (compEnvC scope cl C X.env)) ws (tb D)) (sub : ∀ j ∈ ws, j ∈ own.map (·.2))
    (hs : ∀ x, foldedSetIterable iter X.env x = pure x := by intro _; rfl) :
    PE X (.ListComp elt (⟨tg, iter, ifs, 0⟩ :: rs) scope pos) (tLcN wi g tt (own.map (·.2)) tb) := by
  refine ⟨fun pins s σ H Q I h => ?_⟩
  rw [eval_ListComp]
  refine lcN_core hc hN I hi ok hs ht hg hp hb sub h fun D C s' m H' I' q hn f => ⟨m, hn, fun h2 same => ?_⟩
  exact ⟨.ref D, H', I'.turned (t' := s'.toks) (fun b o hb e => (same.2 b hb).trans e) f.1 f.2.1 f.2.2.2.1 f.2.2.2.2.1 f.2.2.2.2.2, rfl, q⟩
/-- y = [..] on one row, y a local in the slot k -/
theorem ps_setLcN {k : Nat} {y : Str} {py : Pos} {tg iter : Expr} {rs : List Comprehension} {scope : Scope} {own : List (Str × Nat)} {pos spos : Pos} {wi : TI} {tb : Addr → TB} {rest : Addr → Env → Code → Sem Fin}
    (hc : X.calm = true) (hN : X.N.Nodup) (hy : X.N[k]? = some y) (hl : X.env.scope.names.lookup y = some .local)
    (hw : swapsWith (.ListComp elt (⟨tg, iter, ifs, 0⟩ :: rs) scope pos) (some (.Name y py)) spos.line X.env = pure true) (hi : PI X tg iter wi) (ok : BlkOk X.N X.env.scope scope own)
    (ht : ∀ it D env, compTurn (.ListComp elt (⟨tg, iter, ifs, 0⟩ :: rs) scope pos) 0 it (.ref D) env = turnC tg iter ifs it env (rest D env (.compLoop (.ListComp elt (⟨tg, iter, ifs, 0⟩ :: rs) scope pos) 0 it (.ref D) env)) (.compLoop (.ListComp elt (⟨tg, iter, ifs, 0⟩ :: rs) scope pos) 0 it (.ref D) env))
    (hg : ∀ (s : Shared) (H : Hp) (C : Addr) (cl : List (Str × Addr)) (fp : List Addr), PG (X.blk s H scope (compEnvC scope cl C X.env) fp) tg g)
    (hp : ∀ (s : Shared) (H : Hp) (C : Addr) (cl : List (Str × Addr)) (fp : List Addr), PTs (X.blk s H scope (compEnvC scope cl C X.env) fp) ifs tt)
    (hb : ∀ (s : Shared) (H : Hp) (C : Addr) (cl : List (Str × Addr)) (fp : List Addr) (D : Addr), PB (X.blk s H scope (compEnvC scope cl C X.env) fp) (rest D (compEnvC scope cl C X.env)) ws (tb D)) (sub : ∀ j ∈ ws, j ∈ own.map (·.2))
    (hs : ∀ x, foldedSetIterable iter X.env x = pure x := by intro _; rfl) :
    PS X (.Assign [.Name y py] (.ListComp elt (⟨tg, iter, ifs, 0⟩ :: rs) scope pos) spos) (tAsg (tLcN wi g tt (own.map (·.2)) tb) (gName k)) := by
  refine ⟨fun pins s σ H D I h => ?_⟩
  rw [exec_Assign_Name_used _ _ _ _ hw]
  refine wpAny_bind (wpAny_standAt (wpAny_bind (wpAny_bind (thn (lcN_core (Qf := fun _ s' => SP X pins D .next s') (Q := fun x H1 => gName k x σ H1 D.nx) hc hN I hi ok hs ht hg hp hb sub h fun L C s' m H' I' q hn f => ?_) fun _ s' hq => wpAny_pure (wpAny_pure hq)))))
  refine wpAny_assign_Name (store_ok2 (v := V.ref L) I' hN hy (.inl hl) rfl (fun s2 I2 ⟨a, same, ha⟩ => ?_) (.inr hl))
  have apart : C ≠ a := ha.elim (fun z => z ▸ f.2.1) fun z e => f.2.2.2.2.1 y a z e.symm
  refine ⟨m, hn.sameBut same apart, fun h3 same3 => ?_⟩
  exact ⟨_, H', I2.turned (t' := s2.toks) (fun b o hb e => (same3.2 b hb).trans e) f.1 f.2.1 f.2.2.2.1 f.2.2.2.2.1 f.2.2.2.2.2, q⟩
end
end L2.Px

/-! Rules beside the hand layer: sorted of a tuple, enumerate of a tuple, repr of data. -/
namespace L2.Px
open PySem PySem.Spec PyProof.Rows

/-- the context one call of a built-in deeper -/
abbrev up1 (X : Cx) : Cx := { X with A := X.A.in1 }
theorem ok_up1 {X : Cx} (o : X.Ok) : (up1 X).Ok := ⟨o.mod, o.kind, o.glob, o.blt, o.above, o.inj, o.has, o.cab, o.hd, o.frames, o.stk, o.exf, o.bs, o.bsz, o.noex, o.exfs, o.funs, o.frf⟩
theorem inv_up1 {X : Cx} {pins : List (Addr × Obj)} {σ : St} {H : Hp} {s : Shared} (I : Inv X pins σ H s) : Inv (up1 X) pins σ H s := ⟨ok_up1 I.ok, I.os, I.bare, I.base, I.loc, I.cell, I.free, I.freeC, I.pin, I.hok, I.len⟩
theorem ok_dn1 {X : Cx} (o : (up1 X).Ok) : X.Ok := ⟨o.mod, o.kind, o.glob, o.blt, o.above, o.inj, o.has, o.cab, o.hd, o.frames, o.stk, o.exf, o.bs, o.bsz, o.noex, o.exfs, o.funs, o.frf⟩
theorem inv_dn1 {X : Cx} {pins : List (Addr × Obj)} {σ : St} {H : Hp} {s : Shared} (I : Inv (up1 X) pins σ H s) : Inv X pins σ H s := ⟨ok_dn1 I.ok, I.os, I.bare, I.base, I.loc, I.cell, I.free, I.freeC, I.pin, I.hok, I.len⟩
section
variable {X : Cx}
/-- sorted(t), t a tuple of ints: a new list -/
def rSortedTI (K : PySem.W.Frag) : List V → Hp → VK → Prop := fun vs H Q => ∃ (a : Addr) (ns : List Int), vs = [V.ref a] ∧ (SqL K H a (ns.map V.int) ∨ SqT K H a (ns.map V.int)) ∧
  ∀ (ms : List Int) (p : Addr), ms.Perm ns → ms.Pairwise (· ≤ ·) → H p = none → Q (.ref p) (upd H p (.lst (ms.map V.int)))
theorem cr_sortedTI : CallR X (.builtin "sorted") (rSortedTI X.K) := by
  intro pins s σ H vs us Q I r h
  obtain ⟨a, ns, rfl, hq, q⟩ := h
  have go : ∀ (T : String) (o : Obj) (its : List Value) (n : Nat), T = "list" ∨ T = "tuple" → Vals (ns.map V.int) its → (ns.map V.int).length ≤ sizeLine → s.heap.get? a = some o → o.cls = .type T → o.data = .seq its.toArray n →
      wpAny (model X.prog X.w) X.A (call (.builtin "sorted") us) (EP X pins σ Q) X.xe s := by
    intro T o its n hT rv hz ho hc hd
    have hi : its.length ≤ sizeLine := rv.length ▸ hz
    rw [Vals.ref1 r]
    refine Calls.call_function_entry kind_sorted plain_sorted entry_sorted (args_sorted1 _) ?_
    unfold Builtin.«sorted»
    refine wpAny_bind (m := checkCount "sorted" 1 1 _) (wpAny_pure (wpAny_bind (wpAny_collect_seq a hT ho hc hd (fun h1 kp => ?_) (by rw [List.size_toArray]; exact hi))))
    refine wpAny_bind (wpAny_newList ?_ hi)
    have I1 : Inv X pins σ H { s with heap := h1 } := I.kept (t' := s.toks) kp
    have hn : H h1.objs.size = none := I1.hok.fresh (Nat.le_refl _)
    have I2 : Inv X pins σ (upd H h1.objs.size (.lst (ns.map V.int))) { s with heap := h1.push { cls := .type "list", data := .seq its.toArray } } :=
      I1.laid (t' := s.toks) (fun _ _ e => Heap.get?_push_of_some _ e) (Nat.le_refl _) ⟨hz, its, 0, rv, Heap.get?_push_size _ rfl⟩
    have srt := mt_sortI (X := up1 X) pins { s with heap := h1.push { cls := .type "list", data := .seq its.toArray } } σ _ (.ref h1.objs.size) [] (.ref h1.objs.size) [] (fun v H' => v = .non ∧ ∃ ms : List Int, ms.Perm ns ∧ ms.Pairwise (· ≤ ·) ∧ H' = upd H h1.objs.size (.lst (ms.map V.int))) (inv_up1 I2) rfl .nil
      ⟨h1.objs.size, ns, rfl, rfl, upd_same, fun ms hp hs => ⟨rfl, ms, hp, hs, upd_upd⟩⟩
    refine wpAny_bind (wpAny_holding (thn srt fun v s3 ⟨x, H3, I3, rx, ex, ms, hp, hs, e3⟩ => ?_))
    subst e3
    exact wpAny_pure ⟨_, rfl, .ref h1.objs.size, _, inv_dn1 I3, rfl, q ms _ hp hs hn⟩
  rcases hq with hq | hq
  · obtain ⟨its, rv, pl, hz⟩ := I.list hq
    obtain ⟨o, ho, hc, n, hd⟩ := pl.isList
    exact go _ o its n (.inl rfl) rv hz ho hc hd
  · obtain ⟨its, rv, pl, hz⟩ := I.tuple hq
    obtain ⟨o, ho, hc, n, hd⟩ := pl
    exact go _ o its n (.inr rfl) rv hz ho hc hd

/-- repr(x) of data, where no repr runs -/
def rReprD (K : PySem.W.Frag) : List V → Hp → VK → Prop := fun vs H Q => ∃ (x : V) (d : PyData), vs = [x] ∧ Dp K H x d ∧ d.showable = true ∧ d.hasDict = false ∧ d.depth ≤ 60 ∧ d.shown.length ≤ sizeLine ∧ Q (.str d.shown) H
theorem cr_reprD (hg : X.A.guards = some []) (hu : X.A.units + 64 < cLine) : CallR X (.builtin "repr") (rReprD X.K) := by
  intro pins s σ H vs us Q I r h
  obtain ⟨x, d, rfl, hd, hs, hnd, hdp, hz, q⟩ := h
  cases r with
  | cons rx rr =>
    cases rr
    have hd0 := hd
    cases hd with
    | non =>
      cases rx
      exact PySem.P.repr_of_none ⟨.str ("None" : Str), H, I.tok _, ⟨_, rfl⟩, q⟩
    | bl b =>
      cases rx
      exact PySem.P.repr_of_bool ⟨.str (if b then ("True" : Str) else ("False" : Str)), H, I.tok _, ⟨_, by cases b <;> rfl⟩, by cases b <;> exact q⟩
    | int i =>
      obtain ⟨t, rfl⟩ := rx
      exact PySem.P.repr_of_int (of_decide_eq_true (by simpa [PyData.showable] using hs)) ⟨.str (toString i : String), H, I.tok _, ⟨_, rfl⟩, q⟩
    | str x =>
      obtain ⟨t, rfl⟩ := rx
      exact PySem.P.repr_of_str ⟨.str (reprText x), H, I.tok _, ⟨_, rfl⟩, q⟩ hz
    | lst hq ha =>
      cases rx
      obtain ⟨as, rd⟩ := Dp.reads I _ _ _ hd0 rfl
      exact repr_of_reads' rd hs (fun z => by rw [hnd] at z; cases z) hg (by omega) (fun _ _ e => e) (fun h' u tk kp => ⟨.str _, H, I.kept (t' := tk) kp, ⟨_, rfl⟩, q⟩) hz
    | tup hq ha =>
      cases rx
      obtain ⟨as, rd⟩ := Dp.reads I _ _ _ hd0 rfl
      exact repr_of_reads' rd hs (fun z => by rw [hnd] at z; cases z) hg (by omega) (fun _ _ e => e) (fun h' u tk kp => ⟨.str _, H, I.kept (t' := tk) kp, ⟨_, rfl⟩, q⟩) hz

/-! ### enumerate(t), t a tuple -/
theorem meets_enum_newT (t : Addr) (items : Array Value) :
    Meets (Builtin.«enumerate.__new__» ⟨[.type "enumerate", .ref t], []⟩) (fun _ R s => s.heap.IsTuple t items ∧
      R (.ok (.ret (.ref (s.heap.push { cls := .type "tuple_iterator", data := .fields #[.ref t, .int 0 0] }).objs.size)))
        { s with heap := (s.heap.push { cls := .type "tuple_iterator", data := .fields #[.ref t, .int 0 0] }).push { cls := .type "enumerate", data := .fields #[.none, .bool false, .ref s.heap.objs.size, rawInt 0, .none, .none] } }) :=
  .of_wp fun prog w A R s h => by
    obtain ⟨hp, g, d, tk, os⟩ := s
    obtain ⟨hl, h⟩ := h
    have hsub := sub_enumerate
    have hL : Heap.IsTuple (Shared.heap ⟨hp, g, d, tk, os⟩) t items := hl
    wp_walk
    refine wpAny_stack_any fun st => wpAny_pure ?_
    split
    · rename_i c _ _ _ _ _
      cases (c == Value.type "enumerate")
      all_goals
        wp_walk using wpAny_pyIter_tuple hL
        exact ⟨_, rfl, h⟩
    · wp_walk using wpAny_pyIter_tuple hL
      exact ⟨_, rfl, h⟩

theorem call_enumT {prog : Program} {w : World} {A : Around} {E : Value → Shared → Prop} {s : Shared} {t : Addr} {items : Array Value} {Q : Value → Shared → Prop} (ht : s.heap.IsTuple t items)
    (h : ∀ h', IsEnum h' (s.heap.objs.size + 1) s.heap.objs.size 0 .none → h'.IsTupleIter s.heap.objs.size t 0 →
      (∀ b o, s.heap.get? b = some o → h'.get? b = some o) → Q (.ref (s.heap.objs.size + 1)) { s with heap := h' }) : wpAny (model prog w) A (call (.type "enumerate") [.ref t]) Q E s := by
  refine callType_new F.called_enumerate (by decide) (F.typeCall_enumerate_1 _) (F.newCall_enumerate_1 _) (fun obj => F.args_object_init_2 obj _) F.entry_enumerate_new (meets_enum_newT t items) ⟨ht, ?_⟩
  have z : (s.heap.push { cls := .type "tuple_iterator", data := .fields #[.ref t, .int 0 0] }).objs.size = s.heap.objs.size + 1 := Heap.size_push ..
  have e2 := Heap.get?_push_size (s.heap.push { cls := .type "tuple_iterator", data := .fields #[.ref t, .int 0 0] }) (o := { cls := .type "enumerate", data := .fields #[.none, .bool false, .ref s.heap.objs.size, rawInt 0, .none, .none] }) rfl
  rw [z] at e2
  show _ ∧ _
  rw [z]
  exact ⟨⟨_, e2, rfl⟩, h _ e2 ⟨_, Heap.get?_push_of_some _ (Heap.get?_push_size _ rfl), rfl, rfl⟩ fun b o x => Heap.get?_push_of_some _ (Heap.get?_push_of_some _ x)⟩

/-- the pairs (i, item i) of the tuple at a, each a new tuple -/
def Itet (K : PySem.W.Frag) (a : Addr) : It :=
  ⟨fun i H => ∃ (xs : List V) (x : V), SqT K H a xs ∧ xs[i]? = some x, fun i H v H' => ∃ T x, v = .ref T ∧ H T = none ∧ H' = upd H T (.tup [.int (i : Nat), x]) ∧ ∀ xs, SqT K H a xs → xs[i]? = some x,
    fun i H => ∃ xs : List V, SqT K H a xs ∧ xs.length = i⟩
theorem turn_enumT {P : Program} {w : World} {K : PySem.W.Frag} {elts : List Expr} {kk : Nat} {tpos : Pos} (a e it : Addr) :
    Turn P w K (.Tuple elts kk tpos) (Itet K a) [e, it] e (fun i h => (∃ old, IsEnum h e it ((i : Nat) : Int) old) ∧ h.IsTupleIter it a i ∧ e ≠ it) where
  mem := List.mem_cons_self
  obj := fun i h ⟨⟨old, he⟩, ⟨o, ho, hc, hd⟩, _⟩ b hb => by
    rcases List.mem_cons.mp hb with z | z
    · subst z
      exact ⟨_, he, fun v q => nomatch q⟩
    · obtain rfl := List.mem_singleton.mp z
      exact ⟨o, ho, fun v q => by rw [hd] at q; cases q⟩
  keep := fun i h h' ⟨⟨old, he⟩, hi, hne⟩ k => ⟨⟨old, k e (by simp) _ he⟩, hi.at fun o q => k it (by simp) o q, hne⟩
  item := by
    intro X hP hw hK hc i pins s σ H E I hf st hg
    subst hP hw hK
    obtain ⟨⟨old, he⟩, hit, hne⟩ := st
    obtain ⟨xs, x, hq, hx⟩ := hg
    obtain ⟨its, rv, tp, hz⟩ := I.tuple hq
    obtain ⟨u, hu, ru⟩ := rv.get hx
    have hel : e < s.heap.objs.size := Heap.lt_size he
    have hil : it < s.heap.objs.size := by obtain ⟨_, q, _⟩ := hit; exact Heap.lt_size q
    have nit : a ≠ it := fun z => by
      subst z
      obtain ⟨o1, h1, c1, d1⟩ := hit
      obtain ⟨o2, h2, c2, n2, d2⟩ := tp
      rw [h1] at h2; cases h2
      rw [d1] at d2; cases d2
    have nea : e ≠ a := fun z => by
      subst z
      obtain ⟨o2, h2, c2, n2, d2⟩ := tp
      have he' : s.heap.get? e = _ := he
      rw [he'] at h2; cases h2; cases d2
    refine wpAny_pyNext_enum_itemD (Draws.tuple (A := X.A.in1) (I.ok.hd hc) it a nit its.toArray) he ⟨hit, tp⟩ (by rw [List.size_toArray, ← rv.length]; exact (List.getElem?_eq_some_iff.mp hx).1) hne (by simp [hne, nea]) fun y h' tk hy ho st' hT hsz hk => ?_
    have ey : y = u := by
      have : its[i]? = some y := by simpa using hy
      rw [hu] at this
      exact (Option.some.inj this).symm
    subst ey
    refine ⟨_, rfl, wpAny_letOwnedTupleGo_enum (s := { s with heap := h', toks := tk + 1 }) ho fun h2 he2 same => ?_⟩
    have hT2 : h2.get? s.heap.objs.size = some { cls := .type "tuple", data := .seq #[.int i tk, y] } := (same.2 _ (Nat.ne_of_gt hel)).trans hT
    have new : ObjOk X.prog X.w (upd H s.heap.objs.size (.tup [.int (i : Nat), x])) h2 s.heap.objs.size (.tup [.int (i : Nat), x]) :=
      ⟨(by decide : 2 ≤ sizeLine), [.int i tk, y], .cons ⟨_, rfl⟩ (.cons ru .nil), ⟨_, hT2, rfl, _, rfl⟩⟩
    have I1 := I.turnedNew (t' := tk + 1) (ch := [e, it]) (fun b ob hb q => by
      have hb1 : b ≠ e := fun z => hb (by simp [z])
      have hb2 : b ≠ it := fun z => hb (by simp [z])
      exact (same.2 b hb1).trans (hk b ob hb1 hb2 q)) hf (Nat.le_refl _) new
    refine ⟨.ref s.heap.objs.size, _, I1, rfl, ⟨_, x, rfl, I.hok.fresh (Nat.le_refl _), rfl, fun ys hy => by rw [I.tuple_inj hy hq]; exact hx⟩, ⟨⟨y, ?_⟩, st'.1.at fun o q => (same.2 it (Ne.symm hne)).trans q, hne⟩, fun b hb => ?_⟩
    · rw [show ((i + 1 : Nat) : Int) = (i : Int) + 1 by omega]
      exact he2
    · have small : b < s.heap.objs.size := by
        rcases List.mem_cons.mp hb with z | z
        · rw [z]; exact hel
        · rw [List.mem_singleton.mp z]; exact hil
      exact (upd_ne (Nat.ne_of_lt small)).trans (hf b hb).1
  done := by
    intro X hP hw hK hc i pins s σ H E I hf st hg
    subst hP hw hK
    obtain ⟨⟨old, he⟩, hit, hne⟩ := st
    obtain ⟨xs, hq, hx⟩ := hg
    obtain ⟨its, rv, tp, hz⟩ := I.tuple hq
    obtain ⟨f0, f1, f2, f3, f4, f5⟩ := hf it (by simp)
    have nit : a ≠ it := fun z => by
      subst z
      obtain ⟨o1, h1, c1, d1⟩ := hit
      obtain ⟨o2, h2, c2, n2, d2⟩ := tp
      rw [h1] at h2; cases h2
      rw [d1] at d2; cases d2
    have ei : its.toArray.size = i := by rw [List.size_toArray, ← rv.length]; exact hx
    rw [← ei] at hit
    refine wpAny_pyNext_enum_endD (Draws.tuple (A := X.A.in1) (I.ok.hd hc) it a nit its.toArray) he ⟨hit, tp⟩ fun h' eb => ?_
    exact ⟨rfl, I.turned (t' := s.toks) (fun b o hb q => eb b o hb q) f0 f1 f3 f4 f5⟩
  self := fun A i s Q E ⟨⟨_, he⟩, _⟩ h => wpAny_pyIter_enum he h

def iEnumT (K : PySem.W.Frag) (ta : TA) : TI := fun σ H R => ta σ H fun vs H1 => ∃ a xs, vs = [.ref a] ∧ SqT K H1 a xs ∧ R (Itet K a) H1
theorem pi_enumT {e : Expr} {ta : TA} {p pos tpos : Pos} {elts : List Expr} {kk : Nat} (hg : Gl X "enumerate") (hm : X.mg "enumerate" = none) (ha : PA X [e] ta) (hs : starEach [e] X.env = [(false, eval e X.env)] := by rfl) :
    PI X (.Tuple elts kk tpos) (.Call (.Name "enumerate" p) [e] [] pos) (iEnumT X.K ta) := by
  refine ⟨fun pins s σ H R I h => ?_⟩
  refine Call_ (ld_blt I hg hm boot_enumerate (PyProof.Rows.callWith_type1 (thn (ha.run pos pins s σ H _ I h) fun us s1 ⟨vs, H1, I1, r1, a, xs, ex, hq, q⟩ => ?_) hs rfl))
  subst ex
  rw [Vals.ref1 r1]
  obtain ⟨its, rv, tp, hz⟩ := I1.tuple hq
  refine call_enumT tp fun h' he hit hk => wpAny_pyIter_enum he ?_
  refine ⟨s1.heap.objs.size + 1, [s1.heap.objs.size + 1, s1.heap.objs.size], _, _, H1, rfl, I1.kept (t' := s1.toks) hk, turn_enumT a (s1.heap.objs.size + 1) s1.heap.objs.size, ⟨⟨.none, he⟩, hit, Nat.succ_ne_self _⟩, fun b hb => ?_, q⟩
  have big : s1.heap.objs.size ≤ b := by
    rcases List.mem_cons.mp hb with z | z
    · rw [z]; exact Nat.le_succ _
    · rw [List.mem_singleton.mp z]; exact Nat.le_refl _
  exact I1.fpOk big (I1.hok.fresh big)

theorem walk_enumT {K : PySem.W.Frag} {a : Addr} {xs : List V} : Walk (Itet K a) xs.length (fun H => SqT K H a xs) (YPair (fun i => some (.int (i : Nat))) (fun i => xs[i]?)) :=
  ⟨fun i H hi h => ⟨xs, xs[i], h, by simp [hi]⟩, fun H h => ⟨xs, h, rfl⟩, fun i H x H' hi h ⟨T, y, e, hT, e2, hy⟩ => ⟨T, _, y, e, hT, e2, rfl, hy xs h⟩⟩

/-- a clause's turns by an invariant -/
theorem cl_it {J : It} {n : Nat} {G : Hp → Prop} {Y : Nat → Hp → V → Hp → Prop} (w : Walk J n G Y) {g : TG} {tt : TT} {vs : List Nat} {tb : TB} {σ : St} {H1 : Hp} {Nx0 : Hp → Prop} (Pv : Nat → Hp → Prop) (h0 : Pv 0 H1) (hG : ∀ i H, i ≤ n → Pv i H → G H)
    (hs : ∀ i x H H', i < n → Pv i H → Y i H x H' → g x (wipe σ vs) H' fun σ2 H2 => wipe σ2 vs = wipe σ vs ∧ tt σ2 H2 fun b H3 => if b = true then tb σ2 H3 (Pv (i + 1)) else Pv (i + 1) H3) (hd : ∀ H, Pv n H → Nx0 H) :
    ∃ W : Nat → Nat → Hp → Prop, (∃ m, W 0 m H1) ∧ ClStep J g tt vs tb σ W Nx0 := by
  refine ⟨fun i m H => m = n - i ∧ i ≤ n ∧ Pv i H, ⟨n, rfl, Nat.zero_le _, h0⟩, fun i m H hw => ?_⟩
  obtain ⟨rfl, hi, p⟩ := hw
  rcases Nat.lt_or_eq_of_le hi with lt | e
  · refine .inr ⟨w.goes i H lt (hG i H hi p), Pv (i + 1), fun H' p' => ⟨n - (i + 1), by omega, rfl, lt, p'⟩, fun x H' y => hs i x H H' lt p (w.yields i H x H' lt (hG i H hi p) y)⟩
  · subst e
    exact .inl ⟨w.stops H (hG i H hi p), hd H p⟩
end
end L2.Px

/-! The law's own def, entered where no repr runs: its promise knows that. -/
namespace L2.Px
open PySem PySem.Spec PyProof.Rows

/-- the promise of a def that is entered where no repr runs -/
structure GFn (P : Program) (w : World) (K : PySem.W.Frag) (mg : Str → Option Value) (base : Heap) (k : Nat) (f : Addr) (fd : FuncData) (ps : List Str) (sp : Sp) : Prop where
  run : ∀ (A : Around) (outer : List Env) (s : Shared) (H : Hp) (args : Args) (us : List Value) (vs : List V) (Q : VK) (E : XK), A.guards = some [] → Room k A → Env0 P w K mg base A outer s H → BindsTo s fd args (ps.zip us) → Vals vs us → sp vs H Q E →
    codeAny (model P w) A (.call (.ref f) args) (CR CX0 outer P w H s Q E) s

theorem gfn_of {P : Program} {w : World} {K : PySem.W.Frag} {mg : Str → Option Value} {base : Heap} {k : Nat} {f : Addr} {x qual : Str} {st : Stmt} {fd : FuncData} {N ps : List Str} {sp : Sp} (F : Fun K x qual st f fd) (S : FnScope N ps (defScope st))
    (len : ∀ vs H Q E, sp vs H Q E → vs.length = ps.length)
    (body : ∀ (cdv : Value) (A : Around) (outer : List Env) (s : Shared) (H : Hp) (vs : List V) (Q : VK) (E : XK), A.guards = some [] → Room k (A.deeper (envOfC qual (defScope st) s.heap.objs.size f cdv)) → sp vs H Q E →
      ∃ t, PSs (cxOf CX0 P w K mg base N qual (defScope st) f cdv A outer s H E).nox (defBody st) t ∧ t { nx := fun _ H' => Q .non H', rt := Q } (start N vs) H) :
    GFn P w K mg base (k + 1) f fd ps sp := by
  obtain ⟨oc, od, kV, doc, pm, an, cdv, ct, osl, rfl, lk, hcd⟩ := F.ex
  refine ⟨fun A outer s H args us vs Q E hg hr e0 hb r q => ?_⟩
  have KX : K.In s.heap := e0.mod.kin.keeps fun b o e => (e0.bs b o e).1
  have lim := e0.mod.nolimit.keeps fun b o e => (e0.bs b o e).1
  refine codeAny_call_function hr.depth (KX _ _ lk) rfl S.co S.gen rfl (PySem.W.codeRec_of KX hcd) (hb _ _ _ _ (wpAny_newFunctionEnv_cells S.kind (fun y hy => ?_) fun env he s1 x => ?_))
  · rcases S.par y.1 (List.of_mem_zip (show (y.1, y.2) ∈ ps.zip us from hy)).1 with z | z
    · exact .inl z
    · exact .inr ⟨z, PySem.W.cellsFrom_some _ _ _ (.inl z)⟩
  · subst he
    refine ⟨lim.keeps x.toInCall.keep, codeAny_func ?_⟩
    obtain ⟨t, pt, tt⟩ := body cdv A outer s H vs Q E hg (hr.deeper _) q
    refine wpAny_mono (pt.nox.run [] s1 (start N vs) H _ (inv_start S hr.hd e0 (len _ _ _ _ q) r x) tt) (fun fl s' h => ?_) fun e s' h => h
    cases fl with
    | ret u => exact let ⟨v, _, H', J, rv, q'⟩ := h; ⟨v, H', J.os, J.bare, J.base, J.hok, rv, q'⟩
    | next => exact let ⟨_, H', J, q'⟩ := h; ⟨.non, H', J.os, J.bare, J.base, J.hok, rfl, q'⟩
    | brk => exact let ⟨_, _, _, q'⟩ := h; q'.elim
    | cont => exact let ⟨_, _, _, q'⟩ := h; q'.elim

/-- the heap that tracks the script alone, if it is not written -/
def scriptH (a : Addr) (o : Obj) (xs : List V) : Hp := fun b => if b = a then some (.frz o (.lst xs)) else none

theorem law_callG {P : Program} {w : World} {K : PySem.W.Frag} {mg mb : Str → Option Value} {k : Nat} {fa a : Addr} {fd : FuncData} {x : Str} {sp : Sp} {s : Shared} {vs : List Value} {ns : List Int}
    (KX : K.In s.heap) (hns : s.heap.Ns mainGlobals mg) (hb : s.heap.Ns builtinsNs mb) (hbb : ∀ x : Str, x ≠ "__name__" → mb x = bootBuiltins x) (hlim : s.heap.NoLimit) (hg : s.gens = #[])
    (ha : s.heap.get? a = some { cls := .type "list", data := .seq vs.toArray }) (hi : IntsAre vs ns) (hl : ns.length ≤ sizeLine) (hr : Room k callerA)
    (F : ∀ base : Heap, K.In base → base.Ns mainGlobals mg → GFn P w K mg base k fa fd [x] sp) (hbind : ∀ (s : Shared) (u : Value), BindsTo s fd ⟨[u], []⟩ [(x, u)])
    (hsp : ∀ H : Hp, SqL K H a (ns.map V.int) → sp [.ref a] H (fun v _ => v = .bl true) fun _ _ _ => False) :
    codeAny (model P w) callerA (.call (.ref fa) ⟨[.ref a], []⟩) (fun r s' => r = .ok (.ret (.bool true)) ∧ OldK s.heap s'.heap ∧ s'.os = s.os ∧ AllBare s'.gens) s := by
  have rv := vals_ints hi
  -- the tracked heap: what it needs
  suffices core : ∀ H : Hp, (∀ b u, H b = some u → b = a ∧ K.lookup a = none ∧ ∃ o xs, u = .frz o (.lst xs)) → SqL K H a (ns.map V.int) → HOk P w H s.heap →
      codeAny (model P w) callerA (.call (.ref fa) ⟨[.ref a], []⟩) (fun r s' => r = .ok (.ret (.bool true)) ∧ OldK s.heap s'.heap ∧ s'.os = s.os ∧ AllBare s'.gens) s by
    cases hk : K.lookup a with
    | some o =>
      have e := KX a o hk
      rw [ha] at e
      cases e
      exact core (fun _ => none) (fun b u z => by cases z) (.inr ⟨_, vs.toArray, _, hk, rfl, rfl, rfl, by rw [List.size_toArray, hi.length]; exact hl, by simpa using rv⟩) fun b u z => by cases z
    | none =>
      refine core (scriptH a { cls := .type "list", data := .seq vs.toArray } (ns.map V.int)) (fun b u z => ?_) (.inl (.inr ⟨_, if_pos rfl⟩)) fun b u z => ?_
      · unfold scriptH at z
        split at z
        · cases z
          rename_i e
          exact ⟨e, hk, _, _, rfl⟩
        · cases z
      · unfold scriptH at z
        split at z
        · cases z
          rename_i e
          subst e
          exact ⟨ha, by rw [List.length_map]; exact hl, vs, _, rv, ha⟩
        · cases z
  intro H hH hS hok
  have old : ∀ {b : Addr} {o : Obj}, s.heap.get? b = some o → (b = a → K.lookup a ≠ none) → H b = none := fun {b o} e n => by
    cases q : H b with
    | none => rfl
    | some u =>
      obtain ⟨e1, e2, _⟩ := hH b u q
      exact absurd e2 (n e1)
  have dict : ∀ {b : Addr} {o : Obj} {es : Array DictEntry} {ep : Nat}, s.heap.get? b = some o → o.data = .dict es ep → (hidT s.heap H).get? b = some o := fun {b o es ep} e d => by
    refine hidT_get e ?_
    cases q : H b with
    | none => rfl
    | some u =>
      obtain ⟨rfl, _, _⟩ := hH b u q
      rw [ha] at e
      cases e
      cases d
  have ns' : ∀ {b : Addr} {m : Str → Option Value}, s.heap.Ns b m → (hidT s.heap H).Ns b m := fun ⟨o, es, ep, e, d, r⟩ => ⟨o, es, ep, dict e d, d, r⟩
  have kin : K.In (hidT s.heap H) := fun b o e => hidT_get (KX b o e) (old (KX b o e) fun z n => by rw [z, n] at e; cases e)
  have e0 : Env0 P w K mg (hidT s.heap H) callerA [] s H := ⟨rfl, ⟨kin, ns' hns, ⟨mb, ns' hb, hbb⟩, let ⟨mc, h1, h2⟩ := hlim; ⟨mc, ns' h1, h2⟩⟩, fun b o e => of_hidT e, Nat.le_of_eq (hidT_size _ _), trivial, fun b z => (by cases z), hok, .of_eq hg⟩
  refine codeAny_mono ((F _ kin (ns' hns)).run callerA [] s H ⟨[.ref a], []⟩ [.ref a] [.ref a] _ _ rfl hr e0 (hbind s (.ref a)) (.cons rfl .nil) (hsp H hS)) fun r s' h => ?_
  match r, h with
  | .ok (.ret u), ⟨v, H', os, bare, un, hok', rr, q⟩ =>
    have q : v = .bl true := q
    subst q
    cases rr
    refine ⟨rfl, OldK.of_keep fun b o e => ?_, os, bare⟩
    cases z : H b with
    | none => exact un.keep b o e z (by intro y; cases y) (by simp)
    | some u =>
      obtain ⟨_, _, o2, xs, rfl⟩ := hH b u z
      have h1 := (hok b _ z).1
      have h2 := (hok' b _ (un.frzs b _ _ z)).1
      rw [e] at h1
      cases h1
      exact h2

/-- the goal that k_head leaves, from the law's promise -/
theorem walkG {l : PySem.W.OpenLaw} {n k : Nat} {q : Program} {loose : List Str} {XP : (Str → Option Value) → Heap → Prop} {YP : World → Heap → Prop} {d : DefRec} {K : Params → PySem.W.Frag} {sp : PySem.W.Frag → Sp} {x : Str}
    (hn : l.most = some n) (hn2 : n ≤ sizeLine) (hdf : d.params.defaults = []) (hr : Room k callerA) (hY : ∀ (w : World) (h : Heap), YP w h → (K w.params).In h)
    (F : ∀ (w : World) (mg : Str → Option Value) (fa : Addr) (h : Heap), (K w.params).In h → h.Ns mainGlobals mg → mg d.name = some (.ref fa) →
      ∃ fd : FuncData, (∀ (s : Shared) (u : Value), BindsTo s fd ⟨[u], []⟩ [(x, u)]) ∧ ∀ base : Heap, (K w.params).In base → base.Ns mainGlobals mg → GFn l.prog w (K w.params) mg base k fa fd [x] (sp (K w.params)))
    (hsp : ∀ (K : PySem.W.Frag) (H : Hp) (a : Addr) (ns : List Int), ns.length ≤ n → SqL K H a (ns.map V.int) → sp K [.ref a] H (fun v _ => v = .bl true) fun _ _ _ => False) :
    PySem.W.WalkO q loose XP YP l.row.toRowW d [] (fun f vs => PySem.call f vs) :=
  Att.attach_call hn hdf fun w s₀ s₁ mg mb fa o pm cd doc a vs ns G Y ho hd hcd hmg hobj hints hlen hg =>
    let ⟨_, hb, hF⟩ := F w mg fa _ (hY w _ Y) G.T.g hmg
    law_callG (hY w _ Y) G.T.g G.T.b G.T.builtins G.T.nolimit hg hobj hints (Nat.le_trans hlen hn2) hr hF hb fun H hS => hsp _ H a ns hlen hS
end L2.Px

/-! Several except clauses, each with a name of its own or without one. -/
namespace L2.Px
open PySem PySem.Spec PyProof.Rows
/-- a clause: the class that it names, the slot of its name, its suite -/
structure Cla where
  c : Value
  i : Option Nat
  ts : Addr → Value → Option Addr → TS
/-- the ends of a suite whose clause has a name -/
def endsAt (D : Ends) : Option Nat → Ends
  | none => D
  | some i => { nx := fun τ G => D.nx (τ.set i none) G, rt := D.rt, bk := fun τ G => D.bk (τ.set i none) G, ct := fun τ G => D.ct (τ.set i none) G }
def slotAt (τ : St) (a : Addr) : Option Nat → St
  | none => τ
  | some i => τ.set i (some (.ref a))
/-- what the clauses wish, one behind the other -/
def wCl (K : PySem.W.Frag) (Wo : WX) (D : Ends) : List Cla → WX
  | [] => Wo
  | q :: r => fun cls d τ G => ∃ b, PySem.W.exmOne K cls q.c = some b ∧ (b = true → ∀ a, G a = none → q.ts a cls d (endsAt D q.i) (slotAt τ a q.i) G) ∧ (b = false → wCl K Wo D r cls d τ G)
inductive ClOk (X : Cx) : List ExceptHandler → List Cla → Prop
  | nil : ClOk X [] []
  | bare {x : Str} {c : Value} {ts : Addr → Value → Option Addr → TS} {st : Stmt} {sts : List Stmt} {p1 p2 : Pos} {hs : List ExceptHandler} {l : List Cla} (nm : Names X x c)
      (sui : ∀ (a : Addr) (ob : Obj) (cls : Value) (d : Option Addr) (pn : List (Addr × Obj)), Zc cls d ob → (∃ vs, ob.data = .fields vs) → PSs (X.suite a ((a, ob) :: pn)) (st :: sts) (ts a cls d)) (r : ClOk X hs l) :
      ClOk X (.ExceptHandler (some (.Name x p1)) none (st :: sts) p2 :: hs) (⟨c, none, ts⟩ :: l)
  | named {x n : Str} {c : Value} {i : Nat} {ts : Addr → Value → Option Addr → TS} {st : Stmt} {sts : List Stmt} {p1 p2 : Pos} {hs : List ExceptHandler} {l : List Cla} (nm : Names X x c) (ni : X.N[i]? = some n) (nk : X.env.kindOf n = some .local)
      (sui : ∀ (a : Addr) (ob : Obj) (cls : Value) (d : Option Addr) (pn : List (Addr × Obj)), Zc cls d ob → (∃ vs, ob.data = .fields vs) → PSs (X.suite a ((a, ob) :: pn)) (st :: sts) (ts a cls d)) (r : ClOk X hs l) :
      ClOk X (.ExceptHandler (some (.Name x p1)) (some n) (st :: sts) p2 :: hs) (⟨c, some i, ts⟩ :: l)
section
variable {X : Cx} {bd : List Stmt} {hd0 : ExceptHandler} {hdr : List ExceptHandler} {cs : List Cla} {ps : Pos} {tb : WX → TS} {Wo : WX}
theorem ps_try_cl (e1 : X.stack = X.env :: X.outer) (e2 : X.env.frame = some X.env.locals) (nod : X.N.Nodup) (tko : Takes X Wo)
    (bod : ∀ (W : WX) (pn : List (Addr × Obj)) (xe : Value → Shared → Prop), Takes (X.tr pn xe) W → PassesOwn (model X.prog X.w) X.A X.env xe → PSs (X.tr pn xe) bd (tb W))
    (clo : ClOk X (hd0 :: hdr) cs) : PS X (.Try bd (hd0 :: hdr) [] [] ps) (fun D τ G => tb (wCl X.K Wo D cs) D τ G) := by
  refine ⟨fun pins s τ G D I wish => ?_⟩
  have okX := I.ok
  have frX : X.A.frames = some (X.env :: X.outer) := by rw [okX.frames, e1]
  refine wpAny_Try_except ?_
  refine wpAny_mono ((bod (wCl X.K Wo D cs) (X.pn ++ pins) (fun e t1 => wpAny (model X.prog X.w) X.A (noteFrame e X.env) (fun _ t2 => wpAny (model X.prog X.w) X.A (setFlight e none) (fun _ t3 =>
    wpAny (model X.prog X.w) X.A (handleBy e X.env (hd0 :: hdr)) (SP X pins D) X.xe t3) X.xe t2) X.xe t1) (fun u t' xx => ?_) PassesOwn.looking).run [] s τ G D (I.toTry _) wish) (fun fl t1 hsp => ?_) (fun _ _ z => z)
  · obtain ⟨a, B, t0, pins', τ', G', cls, d, rfl, J0, nb, up, sky, na, os, ag, w⟩ := xx
    have J : Inv X pins τ' G' t0 := J0.ofTry okX
    have skyX : Sky B (X.env :: X.outer) a (Zc cls d) X.env.locals t'.heap := by rw [← e1]; exact sky
    show wpAny (model X.prog X.w) X.A (noteFrame (.ref a) X.env) _ _ _
    refine Sky.land Zc.steady frX e2 skyX fun hp flp upp => ?_
    have Jp : Inv X pins τ' G' { t' with heap := hp } := J.landed nb flp.1 (up.trans upp) os ag
    obtain ⟨obp, vsp, hep, hzp, hdp⟩ := flp.there
    have nfr : a ∉ frs (X.env :: X.outer) := fun hm => by
      obtain ⟨_, o2, eo, hnf⟩ := flp.2.2.1.mem hm
      rw [hep] at eo
      cases eo
      exact hnf _ hdp
    have nL : a ≠ X.env.locals := fun z => nfr (List.mem_filterMap.mpr ⟨X.env, List.mem_cons_self, by rw [e2, z]⟩)
    have nF : a ∉ X.fs := fun hm => let ⟨y, hy, q⟩ := List.mem_filterMap.mp hm; nfr (List.mem_filterMap.mpr ⟨y, List.mem_cons_of_mem _ hy, q⟩)
    have Sp := Jp.suite hep hdp na nL nF
    have LTp : PySem.W.Looks (model X.prog X.w) hp (typeOf (.ref a)) cls := fun _ _ _ _ k q => wpAny_typeOf_ref (k _ _ hep) (by rw [hzp.1]; exact q)
    have tst : ∀ {x : Str} {c : Value} {np : Pos} {Q : Value → Shared → Prop} {E : Value → Shared → Prop}, Names X x c → Q c { t' with heap := hp } → wpAny (model X.prog X.w) (X.A.mark (some (.ref a))) (eval (.Name x np) X.env) Q E { t' with heap := hp } := fun {x c np Q E} hc q => by
      obtain ⟨hg, hdb, hm | ⟨hm, hv, hnn⟩⟩ := hc
      · exact ld_glob (X := X.suite a ((a, obp) :: (X.pn ++ pins))) Sp hg hm q hdb
      · exact ld_blt (X := X.suite a ((a, obp) :: (X.pn ++ pins))) Sp hg hm hv q hnn hdb
    have go : ∀ {hs' : List ExceptHandler} {l' : List Cla}, ClOk X hs' l' → wCl X.K Wo D l' cls d τ' G' → wpAny (model X.prog X.w) X.A (handleBy (.ref a) X.env hs') (SP X pins D) X.xe { t' with heap := hp } := by
      intro hs' l' hk
      induction hk with
      | nil =>
        intro w
        refine wpAny_handleBy_nil ?_
        obtain ⟨_, _, _, ob, vs, T, oT, _, he, _, hd, h1, _⟩ := id flp
        unfold PySem.passOn
        refine wpAny_bind (wpAny_field he hd h1 ?_)
        rw [if_neg (show ¬ ((Value.ref T == Value.none) = true) from by simp)]
        have fin : wpAny (model X.prog X.w) X.A (setFlight (.ref a) X.env.frame) (fun _ t4 => wpAny (model X.prog X.w) X.A (throw (.ref a) : Sem Flow) (SP X pins D) X.xe t4) X.xe { t' with heap := hp } := by
          rw [e2]
          exact HandSPX.setFlight_upZ flp fun hq flq upq => wpAny_throw (tko _ _ ⟨a, B, t0, pins, τ', G', cls, d, rfl, J, nb, (up.trans upp).trans upq, .inr (.inr (by rw [e1]; exact flq)), na, os, ag, w⟩)
        first
          | exact wpAny_bind (wpAny_pure (wpAny_bind fin))
          | exact wpAny_bind fin
      | @bare x c ts st sts p1 p2 hs2 l2 nm sui r ih =>
        rintro ⟨b, hb1, yes, no⟩
        refine wpAny_handleBy_cons (codeAny_handlers_test ?_) (by intro q; cases q)
        refine tst nm ((PySem.W.exm_one (M := model X.prog X.w) Jp.kIn LTp hb1).here ?_)
        cases b with
        | false => exact ih (no rfl)
        | true =>
          refine codeAny_handlers_suite (HandSPX.lands_againZ flp fun hq flq upq => ?_)
          have Jq : Inv X pins τ' G' { t' with heap := hq } := J.landed nb flq.1 ((up.trans upp).trans upq) os ag
          obtain ⟨obq, vsq, heq, hzq, hdq⟩ := flq.there
          refine wpAny_mono ((sui a obq cls d (X.pn ++ pins) hzq ⟨_, hdq⟩).run [] _ _ G' _ (Jq.suite heq hdq na nL nF) (yes rfl a na)) (fun f s6 hsp => ?_) (fun _ _ z => False.elim z)
          cases f with
          | next => exact let ⟨_, _, S6, q6⟩ := hsp; ⟨_, _, S6.unsuite okX, q6⟩
          | brk => exact let ⟨_, _, S6, q6⟩ := hsp; ⟨_, _, S6.unsuite okX, q6⟩
          | cont => exact let ⟨_, _, S6, q6⟩ := hsp; ⟨_, _, S6.unsuite okX, q6⟩
          | ret u => exact let ⟨_, _, _, S6, r6, q6⟩ := hsp; ⟨_, _, _, S6.unsuite okX, r6, q6⟩
      | @named x n c i ts st sts p1 p2 hs2 l2 nm ni nk sui r ih =>
        rintro ⟨b, hb1, yes, no⟩
        refine wpAny_handleBy_cons (codeAny_handlers_test ?_) (by intro q; cases q)
        refine tst nm ((PySem.W.exm_one (M := model X.prog X.w) Jp.kIn LTp hb1).here ?_)
        cases b with
        | false => exact ih (no rfl)
        | true =>
          refine codeAny_handlers_suite_as (HandSPX.lands_againZ flp fun hq flq upq => ?_)
          have Jq : Inv X pins τ' G' { t' with heap := hq } := J.landed nb flq.1 ((up.trans upp).trans upq) os ag
          obtain ⟨obq, vsq, heq, hzq, hdq⟩ := flq.there
          refine store_ok (X := X.suite a ((a, obq) :: (X.pn ++ pins))) (v := .ref a) (Jq.suite heq hdq na nL nF) nod ni (.inl nk) rfl (fun s5 S5 => ?_) (.inr nk)
          refine wpAny_mono ((sui a obq cls d (X.pn ++ pins) hzq ⟨_, hdq⟩).run [] s5 _ G' _ S5 (yes rfl a na)) (fun f s6 hsp => ?_) (fun _ _ z => False.elim z)
          have fin : ∀ {τ6 : St} {G6 : Hp} {Q : Shared → Prop}, Inv (X.suite a ((a, obq) :: (X.pn ++ pins))) [] τ6 G6 s6 → (∀ s7, Inv X pins (τ6.set i none) G6 s7 → Q s7) → wpAny (model X.prog X.w) X.A (do bindName X.env n .none; unbindBehindTheSuite X.env n p2) (fun _ s7 => Q s7) X.xe s6 :=
            fun {τ6 G6 Q} S6 hq => gone_ok (S6.unsuite okX) nod ni nk hq
          cases f with
          | next => exact let ⟨_, _, S6, q6⟩ := hsp; fin S6 fun _ J7 => ⟨_, _, J7, q6⟩
          | brk => exact let ⟨_, _, S6, q6⟩ := hsp; fin S6 fun _ J7 => ⟨_, _, J7, q6⟩
          | cont => exact let ⟨_, _, S6, q6⟩ := hsp; fin S6 fun _ J7 => ⟨_, _, J7, q6⟩
          | ret u => exact let ⟨_, _, _, S6, r6, q6⟩ := hsp; fin S6 fun _ J7 => ⟨_, _, _, J7, r6, q6⟩
    exact go clo w
  · cases fl with
    | next => exact let ⟨_, _, J0, q⟩ := hsp; wpAny_execs_nil ⟨_, _, J0.ofTry okX, q⟩
    | brk => exact let ⟨_, _, J0, q⟩ := hsp; ⟨_, _, J0.ofTry okX, q⟩
    | cont => exact let ⟨_, _, J0, q⟩ := hsp; ⟨_, _, J0.ofTry okX, q⟩
    | ret u => exact let ⟨_, _, _, J0, r, q⟩ := hsp; ⟨_, _, _, J0.ofTry okX, r, q⟩
end
end L2.Px

/-! What is general of the texts over gluings: ints, tuples of ints, small data, defs. -/
namespace L2.Px
open PySem PySem.Spec PyProof.Rows

/-- an int as a value; a tuple of ints -/
abbrev iV (ns : List Int) : List V := ns.map V.int

abbrev iD (ns : List Int) : List PyData := ns.map PyData.int

theorem dp_ints {K : PySem.W.Frag} {H : Hp} : ∀ ns : List Int, DpAll K H (iV ns) (iD ns)
  | [] => .nil
  | n :: r => .cons (.int n) (dp_ints r)

theorem lay_ints : ∀ ns : List Int, PyData.canLayAll0 (iD ns) = true
  | [] => rfl
  | n :: r => by
    show (PyData.canLay0 (.int n) && PyData.canLayAll0 (iD r)) = true
    rw [lay_ints r]
    rfl

theorem dep_ints : ∀ ns : List Int, PyData.depthAll (iD ns) = 0
  | [] => rfl
  | n :: r => by
    show max (PyData.depth (.int n)) (PyData.depthAll (iD r)) = 0
    rw [dep_ints r]
    rfl

theorem shaped_li (ns : List Int) : SeqAt.shaped (.list (iD ns)) = true := by
  show (PyData.canLayAll0 (iD ns) && decide (PyData.depthAll (iD ns) + 1 ≤ 64)) = true
  rw [lay_ints, dep_ints]
  rfl

theorem shaped_ti (ns : List Int) : SeqAt.shaped (.tuple (iD ns)) = true := by
  show (PyData.canLayAll0 (iD ns) && decide (PyData.depthAll (iD ns) + 1 ≤ 64)) = true
  rw [lay_ints, dep_ints]
  rfl

theorem _root_.L2.Same.upd {H : Hp} {p : Addr} {o : HO} (h : H p = none) : Same H (upd H p o) := fun b x e => (upd_ne (ne_of_none e h)).trans e

theorem _root_.L2.Same.tup {K : PySem.W.Frag} {H H' : Hp} {a : Addr} {xs : List V} (e : Same H H') (h : SqT K H a xs) : SqT K H' a xs := by
  rcases h with (h | ⟨o, h⟩) | h
  · exact .inl (.inl (e _ _ h))
  · exact .inl (.inr ⟨o, e _ _ h⟩)
  · exact .inr h

theorem getD_at {l : List Int} {n : Int} (h0 : 0 ≤ n) (h1 : n < (l.length : Int)) : atI (iV l) n = some (V.int (l.getD n.toNat 0)) := by
  obtain ⟨k, rfl⟩ : ∃ k : Nat, n = (k : Int) := ⟨n.toNat, by omega⟩
  refine atI_nat ?_
  have hk : k < l.length := by omega
  rw [List.getElem?_map, List.getElem?_eq_getElem hk, Int.toNat_natCast, List.getD_eq_getElem?_getD, List.getElem?_eq_getElem hk]
  rfl

theorem iV_get {l : List Int} {i : Nat} {x : V} (h : (iV l)[i]? = some x) : ∃ n, l[i]? = some n ∧ x = .int n := by
  rw [List.getElem?_map] at h
  cases e : l[i]? with
  | none => rw [e] at h; cases h
  | some n => rw [e] at h; exact ⟨n, rfl, (Option.some.inj h).symm⟩

theorem iV_app (a b : List Int) : iV (a ++ b) = iV a ++ iV b := List.map_append

theorem iV_set (a : List Int) (k : Nat) (n : Int) : iV (a.set k n) = (iV a).set k (.int n) := List.map_set

theorem take_snoc {α : Type} {l : List α} {i : Nat} {x : α} (h : l[i]? = some x) : l.take (i + 1) = l.take i ++ [x] := by
  rw [List.take_add_one, h]
  rfl

theorem ixN_nat {l k : Nat} (h : k < l) : ixN l (k : Int) = some k := by
  have h2 : atI (List.range l) (k : Int) = some k := atI_nat (by rw [List.getElem?_range h])
  unfold atI at h2
  cases e : ixN l (k : Int) with
  | none => rw [List.length_range, e] at h2; cases h2
  | some j =>
    rw [List.length_range, e] at h2
    have h3 : (List.range l)[j]? = some k := h2
    rw [List.getElem?_range] at h3
    · exact h3
    · exact Nat.lt_of_lt_of_eq (List.getElem?_eq_some_iff.mp h3).1 List.length_range

/-- a def of the text, where it stands -/
structure At (K : PySem.W.Frag) (mg : Str → Option Value) (x : Str) (st : Stmt) (ps : List Str) (f : Addr) (fd : FuncData) : Prop where
  F : Fun K x x st f fd
  g : mg x = some (.ref f)
  b : Binds K fd ps []

theorem paired_snoc {α β : Type} {R : α → β → Prop} {x : α} {y : β} (r : R x y) : ∀ {xs : List α} {ys : List β}, Paired R xs ys → Paired R (xs ++ [x]) (ys ++ [y])
  | _, _, .nil => .cons r .nil
  | _, _, .cons q t => .cons q (paired_snoc r t)

theorem paired_get {α β : Type} {R : α → β → Prop} : ∀ {xs : List α} {ys : List β} {i : Nat} {x : α}, Paired R xs ys → xs[i]? = some x → ∃ y, ys[i]? = some y ∧ R x y
  | _, _, _, _, .nil, e => by simp at e
  | _, _, 0, _, .cons r _, e => by simp at e; subst e; exact ⟨_, rfl, r⟩
  | _, _, i + 1, x, .cons _ t, e => by
    obtain ⟨u, h1, h2⟩ := paired_get (i := i) (x := x) t (by simpa using e)
    exact ⟨u, by simpa using h1, h2⟩

theorem eqv_tup (a b : List Int) : PyData.eqv (.tuple (iD a)) (.tuple (iD b)) = decide (a = b) := PySem.W.ked_eqvAll a b

theorem u65 {A : Around} {k : Nat} (hr : Room k A) : A.units + 65 < cLine := by have := hr.un; omega

theorem dp_ti {K : PySem.W.Frag} {H : Hp} {a : Addr} {ns : List Int} (h : SqT K H a (iV ns)) : Dp K H (.ref a) (.tuple (iD ns)) := .tup h (dp_ints ns)

/-- isinstance(e, c), e what the suite holds: its class and dict told apart -/
theorem call_isE2 {X : Cx} {a D : Addr} {oe : Obj} {cls : Value} {d : Option Addr} {pn : List (Addr × Obj)} (C : ExcC X.K D) (hz : Zc cls d oe) (hf : ∃ vs, oe.data = .fields vs) :
    CallR (X.suite a ((a, oe) :: pn)) (.builtin "isinstance") (fun xs H Q => cls = .ref D ∧ d = none ∧ rIsE X.K D a xs H Q) := by
  intro pins s σ H xs us Q I r h
  obtain ⟨e1, e2, q⟩ := h
  subst e1 e2
  exact call_isE C hz hf pins s σ H xs us Q I r q

mutual
def sm : PyData → Bool
  | .none => true
  | .bool _ => true
  | .int i => decide (i.natAbs < 1000000000)
  | .str x => x.cps.toList.all fun c => decide (c < 16 ^ 8)
  | .list xs => smAll xs
  | .tuple xs => smAll xs
  | .dict _ => false
def smAll : List PyData → Bool
  | [] => true
  | x :: r => sm x && smAll r
end

theorem int_short {i : Int} (h : i.natAbs < 1000000000) : (PyData.shown (.int i)).length ≤ 20 := by
  show (Str.ofString (toString i)).length ≤ 20
  rw [PySem.ofString_length]
  have := int_text_length_le10 (a := i) (k := 9) (by decide) h
  omega

mutual
theorem sm_ok : ∀ d : PyData, sm d = true → d.showable = true ∧ d.hasDict = false ∧ d.leavesShort 20 = true
  | .none, _ => ⟨rfl, rfl, rfl⟩
  | .bool _, _ => ⟨rfl, rfl, rfl⟩
  | .int i, h => by
    have h : i.natAbs < 1000000000 := of_decide_eq_true h
    refine ⟨decide_eq_true ?_, rfl, decide_eq_true (int_short h)⟩
    by_cases z : i.natAbs = 0
    · rw [z]
      decide
    · exact Nat.lt_of_lt_of_le ((Nat.log2_lt z).mpr (Nat.lt_of_lt_of_le h (by decide : 1000000000 ≤ 2 ^ 30))) (by decide)
  | .str x, h => ⟨rfl, rfl, h⟩
  | .list xs, h => smAll_ok xs h
  | .tuple xs, h => smAll_ok xs h
  | .dict _, h => by cases h
theorem smAll_ok : ∀ xs : List PyData, smAll xs = true → PyData.showableAll xs = true ∧ PyData.hasDictAll xs = false ∧ PyData.leavesShortAll 20 xs = true
  | [], _ => ⟨rfl, rfl, rfl⟩
  | x :: r, h => by
    have h : (sm x && smAll r) = true := h
    rw [Bool.and_eq_true] at h
    obtain ⟨a1, a2, a3⟩ := sm_ok x h.1
    obtain ⟨b1, b2, b3⟩ := smAll_ok r h.2
    refine ⟨?_, ?_, ?_⟩
    · show (PyData.showable x && PyData.showableAll r) = true
      rw [a1, b1]
      rfl
    · show (PyData.hasDict x || PyData.hasDictAll r) = false
      rw [a2, b2]
      rfl
    · show (PyData.leavesShort 20 x && PyData.leavesShortAll 20 r) = true
      rw [a3, b3]
      rfl
end

/-- repr(x) of small data -/
def rReprS (K : PySem.W.Frag) : List V → Hp → VK → Prop := fun vs H Q => ∃ (x : V) (d : PyData), vs = [x] ∧ Dp K H x d ∧ sm d = true ∧ d.depth ≤ 60 ∧ d.weight ≤ 700000 ∧ Q (.str d.shown) H

section
variable {X : Cx}
theorem cr_reprS (hg : X.A.guards = some []) (hu : X.A.units + 64 < cLine) : CallR X (.builtin "repr") (rReprS X.K) := by
  intro pins s σ H vs us Q I r h
  obtain ⟨x, d, e, hd, hs, hp, hw, q⟩ := h
  obtain ⟨s1, s2, s3⟩ := sm_ok d hs
  refine cr_reprD hg hu pins s σ H vs us Q I r ⟨x, d, e, hd, s1, s2, hp, ?_, q⟩
  have := PyData.shown_le 20 (by decide) d s3
  have z : sizeLine = 16777216 := sizeLine_eq
  omega
end

theorem sm_ints : ∀ ns : List Int, (∀ n ∈ ns, n.natAbs < 1000000000) → smAll (iD ns) = true
  | [], _ => rfl
  | n :: r, h => by
    show (decide (n.natAbs < 1000000000) && smAll (iD r)) = true
    rw [decide_eq_true (h n (by simp)), sm_ints r fun m hm => h m (by simp [hm])]
    rfl

theorem wt_int {n : Int} (h : n.natAbs < 1000000000) : PyData.weight (.int n) ≤ 30 := by
  show (if n == 0 then 0 else n.natAbs.log2 + 1) ≤ 30
  split
  · exact Nat.zero_le _
  · rename_i z
    have z : n.natAbs ≠ 0 := fun e => z (by have := Int.natAbs_eq_zero.mp e; simp [this])
    exact (Nat.log2_lt z).mpr (Nat.lt_of_lt_of_le h (by decide : 1000000000 ≤ 2 ^ 30))

theorem wt_ints : ∀ ns : List Int, (∀ n ∈ ns, n.natAbs < 1000000000) → PyData.weightAll (iD ns) ≤ 31 * ns.length
  | [], _ => Nat.le_refl _
  | n :: r, h => by
    have h1 := wt_ints r fun m hm => h m (by simp [hm])
    have h2 := wt_int (h n (by simp))
    show PyData.weight (.int n) + 1 + PyData.weightAll (iD r) ≤ _
    simp only [List.length_cons]
    omega

theorem sl_any {K : PySem.W.Frag} {H : Hp} {a : Addr} {xs : List V} {lo hi : Option Int} {Q : VK} (h : SqT K H a xs) (k : ∀ H' p, Same H H' → SqT K H' p (cutV xs lo hi) → Q (.ref p) H') : rSlA K (.ref a) lo hi H Q := by
  refine ⟨a, xs, rfl, h, fun c => k H a (Same.refl H) ?_, fun _ p hp => k _ p (Same.upd hp) (.of upd_same)⟩
  unfold cutV
  rw [c.1, c.2, List.drop_zero, Nat.sub_zero, List.take_length]
  exact h

theorem cat_any {K : PySem.W.Frag} {H : Hp} {a b : Addr} {xs ys : List V} {Q : VK} (h1 : SqT K H a xs) (h2 : SqT K H b ys) (hz : xs.length + ys.length ≤ sizeLine) (k : ∀ H' p, Same H H' → SqT K H' p (xs ++ ys) → Q (.ref p) H') : rCatA K (.ref a) (.ref b) H Q := by
  refine ⟨a, b, xs, ys, rfl, rfl, h1, h2, hz, fun e => k H b (Same.refl H) ?_, fun _ e => k H a (Same.refl H) ?_, fun _ _ p hp => k _ p (Same.upd hp) (.of upd_same)⟩
  · rw [e, List.nil_append]
    exact h2
  · rw [e, List.append_nil]
    exact h1

/-- t + u, in one: some tuple of both, all else as it was -/
def rCatS (K : PySem.W.Frag) : R2 := fun x y H Q => ∃ a b xs ys, x = .ref a ∧ y = .ref b ∧ SqT K H a xs ∧ SqT K H b ys ∧ xs.length + ys.length ≤ sizeLine ∧ ∀ H' p, Same H H' → SqT K H' p (xs ++ ys) → Q (.ref p) H'

section
variable {X : Cx}
theorem op_catS : OpR X (binaryOp .Add) (rCatS X.K) := by
  intro pins s σ H x y v u Q I rx ry h
  obtain ⟨a, b, xs, ys, rfl, rfl, h1, h2, hz, k⟩ := h
  exact op_catA pins s σ H _ _ v u Q I rx ry (cat_any h1 h2 hz k)
end

/-- t[lo:hi], in one -/
def rSlS (K : PySem.W.Frag) : V → Option Int → Option Int → Hp → VK → Prop := fun x lo hi H Q => ∃ a xs, x = .ref a ∧ SqT K H a xs ∧ ∀ H' p, Same H H' → SqT K H' p (cutV xs lo hi) → Q (.ref p) H'

section
variable {X : Cx}
theorem sl_tupS : SlR X (rSlS X.K) := by
  intro pins s σ H x v vl vu lo hi sl Q I rx hs pl pu h
  obtain ⟨a, xs, rfl, h1, k⟩ := h
  exact sl_tupA pins s σ H _ v vl vu lo hi sl Q I rx hs pl pu (sl_any h1 k)
end

structure Sml (d : PyData) : Prop where
  a : sm d = true
  b : d.depth ≤ 60
  c : d.weight ≤ 700000

mutual
theorem dp_same {K : PySem.W.Frag} {H H' : Hp} (h : Same H H') : ∀ {d : PyData} {v : V}, Dp K H v d → Dp K H' v d
  | .none, _, .non => .non
  | .bool _, _, .bl b => .bl b
  | .int _, _, .int i => .int i
  | .str _, _, .str x => .str x
  | .list _, _, .lst a b => .lst (h.seq a) (dpAll_same h b)
  | .tuple _, _, .tup a b => .tup (h.tup a) (dpAll_same h b)
theorem dpAll_same {K : PySem.W.Frag} {H H' : Hp} (h : Same H H') : ∀ {ds : List PyData} {vs : List V}, DpAll K H vs ds → DpAll K H' vs ds
  | [], _, .nil => .nil
  | _ :: _, _, .cons a b => .cons (dp_same h a) (dpAll_same h b)
end

/-- one more in a list that is one's own -/
theorem own_push {H H' : Hp} {D : Addr} {o : HO} (sm : Same H H') (h : H D = none) : Same H (upd H' D o) := fun c u e => (upd_ne (ne_of_none e h)).trans (sm c u e)

theorem mul_r {i j : Int} (h1 : -(2 ^ 64) < j) (h2 : j < 2 ^ 64) : CMul i j := .inr ⟨h1, h2⟩

theorem sq_over {K : PySem.W.Frag} {H : Hp} {D t : Addr} {l xs : List V} {o : HO} (hd : H D = some (.lst l)) (h : SqT K H t xs) : SqT K (upd H D o) t xs := by
  rcases h with (h | ⟨ob, h⟩) | h
  · exact .inl (.inl ((upd_ne fun z => by rw [z, hd] at h; cases h).trans h))
  · exact .inl (.inr ⟨ob, (upd_ne fun z => by rw [z, hd] at h; cases h).trans h⟩)
  · exact .inr h

/-- an own exception class of the text -/
structure ExN (K : PySem.W.Frag) (mg : Str → Option Value) (x : Str) (C : Addr) : Prop where
  g : mg x = some (.ref C)
  k : PySem.W.keepIn K (.ref C) = true
  x : PySem.W.excIn K C [.type "ValueError", .type "Exception", .type "BaseException", .type "object"] "ValueError.__new__" = true
  b : PySem.W.subIn K (.ref C) (.type "BaseException") = some true
  t : PySem.W.typeIn K (.ref C) = some (.type "type")

/-- tuple(l), l a list: the new tuple's object has no dict -/
theorem call_tuple_ofF {X : Cx} : CallR X (.type "tuple") (fun xs H Q => ∃ p ys, xs = [.ref p] ∧ SqL X.K H p ys ∧ ∀ l o, H l = none → o.dict = none → Q (.ref l) (upd H l (.frz o (.tup ys)))) := by
  intro pins s σ H xs us Q I r h
  obtain ⟨p, ys, rfl, hq, q⟩ := h
  rw [Vals.ref1 r]
  obtain ⟨its, rv, pl, hz⟩ := I.list hq
  refine call_tuple_list pl.isList (fun h1 kp => ?_) (by rw [List.size_toArray, ← rv.length]; exact hz)
  have I1 : Inv X pins σ H { s with heap := h1 } := I.kept (t' := s.toks) kp
  have e1 : (h1.push { cls := .type "tuple", data := .seq its.toArray }).get? h1.objs.size = some { cls := .type "tuple", data := .seq its.toArray } := Heap.get?_push_size _ rfl
  exact ⟨.ref h1.objs.size, _, I1.laid (t' := s.toks) (fun _ _ e => Heap.get?_push_of_some _ e) (Nat.le_refl _) (show ObjOk X.prog X.w _ _ _ (.frz { cls := .type "tuple", data := .seq its.toArray } (.tup ys)) from ⟨e1, hz, its, rv, _, e1, rfl, _, rfl⟩), rfl, q _ _ (I1.hok.fresh (Nat.le_refl _)) rfl⟩

/-- o.name(e, ..), a method of a tuple whose object has no dict -/
def tBMT (r : V → List V → Hp → VK → Prop) (to : TE) (t : TA) : TE := fun σ H Q => to σ H fun x H1 => (∃ p o xs, x = .ref p ∧ H1 p = some (.frz o (.tup xs)) ∧ o.dict = none) ∧ t σ H1 fun ys H2 => r x ys H2 Q

theorem pe_bmT {X : Cx} {o e : Expr} {es : List Expr} {to : TE} {t : TA} {name : Str} {apos cpos : Pos} {id : String} {r : V → List V → Hp → VK → Prop} (slot : Slot "tuple" name id) (ty : typeOf (.builtin id) = pure (.type "method_descriptor")) (hm : MtR X id r) (ho : PE X o to) (ha : PA X (e :: es) t)
    (hb : attributeBase o name X.env (eval o X.env) = eval o X.env := by rfl)
    (hf : ((backTo cpos (starEach (e :: es) X.env)).all (fun x => !x.1) && (backToKw cpos (keywordEach [] X.env)).all (fun x => x.1.isSome) && decide ((e :: es).length + ([] : List Keyword).length + (if ([] : List Keyword).isEmpty then 0 else 1) < 30)) = true := by rfl)
    (hl : (apos.endLine == cpos.line) = true := by rfl) (hs : starEach (e :: es) X.env = (false, eval e X.env) :: starEach es X.env := by rfl) (hp : (backTo cpos (starEach es X.env)).any (·.1) = false := by rfl) :
    PE X (.Call (.Attribute o name apos) (e :: es) [] cpos) (tBMT r to t) := by
  refine ⟨fun pins s σ H Q I h => wpAny_Call_method_late hb hf hl rfl (thn (ho.run pins s σ H _ I h) fun v s1 ⟨x, H1, I1, r1, ⟨p, ob, xs, ex, ep, ed⟩, q⟩ => ?_)⟩
  subst ex
  cases r1
  obtain ⟨e1, _, its, _, o2, e2, c2, _⟩ := I1.hok p _ ep
  have arg := ha.run cpos pins s1 σ H1 _ I1 q
  rw [hs] at arg ⊢
  refine ⟨"tuple", id, PySem.F.plainAttrs_tuple, slot, ty, ⟨o2, e2, c2⟩, fun a z => ?_, Calls.callWith_builtin ?_ (Calls.evalArgs_plain (thn arg fun us s2 ⟨ys, H2, I2, r2, q2⟩ => hm pins s2 σ H2 (.ref p) ys _ us Q I2 rfl r2 q2))⟩
  · cases z
    exact ⟨ob, e1, ed⟩
  · show (false || (backTo cpos (starEach es X.env)).any (·.1)) = false
    rw [hp]
    rfl

theorem cut_to (l : List Int) (k : Nat) (h : k ≤ l.length) : cutV (iV l) none (some (k : Int)) = iV (l.take k) := by
  unfold cutV
  rw [HT.sIx_none, HT.sIx_nat, List.drop_zero, List.length_map, Nat.min_eq_left h, Nat.sub_zero]
  exact List.map_take.symm

theorem cut_from (l : List Int) (k : Nat) (h : k ≤ l.length) : cutV (iV l) (some (k : Int)) none = iV (l.drop k) := by
  unfold cutV
  rw [HT.sIx_none, HT.sIx_nat, List.length_map, Nat.min_eq_left h]
  rw [List.take_of_length_le (by rw [List.length_drop, List.length_map]; omega)]
  exact List.map_drop.symm

theorem exm_of {K : PySem.W.Frag} {S T : Addr} {b : Bool} (h1 : PySem.W.subIn K (.ref T) (.type "BaseException") = some true) (h4 : PySem.W.kitCls K (.ref S) (.ref T) = some b) : PySem.W.exmOne K (.ref S) (.ref T) = some b := by
  have e1 : (PySem.W.subIn K (.ref T) (.type "BaseException") == some true) = true := by rw [h1] <;> rfl
  show (if (PySem.W.subIn K (.ref T) (.type "BaseException") == some true) = true then PySem.W.kitCls K (.ref S) (.ref T) else none) = some b
  rw [if_pos e1]
  exact h4

theorem ps_imq {X : Cx} {st : Stmt} {t u : TS} (h : PS X st t) (k : ∀ D σ H, u D σ H → t D σ H) : PS X st u := ⟨fun pins s σ H D I q => h.run pins s σ H D I (k D σ H q)⟩

theorem small1000x {n : Nat} (h : n ≤ 10000) : n < sizeLine := Nat.lt_of_le_of_lt h (by decide)

/-- l.index(n), a list of ints -/
theorem mt_lidxI {X : Cx} : MtR X "list.index" (fun x xs H Q => ∃ (p : Addr) (ys : List Int) (n : Int), x = .ref p ∧ xs = [.int n] ∧ SqL X.K H p (iV ys) ∧ n ∈ ys ∧ Q (.int (ys.idxOf n : Nat)) H) := by
  intro pins s σ H x xs v us Q I rx rs h
  obtain ⟨p, ys, n, rfl, rfl, hq, hn, q⟩ := h
  have lt := List.idxOf_lt_length_of_mem hn
  refine mt_index pins s σ H _ _ v us Q I rx rs ⟨p, iV ys, .int n, ys.idxOf n, .int n, rfl, rfl, hq, rfl, ?_, ?_, ?_, fun m z' hm e => ?_, q⟩
  · refine List.all_eq_true.mpr fun v hv => ?_
    obtain ⟨k, _, rfl⟩ := List.mem_map.mp hv
    rfl
  · rw [List.getElem?_map, List.getElem?_eq_getElem lt, List.getElem_idxOf]
    rfl
  · exact beq_self_eq_true n
  · obtain ⟨k, hk, rfl⟩ := iV_get e
    show (k == n) = false
    have := List.not_of_lt_findIdx (p := (· == n)) (xs := ys) (i := m) hm
    obtain ⟨lm, ek⟩ := List.getElem?_eq_some_iff.mp hk
    rw [ek] at this
    simpa using this

abbrev cI (l : List Nat) : List Int := l.map fun x : Nat => (x : Int)

theorem rg_nat (m : Nat) : rgV 0 (m : Int) = iV (cI (List.range m)) := by
  unfold rgV
  have : ((m : Int) - 0).toNat = m := by omega
  rw [this]
  unfold iV cI
  rw [List.map_map]
  refine List.map_congr_left fun i _ => ?_
  show V.int (0 + (i : Int)) = V.int (i : Int)
  rw [Int.zero_add]

theorem pass0x {P : Program} {w : World} {X : Cx} : Passes (L2.CX P w) X E0 := fun _ _ _ _ _ _ _ h => by
  obtain ⟨_, _, _, _, _, _, _, _, _, _, _, _, hE⟩ := h
  exact hE.elim

/-- t.index(n), a tuple of ints -/
theorem mt_tidxI {X : Cx} : MtR X "tuple.index" (fun x xs H Q => ∃ (p : Addr) (ys : List Int) (n : Int), x = .ref p ∧ xs = [.int n] ∧ SqT X.K H p (iV ys) ∧ n ∈ ys ∧ Q (.int (ys.idxOf n : Nat)) H) := by
  intro pins s σ H x xs v us Q I rx rs h
  obtain ⟨p, ys, n, rfl, rfl, hq, hn, q⟩ := h
  cases rx
  obtain ⟨its, r, tp, hz⟩ := I.tuple hq
  cases rs with
  | cons ru rn =>
    cases rn
    obtain ⟨t, rfl⟩ := ru
    exact PySem.SeqAt.tuple_index_ints tp r.ints hn ⟨.int _, H, I.tok _, ⟨_, rfl⟩, q⟩

end L2.Px

/-! What is new in a heap; comprehensions that make one item a turn. -/
namespace L2.Px
open PySem PySem.Spec PyProof.Rows
abbrev rLenSeq (K : PySem.W.Frag) : List V → Hp → VK → Prop := fun xs H Q => ∃ p ys, xs = [V.ref p] ∧ (SqL K H p ys ∨ SqT K H p ys) ∧ Q (.int ys.length) H
abbrev rListOf (K : PySem.W.Frag) : List V → Hp → VK → Prop := fun xs H Q => ∃ p ys, xs = [V.ref p] ∧ (SqL K H p ys ∨ SqT K H p ys) ∧ ∀ l, H l = none → Q (.ref l) (upd H l (.lst ys))
abbrev rTupOf (K : PySem.W.Frag) : List V → Hp → VK → Prop := fun xs H Q => ∃ p ys, xs = [V.ref p] ∧ ((SqL K H p ys ∧ ∀ l, H l = none → Q (.ref l) (upd H l (.tup ys))) ∨ (SqT K H p ys ∧ Q (.ref p) H))
abbrev rTupT (K : PySem.W.Frag) : List V → Hp → VK → Prop := fun xs H Q => ∃ a ys, xs = [V.ref a] ∧ SqT K H a ys ∧ Q (.ref a) H
abbrev rInt1 : List V → Hp → VK → Prop := fun xs H Q => (∃ i, xs = [V.int i] ∧ Q (.int i) H) ∨ ∃ k, xs = [V.bl k] ∧ Q (.int (if k then 1 else 0)) H
abbrev rAbs : List V → Hp → VK → Prop := fun xs H Q => ∃ i, xs = [V.int i] ∧ Q (.int (if i < 0 then -i else i)) H
/-- a body in two parts, the second one from its own state -/
theorem cut2 {X : Cx} {body : List Stmt} {D : Ends} {σ : St} {H : Hp} (tl : List Stmt) (P : St → Hp → Prop) (h2 : ∃ u, PSs X tl u ∧ ∀ σ' H', P σ' H' → u D σ' H')
    (h1 : ∀ u, PSs X tl u → (∀ σ' H', P σ' H' → u D σ' H') → ∃ t, PSs X body t ∧ t D σ H) : ∃ t, PSs X body t ∧ t D σ H :=
  let ⟨u, a, b⟩ := h2
  h1 u a b
/-- the heap without an address -/
def hid (D : Addr) (H : Hp) : Hp := fun b => if b = D then none else H b
/-- what is new in H' -/
def nw (H H' : Hp) : Hp := fun b => if H b = none then H' b else none
theorem hid_ne {D b : Addr} {H : Hp} (h : b ≠ D) : hid D H b = H b := if_neg h
theorem hid_some {D b : Addr} {H : Hp} {o : HO} (h : hid D H b = some o) : b ≠ D ∧ H b = some o := by
  unfold hid at h
  split at h
  · cases h
  · rename_i z
    exact ⟨z, h⟩
theorem hid_same {D : Addr} {H : Hp} : Same (hid D H) H := fun _ _ e => (hid_some e).2
theorem hid_self {D : Addr} {H : Hp} : hid D H D = none := if_pos rfl
theorem Same.hid {D : Addr} {H H' : Hp} (s : Same H H') : Same (hid D H) (hid D H') := fun b o e => by
  obtain ⟨n, e⟩ := hid_some e
  rw [hid_ne n]
  exact s b o e
theorem hid_upd {D : Addr} {H : Hp} {o : HO} : hid D (upd H D o) = hid D H := by
  funext b
  unfold hid
  split
  · rfl
  · rename_i z
    exact upd_ne z
theorem upd_hid {D p : Addr} {H : Hp} {o : HO} (n : p ≠ D) : hid D (upd H p o) = upd (hid D H) p o := by
  funext b
  by_cases e : b = p
  · subst e
    rw [hid_ne n, upd_same, upd_same]
  · rw [upd_ne e]
    unfold hid
    split
    · rfl
    · exact upd_ne e
theorem nw_some {H H' : Hp} {b : Addr} {o : HO} (h : nw H H' b = some o) : H b = none ∧ H' b = some o := by
  unfold nw at h
  split at h
  · rename_i z
    exact ⟨z, h⟩
  · cases h
theorem nw_of {H H' : Hp} {b : Addr} {o : HO} (h1 : H b = none) (h2 : H' b = some o) : nw H H' b = some o := by
  unfold nw
  rw [if_pos h1]
  exact h2
theorem nw_same {H H' : Hp} : Same (nw H H') H' := fun _ _ e => (nw_some e).2
theorem none_of_same {H H' : Hp} {b : Addr} (s : Same H H') (h : H' b = none) : H b = none := by
  cases e : H b with
  | none => rfl
  | some o => rw [s b o e] at h; cases h
/-- what is new later is new, and stays -/
theorem nw_mono {H0 H H' H'' : Hp} (s0 : Same H0 H) (s : Same H' H'') : Same (nw H H') (nw H0 H'') := fun b o e => by
  obtain ⟨e1, e2⟩ := nw_some e
  exact nw_of (none_of_same s0 e1) (s b o e2)
theorem nw_hid {H H' : Hp} {D : Addr} {o : HO} (h : H D = some o) : Same (nw H H') (hid D H') := fun b o e => by
  obtain ⟨e1, e2⟩ := nw_some e
  rw [hid_ne fun z => by rw [z, h] at e1; cases e1]
  exact e2
/-- a relation that lasts while objects stand -/
def Lasts {α : Type} (R : Hp → V → α → Prop) : Prop := ∀ H H' v a, Same H H' → R H v a → R H' v a
def RInt : Hp → V → Int → Prop := fun _ v a => v = .int a
theorem lasts_int : Lasts RInt := fun _ _ _ _ _ h => h
def RBl : Hp → V → Bool → Prop := fun _ v a => v = .bl a
theorem lasts_bl : Lasts RBl := fun _ _ _ _ _ h => h
theorem paired_mono {α β : Type} {R S : α → β → Prop} (k : ∀ x y, R x y → S x y) : ∀ {xs : List α} {ys : List β}, Paired R xs ys → Paired S xs ys
  | _, _, .nil => .nil
  | _, _, .cons h r => .cons (k _ _ h) (paired_mono k r)
theorem paired_at {α β : Type} {R : α → β → Prop} : ∀ {xs : List α} {ys : List β} {i : Nat} {y : β}, Paired R xs ys → ys[i]? = some y → ∃ x, xs[i]? = some x ∧ R x y
  | _, _, 0, _, .cons h r, e => by cases e; exact ⟨_, rfl, h⟩
  | _, _, i + 1, _, .cons h r, e => paired_at r (i := i) e
theorem paired_int {xs : List V} {ns : List Int} : ∀ {H : Hp}, Paired (RInt H) xs ns → xs = iV ns := fun {H} h => by
  induction h with
  | nil => rfl
  | cons h r ih => rw [h, ih]; rfl
theorem paired_bl {xs : List V} {ns : List Bool} : ∀ {H : Hp}, Paired (RBl H) xs ns → xs = ns.map V.bl := fun {H} h => by
  induction h with
  | nil => rfl
  | cons h r ih => rw [h, ih]; rfl
section
variable {J : It} {n : Nat} {G : Hp → Prop} {Y : Nat → Hp → V → Hp → Prop} {α : Type}
/-- a comprehension that makes at most one item a turn, and changes nothing else -/
theorem lc_filt (w : Walk J n G Y) (R : Hp → V → α → Prop) (last : Lasts R) (f : Nat → Option α) {g : TG} {tt : TT} {te : TE} {vs : List Nat} {σ : St} {H1 : Hp} {D : Addr} {Qd : Hp → Prop} (hD : H1 D = none) (hn : n ≤ 10000)
    (hG : ∀ H, Same H1 H → G H)
    (hs : ∀ i x H H', i < n → Same H1 H → Y i H x H' → ∀ Nx : Hp → Prop,
      (∀ H4 y a, f i = some a → Same H H4 → R (nw H H4) y a → ∃ acc, H4 D = some (.lst acc) ∧ acc.length < sizeLine ∧ Nx (upd H4 D (.lst (acc ++ [y])))) → (∀ H4, f i = none → Same H H4 → Nx H4) →
      g x (wipe σ vs) H' fun σ2 H2 => wipe σ2 vs = wipe σ vs ∧ tt σ2 H2 fun b H3 => if b = true then te σ2 H3 fun y H4 => ∃ acc, H4 D = some (.lst acc) ∧ acc.length < sizeLine ∧ Nx (upd H4 D (.lst (acc ++ [y]))) else Nx H3)
    (hd : ∀ H ws, Same H1 H → H D = some (.lst ws) → Paired (R (hid D (nw H1 H))) ws ((List.range n).filterMap f) → Qd H) :
    ∃ W : Nat → Nat → Hp → Prop, (∃ m, W 0 m (upd H1 D (.lst []))) ∧ ∀ i m H, W i m H →
      (J.stop i H ∧ Qd H) ∨ (J.go i H ∧ ∃ Nx : Hp → Prop, (∀ H', Nx H' → ∃ m', m' < m ∧ W (i + 1) m' H') ∧ ∀ x H', J.yld i H x H' → g x (wipe σ vs) H' fun σ2 H2 => wipe σ2 vs = wipe σ vs ∧ tt σ2 H2 fun b H3 =>
        if b = true then te σ2 H3 fun y H4 => ∃ acc, H4 D = some (.lst acc) ∧ acc.length < sizeLine ∧ Nx (upd H4 D (.lst (acc ++ [y]))) else Nx H3) := by
  refine lc_it w (fun i H => Same H1 H ∧ ∃ ws, H D = some (.lst ws) ∧ ws.length ≤ i ∧ Paired (R (hid D (nw H1 H))) ws ((List.range i).filterMap f)) ⟨Same.upd hD, [], upd_same, Nat.le_refl _, .nil⟩ (fun i H _ h => hG H h.1) ?_ (fun H ⟨sm, ws, hd', _, p⟩ => hd H ws sm hd' p)
  rintro i x H H' hi ⟨sm, ws, hD', lw, p⟩ y
  have size : ws.length < sizeLine := small1000x (by omega)
  have rng : (List.range (i + 1)).filterMap f = (List.range i).filterMap f ++ (f i).toList := by
    rw [List.range_succ, List.filterMap_append]
    congr 1
  have carry : ∀ H4, Same H H4 → ∀ v a, R (hid D (nw H1 H)) v a → R (hid D (nw H1 H4)) v a := fun H4 s v a h => last _ _ v a (Same.hid (nw_mono (Same.refl _) s)) h
  refine hs i x H H' hi sm y _ (fun H4 z a e s r => ⟨ws, s _ _ hD', size, own_push (sm.trans s) hD, ws ++ [z], upd_same, by rw [List.length_append]; simp only [List.length_cons, List.length_nil]; omega, ?_⟩) (fun H4 e s => ⟨sm.trans s, ws, s _ _ hD', by omega, ?_⟩)
  · have eq : hid D (nw H1 (upd H4 D (.lst (ws ++ [z])))) = hid D (nw H1 H4) := by
      funext b
      unfold hid nw
      split
      · rfl
      · rename_i nb
        rw [upd_ne nb]
    rw [eq, rng, e]
    refine paired_snoc (R := R (hid D (nw H1 H4))) (last _ _ _ _ ?_ r) (paired_mono (carry H4 s) p)
    intro b o hb
    obtain ⟨e1, e2⟩ := nw_some hb
    rw [hid_ne fun q => by rw [q, hD'] at e1; cases e1]
    exact nw_of (none_of_same sm e1) e2
  · rw [rng, e]
    show Paired _ _ (_ ++ [])
    rw [List.append_nil]
    exact paired_mono (carry H4 s) p
/-- a comprehension that makes one item a turn, and changes nothing else -/
theorem lc_map (w : Walk J n G Y) (R : Hp → V → α → Prop) (last : Lasts R) (f : Nat → α) {g : TG} {tt : TT} {te : TE} {vs : List Nat} {σ : St} {H1 : Hp} {D : Addr} {Qd : Hp → Prop} (hD : H1 D = none) (hn : n ≤ 10000)
    (hG : ∀ H, Same H1 H → G H)
    (hs : ∀ i x H H', i < n → Same H1 H → Y i H x H' → ∀ Nx : Hp → Prop,
      (∀ H4 y, Same H H4 → R (nw H H4) y (f i) → ∃ acc, H4 D = some (.lst acc) ∧ acc.length < sizeLine ∧ Nx (upd H4 D (.lst (acc ++ [y])))) →
      g x (wipe σ vs) H' fun σ2 H2 => wipe σ2 vs = wipe σ vs ∧ tt σ2 H2 fun b H3 => if b = true then te σ2 H3 fun y H4 => ∃ acc, H4 D = some (.lst acc) ∧ acc.length < sizeLine ∧ Nx (upd H4 D (.lst (acc ++ [y]))) else Nx H3)
    (hd : ∀ H ws, Same H1 H → H D = some (.lst ws) → Paired (R (hid D (nw H1 H))) ws ((List.range n).map f) → Qd H) :
    ∃ W : Nat → Nat → Hp → Prop, (∃ m, W 0 m (upd H1 D (.lst []))) ∧ ∀ i m H, W i m H →
      (J.stop i H ∧ Qd H) ∨ (J.go i H ∧ ∃ Nx : Hp → Prop, (∀ H', Nx H' → ∃ m', m' < m ∧ W (i + 1) m' H') ∧ ∀ x H', J.yld i H x H' → g x (wipe σ vs) H' fun σ2 H2 => wipe σ2 vs = wipe σ vs ∧ tt σ2 H2 fun b H3 =>
        if b = true then te σ2 H3 fun y H4 => ∃ acc, H4 D = some (.lst acc) ∧ acc.length < sizeLine ∧ Nx (upd H4 D (.lst (acc ++ [y]))) else Nx H3) := by
  refine lc_filt w R last (fun i => some (f i)) hD hn hG (fun i x H H' hi sm y Nx k _ => hs i x H H' hi sm y Nx fun H4 z s r => k H4 z (f i) rfl s r) (fun H ws sm h p => hd H ws sm h ?_)
  rw [List.filterMap_eq_map'] at p
  exact p
end
end L2.Px

/-! t[::-1] and t.count(n) of tuples; xs[i] += n of lists. -/
namespace HT
open PySem PySem.Spec PyProof.Rows L2
section
variable {prog : Program} {w : World} {A : Around} {E : Value → Shared → Prop} {s : Shared}
theorem px_adjust (n : Nat) : Builtin.Slice.sliceAdjust none none (-1) (n : Int) = ((n : Int) - 1, -1) := rfl
theorem px_places (n : Nat) : Builtin.Slice.slicePlaces ((n : Int) - 1) (-1) (-1) = n := by
  unfold Builtin.Slice.slicePlaces
  have h1 : ¬ ((-1 : Int) > 0) := by omega
  simp only [h1, if_false, Int.neg_neg, Int.ediv_one]
  split <;> omega
theorem px_applied {sl : Addr} {vl vu vs : Value} {n : Nat} {Q : Int × Int × Nat → Shared → Prop} (hs : s.heap.IsSliceOf sl vl vu vs) (pl : IsPart vl none) (pu : IsPart vu none) (ps : IsPart vs (some (-1)))
    (h : Q ((n : Int) - 1, -1, n) s) : wpAny (model prog w) A (Builtin.Slice.sliceApplied (.ref sl) (pure (n : Int))) Q E s := by
  obtain ⟨os, hos, hcs, hds⟩ := id hs
  unfold Builtin.Slice.sliceApplied Builtin.Slice.sliceFields
  refine wpAny_bind (wpAny_bind (wpAny_field hos hds (x := vl) rfl (wpAny_bind (wpAny_field hos hds (x := vu) rfl (wpAny_bind (wpAny_field hos hds (x := vs) rfl (wpAny_pure ?_)))))))
  refine wpAny_bind (slicePart_ ps ?_)
  show wpAny _ _ (if ((-1 : Int) == 0) = true then _ else _) _ _ s
  rw [if_neg (by decide)]
  refine wpAny_bind (slicePart_ pl (wpAny_bind (slicePart_ pu (wpAny_bind (wpAny_pure ?_)))))
  show wpAny _ _ (match Builtin.Slice.sliceAdjust none none (-1) (n : Int) with | (lo, hi) => pure (lo, (-1 : Int), Builtin.Slice.slicePlaces lo hi (-1))) _ _ s
  rw [px_adjust n]
  show wpAny _ _ (pure ((n : Int) - 1, (-1 : Int), Builtin.Slice.slicePlaces ((n : Int) - 1) (-1) (-1))) _ _ s
  rw [px_places]
  exact wpAny_pure h
theorem px_congr {α β : Type} {f g : α → Option β} : ∀ l : List α, (∀ x ∈ l, f x = g x) → l.filterMap f = l.filterMap g
  | [], _ => rfl
  | x :: l, h => by
    rw [List.filterMap_cons, List.filterMap_cons, h x List.mem_cons_self, px_congr l fun y hy => h y (List.mem_cons_of_mem _ hy)]
theorem px_pick (xs : Array Value) : ((List.range xs.size).filterMap fun (m : Nat) => xs[(((xs.size : Nat) : Int) - 1 + (m : Int) * -1).toNat]?).toArray = xs.toList.reverse.toArray := by
  refine congrArg List.toArray (List.ext_getElem? fun i => ?_)
  have e : ((List.range xs.size).filterMap fun (m : Nat) => xs[(((xs.size : Nat) : Int) - 1 + (m : Int) * -1).toNat]?) = (List.range xs.size).map fun m => xs[xs.size - 1 - m]?.getD .none := by
    rw [← List.filterMap_eq_map']
    refine px_congr _ fun m hm => ?_
    have hm := List.mem_range.mp hm
    have : (((xs.size : Nat) : Int) - 1 + (m : Int) * -1).toNat = xs.size - 1 - m := by omega
    rw [this, Array.getElem?_eq_getElem (by omega)]
    rfl
  rw [e]
  by_cases hi : i < xs.size
  · rw [List.getElem?_map, List.getElem?_range hi, List.getElem?_reverse (by rw [Array.length_toList]; exact hi), Array.length_toList, Array.getElem?_toList, Array.getElem?_eq_getElem (by omega)]
    show some ((xs[xs.size - 1 - i]?).getD .none) = _
    rw [Array.getElem?_eq_getElem (by omega)]
    rfl
  · rw [List.getElem?_eq_none (by rw [List.length_map, List.length_range]; omega), List.getElem?_eq_none (by rw [List.length_reverse, Array.length_toList]; omega)]
theorem getItem_tuple_rev {t sl : Addr} {items : Array Value} {vl vu vs : Value} {Q : Value → Shared → Prop} (ht : IsTup s.heap t items) (hs : s.heap.IsSliceOf sl vl vu vs) (pl : IsPart vl none) (pu : IsPart vu none) (ps : IsPart vs (some (-1)))
    (h : Q (.ref s.heap.objs.size) { s with heap := s.heap.push { cls := .type "tuple", data := .seq items.toList.reverse.toArray } })
    (hsz : items.size ≤ sizeLine) : wpAny (model prog w) A (getItem (.ref t) (.ref sl)) Q E s := by
  have htake : sizeOk (.seq items.toList.reverse.toArray) := by
    show items.toList.reverse.toArray.size ≤ sizeLine
    rw [List.size_toArray, List.length_reverse, Array.length_toList]
    omega
  obtain ⟨os, hos, hcs, hds⟩ := id hs
  have hTs : s.TypeIs (.ref sl) "slice" := ⟨os, hos, hcs⟩
  unfold getItem
  try with_reducible refine wpAny_holding ?_
  first | refine wpAny_bind (wpAny_pure ?_) | skip
  refine wpAny_bind (wpAny_sequenceKey ht.typeIs (by decide) ?_)
  refine wpAny_bind (wpAny_callSpecial?_slot (name := Str.ofString "__getitem__") ht.typeIs PyProof.Rows.slot_tuple_getitem
    (wpAny_call_entry PyProof.Rows.slot_tuple_getitem ht.typeIs entry_tuple_getitem ?_ (args_tuple_getitem _ _)))
  show wpAny _ _ (Builtin.Tuple.tupleItemsOf (.ref t) >>= _) _ _ s
  refine wpAny_bind (tupleItemsOf_ ht ?_)
  refine wpAny_bind (wpAny_typeOf hTs ?_)
  rw [if_pos (by decide)]
  refine wpAny_bind (px_applied hs pl pu ps ?_)
  have hno : ¬ ((((items.size : Int) - 1) == 0 && (-1 : Int) == 1 && items.size == items.size) = true) := by
    intro q
    rw [Bool.and_eq_true, Bool.and_eq_true] at q
    exact absurd q.1.2 (by decide)
  show wpAny _ _ (if ((((items.size : Int) - 1) == 0 && (-1 : Int) == 1 && items.size == items.size) = true) then _ else _) _ _ s
  rw [if_neg hno, px_pick]
  first
    | exact wpAny_bind (m := Builtin.Tuple.tupleExact _) (wpAny_newObj_type (wpAny_pure ⟨_, rfl, wpAny_pure h⟩) htake)
    | exact wpAny_bind (m := Builtin.Tuple.tupleExact _) (wpAny_newObj_type (wpAny_bind (wpAny_pure (wpAny_pure ⟨_, rfl, wpAny_pure h⟩))) htake)
    | exact wpAny_bind (wpAny_bind (m := Builtin.Tuple.tupleExact _) (wpAny_newObj_type (wpAny_pure (wpAny_pure ⟨_, rfl, wpAny_pure h⟩)) htake))
    | exact wpAny_bind (wpAny_bind (m := Builtin.Tuple.tupleExact _) (wpAny_newObj_type (wpAny_pure ⟨_, rfl, wpAny_pure h⟩) htake))
end
end HT
namespace L2.Px
open PySem PySem.Spec PyProof.Rows
section
variable {X : Cx}
/-- t[::-1] of a tuple -/
def tRevT (K : PySem.W.Frag) (te : TE) : TE := fun σ H Q => te σ H fun x H1 => ∃ a xs, x = .ref a ∧ SqT K H1 a xs ∧ ∀ p, H1 p = none → Q (.ref p) (upd H1 p (.tup xs.reverse))
theorem pe_revT {e : Expr} {te : TE} {k : Nat} {p1 p2 p3 pos : Pos} (he : PE X e te) : PE X (.Subscript e (.Slice none none (some (.UnaryOp .USub (.Constant (.int 1) k p1) p2)) p3) pos) (tRevT X.K te) := by
  refine ⟨fun pins s σ H Q I h => ?_⟩
  refine Subscript_ (thn (he.run pins s σ H _ I h) fun v s1 ⟨x, H1, I1, r1, q1⟩ => ?_)
  obtain ⟨a, xs, ex, hx, q⟩ := q1
  subst ex
  cases r1
  have hst : PO X (some (.UnaryOp .USub (.Constant (.int 1) k p1) p2)) (tPart (tUn (rU fun i => .int (-i)) (L2.tC (.int 1)))) := po_some (pe_un un_neg pe_int)
  refine wpAny_Slice (thn (po_none.run pins s1 σ H1 (fun o H2 => o = none ∧ H2 = H1) I1 ⟨rfl, rfl⟩) fun vl s2 ⟨l, H2, I2, pl, el, e2⟩ => ?_)
  subst el e2
  refine thn (po_none.run pins s2 σ H2 (fun o H3 => o = none ∧ H3 = H2) I2 ⟨rfl, rfl⟩) fun vu s3 ⟨u, H3, I3, pu, eu, e3⟩ => ?_
  subst eu e3
  refine thn (hst.run pins s3 σ H3 (fun o H4 => o = some (-1) ∧ H4 = H3) I3 ⟨1, rfl, -1, rfl, rfl, rfl⟩) fun vs s4 ⟨o, H4, I4, ps, eo, e4⟩ => ?_
  subst eo e4
  have I5 : Inv X pins σ H4 { s4 with heap := s4.heap.push { cls := .type "slice", data := .fields #[vl, vu, vs] } } := I4.kept (t' := s4.toks) fun b ob q => Heap.get?_push_of_some _ q
  obtain ⟨its, r, ht, hz⟩ := I5.tuple hx
  have hlen := r.length
  show wpAny (model X.prog X.w) X.A (subscriptTail e (.Slice none none (some (.UnaryOp .USub (.Constant (.int 1) k p1) p2)) p3) (.ref a) (.ref s4.heap.objs.size)) (EP X pins σ Q) X.xe { s4 with heap := s4.heap.push { cls := .type "slice", data := .fields #[vl, vu, vs] } }
  refine tail_any (ops := [.ref a, .ref s4.heap.objs.size]) ht.typeIs (PyProof.Rows.slot_tuple_getitem.lookup) ?_ (by with_unfolding_all rfl)
  refine HT.getItem_tuple_rev ht (Heap.IsSliceOf.new _ vl vu vs) pl pu ps ?_ (by rw [List.size_toArray]; omega)
  refine ⟨.ref _, _, I5.laid (t' := s4.toks) (o := .tup xs.reverse) (fun b ob q => Heap.get?_push_of_some _ q) (Nat.le_refl _) ?_, rfl, q _ (I5.hok.fresh (Nat.le_refl _))⟩
  exact ⟨by rw [List.length_reverse]; exact hz, _, r.reverse, IsTup.new _ _⟩
abbrev rTIdx (K : PySem.W.Frag) : V → List V → Hp → VK → Prop := fun x xs H Q => ∃ (p : Addr) (ys : List Int) (n : Int), x = .ref p ∧ xs = [.int n] ∧ SqT K H p (iV ys) ∧ n ∈ ys ∧ Q (.int (ys.idxOf n : Nat)) H
/-- t.count(n), a tuple of ints -/
abbrev rTCountI (K : PySem.W.Frag) : V → List V → Hp → VK → Prop := fun x xs H Q => ∃ (p : Addr) (ys : List Int) (n : Int), x = .ref p ∧ xs = [.int n] ∧ SqT K H p (iV ys) ∧ Q (.int (ys.count n : Nat)) H
theorem mt_tcountI : MtR X "tuple.count" (rTCountI X.K) := by
  intro pins s σ H x xs v us Q I rx rs h
  obtain ⟨p, ys, n, rfl, rfl, hq, q⟩ := h
  cases rx
  cases rs with
  | cons rn rr =>
    cases rr
    obtain ⟨its, rv, ht, hz⟩ := I.tuple hq
    obtain ⟨⟨cls, dd, data, sl⟩, ho, hc, m, hd⟩ := id ht
    simp only at hc hd
    subst hc hd
    have ia : IntsAre its ys := intsAre_of rv
    obtain ⟨t, rfl⟩ := rn
    refine call_meets PySem.F.slot_tuple_count ⟨_, ho, rfl⟩ PySem.F.entry_tuple_count (PySem.F.args_tuple_count_2 _ _) (SeqAt.tuple_countAt p its.toArray m dd sl (.int n t) (isInt n)) ⟨ho, fun y hy => (eq_isInt n t ia y (by simpa using hy)).at _ _, ?_⟩
    rw [show its.toArray.toList = its from rfl, countP_isInt n ia]
    exact ⟨.int _, H, I.tok _, ⟨_, rfl⟩, q⟩
/-- xs[i] += n -/
def rGetL (K : PySem.W.Frag) : V → V → Hp → VK → Prop := fun x y H Q => ∃ p xs i v, x = .ref p ∧ y = .int i ∧ SqL K H p xs ∧ 0 ≤ i ∧ atI xs i = some v ∧ Q v H
theorem pg_list : PGet X (rGetL X.K) := by
  intro pins s σ H o i ov iv Q I ro ri h
  obtain ⟨p, xs, j, v, rfl, rfl, hq, h0, he, q⟩ := h
  cases ro
  obtain ⟨t, rfl⟩ := ri
  obtain ⟨its, r, pl, hz⟩ := I.list hq
  obtain ⟨m, h1, h2, h3, h4, h5⟩ := atI_get he
  obtain ⟨w, ew, rw'⟩ := r.get h2
  have hl := r.length
  have hn := line63
  have hj : j.toNat = m := by
    rw [seqIndex_of h0 h5] at h1
    exact Option.some.inj h1
  exact wpAny_getItem_list pl.isList h0 (by omega) (by rw [hj]; simpa using ew) ⟨v, H, I, rw', q⟩
theorem ps_augL {o i e : Expr} {to ti te : TE} {tip : TIp} {op : Operator} {pos tpos : Pos} (ho : PE X o to) (hi : PE X i ti) (he : PE X e te) (hp : PIp X op tip)
    (ha : ∀ ov iv new, augStore i ov iv new = (do holding [new, ov, iv] (setItem ov iv new); release [new, ov, iv] []; pure .next) := by intros; rfl) : PS X (.AugAssign (.Subscript o i tpos) op e pos) (tAugS to ti te (rGetL X.K) tip rSetL) :=
  ps_augS ho hi pg_list he hp set_list ha
end
end L2.Px

/-! A list of draws that is popped while all else stands. -/
namespace L2.Px
open PySem PySem.Spec PyProof.Rows
/-- the list of what is left to be drawn -/
def Drw (H : Hp) (dr : Addr) : Prop := ∃ ds : List Int, H dr = some (.lst (iV ds)) ∧ (∀ d ∈ ds, 0 ≤ d ∧ d < 1000) ∧ ds.length ≤ 5000
abbrev SameX (dr : Addr) (H H' : Hp) : Prop := Same (hid dr H) (hid dr H')
theorem emod_bd (r : Int) : 0 ≤ r % 1000 ∧ r % 1000 < 1000 := ⟨Int.emod_nonneg _ (by decide), Int.emod_lt_of_pos _ (by decide)⟩
theorem Drw.ne {H : Hp} {dr : Addr} (h : Drw H dr) : H dr ≠ none := fun z => by
  obtain ⟨ds, e, _⟩ := h
  rw [e] at z
  cases z
theorem Drw.ne_new {H : Hp} {dr p : Addr} (h : Drw H dr) (n : H p = none) : p ≠ dr := fun z => h.ne (z ▸ n)
theorem none_x {dr b : Addr} {H H' : Hp} (s : SameX dr H H') (h : Drw H' dr) (n : H' b = none) : H b = none := by
  have nb := h.ne_new n
  cases e : H b with
  | none => rfl
  | some o =>
    have := (hid_some (s b o (by rw [hid_ne nb]; exact e))).2
    rw [n] at this
    cases this
/-- what is new when the draws are left out -/
theorem nw_x {dr : Addr} {H H1 H2 : Hp} (d : Drw H dr) (s : SameX dr H1 H2) : Same (nw H H1) (nw H H2) := fun b o e => by
  obtain ⟨e1, e2⟩ := nw_some e
  have nb := d.ne_new e1
  exact nw_of e1 (hid_some (s b o (by rw [hid_ne nb]; exact e2))).2
theorem nw_x0 {dr : Addr} {H0 H H1 : Hp} (d : Drw H dr) (s : SameX dr H0 H) : Same (nw H H1) (nw H0 H1) := fun b o e => by
  obtain ⟨e1, e2⟩ := nw_some e
  exact nw_of (none_x s d e1) e2
theorem x_own {dr D : Addr} {H H' : Hp} {o : HO} (s : SameX dr H H') (n : H D = none) : SameX dr H (upd H' D o) := fun b u e => by
  obtain ⟨nb, e1⟩ := hid_some e
  rw [hid_ne nb, upd_ne (ne_of_none e1 n)]
  exact (hid_some (s b u e)).2
theorem Drw.hid {H H' : Hp} {dr : Addr} (h : Drw H dr) : Same (nw H H') (Px.hid dr H') := by
  obtain ⟨ds, e, _⟩ := h
  exact nw_hid e
theorem Drw.upd {H : Hp} {dr p : Addr} {o : HO} (h : Drw H dr) (n : H p = none) : Drw (upd H p o) dr := by
  have ne := h.ne_new n
  obtain ⟨ds, e, z⟩ := h
  exact ⟨ds, (upd_ne (Ne.symm ne)).trans e, z⟩
theorem Drw.to {H H' : Hp} {dr : Addr} (h : Drw H dr) (s : Same H H') : Drw H' dr := by
  obtain ⟨ds, e, z⟩ := h
  exact ⟨ds, s _ _ e, z⟩
theorem Same.x {H H' : Hp} {dr : Addr} (s : Same H H') : SameX dr H H' := Same.hid s
/-- a tuple is not the draws -/
theorem sqt_x {K : PySem.W.Frag} {dr a : Addr} {H H' : Hp} {xs : List V} (d : Drw H dr) (s : SameX dr H H') (h : SqT K H a xs) : SqT K H' a xs := by
  obtain ⟨ds, e, _⟩ := d
  rcases h with (h | ⟨o, h⟩) | h
  · exact .inl (.inl (hid_some (s a _ (by rw [hid_ne fun z => by rw [z, e] at h; cases h]; exact h))).2)
  · exact .inl (.inr ⟨o, (hid_some (s a _ (by rw [hid_ne fun z => by rw [z, e] at h; cases h]; exact h))).2⟩)
  · exact .inr h
/-- what stands elsewhere stays -/
theorem get_x {dr b : Addr} {H H' : Hp} {o : HO} (s : SameX dr H H') (n : b ≠ dr) (h : H b = some o) : H' b = some o := (hid_some (s b o (by rw [hid_ne n]; exact h))).2
end L2.Px

/-! {e}: a set display of one key; a def whose code object is known. -/
namespace L2.Px
open PySem PySem.Spec PyProof.Rows
theorem kds_code {K : PySem.W.Frag} {cd : Value} {q : Str} (h : PySem.W.codeIn K cd q = true) : PySem.W.kdsCode K cd = true := by
  unfold PySem.W.codeIn at h
  unfold PySem.W.kdsCode
  cases cd with
  | ref c =>
    dsimp only at h ⊢
    split at h
    · rename_i e
      rw [e]
    · cases h
  | _ => cases h
section
variable {P : Program} {w : World} {K : PySem.W.Frag} {mg : Str → Option Value} {base : Heap}
/-- a def's body, where its code object is known -/
theorem fun_okC {x qual : Str} {st : Stmt} {f : Addr} {fd : FuncData} {N ps : List Str} {k : Nat} {sp : Sp} (F : Fun K x qual st f fd) (S : FnScope N ps (defScope st)) (lenC : ∀ vs H Q E, sp vs H Q E → vs.length = ps.length)
    (body : ∀ (cdv : Value) (A : Around) (outer : List Env) (s : Shared) (H : Hp) (vs : List V) (Q : VK) (E : XK), PySem.W.kdsCode K cdv = true → Room k (A.deeper (envOfC qual (defScope st) s.heap.objs.size f cdv)) → sp vs H Q E →
      ∃ t, PSs (cxOf CX0 P w K mg base N qual (defScope st) f cdv A outer s H E).nox (defBody st) t ∧ t { nx := fun _ H' => Q .non H', rt := Q } (start N vs) H) : FnOk P w K mg base CX0 (k + 1) f fd ps sp := by
  obtain ⟨oc, od, kV, doc, pm, an, cdv, ct, osl, rfl, lk, code⟩ := F.ex
  refine fn_of lk code S lenC fun A outer s H vs Q E hr hsp => ?_
  obtain ⟨t, pt, tq⟩ := body cdv A outer s H vs Q E (kds_code code) hr hsp
  exact ⟨t, pt.nox, tq⟩
end
section
variable {X : Cx}
theorem unledK {A : Around} {E : Value → Shared → Prop} {s : Shared} {D : Addr} {S : L2.Key → Bool} {n : Nat} {Q : Unit → Shared → Prop} (hS : s.heap.SetOf (mixKind X.prog X.w) D S n)
    (fin : ∀ h', h'.SetOf (mixKind X.prog X.w) D S n → (∀ b o, b ≠ D → s.heap.get? b = some o → h'.get? b = some o) → Q () { s with heap := h' }) : wpAny (model X.prog X.w) A (setUnled D) Q E s := by
  obtain ⟨ob, es, ep, tb, hob, hex, hdat, hel, hmem, hbd, hfit, hn⟩ := hS
  have fit2 : ({ tb with led := false } : SetTable).fits es.size = true := by cases tb; exact hfit
  unfold setUnled
  refine wpAny_bind (wpAny_setState_of hob hdat hfit ?_)
  dsimp only
  refine wpAny_storeSet_of hob hdat ?_ (fits_of_scanBound hbd)
  obtain ⟨_, new⟩ := SetOf_store (knd := mixKind X.prog X.w) hob hex hdat hel hmem hbd fit2
  rw [hn] at new
  exact fin _ new fun b o hb e => ((Heap.SameBut.update s.heap D (Obj.putSet es { tb with led := false })).2 b hb).trans e
/-- {e}, e a number or a text -/
def tSet1 (P : Program) (w : World) (te : TE) : TE := fun σ H Q => ∀ p, H p = none → te σ (upd H p (SetK P w p (fun _ => false) 0)) fun x H1 => ∃ k : L2.Key, x = kV k ∧ H1 p = some (SetK P w p (fun _ => false) 0) ∧ Q (.ref p) (upd H1 p (SetK P w p (fun j => decide (j = k)) 1))
theorem pe_set1 {e : Expr} {te : TE} {pos : Pos} (he : PE X e te) (hpl : PySem.W.kdsPlain e = true) (hcd : PySem.W.kdsCode X.K X.env.code = true) : PE X (.Set [e] 0 pos) (tSet1 X.prog X.w te) := by
  refine ⟨fun pins s σ H Q I h => ?_⟩
  rw [arm_eval_Set]
  refine wpAny_bind (wpAny_standAt (wpAny_bind (PySem.W.kds_main I.kIn hcd fun b => ?_)))
  rw [PySem.W.kds_star [e] (by rw [List.all_cons, hpl] <;> rfl), List.map_map]
  refine PySem.W.kds_core (ts := (evalEach [e] X.env).map fun t => do let v ← t; standAt pos; pure v) (road0 [e]) ?_ ?_ ?_ fun led => ?_
  · refine List.findIdx?_eq_none_iff.mpr fun y hy => ?_
    obtain ⟨_, _, rfl⟩ := List.mem_map.mp hy
    rfl
  · rw [List.length_map, PySem.W.kds_len]
    exact (by decide : 1 ≤ 30)
  · rw [List.map_map]
    try rfl
  · have new0 : (s.heap.push { cls := .type "set", dict := none, data := .set #[] 0 (.fresh 0 0 led) }).SetOf (mixKind X.prog X.w) s.heap.objs.size (fun _ => false) 0 :=
      ⟨_, #[], 0, _, Heap.get?_push_size _ rfl, ⟨rfl, rfl, rfl⟩, rfl, (fun y hy => by simp at hy), (fun j => by simp), (by decide), (by rfl), rfl⟩
    have I0 := I.laid (t' := s.toks) (a := s.heap.objs.size) (o := SetK X.prog X.w s.heap.objs.size (fun _ => false) 0) (fun b u e => Heap.get?_push_of_some _ e) (Nat.le_refl _) (setK_new new0)
    have free := I.hok.fresh (Nat.le_refl _)
    refine PySem.W.kds_all pos [e] _ _ ?_
    show wpAny _ _ (eval e X.env) _ _ _
    refine thn (he.run pins _ σ _ _ I0 (h _ free)) fun v s1 ⟨x, H1, I1, r1, k, ek, hk, q⟩ => ?_
    subst ek
    show PySem.W.KdsFill _ _ _ _ _ _ [v] s1
    refine PySem.W.kds_fill_cons ?_
    unfold setAdd
    refine wpAny_holding (wpAny_bind ((mixKind X.prog X.w).pyHash (k := k) (kV_is r1) ?_))
    refine wpAny_setAddHashed_of (knd := mixKind X.prog X.w) (s := { s1 with toks := s1.toks + 1 }) (kV_is r1) (key_scan r1) (setK_get (I1.tok (s1.toks + 1)) hk) (by decide) fun h' sb hS' => ?_
    have hS2 : h'.SetOf (mixKind X.prog X.w) s.heap.objs.size (fun j => decide (j = k)) 1 := by
      have z := hS'
      simp only [Bool.false_or] at z
      exact z
    have there : ∀ {h2 : Heap} {S : L2.Key → Bool} {n : Nat}, h2.SetOf (mixKind X.prog X.w) s.heap.objs.size S n → ∃ u, h2.get? s.heap.objs.size = some u := fun {h2 S n} R => by
      obtain ⟨o, _, _, _, ho, _⟩ := R
      exact ⟨o, ho⟩
    have I2 := I1.write (x := s.heap.objs.size) (e := s.heap.objs.size) (o := SetK X.prog X.w s.heap.objs.size (fun j => decide (j = k)) 1) (t' := s1.toks + 1) (by rw [hk]; trivial) (.inl rfl) (fun b u hb hu => (sb.2 b hb).trans hu) (there hS2) (setK_new hS2)
    cases hu : (displayRoad 0 [e] == DisplayRoad.unsure) with
    | false => exact PySem.W.kds_fill_nil rfl ⟨.ref s.heap.objs.size, _, I2, rfl, q⟩
    | true =>
      refine PySem.W.kds_fill_unled rfl (unledK (s := { s1 with heap := h', toks := s1.toks + 1 }) hS2 fun h2 hS3 k2 => ?_)
      have I3 := I2.write (x := s.heap.objs.size) (e := s.heap.objs.size) (o := SetK X.prog X.w s.heap.objs.size (fun j => decide (j = k)) 1) (t' := s1.toks + 1) (by rw [upd_same]; trivial) (.inl rfl) (fun b u hb hu => k2 b u hb hu) (there hS3) (setK_new hS3)
      have e2 : upd (upd H1 s.heap.objs.size (SetK X.prog X.w s.heap.objs.size (fun j => decide (j = k)) 1)) s.heap.objs.size (SetK X.prog X.w s.heap.objs.size (fun j => decide (j = k)) 1) = upd H1 s.heap.objs.size (SetK X.prog X.w s.heap.objs.size (fun j => decide (j = k)) 1) := upd_upd
      rw [e2] at I3
      exact ⟨.ref s.heap.objs.size, _, I3, rfl, q⟩
end
end L2.Px

namespace L2.Px
open PySem PySem.Spec PyProof.Rows PySem.OEX
/-! ### what can be reached -/
inductive Reach (adj : Nat → List Nat) (s : Nat) : Nat → Prop
  | refl : Reach adj s s
  | step {x y : Nat} : Reach adj s x → y ∈ adj x → Reach adj s y
theorem Reach.trans {adj : Nat → List Nat} {a b c : Nat} (h1 : Reach adj a b) (h2 : Reach adj b c) : Reach adj a c := by
  induction h2 with
  | refl => exact h1
  | step _ m ih => exact .step ih m
theorem Reach.lt {adj : Nat → List Nat} {n a b : Nat} (hb : ∀ x < n, ∀ y ∈ adj x, y < n) (ha : a < n) (h : Reach adj a b) : b < n := by
  induction h with
  | refl => exact ha
  | step _ m ih => exact hb _ ih _ m
theorem Reach.inn {adj : Nat → List Nat} {s x : Nat} {l : List Nat} (hs : s ∈ l) (hc : ∀ x ∈ l, ∀ y ∈ adj x, y ∈ l) (h : Reach adj s x) : x ∈ l := by
  induction h with
  | refl => exact hs
  | step _ m ih => exact hc _ ih _ m
theorem Reach.congr {adj adj' : Nat → List Nat} (h : ∀ x y, y ∈ adj x → y ∈ adj' x) {a b : Nat} (r : Reach adj a b) : Reach adj' a b := by
  induction r with
  | refl => exact .refl
  | step _ m ih => exact .step ih (h _ _ m)
open Classical in
noncomputable def clR (n : Nat) (adj : Nat → List Nat) (s : Nat) : List Nat := (List.range n).filter fun x => decide (Reach adj s x)
open Classical in
theorem mem_clR {n : Nat} {adj : Nat → List Nat} {s x : Nat} : x ∈ clR n adj s ↔ x < n ∧ Reach adj s x := by
  unfold clR
  rw [List.mem_filter, List.mem_range, decide_eq_true_iff]
theorem clR_nd (n : Nat) (adj : Nat → List Nat) (s : Nat) : (clR n adj s).Nodup := List.nodup_range.filter _
theorem clR_len (n : Nat) (adj : Nat → List Nat) (s : Nat) : (clR n adj s).length ≤ n := by
  refine Nat.le_trans (List.length_filter_le _ _) ?_
  rw [List.length_range]
  exact Nat.le_refl n
theorem clR_le (n : Nat) (adj : Nat → List Nat) (s : Nat) : (cI (clR n adj s)).Pairwise (· ≤ ·) := by
  refine List.pairwise_map.mpr ?_
  exact List.Pairwise.imp (fun {a b} h => by omega) (List.pairwise_lt_range.filter _)
structure Found (n : Nat) (adj : Nat → List Nat) (s : Nat) (l : List Nat) : Prop where
  nd : l.Nodup
  mem : ∀ x, x ∈ l ↔ x < n ∧ Reach adj s x
theorem Found.perm {n s : Nat} {adj : Nat → List Nat} {l : List Nat} (h : Found n adj s l) : l.Perm (clR n adj s) :=
  (List.perm_ext_iff_of_nodup h.nd (clR_nd n adj s)).mpr fun x => (h.mem x).trans mem_clR.symm
theorem Found.sorted {n s : Nat} {adj : Nat → List Nat} {l : List Nat} (h : Found n adj s l) {ms : List Int} (hp : ms.Perm (cI l)) (hs : ms.Pairwise (· ≤ ·)) : ms = cI (clR n adj s) :=
  PySem.W.ksm_same (hp.trans (h.perm.map _)) hs (clR_le n adj s)
open Classical in
noncomputable def clsR (n : Nat) (adj : Nat → List Nat) : Nat → List (List Nat)
  | 0 => []
  | k + 1 => if ∃ s, s < k ∧ Reach adj s k then clsR n adj k else clsR n adj k ++ [clR n adj k]
theorem clsR_len (n : Nat) (adj : Nat → List Nat) : ∀ k, (clsR n adj k).length ≤ k
  | 0 => Nat.le_refl 0
  | k + 1 => by
    have := clsR_len n adj k
    unfold clsR
    split
    · omega
    · rw [List.length_append]
      simp only [List.length_cons, List.length_nil]
      omega
theorem nd_len {n : Nat} {l : List Nat} (nd : l.Nodup) (h : ∀ x ∈ l, x < n) : l.length ≤ n := by
  have e : l.Perm ((List.range n).filter fun x => decide (x ∈ l)) := (List.perm_ext_iff_of_nodup nd (List.nodup_range.filter _)).mpr fun x => by
    rw [List.mem_filter, List.mem_range, decide_eq_true_iff]
    exact ⟨fun m => ⟨h x m, m⟩, fun m => m.2⟩
  rw [e.length_eq]
  refine Nat.le_trans (List.length_filter_le _ _) ?_
  rw [List.length_range]
  exact Nat.le_refl n
/-- the keys that stand for the numbers of a list -/
def memK (l : List Nat) : L2.Key → Bool := fun k => l.any fun x => decide (k = .inl (x : Int))
theorem memK_snoc (l : List Nat) (x : Nat) : (fun j => memK l j || decide (j = .inl (x : Int))) = memK (l ++ [x]) := by
  funext j
  unfold memK
  rw [List.any_append]
  simp
theorem memK_one (x : Nat) : (fun j : L2.Key => decide (j = .inl (x : Int))) = memK [x] := by
  funext j
  unfold memK
  simp
theorem memK_in (l : List Nat) (x : Nat) : memK l (.inl (x : Int)) = decide (x ∈ l) := by
  unfold memK
  by_cases h : x ∈ l
  · rw [decide_eq_true h]
    exact List.any_eq_true.mpr ⟨x, h, decide_eq_true rfl⟩
  · rw [decide_eq_false h]
    cases e : l.any fun y => decide ((.inl (x : Int) : L2.Key) = .inl (y : Int)) with
    | false => rfl
    | true =>
      obtain ⟨y, hy, q⟩ := List.any_eq_true.mp e
      have q := Sum.inl.inj (of_decide_eq_true q)
      have : x = y := by omega
      exact absurd (this ▸ hy) h
/-! ### links on the heap -/
structure LinksAt (K : PySem.W.Frag) (H : Hp) (L : Addr) (n : Nat) (adj : Nat → List Nat) (kvs : List (L2.Key × V)) : Prop where
  d : Rd H L (.dK kvs)
  len : kvs.length = n
  key : ∀ t < n, ∃ b, kvs[t]? = some (.inl (t : Int), .ref b) ∧ SqL K H b (iV (cI (adj t)))
  get : ∀ t < n, ∃ b, valV kvs (.inl (t : Int)) = some (.ref b) ∧ SqL K H b (iV (cI (adj t)))
theorem _root_.L2.Same.rd {H H' : Hp} {a : Addr} {u : HO} (e : Same H H') (h : Rd H a u) : Rd H' a u := by
  rcases h with h | ⟨o, h⟩
  · exact .inl (e _ _ h)
  · exact .inr ⟨o, e _ _ h⟩
theorem LinksAt.mono {K : PySem.W.Frag} {H H' : Hp} {L : Addr} {n : Nat} {adj : Nat → List Nat} {kvs : List (L2.Key × V)} (h : LinksAt K H L n adj kvs) (s : Same H H') : LinksAt K H' L n adj kvs :=
  ⟨s.rd h.d, h.len, fun t ht => let ⟨b, e, q⟩ := h.key t ht; ⟨b, e, s.seq q⟩, fun t ht => let ⟨b, e, q⟩ := h.get t ht; ⟨b, e, s.seq q⟩⟩
theorem dc_it {J : It} {n : Nat} {Gd : Hp → Prop} {Y : Nat → Hp → V → Hp → Prop} (w : Walk J n Gd Y) {g : TG} {tt : TT} {tk tv : TE} {vs : List Nat} {σ : St} {H1 : Hp} {D : Addr} {Qd : Hp → Prop} (Pv : Nat → Hp → Prop) (h0 : Pv 0 (upd H1 D (.dK []))) (hG : ∀ i H, i ≤ n → Pv i H → Gd H)
    (hs : ∀ i x H H', i < n → Pv i H → Y i H x H' → g x (wipe σ vs) H' fun σ2 H2 => wipe σ2 vs = wipe σ vs ∧ tt σ2 H2 fun b H3 =>
      if b = true then tk σ2 H3 fun y H4 => tv σ2 H4 fun z H5 => ∃ kvs k, y = kV k ∧ H5 D = some (.dK kvs) ∧ kvs.length < sizeLine ∧ Pv (i + 1) (upd H5 D (.dK (putK kvs k z))) else Pv (i + 1) H3) (hd : ∀ H, Pv n H → Qd H) :
    ∃ W : Nat → Nat → Hp → Prop, (∃ m, W 0 m (upd H1 D (.dK []))) ∧ ∀ i m H, W i m H →
      (J.stop i H ∧ Qd H) ∨ (J.go i H ∧ ∃ Nx : Hp → Prop, (∀ H', Nx H' → ∃ m', m' < m ∧ W (i + 1) m' H') ∧ ∀ x H', J.yld i H x H' → g x (wipe σ vs) H' fun σ2 H2 => wipe σ2 vs = wipe σ vs ∧ tt σ2 H2 fun b H3 =>
        if b = true then tk σ2 H3 fun y H4 => tv σ2 H4 fun z H5 => ∃ kvs k, y = kV k ∧ H5 D = some (.dK kvs) ∧ kvs.length < sizeLine ∧ Nx (upd H5 D (.dK (putK kvs k z))) else Nx H3) := by
  refine ⟨fun i m H => m = n - i ∧ i ≤ n ∧ Pv i H, ⟨n, rfl, Nat.zero_le _, h0⟩, fun i m H hw => ?_⟩
  obtain ⟨rfl, hi, p⟩ := hw
  rcases Nat.lt_or_eq_of_le hi with lt | e
  · exact .inr ⟨w.goes i H lt (hG i H hi p), Pv (i + 1), fun H' p' => ⟨n - (i + 1), by omega, rfl, lt, p'⟩, fun x H' y => hs i x H H' lt p (w.yields i H x H' lt (hG i H hi p) y)⟩
  · subst e
    exact .inl ⟨w.stops H (hG i H hi p), hd H p⟩
end L2.Px

/-! Sets of tuples of ints: set(), {e}, add, in. -/
namespace L2.Px
open PySem PySem.Spec PyProof.Rows
section
variable {P : Program} {w : World} {A : Around} {E : Value → Shared → Prop} {s : Shared}
variable {a : Addr} {L : List (Addr × List Int)} {es : Array (Int × Value)} {ep : Nat} {t : SetTable}
/-- a place of the probe for k, the c-th -/
abbrev atP (t : SetTable) (h : Int) (c : Nat) : SetTable.Probe := nth t.mask (runAt t.mask (SetTable.bits h % (t.mask + 1)) (SetTable.bits h)) c
theorem atP_dummy (t : SetTable) (h : Int) : ∀ c, (atP t h c).dummy = none := by
  have key : ∀ (n : Nat) (p : SetTable.Probe), p.dummy = none → (nth t.mask p n).dummy = none := by
    intro n
    induction n with
    | zero => exact fun p h => h
    | succ n ih =>
      intro p h
      refine ih (adv t.mask p) ?_
      unfold adv
      split <;> exact h
  exact fun c => key c _ rfl
theorem atP_add (t : SetTable) (h : Int) (c q : Nat) : nth t.mask (atP t h c) q = atP t h (c + q) := (nth_add t.mask c _ q).symm
/-- the search that a question asks for: the c-th place is next -/
theorem look_from (R : SetTR P w s.heap a L es ep t) {x : Addr} {k : List Int} (hx : IsT P w s.heap k x) (hu : A.units < cLine) {K : Nat} (hKf : K < 10 * SetTable.turns t.mask)
    (hK : way t.mask (thash P w k) K ∉ t.place.toList) (hKb : ∀ c, c < K → way t.mask (thash P w k) c ∈ t.place.toList) {Q : SetFound → Shared → Prop}
    (yes : ∀ i, k ∈ L.map (·.2) → Q (.there (some i)) s) (no : ∀ j, k ∉ L.map (·.2) → Q (.free j false) s) :
    ∀ (f c : Nat) (st : Option SetTable.Probe), st.getD (t.probeStart (thash P w k)) = atP t (thash P w k) c → c ≤ K → K - c < f →
      (∀ (i : Nat) p, L[i]? = some p → p.2 = k → ∃ c', c ≤ c' ∧ c' < K ∧ t.place.toList[i]? = some (way t.mask (thash P w k) c')) →
      wpAny (model P w) A (setSearchFrom a (.ref x) (thash P w k) false f st) Q E s := by
  intro f
  induction f with
  | zero => intro c st _ _ hf; exact absurd hf (Nat.not_lt_zero _)
  | succ f ih =>
    intro c st hst hc hf hre
    obtain ⟨o, ho, hex, hd⟩ := R.ob
    rw [setSearchFrom_succ]
    refine wpAny_bind (wpAny_setState_of ho hd R.fits ?_)
    dsimp only
    refine wp_if_neg R.gw ?_
    try refine wpAny_bind (wpAny_pure ?_)
    have jq : ∀ q, (nth t.mask (atP t (thash P w k) c) q).j = way t.mask (thash P w k) (c + q) := fun q => congrArg SetTable.Probe.j (atP_add t (thash P w k) c q)
    have sp := go_spec t R.tab.ris R.tab.dm (fun i => (es[i]?.map (·.1)).getD 0) (thash P w k) (10 * SetTable.turns t.mask) (K - c) (atP t (thash P w k) c) (atP_dummy t _ c) (by omega)
      (fun q hq => by rw [jq]; exact hKb (c + q) (by omega)) (by rw [jq, show c + (K - c) = K by omega]; exact hK)
    have hs : ∀ (i : Nat) p, L[i]? = some p → (fun i => (es[i]?.map (·.1)).getD 0) i = thash P w p.2 := fun i p hp => by
      show (es[i]?.map (·.1)).getD 0 = _
      rw [R.entry hp] <;> rfl
    rcases sp with ⟨q, i, hq, hi, hh, hno, hpr⟩ | ⟨hno, hpr⟩
    · have hpr' : t.probe (fun i => (es[i]?.map (·.1)).getD 0) (thash P w k) (st.getD (t.probeStart (thash P w k))) = some (.candidate (way t.mask (thash P w k) (c + q)) i (atP t (thash P w k) (c + (q + 1)))) := by
        rw [hst, ← jq, ← atP_add]
        exact hpr
      rw [hpr']
      dsimp only
      rw [jq] at hi
      have hil : i < L.length := by
        have h1 : i < t.place.toList.length := (List.getElem?_eq_some_iff.mp hi).1
        have h2 := R.tab.sz
        rw [List.length_map] at h2
        rw [Array.length_toList] at h1
        omega
      obtain ⟨p, hp⟩ : ∃ p, L[i]? = some p := ⟨L[i], List.getElem?_eq_getElem hil⟩
      have pm : p ∈ L := List.mem_of_getElem? hp
      have hsl : t.slot (way t.mask (thash P w k) (c + q)) = .live i := slot_live R.tab.ris hi
      have rest : wpAny (model P w) A (searchRest a (.ref x) (thash P w k) false f es t (way t.mask (thash P w k) (c + q)) i (atP t (thash P w k) (c + (q + 1)))) Q E s := by
        unfold searchRest
        rw [R.entry hp]
        dsimp only
        refine wpAny_bind (wpAny_holding (wpAny_eqBool_tuple hu (R.tup p pm) hx ?_))
        refine wpAny_bind (wpAny_setState_of ho hd R.fits ?_)
        dsimp only
        refine wp_if_neg (by simp) ?_
        try refine wpAny_bind (wpAny_pure ?_)
        rw [sameMem]
        dsimp only
        simp only [if_true, hsl, R.entry hp]
        refine wpAny_bind (wpAny_isSame_ref_self (wpAny_bind (wpAny_pure ?_)))
        simp only [if_true]
        by_cases e : p.2 = k
        · refine wp_if_pos (by simp [e]) (wpAny_pure (yes i (List.mem_map.mpr ⟨p, pm, e⟩)))
        · refine wp_if_neg (by simp [e]) ?_
          refine ih (c + (q + 1)) _ rfl (by omega) (by omega) fun i0 p0 h0 hk0 => ?_
          obtain ⟨c', a1, a2, a3⟩ := hre i0 p0 h0 hk0
          refine ⟨c', ?_, a2, a3⟩
          rcases Nat.lt_or_ge c' (c + q) with z | z
          · exact absurd ((hs i0 p0 h0).trans (congrArg (thash P w) hk0)) (hno (c' - c) i0 (by omega) (by rw [jq, show c + (c' - c) = c' by omega]; exact a3))
          · rcases Nat.lt_or_ge (c + q) c' with y | y
            · omega
            · have ec : c' = c + q := Nat.le_antisymm y z
              rw [ec] at a3
              have s0 := slot_live R.tab.ris a3
              rw [hsl] at s0
              injection s0 with s0
              rw [← s0, hp] at h0
              exact absurd ((congrArg Prod.snd (Option.some.inj h0)).trans hk0) e
      by_cases hl : t.led = true
      · refine wp_if_neg (by simp [hl]) ?_
        try refine wpAny_bind (wpAny_pure ?_)
        exact rest
      · refine wp_if_pos (by simp [hl]) ?_
        refine wpAny_bind (seen_tup hx (fun y hy => ?_) ?_)
        · obtain ⟨e, he, ee⟩ := List.mem_map.mp hy
          have he1 : e ∈ es ∧ e.1 = thash P w k := by simpa using he
          have he2 : e ∈ es.toList := by simpa using he1.1
          rw [R.rows] at he2
          obtain ⟨p2, hp2, e2⟩ := List.mem_map.mp he2
          exact ⟨p2.2, p2.1, by rw [← ee, ← e2], R.tup p2 hp2⟩
        · refine wp_if_neg (by decide) ?_
          try refine wpAny_bind (wpAny_pure ?_)
          exact rest
    · have hpr' : t.probe (fun i => (es[i]?.map (·.1)).getD 0) (thash P w k) (st.getD (t.probeStart (thash P w k))) = some (.empty (way t.mask (thash P w k) K) none) := by
        have e2 : way t.mask (thash P w k) K = (nth t.mask (atP t (thash P w k) c) (K - c)).j := by
          rw [jq, show c + (K - c) = K by omega]
        rw [hst, e2]
        exact hpr
      rw [hpr']
      dsimp only
      refine wpAny_pure (no _ fun hm => ?_)
      obtain ⟨p0, h0, hk0⟩ := List.mem_map.mp hm
      obtain ⟨i0, hi0, e0⟩ := List.getElem_of_mem h0
      have h00 : L[i0]? = some p0 := by rw [List.getElem?_eq_getElem hi0, e0]
      obtain ⟨c', a1, a2, a3⟩ := hre i0 p0 h00 hk0
      exact hno (c' - c) i0 (by omega) (by rw [jq, show c + (c' - c) = c' by omega]; exact a3) ((hs i0 p0 h00).trans (congrArg (thash P w) hk0))
/-- the question whether k is there -/
theorem look_at (R : SetTR P w s.heap a L es ep t) {x : Addr} {k : List Int} (hx : IsT P w s.heap k x) (hu : A.units < cLine) {Q : SetFound → Shared → Prop}
    (yes : ∀ i, k ∈ L.map (·.2) → Q (.there (some i)) s) (no : ∀ j, k ∉ L.map (·.2) → Q (.free j false) s) :
    wpAny (model P w) A (setSearch a (.ref x) (thash P w k)) Q E s := by
  have hroom := R.room
  obtain ⟨K, hKf, hK, hKb⟩ := R.tab.first (by rw [List.length_map]; omega) (thash P w k)
  have hbig : K < 100000 := by
    have : 10 * SetTable.turns t.mask ≤ 1420 := by
      unfold SetTable.turns
      rcases R.tab.mok with e | e | e <;> omega
    omega
  unfold setSearch
  refine look_from R hx hu hKf hK hKb yes no 100000 0 none rfl (Nat.zero_le _) (by omega) fun i p hp hk => ?_
  have hi : (L.map fun p => thash P w p.2)[i]? = some (thash P w k) := by rw [List.getElem?_map, hp, ← hk] <;> rfl
  have hil : i < t.place.toList.length := by
    have h1 : i < L.length := (List.getElem?_eq_some_iff.mp hp).1
    have h2 := R.tab.sz
    rw [List.length_map] at h2
    rw [Array.length_toList]
    omega
  obtain ⟨c, hc, e⟩ := R.tab.before hK hi (List.getElem?_eq_getElem hil)
  exact ⟨c, Nat.zero_le _, hc, by rw [List.getElem?_eq_getElem hil, e]⟩
theorem find_tup (R : SetTR P w s.heap a L es ep t) {x : Addr} {k : List Int} (hx : IsT P w s.heap k x) (hu : A.units < cLine) {Q : Option Nat → Shared → Prop}
    (h : ∀ r : Option Nat, r.isSome = decide (k ∈ L.map (·.2)) → Q r s) : wpAny (model P w) A (setFind a (.ref x) (thash P w k)) Q E s := by
  obtain ⟨o, ho, hex, hd⟩ := R.ob
  unfold setFind
  rw [show (100000 : Nat) = 99999 + 1 from rfl]
  unfold setFindIn
  refine wpAny_bind (wpAny_setState_of ho hd R.fits ?_)
  dsimp only
  refine wp_if_neg (by simp [byScan, Value.scannable]) ?_
  try refine wpAny_bind (wpAny_pure ?_)
  refine wpAny_bind (look_at R hx hu (fun i hm => ?_) fun j hm => ?_)
  · exact wpAny_pure (h _ (by rw [decide_eq_true hm]; rfl))
  · exact wpAny_pure (h _ (by rw [decide_eq_false hm]; rfl))
theorem SetTR.typeIs {s : Shared} (R : SetTR P w s.heap a L es ep t) : s.TypeIs (.ref a) "set" := let ⟨o, ho, hex, _⟩ := R.ob; ⟨o, ho, hex.1⟩
theorem in_tup (R : SetTR P w s.heap a L es ep t) {x : Addr} {k : List Int} (hx : IsT P w s.heap k x) (hu : A.units + 64 < cLine) {Q : Value → Shared → Prop}
    (h : ∀ tk, Q (.bool (decide (k ∈ L.map (·.2)))) { s with toks := tk }) : wpAny (model P w) A (compareOp .In (.ref x) (.ref a)) Q E s := by
  have hT := SetTR.typeIs R
  show wpAny _ _ (do return .bool (← contains (.ref a) (.ref x))) Q E s
  refine wpAny_bind ?_
  unfold contains
  try with_reducible refine wpAny_holding ?_
  refine wpAny_bind (wpAny_specialOf hT PySem.F.slot_set_contains.lookup ?_)
  show wpAny _ _ (if (some (Value.builtin "set.__contains__") == some Value.none) = true then _ else _) _ E s
  rw [if_neg (by rw [beq_builtin_none]; exact Bool.false_ne_true)]
  refine wpAny_bind (wpAny_callSpecialUnlessNone?_slot (name := Str.ofString "__contains__") hT PySem.F.slot_set_contains
    (wpAny_call_entry PySem.F.slot_set_contains hT entry_set_contains ?_ (PySem.F.args_set_contains_2 _ _)))
  unfold Builtin.«frozenset.__contains__» Builtin.Frozenset.oneOther
  simp only [List.isEmpty_nil, bind_assoc]
  unfold Builtin.Frozenset.addrOf Builtin.Frozenset.withSetAsKey setContains
  refine wpAny_bind (wpAny_pure ?_)
  try dsimp only
  refine wpAny_bind (wpAny_pure ?_)
  try dsimp only
  refine wpAny_bind (wpAny_tryCatch ?_)
  refine wpAny_holding ?_
  refine wpAny_bind (wpAny_pyHash_tuple (show A.units + 1 < cLine by omega) hx ?_)
  refine wpAny_bind (find_tup (s := { s with toks := s.toks + (k.length + 1) }) R hx (show A.units + 1 < cLine by omega) fun r hr => ?_)
  refine wpAny_pure ?_
  show wpAny _ _ (ret (Value.bool r.isSome)) _ _ _
  rw [hr]
  exact wpAny_pure ⟨_, rfl, wpAny_truthy_bool (wpAny_pure (h _))⟩
theorem notin_tup (R : SetTR P w s.heap a L es ep t) {x : Addr} {k : List Int} (hx : IsT P w s.heap k x) (hu : A.units + 64 < cLine) {Q : Value → Shared → Prop}
    (h : ∀ tk, Q (.bool (!decide (k ∈ L.map (·.2)))) { s with toks := tk }) : wpAny (model P w) A (compareOp .NotIn (.ref x) (.ref a)) Q E s := by
  have hT := SetTR.typeIs R
  show wpAny _ _ (do return .bool (!(← contains (.ref a) (.ref x)))) Q E s
  refine wpAny_bind ?_
  unfold contains
  try with_reducible refine wpAny_holding ?_
  refine wpAny_bind (wpAny_specialOf hT PySem.F.slot_set_contains.lookup ?_)
  show wpAny _ _ (if (some (Value.builtin "set.__contains__") == some Value.none) = true then _ else _) _ E s
  rw [if_neg (by rw [beq_builtin_none]; exact Bool.false_ne_true)]
  refine wpAny_bind (wpAny_callSpecialUnlessNone?_slot (name := Str.ofString "__contains__") hT PySem.F.slot_set_contains
    (wpAny_call_entry PySem.F.slot_set_contains hT entry_set_contains ?_ (PySem.F.args_set_contains_2 _ _)))
  unfold Builtin.«frozenset.__contains__» Builtin.Frozenset.oneOther
  simp only [List.isEmpty_nil, bind_assoc]
  unfold Builtin.Frozenset.addrOf Builtin.Frozenset.withSetAsKey setContains
  refine wpAny_bind (wpAny_pure ?_)
  try dsimp only
  refine wpAny_bind (wpAny_pure ?_)
  try dsimp only
  refine wpAny_bind (wpAny_tryCatch ?_)
  refine wpAny_holding ?_
  refine wpAny_bind (wpAny_pyHash_tuple (show A.units + 1 < cLine by omega) hx ?_)
  refine wpAny_bind (find_tup (s := { s with toks := s.toks + (k.length + 1) }) R hx (show A.units + 1 < cLine by omega) fun r hr => ?_)
  refine wpAny_pure ?_
  show wpAny _ _ (ret (Value.bool r.isSome)) _ _ _
  rw [hr]
  exact wpAny_pure ⟨_, rfl, wpAny_truthy_bool (wpAny_pure (h _))⟩
theorem add_tup (R : SetTR P w s.heap a L es ep t) {x : Addr} {k : List Int} (hx : IsT P w s.heap k x) (hu : A.units + 64 < cLine) (hfew : L.length + 1 < 64) {Q : Value → Shared → Prop}
    (h : ∀ h' tk L' es' ep' t', Heap.SameBut a s.heap h' → SetTR P w h' a L' es' ep' t' → (k ∈ L.map (·.2) → L' = L) → (k ∉ L.map (·.2) → L'.Perm ((x, k) :: L)) → Q .none { s with heap := h', toks := tk }) :
    wpAny (model P w) A (call (.builtin "set.add") [.ref a, .ref x]) Q E s := by
  have hT := SetTR.typeIs R
  refine wpAny_call_entry PySem.F.slot_set_add hT PySem.F.entry_set_add ?_ (PySem.F.args_set_add_2 _ _)
  unfold Builtin.«set.add» Builtin.Frozenset.oneOther
  simp only [List.isEmpty_nil, bind_assoc]
  unfold Builtin.Frozenset.addrOf setAdd
  refine wpAny_bind (wpAny_pure ?_)
  try dsimp only
  refine wpAny_bind (wpAny_pure ?_)
  try dsimp only
  refine wpAny_bind ?_
  refine wpAny_holding ?_
  refine wpAny_bind (wpAny_pyHash_tuple (show A.units + 1 < cLine by omega) hx ?_)
  refine add_at (s := { s with toks := s.toks + (k.length + 1) }) R hx (show A.units + 1 < cLine by omega) hfew fun b h' L' es' ep' t' sb R' c1 c2 => ?_
  show wpAny _ _ (ret Value.none) _ _ _
  exact wpAny_pure ⟨_, rfl, h h' _ L' es' ep' t' sb R' c1 c2⟩
/-- a new set, in order or not as the world says -/
theorem newSet_led {prog : Program} {Q : Value → Shared → Prop} (h : Q (.ref s.heap.objs.size) { s with heap := s.heap.push { cls := .type "set", dict := none, data := .set #[] 0 (.fresh 0 0 (!w.params.followText "set-order")) } }) :
    wpAny (model prog w) A (newSet (.type "set")) Q E s := by
  unfold newSet setsByText
  refine wpAny_bind (wpAny_bind (wpAny_askSetting (wpAny_pure ?_)))
  dsimp only
  simp only [newObj]
  exact wpAny_bind (wpAny_alloc (wpAny_pure h))
theorem disp_led {prog : Program} {road : DisplayRoad} {b : Bool} {elts : List (Bool × Sem Value)} {ts : List (Sem Value)} {Q : Value → Shared → Prop} (hroad : (road == .constants) = false) (hun : (road == .unsure) = false) (hs : elts.findIdx? (·.1) = none) (hlen : elts.length ≤ 30) (hm : elts.map (·.2) = ts)
    (h : wpAny (model prog w) A (evalAll ts) (fun vs s' => PySem.W.KdsFill (model prog w) A E false s.heap.objs.size Q vs s') E { s with heap := s.heap.push { cls := .type "set", dict := none, data := .set #[] 0 (.fresh 0 0 (!w.params.followText "set-order")) } }) :
    wpAny (model prog w) A (setDisplay road b elts) Q E s := by
  have hn : (if elts.length > 30 then 0 else (elts.findIdx? (·.1)).getD elts.length) = elts.length := by rw [if_neg (by omega), hs]; rfl
  unfold setDisplay
  try dsimp only
  rw [if_neg (by rw [hroad]; exact Bool.false_ne_true)]
  refine wpAny_bind (newSet_led ?_)
  dsimp only
  rw [hn, List.take_length, List.drop_length, hm]
  refine wpAny_bind (wpAny_holding ?_)
  refine wpAny_bind (wpAny_mono h (fun vs s' h' => ?_) fun _ _ x => x)
  refine wpAny_bind (wpAny_holding ?_)
  refine wpAny_bind (wpAny_mono (PySem.W.kds_for (fun x P s hx => ?_) vs s' h') (fun _ s1 h1 => ?_) fun _ _ x => x)
  · refine wpAny_bind (wpAny_mono hx (fun _ s2 h2 => ?_) fun _ _ x => x)
    first | exact wpAny_pure ⟨rfl, h2⟩ | exact wpAny_bind (wpAny_pure (wpAny_pure ⟨rfl, h2⟩))
  · rw [hun]
    have h2 : Q (.ref s.heap.objs.size) s1 := by simpa [PySem.W.KdsFill] using h1
    rw [if_neg Bool.false_ne_true]
    refine wpAny_pure ?_
    rw [List.forIn_nil]
    exact wpAny_pure (wpAny_pure h2)
end
/-! ### on the heap -/
/-- the set at S holds the tuples ks, at most m of them -/
def TSet (P : Program) (w : World) (K : PySem.W.Frag) (H : Hp) (S : Addr) (ks : List (List Int)) (m : Nat) : Prop :=
  ∃ L, H S = some (SetTO P w S L) ∧ (∀ p ∈ L, SqT K H p.1 (iV p.2)) ∧ (∀ k, k ∈ L.map (·.2) ↔ k ∈ ks) ∧ L.length ≤ m
theorem sqt_set {K : PySem.W.Frag} {P : Program} {w : World} {H : Hp} {S b : Addr} {L : List (Addr × List Int)} {xs : List V} {o : HO} (hS : H S = some (SetTO P w S L)) (h : SqT K H b xs) : SqT K (upd H S o) b xs := by
  rcases h with (h | ⟨u, h⟩) | h
  · exact .inl (.inl ((upd_ne fun z => by rw [z, hS] at h; cases h).trans h))
  · exact .inl (.inr ⟨u, (upd_ne fun z => by rw [z, hS] at h; cases h).trans h⟩)
  · exact .inr h
theorem TSet.mono {P : Program} {w : World} {K : PySem.W.Frag} {H H' : Hp} {S : Addr} {ks : List (List Int)} {m : Nat} (h : TSet P w K H S ks m) (s : Same H H') : TSet P w K H' S ks m := by
  obtain ⟨L, e, a, b, c⟩ := h
  exact ⟨L, s _ _ e, fun p hp => s.tup (a p hp), b, c⟩
theorem TSet.sqt {P : Program} {w : World} {K : PySem.W.Frag} {H : Hp} {S b : Addr} {ks : List (List Int)} {m : Nat} {xs : List V} {o : HO} (h : TSet P w K H S ks m) (t : SqT K H b xs) : SqT K (upd H S o) b xs :=
  let ⟨_, e, _⟩ := h
  sqt_set e t
theorem TSet.lst {P : Program} {w : World} {K : PySem.W.Frag} {H : Hp} {S b : Addr} {ks : List (List Int)} {m : Nat} {xs : List V} {o : HO} (h : TSet P w K H S ks m) (t : H b = some (.lst xs)) : upd H S o b = some (.lst xs) :=
  let ⟨_, e, _⟩ := h
  (upd_ne fun z => by rw [z, e] at t; cases t).trans t
theorem TSet.over {P : Program} {w : World} {K : PySem.W.Frag} {H : Hp} {S b : Addr} {ks : List (List Int)} {m : Nat} {xs : List V} {o : HO} (h : TSet P w K H S ks m) (t : H b = some (.lst xs)) : TSet P w K (upd H b o) S ks m := by
  obtain ⟨L, e, q1, q2, q3⟩ := h
  refine ⟨L, (upd_ne fun z => by rw [z, t] at e; cases e).trans e, fun p hp => ?_, q2, q3⟩
  rcases q1 p hp with (h | ⟨u, h⟩) | h
  · exact .inl (.inl ((upd_ne fun z => by rw [z, t] at h; cases h).trans h))
  · exact .inl (.inr ⟨u, (upd_ne fun z => by rw [z, t] at h; cases h).trans h⟩)
  · exact .inr h
section
variable {X : Cx}
def rTIn (K : PySem.W.Frag) (P : Program) (w : World) (neg : Bool) : R2 := fun x y H Q => ∃ (b S : Addr) (k : List Int) (ks : List (List Int)) (m : Nat), x = .ref b ∧ y = .ref S ∧ SqT K H b (iV k) ∧ TSet P w K H S ks m ∧ Q (.bl (if neg then !decide (k ∈ ks) else decide (k ∈ ks))) H
theorem tset_R {pins : List (Addr × Obj)} {σ : St} {H : Hp} {s : Shared} {S : Addr} {L : List (Addr × List Int)} (I : Inv X pins σ H s) (e : H S = some (SetTO X.prog X.w S L)) (q : ∀ p ∈ L, SqT X.K H p.1 (iV p.2)) : ∃ es ep t, SetTR X.prog X.w s.heap S L es ep t :=
  SetT0.full (I.hok S _ e).1 fun p hp => I.isT (q p hp)
theorem op_tin (hu : X.A.units + 64 < cLine) : OpR X (compareOp .In) (rTIn X.K X.prog X.w false) := by
  intro pins s σ H x y v u Q I rx ry h
  obtain ⟨b, S, k, ks, m, rfl, rfl, hb, ⟨L, e, q1, q2, q3⟩, q⟩ := h
  cases rx
  cases ry
  obtain ⟨es, ep, t, R⟩ := tset_R I e q1
  refine in_tup R (I.isT hb) hu fun tk => ⟨.bl (decide (k ∈ ks)), H, I.tok tk, ?_, q⟩
  show RelV (.bl (decide (k ∈ ks))) (.bool (decide (k ∈ L.map (·.2))))
  rw [decide_eq_decide.mpr (q2 k)]
  rfl
theorem op_tnotin (hu : X.A.units + 64 < cLine) : OpR X (compareOp .NotIn) (rTIn X.K X.prog X.w true) := by
  intro pins s σ H x y v u Q I rx ry h
  obtain ⟨b, S, k, ks, m, rfl, rfl, hb, ⟨L, e, q1, q2, q3⟩, q⟩ := h
  cases rx
  cases ry
  obtain ⟨es, ep, t, R⟩ := tset_R I e q1
  refine notin_tup R (I.isT hb) hu fun tk => ⟨.bl (!decide (k ∈ ks)), H, I.tok tk, ?_, q⟩
  show RelV (.bl (!decide (k ∈ ks))) (.bool (!decide (k ∈ L.map (·.2))))
  rw [decide_eq_decide.mpr (q2 k)]
  rfl
/-- what add leaves -/
theorem tset_put {P : Program} {w : World} {K : PySem.W.Frag} {H : Hp} {S b : Addr} {L L' : List (Addr × List Int)} {k : List Int} {ks : List (List Int)} {m : Nat} (e : H S = some (SetTO P w S L)) (q1 : ∀ p ∈ L, SqT K H p.1 (iV p.2)) (q2 : ∀ k, k ∈ L.map (·.2) ↔ k ∈ ks) (q3 : L.length ≤ m)
    (hb : SqT K H b (iV k)) (c : k ∉ ks) (c2 : k ∉ L.map (·.2) → L'.Perm ((b, k) :: L)) : TSet P w K (upd H S (SetTO P w S L')) S (ks ++ [k]) (m + 1) := by
  have c2 := c2 fun z => c ((q2 k).mp z)
  refine ⟨L', upd_same, ?_, ?_, ?_⟩
  · intro p hp
    refine sqt_set e ?_
    rcases List.mem_cons.mp (c2.mem_iff.mp hp) with rfl | h
    · exact hb
    · exact q1 p h
  · intro j
    rw [List.mem_append, List.mem_singleton, ← q2 j, (c2.map (·.2)).mem_iff, List.map_cons, List.mem_cons]
    exact ⟨fun h => h.symm, fun h => h.symm⟩
  · rw [c2.length_eq, List.length_cons]
    omega
theorem tset_keep {P : Program} {w : World} {K : PySem.W.Frag} {H : Hp} {S : Addr} {L L' : List (Addr × List Int)} {k : List Int} {ks : List (List Int)} {m : Nat} (e : H S = some (SetTO P w S L)) (q1 : ∀ p ∈ L, SqT K H p.1 (iV p.2)) (q2 : ∀ k, k ∈ L.map (·.2) ↔ k ∈ ks) (q3 : L.length ≤ m)
    (c : k ∈ ks) (c1 : k ∈ L.map (·.2) → L' = L) : TSet P w K (upd H S (SetTO P w S L')) S ks m := by
  rw [c1 ((q2 k).mpr c)]
  exact ⟨L, upd_same, fun p hp => sqt_set e (q1 p hp), q2, q3⟩
def rTAdd (K : PySem.W.Frag) (P : Program) (w : World) : V → List V → Hp → VK → Prop := fun x xs H Q => ∃ (b S : Addr) (k : List Int) (ks : List (List Int)) (m : Nat), x = V.ref S ∧ xs = [V.ref b] ∧ SqT K H b (iV k) ∧ TSet P w K H S ks m ∧ m + 1 < 64 ∧ (k ∈ ks → ∀ o, TSet P w K (upd H S o) S ks m → Q .non (upd H S o)) ∧ (k ∉ ks → ∀ o, TSet P w K (upd H S o) S (ks ++ [k]) (m + 1) → Q .non (upd H S o))
theorem mt_tadd (hu : X.A.units + 64 < cLine) : MtR X "set.add" (rTAdd X.K X.prog X.w) := by
  intro pins s σ H x xs v us Q I rx rxs h
  obtain ⟨b, S, k, ks, m, rfl, rfl, hb, ⟨L, e, q1, q2, q3⟩, hm, qy, qn⟩ := h
  cases rx
  cases rxs with
  | cons ry rt =>
    cases rt
    cases ry
    obtain ⟨es, ep, t, R⟩ := tset_R I e q1
    refine add_tup R (I.isT hb) hu (by omega) fun h' tk L' es' ep' t' sb R' c1 c2 => ?_
    have he : ∃ u, h'.get? S = some u := let ⟨o, ho, _⟩ := R'.ob; ⟨o, ho⟩
    refine ⟨.non, upd H S (SetTO X.prog X.w S L'), I.write (e := S) (t' := tk) (by rw [e]; trivial) (.inl rfl) (fun b u hb hu => (sb.2 b hb).trans hu) he (setTO_new R'.t0), rfl, ?_⟩
    rcases Classical.em (k ∈ ks) with c | c
    · exact qy c _ (tset_keep e q1 q2 q3 c c1)
    · exact qn c _ (tset_put e q1 q2 q3 hb c c2)
def tTAdd (P : Program) (w : World) (K : PySem.W.Frag) (to : TE) (t : TA) : TE := fun σ H Q => to σ H fun x H1 => (∃ S ks m, x = V.ref S ∧ TSet P w K H1 S ks m) ∧ t σ H1 fun xs H2 => rTAdd K P w x xs H2 Q
theorem pe_tadd {o e : Expr} {es : List Expr} {to : TE} {t : TA} {apos cpos : Pos} (hu : X.A.units + 64 < cLine) (ho : PE X o to) (ha : PA X (e :: es) t)
    (hbase : attributeBase o "add" X.env (eval o X.env) = eval o X.env := by rfl)
    (hfew : ((backTo cpos (starEach (e :: es) X.env)).all (fun x => !x.1) && (backToKw cpos (keywordEach [] X.env)).all (fun x => x.1.isSome)
      && decide ((e :: es).length + ([] : List Keyword).length + (if ([] : List Keyword).isEmpty then 0 else 1) < 30)) = true := by rfl)
    (hline : (apos.endLine == cpos.line) = true := by rfl) (hs : starEach (e :: es) X.env = (false, eval e X.env) :: starEach es X.env := by rfl) (hplain : (backTo cpos (starEach es X.env)).any (·.1) = false := by rfl) :
    PE X (.Call (.Attribute o "add" apos) (e :: es) [] cpos) (tTAdd X.prog X.w X.K to t) := by
  refine ⟨fun pins s σ H Q I h => ?_⟩
  refine wpAny_Call_method_late hbase hfew hline rfl (thn (ho.run pins s σ H _ I h) fun v s1 ⟨x, H1, I1, r1, ty, q1⟩ => ?_)
  obtain ⟨S, ks, m, rfl, L, el, ql, _⟩ := ty
  obtain ⟨_, _, _, R⟩ := tset_R I1 el ql
  have nd : ∀ b, Value.ref S = .ref b → ∃ ob, s1.heap.get? b = some ob ∧ ob.dict = none := fun b e => by
    injection e with e
    subst e
    exact let ⟨o, ho, hex, _⟩ := R.ob; ⟨o, ho, hex.2.1⟩
  cases r1
  refine ⟨"set", "set.add", PySem.F.plainAttrs_set, PySem.F.slot_set_add, PySem.F.type_set_add, SetTR.typeIs R, nd, ?_⟩
  have hA := ha.run cpos pins s1 σ H1 _ I1 q1
  rw [hs] at hA ⊢
  refine Calls.callWith_builtin (by show (false || (backTo cpos (starEach es X.env)).any (·.1)) = false; rw [hplain] <;> rfl) (Calls.evalArgs_plain ?_)
  exact thn hA fun us s2 ⟨vs, H2, I2, r2, q2⟩ => mt_tadd hu pins s2 σ H2 (.ref S) vs (.ref S) us Q I2 rfl r2 q2
/-- set(), for tuples -/
def rSet0T (P : Program) (w : World) (K : PySem.W.Frag) : List V → Hp → VK → Prop := fun xs H Q => xs = [] ∧ ∀ p o, H p = none → TSet P w K (upd H p o) p [] 0 → Q (.ref p) (upd H p o)
theorem tset_nil {P : Program} {w : World} {K : PySem.W.Frag} {H : Hp} {p : Addr} : TSet P w K (upd H p (SetTO P w p [])) p [] 0 := ⟨[], upd_same, fun _ h => by (cases h), fun k => Iff.rfl, Nat.le_refl _⟩
theorem cr_set0T : CallR X (.type "set") (rSet0T X.prog X.w X.K) := by
  intro pins s σ H xs us Q I r h
  obtain ⟨rfl, q⟩ := h
  cases r
  refine setR_new fun _ => ?_
  have R : SetTR X.prog X.w (s.heap.push { cls := .type "set", dict := none, data := .set #[] 0 (.fresh 0 0 (!X.w.params.followText "set-order")) }) s.heap.objs.size [] #[] 0 _ := setTR_fresh (Heap.get?_push_size _ rfl)
  exact ⟨.ref _, upd H s.heap.objs.size (SetTO X.prog X.w s.heap.objs.size []), I.laid (t' := s.toks) (fun b u e => Heap.get?_push_of_some _ e) (Nat.le_refl _) (setTO_new R.t0), rfl, q _ _ (I.hok.fresh (Nat.le_refl _)) tset_nil⟩
/-- {e}, e a tuple of ints -/
def tSet1T (P : Program) (w : World) (K : PySem.W.Frag) (te : TE) : TE := fun σ H Q => ∀ p o, H p = none → TSet P w K (upd H p o) p [] 0 → te σ (upd H p o) fun x H1 => ∃ (b : Addr) (k : List Int), x = .ref b ∧ SqT K H1 b (iV k) ∧ TSet P w K H1 p [] 0 ∧ ∀ o, TSet P w K (upd H1 p o) p [k] 1 → Q (.ref p) (upd H1 p o)
theorem pe_set1T {e : Expr} {te : TE} {pos : Pos} (hu : X.A.units + 64 < cLine) (he : PE X e te) (hpl : PySem.W.kdsPlain e = true) (hcd : PySem.W.kdsCode X.K X.env.code = true) : PE X (.Set [e] 0 pos) (tSet1T X.prog X.w X.K te) := by
  refine ⟨fun pins s σ H Q I h => ?_⟩
  rw [arm_eval_Set]
  refine wpAny_bind (wpAny_standAt (wpAny_bind (PySem.W.kds_main I.kIn hcd fun b => ?_)))
  rw [PySem.W.kds_star [e] (by rw [List.all_cons, hpl] <;> rfl), List.map_map]
  refine disp_led (ts := (evalEach [e] X.env).map fun t => do let v ← t; standAt pos; pure v) (road0 [e]) (by rfl) ?_ ?_ ?_ ?_
  · refine List.findIdx?_eq_none_iff.mpr fun y hy => ?_
    obtain ⟨_, _, rfl⟩ := List.mem_map.mp hy
    rfl
  · rw [List.length_map, PySem.W.kds_len]
    exact (by decide : 1 ≤ 30)
  · rw [List.map_map]
    try rfl
  · have R : SetTR X.prog X.w (s.heap.push { cls := .type "set", dict := none, data := .set #[] 0 (.fresh 0 0 (!X.w.params.followText "set-order")) }) s.heap.objs.size [] #[] 0 _ := setTR_fresh (Heap.get?_push_size _ rfl)
    have I0 := I.laid (t' := s.toks) (a := s.heap.objs.size) (o := SetTO X.prog X.w s.heap.objs.size []) (fun b u e => Heap.get?_push_of_some _ e) (Nat.le_refl _) (setTO_new R.t0)
    have free := I.hok.fresh (Nat.le_refl _)
    refine PySem.W.kds_all pos [e] _ _ ?_
    show wpAny _ _ (eval e X.env) _ _ _
    refine thn (he.run pins _ σ _ _ I0 (h _ _ free tset_nil)) fun v s1 ⟨x, H1, I1, r1, b, k, ek, hb, ⟨L, e1, q1, q2, q3⟩, q⟩ => ?_
    subst ek
    cases r1
    show PySem.W.KdsFill _ _ _ _ _ _ [.ref b] s1
    refine PySem.W.kds_fill_cons ?_
    obtain ⟨es, ep, t, R1⟩ := tset_R I1 e1 q1
    unfold setAdd
    refine wpAny_holding (wpAny_bind (wpAny_pyHash_tuple (by omega) (I1.isT hb) ?_))
    refine add_at (s := { s1 with toks := s1.toks + (k.length + 1) }) R1 (I1.isT hb) (by omega) (by omega) fun bb h' L' es' ep' t' sb R' c1 c2 => ?_
    have he' : ∃ u, h'.get? s.heap.objs.size = some u := let ⟨o, ho, _⟩ := R'.ob; ⟨o, ho⟩
    have I2 := I1.write (x := s.heap.objs.size) (e := s.heap.objs.size) (o := SetTO X.prog X.w s.heap.objs.size L') (t' := s1.toks + (k.length + 1)) (by rw [e1]; trivial) (.inl rfl) (fun b u hb hu => (sb.2 b hb).trans hu) he' (setTO_new R'.t0)
    exact PySem.W.kds_fill_nil rfl ⟨.ref s.heap.objs.size, _, I2, rfl, q _ (tset_put e1 q1 q2 q3 hb (by simp) c2)⟩
end
end L2.Px

/-! Places told by tuples of ints, coded by numbers; links whose keys are such tuples. -/
namespace L2.Px
open PySem PySem.Spec PyProof.Rows
theorem hu64_of {k : Nat} {A : Around} (r : Room k A) : A.units + 64 < cLine := by
  have := r.un
  omega
/-- the tuple of the place x -/
def PlV (cd : Nat → List Int) (H : Hp) (v : V) (x : Nat) : Prop := ∃ b, v = .ref b ∧ H b = some (.tup (iV (cd x)))
theorem lasts_pl {cd : Nat → List Int} : Lasts (PlV cd) := fun _ _ _ _ s ⟨b, e, h⟩ => ⟨b, e, s _ _ h⟩
theorem PlV.lst {cd : Nat → List Int} {H : Hp} {D : Addr} {v : V} {x : Nat} {l : List V} {o : HO} (hD : H D = some (.lst l)) (h : PlV cd H v x) : PlV cd (upd H D o) v x := by
  obtain ⟨b, rfl, h⟩ := h
  exact ⟨b, rfl, (upd_ne fun q => by rw [q, hD] at h; cases h).trans h⟩
theorem PlV.set {P : Program} {w : World} {K : PySem.W.Frag} {cd : Nat → List Int} {H : Hp} {S : Addr} {v : V} {x : Nat} {ks : List (List Int)} {m : Nat} {o : HO} (hS : TSet P w K H S ks m) (h : PlV cd H v x) : PlV cd (upd H S o) v x := by
  obtain ⟨b, rfl, h⟩ := h
  obtain ⟨L, e, _⟩ := hS
  exact ⟨b, rfl, (upd_ne fun q => by rw [q, e] at h; cases h).trans h⟩
abbrev keyT (cd : Nat → List Int) (x : Nat) : List L2.Key := (cd x).map Sum.inl
theorem keyT_kV (cd : Nat → List Int) (x : Nat) : (keyT cd x).map kV = iV (cd x) := by
  rw [List.map_map]
  rfl
theorem keyT_inj {cd : Nat → List Int} {x y : Nat} (h : keyT cd x = keyT cd y) : cd x = cd y := by
  have e := congrArg (List.map fun k : L2.Key => match k with | .inl i => i | .inr _ => 0) h
  rw [List.map_map, List.map_map] at e
  have i : ∀ l : List Int, l.map ((fun k : L2.Key => match k with | .inl i => i | .inr _ => 0) ∘ Sum.inl) = l := fun l => by
    induction l with
    | nil => rfl
    | cons a l ih => rw [List.map_cons, ih]; rfl
  rwa [i, i] at e
structure LinksT (K : PySem.W.Frag) (cd : Nat → List Int) (H : Hp) (L : Addr) (n : Nat) (adj : Nat → List Nat) (kvs : List (List L2.Key × V)) : Prop where
  d : Rd H L (.dT kvs)
  len : kvs.length = n
  key : ∀ t < n, ∃ b ws, kvs[t]? = some (keyT cd t, .ref b) ∧ SqL K H b ws ∧ Paired (PlV cd H) ws (adj t)
  get : ∀ t < n, ∃ b ws, valV kvs (keyT cd t) = some (.ref b) ∧ SqL K H b ws ∧ Paired (PlV cd H) ws (adj t)
theorem LinksT.mono {K : PySem.W.Frag} {cd : Nat → List Int} {H H' : Hp} {L : Addr} {n : Nat} {adj : Nat → List Nat} {kvs : List (List L2.Key × V)} (h : LinksT K cd H L n adj kvs) (s : Same H H') : LinksT K cd H' L n adj kvs :=
  ⟨s.rd h.d, h.len, fun t ht => let ⟨b, ws, e, q, p⟩ := h.key t ht; ⟨b, ws, e, s.seq q, paired_mono (fun _ _ r => lasts_pl _ _ _ _ s r) p⟩, fun t ht => let ⟨b, ws, e, q, p⟩ := h.get t ht; ⟨b, ws, e, s.seq q, paired_mono (fun _ _ r => lasts_pl _ _ _ _ s r) p⟩⟩
/-- a list of lists of places -/
def LLp (_ : PySem.W.Frag) (cd : Nat → List Int) (H : Hp) (ws : List V) (cs : List (List Nat)) : Prop := Paired (fun v c => ∃ b xs, v = .ref b ∧ H b = some (.lst xs) ∧ Paired (PlV cd H) xs c) ws cs
theorem LLp.mono {K : PySem.W.Frag} {cd : Nat → List Int} {H H' : Hp} {ws : List V} {cs : List (List Nat)} (h : LLp K cd H ws cs) (s : Same H H') : LLp K cd H' ws cs :=
  paired_mono (fun _ _ ⟨b, xs, e, q, p⟩ => ⟨b, xs, e, s _ _ q, paired_mono (fun _ _ r => lasts_pl _ _ _ _ s r) p⟩) h
theorem found_new {l : List Nat} {y : Nat} (nd : l.Nodup) (h : y ∉ l) : (l ++ [y]).Nodup := List.nodup_append.mpr ⟨nd, by simp, fun a ha b hb z => by rw [List.mem_singleton.mp hb] at z; exact h (z ▸ ha)⟩
/-- no list, no tuple -/
def NoSeq (u : HO) : Prop := ∀ xs, u ≠ .lst xs ∧ u ≠ .tup xs ∧ ∀ o, u ≠ .frz o (.lst xs)
theorem noSeq_set {P : Program} {w : World} {S : Addr} {L : List (Addr × List Int)} : NoSeq (SetTO P w S L) := fun _ => ⟨(fun z => by cases z), (fun z => by cases z), fun _ z => by cases z⟩
theorem noSeq_frzT {o : Obj} {kvs : List (List L2.Key × V)} : NoSeq (.frz o (.dT kvs)) := fun _ => ⟨(fun z => by cases z), (fun z => by cases z), fun _ z => by cases z⟩
theorem noSeq_T {kvs : List (List L2.Key × V)} : NoSeq (.dT kvs) := fun _ => ⟨(fun z => by cases z), (fun z => by cases z), fun _ z => by cases z⟩
theorem PlV.over {cd : Nat → List Int} {H : Hp} {D : Addr} {v : V} {x : Nat} {u o : HO} (hD : H D = some u) (no : NoSeq u) (h : PlV cd H v x) : PlV cd (upd H D o) v x := by
  obtain ⟨b, rfl, h⟩ := h
  exact ⟨b, rfl, (upd_ne fun q => by rw [q, hD] at h; exact (no _).2.1 (Option.some.inj h)).trans h⟩
theorem sql_over {K : PySem.W.Frag} {H : Hp} {D b : Addr} {xs : List V} {u o : HO} (hD : H D = some u) (no : NoSeq u) (h : SqL K H b xs) : SqL K (upd H D o) b xs := by
  rcases h with (q | ⟨o, q⟩) | q
  · exact .inl (.inl ((upd_ne fun z => by rw [z, hD] at q; exact (no _).1 (Option.some.inj q)).trans q))
  · exact .inl (.inr ⟨o, (upd_ne fun z => by rw [z, hD] at q; exact (no _).2.2 o (Option.some.inj q)).trans q⟩)
  · exact .inr q
theorem LLp.over {K : PySem.W.Frag} {cd : Nat → List Int} {H : Hp} {D : Addr} {ws : List V} {cs : List (List Nat)} {u o : HO} (hD : H D = some u) (no : NoSeq u) (h : LLp K cd H ws cs) : LLp K cd (upd H D o) ws cs :=
  paired_mono (fun _ _ ⟨b, xs, e, q, p⟩ => ⟨b, xs, e, (upd_ne fun z => by rw [z, hD] at q; exact (no _).1 (Option.some.inj q)).trans q, paired_mono (fun _ _ r => PlV.over hD no r) p⟩) h
/-- the codes stand in their order -/
structure CdOk (cd : Nat → List Int) (n : Nat) : Prop where
  l : ∀ x < n, (cd x).length = 2
  b : ∀ x < n, TS.Bd 64 (cd x)
  lt : ∀ x y, x < y → y < n → TS.code 64 (cd x) < TS.code 64 (cd y)
theorem CdOk.inj {cd : Nat → List Int} {n : Nat} (h : CdOk cd n) : ∀ x < n, ∀ y < n, cd x = cd y → x = y := fun x hx y hy e => by
  rcases Nat.lt_trichotomy x y with z | z | z
  · have := h.lt x y z hy
    rw [e] at this
    omega
  · exact z
  · have := h.lt y x z hx
    rw [e] at this
    omega
theorem paired_perm {α β : Type} {R : α → β → Prop} {xs ys : List α} (p : ys.Perm xs) : ∀ {ls : List β}, Paired R xs ls → ∃ ls', ls'.Perm ls ∧ Paired R ys ls' := by
  induction p with
  | nil => intro ls h; exact ⟨ls, List.Perm.refl _, h⟩
  | cons a p ih =>
    intro ls h
    cases h with
    | cons r h =>
      obtain ⟨ls', p', h'⟩ := ih h
      exact ⟨_, p'.cons _, .cons r h'⟩
  | swap a b l =>
    intro ls h
    cases h with
    | cons r1 h =>
      cases h with
      | cons r2 h => exact ⟨_, List.Perm.swap _ _ _, .cons r2 (.cons r1 h)⟩
  | trans p q ih1 ih2 =>
    intro ls h
    obtain ⟨l1, p1, h1⟩ := ih2 h
    obtain ⟨l2, p2, h2⟩ := ih1 h1
    exact ⟨l2, p2.trans p1, h2⟩
theorem paired_pw {α β : Type} {R : α → β → Prop} {S : α → α → Prop} {T : β → β → Prop} {ys : List α} {ls : List β} (h : Paired R ys ls) (hp : ys.Pairwise S) (k : ∀ v x w y, x ∈ ls → y ∈ ls → R v x → R w y → S v w → T x y) : ls.Pairwise T := by
  induction h with
  | nil => exact .nil
  | @cons v x vs xs r h ih =>
    rw [List.pairwise_cons] at hp ⊢
    refine ⟨fun y hy => ?_, ih hp.2 fun v x w y hx hy => k v x w y (List.mem_cons_of_mem _ hx) (List.mem_cons_of_mem _ hy)⟩
    obtain ⟨i, hi⟩ := List.getElem?_of_mem hy
    obtain ⟨w, hw, rw'⟩ := paired_at h hi
    exact k v x w y List.mem_cons_self (List.mem_cons_of_mem _ hy) r rw' (hp.1 w (List.mem_of_getElem? hw))
/-- the places found, in their order -/
theorem sort_pl {K : PySem.W.Frag} {cd : Nat → List Int} {n s : Nat} {adj : Nat → List Nat} {H : Hp} {xs ys : List V} {l : List Nat} (c : CdOk cd n) (f : Found n adj s l) (h : Paired (PlV cd H) xs l) (p : ys.Perm xs)
    (pw : ys.Pairwise (fun x y => ∀ n m, TupI K H x n → TupI K H y m → TS.code 64 n ≤ TS.code 64 m)) : Paired (PlV cd H) ys (clR n adj s) := by
  obtain ⟨l', pl, h'⟩ := paired_perm p h
  have bd : ∀ x ∈ l', x < n := fun x hx => ((f.mem x).mp (pl.mem_iff.mp hx)).1
  have so : l'.Pairwise (fun x y => x ≤ y) := paired_pw h' pw fun v x w y hx hy ⟨b, e1, h1⟩ ⟨d, e2, h2⟩ q => by
    have := q (cd x) (cd y) ⟨b, e1, .inl (.of h1)⟩ ⟨d, e2, .inl (.of h2)⟩
    rcases Nat.lt_or_ge y x with z | z
    · have := c.lt y x z (bd x hx)
      omega
    · exact z
  have e := f.sorted (ms := cI l') (pl.map _) (List.pairwise_map.mpr (so.imp fun {a b} h => by omega))
  have e2 : l' = clR n adj s := by
    have i : ∀ (a b : List Nat), cI a = cI b → a = b := by
      intro a
      induction a with
      | nil => intro b e; cases b with
        | nil => rfl
        | cons _ _ => cases e
      | cons x a ih =>
        intro b e
        cases b with
        | nil => cases e
        | cons y b =>
          injection e with e1 e2
          have e1 : (x : Int) = (y : Int) := e1
          rw [ih b e2, show x = y by omega]
    exact i _ _ e
  rw [e2] at h'
  exact h'
theorem tset_empty {P : Program} {w : World} {K : PySem.W.Frag} {H H' : Hp} {S : Addr} {m : Nat} (h : TSet P w K H S [] m) (e : H' S = H S) : TSet P w K H' S [] m := by
  obtain ⟨L, e1, q1, q2, q3⟩ := h
  have : L = [] := by
    cases L with
    | nil => rfl
    | cons p L => exact absurd ((q2 p.2).mp (List.mem_cons_self)) (by simp)
  subst this
  exact ⟨[], e.trans e1, fun _ h => (by cases h), q2, q3⟩
/-- links that are being made: the first m of N -/
structure LinksP (K : PySem.W.Frag) (cd : Nat → List Int) (H : Hp) (L : Addr) (m N : Nat) (adj : Nat → List Nat) (kvs : List (List L2.Key × V)) : Prop where
  d : H L = some (.dT kvs)
  len : kvs.length = m
  at' : ∀ t < m, ∃ b ws, kvs[t]? = some (keyT cd t, .ref b) ∧ valV kvs (keyT cd t) = some (.ref b) ∧ SqL K H b ws ∧ Paired (PlV cd H) ws (adj t)
  no : ∀ t < N, m ≤ t → valV kvs (keyT cd t) = none
theorem LinksP.nil {K : PySem.W.Frag} {cd : Nat → List Int} {H : Hp} {L : Addr} {N : Nat} {adj : Nat → List Nat} : LinksP K cd (upd H L (.dT [])) L 0 N adj [] := ⟨upd_same, rfl, fun t ht => absurd ht (Nat.not_lt_zero t), fun _ _ _ => rfl⟩
theorem LinksP.mono {K : PySem.W.Frag} {cd : Nat → List Int} {H H' : Hp} {L : Addr} {m N : Nat} {adj : Nat → List Nat} {kvs : List (List L2.Key × V)} (h : LinksP K cd H L m N adj kvs) (s : Same H H') : LinksP K cd H' L m N adj kvs :=
  ⟨s _ _ h.d, h.len, fun t ht => let ⟨b, ws, e1, e2, q, p⟩ := h.at' t ht; ⟨b, ws, e1, e2, s.seq q, paired_mono (fun _ _ r => lasts_pl _ _ _ _ s r) p⟩, h.no⟩
theorem LinksP.links {K : PySem.W.Frag} {cd : Nat → List Int} {H : Hp} {L : Addr} {N : Nat} {adj : Nat → List Nat} {kvs : List (List L2.Key × V)} (h : LinksP K cd H L N N adj kvs) : LinksT K cd H L N adj kvs :=
  ⟨.inl h.d, h.len, fun t ht => let ⟨b, ws, e1, _, q⟩ := h.at' t ht; ⟨b, ws, e1, q⟩, fun t ht => let ⟨b, ws, _, e2, q⟩ := h.at' t ht; ⟨b, ws, e2, q⟩⟩
theorem LinksP.put {K : PySem.W.Frag} {cd : Nat → List Int} {H : Hp} {L b : Addr} {m N : Nat} {adj : Nat → List Nat} {kvs : List (List L2.Key × V)} {ws : List V} (h : LinksP K cd H L m N adj kvs) (c : CdOk cd N) (hm : m < N) (hb : SqL K H b ws) (hp : Paired (PlV cd H) ws (adj m)) :
    LinksP K cd (upd H L (.dT (putK kvs (keyT cd m) (.ref b)))) L (m + 1) N adj (putK kvs (keyT cd m) (.ref b)) := by
  have nw := h.no m hm (Nat.le_refl m)
  have ki : ∀ t < N, keyT cd t = keyT cd m → t = m := fun t ht e => c.inj t ht m hm (keyT_inj e)
  refine ⟨upd_same, by rw [putK_new _ nw, List.length_append, h.len]; rfl, fun t ht => ?_, fun t ht hmt => ?_⟩
  · by_cases e : t = m
    · subst e
      refine ⟨b, ws, ?_, by rw [valV_put, if_pos rfl], sql_over h.d noSeq_T hb, paired_mono (fun _ _ r => PlV.over h.d noSeq_T r) hp⟩
      rw [putK_new _ nw, List.getElem?_append_right (by rw [h.len]; omega), h.len, Nat.sub_self]
      rfl
    · obtain ⟨b', ws', e1, e2, q, p⟩ := h.at' t (by omega)
      refine ⟨b', ws', ?_, by rw [valV_put, if_neg fun z => e (ki t (by omega) z)]; exact e2, sql_over h.d noSeq_T q, paired_mono (fun _ _ r => PlV.over h.d noSeq_T r) p⟩
      rw [putK_new _ nw, List.getElem?_append_left (by rw [h.len]; omega)]
      exact e1
  · rw [valV_put, if_neg fun z => by have := ki t ht z; omega]
    exact h.no t ht (by omega)
end L2.Px

/-! isinstance(e, c), e a caught error of an own class that has a dict. -/
namespace PySem.W
open PySem PySem.Spec PySem.Calls PyProof.Rows
section
variable {P : Program} {w : World} {A : Around} {R : Value → Shared → Prop} {s : Shared} {K : Frag} {e D : Addr} {oe : Obj} {od : Option Obj}
/-- e.__class__, with or without a dict -/
theorem px_class {T : Option Value → Shared → Prop} (C : L2.ExcC K D) (kin : K.In s.heap) (at' : InstAt s.heap e oe D od) (fin : T (some (.ref D)) { s with toks := s.toks + 1 }) :
    wpAny (model P w) A (getAttr? (.ref e) "__class__") T R s := by
  have found : findObj K D od "__class__" = some (.bind (.builtin "getset_descriptor.__get__") (.builtin "object.__class__")) := by
    obtain ⟨cd, hc, _⟩ := any_some C.hd
    unfold findObj
    rw [hc, Option.bind_some, C.ha, Option.bind_some]
    simp [C.hn, C.ht]
  obtain ⟨hp, gg, dr, tk, os⟩ := s
  have ty := at'.type (M := model P w)
  have lg := looks_findIn (M := model P w) kin C.hg
  have lk := looks_findIn (M := model P w) kin C.hk
  have lf := looks_find (M := model P w) kin at' found
  have isB : Looks (model P w) hp (isInstance (.ref e) (.type "BaseException")) true := ty.andThen (looks_subIn kin C.hs)
  have b0 : (Value.builtin "BaseException.__getattribute__" == Value.builtin "object.__getattribute__") = false := by decide +kernel
  unfold getAttr? getAttrBy? getAttrBy
  refine wpAny_bind (wpAny_mkText (wpAny_bind (wpAny_attempt (wpAny_holding (wpAny_bind (ty.at (wpAny_bind (lg.at ?_))))))))
  show wpAny _ _ (if (onTheHeap (.ref D) && Value.builtin "BaseException.__getattribute__" == Value.builtin "object.__getattribute__") = true then _ else _) _ _ _
  rw [b0, if_neg (show ¬ (onTheHeap (.ref D) && false) = true from Bool.false_ne_true)]
  unfold getAttrByItsOwn hookBefore
  refine wpAny_bind ?_
  rw [if_pos (show onTheHeap (.ref D) = true from rfl)]
  refine lk.at (wpAny_bind (wpAny_attempt (wpAny_holding ?_)))
  unfold callGetattribute
  rw [if_neg (show ¬ (false && onTheHeap (.builtin "BaseException.__getattribute__")) = true from Bool.false_ne_true)]
  unfold boundAndCalled
  rw [PySem.F.excAttr_ValueError.ga.bind (.ref e)]
  refine wpAny_bind (wpAny_pure ?_)
  show wpAny _ _ (call (.builtin "BaseException.__getattribute__") [.ref e, .str "__class__" tk]) _ _ _
  refine wpAny_call (codeAny_call_builtin PySem.F.excAttr_ValueError.ga.plain PySem.F.entry_bexc_ga (@check_slot (model P w) _ _ ⟨hp, gg, dr, tk + 1, os⟩ "BaseException.__getattribute__" "BaseException" "__getattribute__" (.ref e) [.str "__class__" tk] [] _ (by decide +kernel) (by decide +kernel) isB (PySem.F.args_bexc_ga (.ref e) (.str "__class__" tk)) ?_))
  unfold Builtin.«object.__getattribute__»
  refine wpAny_bind (wpAny_of_eq (a := ((Value.ref e : Value), [Value.str "__class__" tk])) (by first | rfl | (simp only [slotArgs]; rfl)) (wpAny_bind (wpAny_pure (wpAny_bind (ty.at (wpAny_bind (lf.at ?_)))))))
  show wpAny _ _ (holding [Value.builtin "object.__class__"] (call (.builtin "getset_descriptor.__get__") [.builtin "object.__class__", .ref e, .ref D]) >>= ret) _ _ _
  refine wpAny_bind (wpAny_holding (wpAny_call (class_get (s := ⟨hp, gg, dr, tk + 1, os⟩) (ox := oe) (od := od) kin at' C.hm (wpAny_pure ?_))))
  show wpAny _ _ (handedOut (.ref D)) _ _ _
  rw [handedOut_of (v := .ref D) rfl]
  first
    | exact wpAny_pure (wpAny_pure fin)
    | exact wpAny_pure fin
    | exact wpAny_pure (wpAny_bind (wpAny_pure (wpAny_pure fin)))
theorem px_kit (C : L2.ExcC K D) : KitX K (.ref e) (.ref D) (fun h => InstAt h e oe D od) := by
  obtain ⟨cd, hc, _⟩ := any_some C.hd
  have at' : ∃ o, K.lookup D = some o ∧ ∃ c, o.data = .cls c := by
    unfold clsIn at hc
    split at hc
    · rename_i ho
      exact ⟨_, ho, _, rfl⟩
    · cases hc
  obtain ⟨o, ho, c, hd⟩ := at'
  refine ⟨fun _ _ _ i => i.type, fun _ _ X _ => fun A' Q' E' s' k q => ?_, fun h tp dd its n sl X htp => Bool.eq_false_iff.mpr fun q => ?_, fun X i k => px_class C X i k⟩
  · unfold isType loadHead
    refine wpAny_bind (wpAny_loadPart (k _ _ (X _ _ ho)) ?_)
    obtain ⟨oc, od', odt, osl⟩ := o
    have hd : odt = .cls c := hd
    subst hd
    exact wpAny_pure q
  · have eq : D = tp := Value.ref.inj (beq_iff_eq.mp q)
    subst eq
    have z := (X _ _ ho).symm.trans htp
    have z := Option.some.inj z
    rw [z] at hd
    cases hd
end
end PySem.W
namespace L2.Px
open PySem PySem.Spec PyProof.Rows
/-- isinstance(e, c), e what the suite holds, of the class D, with a dict -/
theorem call_isED {X : Cx} {a D : Addr} {oe : Obj} {cls : Value} {d : Option Addr} {pn : List (Addr × Obj)} (C : ExcC X.K D) (hz : Zc cls d oe) (hf : ∃ vs, oe.data = .fields vs) :
    CallR (X.suite a ((a, oe) :: pn)) (.builtin "isinstance") (fun xs H Q => cls = .ref D ∧ (∃ (dd : Addr) (fs : List (Str × V)), d = some dd ∧ H dd = some (.xd fs)) ∧ rIsE X.K D a xs H Q) := by
  intro pins s σ H xs us Q I r h
  obtain ⟨e1, ⟨dd, fs, e2, e3⟩, c, cv, b, rfl, hcv, e, q⟩ := h
  subst e1 e2
  cases r with
  | cons rx rr =>
    cases rr with
    | cons rt rr =>
      cases rr
      cases rx
      have ec := hcv _ rt
      subst ec
      obtain ⟨hget, _⟩ := I.pin (a, oe) (List.mem_append.mpr (.inl List.mem_cons_self))
      obtain ⟨vs, hv⟩ := hf
      obtain ⟨mA, ⟨od, es, ep, hod, _⟩, _⟩ := I.hok dd _ e3
      have J : PySem.W.InstAt s.heap a oe D (some od) := by
        obtain ⟨oc, od', oda, osl⟩ := oe
        obtain ⟨h1, h2⟩ := hz
        dsimp only at h1 h2 hv
        subst h1 h2 hv
        exact ⟨hget, rfl, rfl, hod⟩
      exact PySem.W.kia_one (PySem.W.px_kit C) I.kIn J e (fun z => nomatch z) fun tk => ⟨.bl b, H, I.kept (t' := tk) fun _ _ z => z, rfl, q⟩
end L2.Px

/-! An own exception class over ValueError whose __init__ begins with super().__init__(e). -/
namespace L2.Px
open PySem PySem.Spec PyProof.Rows PySem.OEX NdefX
/-- what the text tells of such an __init__, at fI; cc: the cell of its class C; cda: its code -/
structure SupC (P : Program) (K : PySem.W.Frag) (mg : Str → Option Value) (C cc cda : Addr) : Prop where
  T : OexC K C
  cell : ∃ cl cld csl, K.lookup cc = some ⟨cl, cld, .cell (some (.ref C)), csl⟩
  code : ∃ ccl cdd ccs file tf, ∃ vs : Array Value, K.lookup cda = some ⟨ccl, cdd, .fields vs, ccs⟩ ∧ vs[2]? = some (.str file tf) ∧ ((P.main.file : Str) == file) = true
  sup : mg "super" = none
  top : (P.main.scope.names.lookup ("super" : Str)).isSome = false
  self : PySem.W.mroIn K C (.ref C) = some true
  next : PySem.W.ks_superIn K C C "__init__" = some (some (.builtin "ValueError.__init__"))
  val : PySem.W.subIn K (.ref C) (.type "ValueError") = some true
  any : PySem.W.nsIn K PySem.cStatics "thirdparty.any" = some none
section
variable {X : Cx} {pins : List (Addr × Obj)} {σ : L2.St} {H : Hp} {s : Shared} {a u C : Addr} {us : List Value} {Q : Value → Shared → Prop} {E : Value → Shared → Prop} {A : Around}
/-- the bound ValueError.__init__, called -/
theorem bound_init (T : OexC X.K C) (I : Inv X pins σ H s) (ea : H a = some (exo a C none)) (hu : s.heap.get? u = some (PySem.W.kxs_mw "ValueError.__init__" a)) (hl : us.length ≤ sizeLine) (h : ∀ s', Inv X pins σ H s' → Q .none s') :
    wpAny (model X.prog X.w) A (call (.ref u) us) Q E s := by
  obtain ⟨nm, q, N, bs, bm, sn, sub, ab, col, dd, k0, k1, k2, k3, k5, hC, hbm⟩ := T.cls
  obtain ⟨t1, ho⟩ := exo_at I.hok ea
  obtain ⟨hp, g, d, t, os⟩ := s
  have hne : (Value.type "method-wrapper" == Value.type "method" || Value.type "method-wrapper" == Value.type "builtin_function_or_method" || Value.type "method-wrapper" == Value.type "method-wrapper") = true := by decide
  have fin : ∀ h', (∀ b o, b ≠ a → hp.get? b = some o → h'.get? b = some o) → (∃ t2 : Addr, h'.get? a = some ({ cls := .ref C, dict := none, data := .fields #[.ref t2, .none, .none, .none, .bool false, .none] } : Obj)) → Q .none ⟨h', g, d, t, os⟩ := fun h' k ⟨t2, hx⟩ => by
    have J := I.write (t' := t) (x := a) (e := a) (o := exo a C none) (by rw [ea]; exact True.intro) (.inl rfl) k ⟨_, hx⟩ (exo_ok hx)
    have eu : upd H a (exo a C none) = H := by
      funext b
      by_cases hb : b = a
      · rw [hb, upd_same, ea]
      · rw [upd_ne hb]
    rw [eu] at J
    exact h _ J
  have FB := F.excBase_ValueError
  refine wpAny_call (codeAny_of_tree ?_)
  show wpAny _ A.in1 (callAny (.ref u) ⟨us, []⟩) _ _ _
  unfold callAny
  refine wpAny_bind (wpAny_load hu ?_)
  simp only [PySem.W.kxs_mw, hne, if_true]
  refine PySem.W.KFB.if_so (by decide) (wpAny_bind (PySem.W.check_bound_init FB.toExcCallFacts (I.kIn _ _ hC) ho rfl ?_))
  refine wpAny_bind (wpAny_pure (wpAny_pure ⟨plainId_quiet FB.init.plain _, codeAny_builtin FB.initEntry ?_⟩))
  exact PySem.W.exc_init_tree (cls := .ref C) (t0 := t1) (dv := none) (c2 := .none) (c3 := .none) (b4 := .bool false) ho hl fun h' k e _ => fin h' k ⟨_, e⟩
end
section
variable {CX : CXT} {P : Program} {w : World} {K : PySem.W.Frag} {mg : Str → Option Value} {base : Heap} {N ps : List Str} {k : Nat} {sp : Sp} {f C cc cda : Addr} {name qual pn : Str} {params : Arguments} {rest : List Stmt} {scope : Scope} {dV kV doc pm ct oc : Value} {an od : Option Addr} {osl : Array (Option Value)} {e : Expr} {p0 p1 p2 p3 p4 : Pos} {ar : Arg}
theorem look1 {x y : Str} {c d : Addr} (h : List.lookup y [(x, c)] = some d) : y = x ∧ d = c := by
  simp only [List.lookup] at h
  split at h
  · rename_i e
    exact ⟨beq_iff_eq.mp e, (Option.some.inj h).symm⟩
  · cases h
/-- THE RULE: an __init__ that begins with super().__init__(e), by the rest of its body; pn: its first parameter -/
theorem fn_super (Z : SupC P K mg C cc cda) (lk : K.lookup f = some ⟨oc, od, .func (PySem.W.fnX name qual params (.Expr (.Call (.Attribute (.Call (.Name "super" p0) [] [] p1) "__init__" p2) [e] [] p3) p4 :: rest) scope [("__class__", cc)] dV kV doc pm an (.ref cda) ct), osl⟩)
    (hcd : PySem.W.codeIn K (.ref cda) qual = true) (S : NScope N ps ["__class__"] scope) (hpar : (params.posonlyargs ++ params.args).head? = some ar) (hps : ps.head? = some ar.arg) (hsu : scope.names.lookup ("super" : Str) = some .globalImplicit)
    (hst : ∀ env : Env, starEach [e] env = (false, eval e env) :: starEach [] env)
    {pl : Env → Sem Bool} (hev : ∀ env : Env, eval (.Call (.Attribute (.Call (.Name "super" p0) [] [] p1) "__init__" p2) [e] [] p3) env = (do
      let ov ← attributeBase (.Call (.Name "super" p0) [] [] p1) "__init__" env (eval (.Call (.Name "super" p0) [] [] p1) env)
      standAt p2.atName
      let (f, first) ← holding [ov] (getMethod ov "__init__" (pl env))
      callWith p3 f first (backTo p3 (starEach [e] env)) []))
    (hin : ∀ L : Addr, interactive (PySem.W.envX qual scope L f (.ref cda) [("__class__", cc)]) = false) (hsw : ∀ env : Env, swapsWith (.Call (.Attribute (.Call (.Name "super" p0) [] [] p1) "__init__" p2) [e] [] p3) none p4.line env = pure false) (len : ∀ vs H Q E, sp vs H Q E → vs.length = ps.length)
    (hbody : ∀ (A : Around) (outer : List Env) (s : Shared) (H : Hp) (vs : List V) (Q : VK) (E : XK), Room k A → sp vs H Q E →
      ∃ ta t, PA (ncx CX P w K mg base N ⟨name, qual, params, .Expr (.Call (.Attribute (.Call (.Name "super" p0) [] [] p1) "__init__" p2) [e] [] p3) p4 :: rest, scope, [("__class__", cc)], cda⟩ f A outer s H E) [e] ta ∧
        PSs (ncx CX P w K mg base N ⟨name, qual, params, .Expr (.Call (.Attribute (.Call (.Name "super" p0) [] [] p1) "__init__" p2) [e] [] p3) p4 :: rest, scope, [("__class__", cc)], cda⟩ f A outer s H E) rest t ∧
        ∃ a, vs.head? = some (.ref a) ∧ H a = some (exo a C none) ∧ ta (startF N vs [none]) H fun ys H1 => ys.length ≤ sizeLine ∧ H1 a = some (exo a C none) ∧ t { nx := fun _ H' => Q .non H', rt := Q } (startF N vs [none]) H1) :
    FnOk P w K mg base CX (k + 1) f (PySem.W.fnX name qual params (.Expr (.Call (.Attribute (.Call (.Name "super" p0) [] [] p1) "__init__" p2) [e] [] p3) p4 :: rest) scope [("__class__", cc)] dV kV doc pm an (.ref cda) ct) ps sp := by
  refine ⟨len, fun A outer s H args us vs Q E hr e0 hb r hsp => ?_⟩
  have hl := len _ _ _ _ hsp
  have KX : K.In s.heap := e0.mod.kin.keeps fun b o e => (e0.bs b o e).1
  have lim : s.heap.NoLimit := e0.mod.nolimit.keeps fun b o e => (e0.bs b o e).1
  obtain ⟨cl, cld, csl, hcell⟩ := Z.cell
  refine PySem.ks_codeAny_call_defAt hr.depth (KX _ _ lk) rfl lim (PySem.W.codeRec_of KX hcd) rfl hb S.nocell (fun ⟨n, _⟩ hy => S.par n (List.of_mem_zip hy).1) (fun h₁ hns kp => ?_) S.co S.gen S.kind
  obtain ⟨nm, qn, NN, bs, bm, sn, sub, ab, col, dd, k0, k1, k2, k3, k5, hC, hbm⟩ := Z.T.cls
  have hcl : PySem.W.clsIn K C = some { name := nm, bases := bs, mro := .ref C :: bm, ns := NN, qualname := qn, hasDict := true, slotNames := sn, subclasses := sub, abstract := ab, collection := col, hasDel := false } := by unfold PySem.W.clsIn; rw [hC] <;> rfl
  obtain ⟨ccl, cdd, ccs, file, tf, vsc, hcode, hvs, hfile⟩ := Z.code
  have hc0 : H cc = none := (e0.bs _ _ (e0.mod.kin _ _ hcell)).2
  have CA : CellsAt [(("__class__" : Str), cc)] ["__class__"] [none] s.heap H := by
    refine ⟨rfl, fun y c h => ?_, fun x y c h1 h2 => (look1 h1).1.trans (look1 h2).1.symm, fun i y h => ?_⟩
    · obtain ⟨_, rfl⟩ := look1 h
      exact ⟨hc0, _, _, KX _ _ hcell, rfl⟩
    · match i, h with
      | 0, h =>
        cases h
        exact ⟨cc, rfl, fun v z => by cases z⟩
  obtain ⟨ta, t, hA, hT, a, hva, ea, q⟩ := hbody A outer s H vs Q E (hr.mono (Nat.le_succ k)) hsp
  have I := inv_startN (CX := CX) (P := P) (w := w) (K := K) (mg := mg) (base := base) (E := E) (F := ⟨name, qual, params, .Expr (.Call (.Attribute (.Call (.Name "super" p0) [] [] p1) "__init__" p2) [e] [] p3) p4 :: rest, scope, [("__class__", cc)], cda⟩) (f := f) (tk := s.toks + (ps.zip us).length) S hr.hd e0 hl r CA hns kp
  obtain ⟨t1, hx⟩ := exo_at I.hok ea
  have hsuper : some NameKind.free = some NameKind.free := rfl
  refine PySem.ks_wpAt_execs_cons (PySem.ks_wpAt_Expr_any (PySem.ks_wpAt_MethodCall ?_ (hev _)) (hin _) (hsw _))
  refine PySem.ks_wpAt_super_base hsu (S.frk _ List.mem_cons_self) rfl rfl (kp _ _ (KX _ _ lk)) rfl hpar rfl (kp _ _ (KX _ _ hcode)) rfl hvs hfile Z.top ?_
  obtain ⟨mb, hmb, hbb⟩ := e0.mod.blt
  refine PySem.W.ks_loadName_global S.kind hsu (PySem.Calls.loadGlobal_builtin (I.ok.mod.glob.keeps I.bk) Z.sup (hmb.keeps I.bk) ((hbb "super" (by decide)).trans (by first | rfl | kernel_rfl)) ⟨rfl, ?_⟩)
  refine wpAny_loadName_free S.kind (S.frk _ List.mem_cons_self) rfl ⟨_, I.kIn _ _ hcell, rfl⟩ ?_
  have p0' : ps[0]? = some ar.arg := by rw [← List.head?_eq_getElem?]; exact hps
  have v0' : vs[0]? = some (.ref a) := by rw [← List.head?_eq_getElem?]; exact hva
  obtain ⟨u0, hu0, ru0⟩ := r.get v0'
  obtain rfl : u0 = Value.ref a := ru0
  have ndP : ps.Nodup := by
    have q := S.nd.sublist (List.take_sublist (ps.length + (["__class__"] : List Str).length) N)
    rw [S.pre] at q
    exact (List.nodup_append.mp q).1
  refine wpAny_loadName_local S.kind (S.par _ (List.mem_of_getElem? p0')) hns (zip_look ndP p0' hu0) ?_
  refine PySem.ks_wpAny_isType_cls (I.kIn _ _ hC) rfl ⟨rfl, ?_⟩
  refine PySem.ks_wpAny_call_super (I.kIn _ _ hC) rfl hx rfl (fun c z => by cases z) (PySem.W.looks_mroIn I.kIn Z.self) (fun h' e1 kk => ?_)
  have X' : K.In h' := fun b o e => kk _ _ (I.kIn b o e)
  have IA : PySem.W.InstAt h' a { cls := .ref C, dict := none, data := .fields #[.ref t1, .none, .none, .none, .bool false, .none] } C none := ⟨kk _ _ hx, rfl, rfl, trivial⟩
  have hf := Z.next
  unfold PySem.W.ks_superIn at hf
  rw [hcl] at hf
  refine PySem.W.kxs_getMethod PySem.W.kxs_ValueError e1 (PySem.W.looks_opaque X' Z.any) (fun A Q E s k q => wpAny_bind ((PySem.W.looks_clsIn X' hcl) A _ E s k (wpAny_pure q))) rfl X' hf (IA.type.andThen (PySem.W.looks_subIn X' Z.val)) (PySem.W.ks_ne X' IA hcl) (by decide) ?_
  have I2 := I.kept (h' := h') (t' := s.toks + (ps.zip us).length) kk
  have I3 := ClX.pin_new I2 (o := PySem.W.kxs_mw "ValueError.__init__" a) (t' := s.toks + (ps.zip us).length + 1) (fun _ _ z => Heap.get?_push_of_some _ z) (Nat.le_refl _) (Heap.get?_push_size h' rfl) (fun v z => nomatch z)
  refine PySem.W.kxs_callWith (i := "ValueError.__init__") (x := a) ?_ ?_
  · rw [hst]
    rfl
  have run := hA.run p3 [(h'.objs.size, PySem.W.kxs_mw "ValueError.__init__" a)] _ _ H _ I3 q
  rw [hst] at run ⊢
  refine PySem.Calls.evalArgs_plain (thn run fun us' s1 ⟨vs', H1, I4, r1, hlen, ea1, qt⟩ => ⟨ClX.pin_at I4, ?_⟩)
  refine bound_init Z.T (ClX.unpin I4) ea1 (ClX.pin_at I4) (by show us'.length ≤ _; rw [← r1.length]; exact hlen) fun s2 J => ?_
  refine wpAt_of_wpAny (wpAny_mono (hT.run [] s2 _ H1 _ J qt) (fun fl s' hs => ?_) fun e s' hs => hs)
  cases fl with
  | ret u =>
    obtain ⟨v, σ', H', J', rv, q⟩ := hs
    exact ⟨v, H', J'.os, J'.bare, J'.base, J'.hok, rv, q⟩
  | next =>
    obtain ⟨σ', H', J', q⟩ := hs
    exact ⟨.non, H', J'.os, J'.bare, J'.base, J'.hok, rfl, q⟩
  | brk =>
    obtain ⟨_, _, _, q⟩ := hs
    exact False.elim q
  | cont =>
    obtain ⟨_, _, _, q⟩ := hs
    exact False.elim q
end
end L2.Px

/-! A dict comprehension that is assigned; t > u of data. -/
namespace L2.Px
open PySem PySem.Spec PyProof.Rows
section
variable {X : Cx}
theorem ps_setDc {i : Nat} {y : Str} {py : Pos} {kx vx tg iter : Expr} {ifs : List Expr} {scope : Scope} {own : List (Str × Nat)} {pos spos : Pos} {wi : TI} {g : TG} {tt : TT} {tk tv : TE} (hc : X.calm = true) (hN : X.N.Nodup) (hy : X.N[i]? = some y) (hyl : X.env.scope.names.lookup y = some .local)
    (hsw : swapsWith (.DictComp kx vx [⟨tg, iter, ifs, 0⟩] scope pos) (some (.Name y py)) spos.line X.env = pure true) (hi : PI X tg iter wi) (ok : BlkOk X.N X.env.scope scope own)
    (hg : ∀ (s : Shared) (H : Hp) (C : Addr) (cl : List (Str × Addr)) (fp : List Addr), PG (X.blk s H scope (compEnvC scope cl C X.env) fp) tg g)
    (ht : ∀ (s : Shared) (H : Hp) (C : Addr) (cl : List (Str × Addr)) (fp : List Addr), PTs (X.blk s H scope (compEnvC scope cl C X.env) fp) ifs tt)
    (hk : ∀ (s : Shared) (H : Hp) (C : Addr) (cl : List (Str × Addr)) (fp : List Addr), PE (X.blk s H scope (compEnvC scope cl C X.env) fp) kx tk)
    (he : ∀ (s : Shared) (H : Hp) (C : Addr) (cl : List (Str × Addr)) (fp : List Addr), PE (X.blk s H scope (compEnvC scope cl C X.env) fp) vx tv)
    (hs : ∀ x, foldedSetIterable iter X.env x = pure x := by intro _; rfl) :
    PS X (.Assign [.Name y py] (.DictComp kx vx [⟨tg, iter, ifs, 0⟩] scope pos) spos) (tAsg (tDc wi g tt tk tv (own.map (·.2))) (gName i)) := by
  refine ⟨fun pins s σ H D I wish => ?_⟩
  rw [exec_Assign_Name_used _ _ _ _ hsw]
  have wish : tDc wi g tt tk tv (own.map (·.2)) σ H (fun x H1 => gName i x σ H1 D.nx) := wish
  refine wpAny_bind (wpAny_standAt (wpAny_bind (wpAny_bind (thn (dc_core (Qf := fun _ s' => SP X pins D .next s') hc hN I hi ok hg ht hk he hs wish fun L C s' m H' I' q hn f => ?_) fun _ s' hq => wpAny_pure (wpAny_pure hq)))))
  refine wpAny_assign_Name (store_ok2 (v := V.ref L) I' hN hy (.inl hyl) rfl (fun s2 I2 ⟨a, same, ha⟩ => ?_) (.inr hyl))
  have apart : C ≠ a := ha.elim (fun z => z ▸ f.2.1) fun z e => f.2.2.2.2.1 y a z e.symm
  refine ⟨m, hn.sameBut same apart, fun h3 same3 => ?_⟩
  exact ⟨_, H', I2.turned (t' := s2.toks) (fun b o hb e => (same3.2 b hb).trans e) f.1 f.2.1 f.2.2.2.1 f.2.2.2.2.1 f.2.2.2.2.2, q⟩
/-- t > u, data that are alike -/
def rGtD (K : PySem.W.Frag) : R2 := fun x y H Q => ∃ d e, Dp K H x d ∧ Dp K H y e ∧ PySem.W.alike d e = true ∧ d ≠ .none ∧ d.depth ≤ 60 ∧ Q (.bl (PySem.W.dataLt e d)) H
theorem op_gtD (hu : X.A.units + 64 < cLine) : OpR X (compareOp .Gt) (rGtD X.K) := by
  intro pins s σ H x y v u Q I rx ry h
  obtain ⟨d, e, hd, he, al, nn, dp, q⟩ := h
  obtain ⟨as, r1⟩ := Dp.reads I d x v hd rx
  obtain ⟨bs, r2⟩ := Dp.reads I e y u he ry
  exact PySem.W.gt_data r1 r2 al nn (by have := Nat.min_le_left d.depth e.depth; omega) ⟨.bl _, H, I, rfl, q⟩
end
end L2.Px

namespace L2.Px
open PySem PySem.Spec PyProof.Rows
/-! PxStr: texts: names for the rules of the hand layer; splitting at a space; numbers below 100 -/
abbrev rSplit : V → List V → Hp → VK → Prop := fun x xs H Q => ∃ a b, x = .str a ∧ xs = [.str b] ∧ (b.length == 0) = false ∧ a.length + 2 ≤ sizeLine ∧ rNewStrs (Txt.split a b) H Q
abbrev rJoin (K : PySem.W.Frag) : V → List V → Hp → VK → Prop := fun x xs H Q => ∃ a p, ∃ ys : List Str, x = .str a ∧ xs = [.ref p] ∧ (SqL K H p (ys.map V.str) ∨ SqT K H p (ys.map V.str)) ∧ (ys.map (·.length)).sum + ys.length * a.length ≤ 16777216 ∧ Q (.str (Txt.join a ys)) H
abbrev rInSg : V → V → Hp → VK → Prop := fun x y H Q => ∃ (c : Nat) (z : Str), x = .str ⟨#[c]⟩ ∧ y = .str z ∧ Q (.bl (decide (c ∈ z.cps.toList))) H
abbrev rInSgN : V → V → Hp → VK → Prop := fun x y H Q => ∃ (c : Nat) (z : Str), x = .str ⟨#[c]⟩ ∧ y = .str z ∧ Q (.bl (!decide (c ∈ z.cps.toList))) H
abbrev rLeS : V → V → Hp → VK → Prop := fun x y H Q => ∃ i j, x = .str i ∧ y = .str j ∧ Q (.bl (!decide (j.cps.toList < i.cps.toList))) H
abbrev rIntS : List V → Hp → VK → Prop := fun xs H Q => ∃ a n, xs = [.str a] ∧ PySem.intText? a = some n ∧ a.length ≤ 640 ∧ Q (.int n) H
abbrev rStrI : List V → Hp → VK → Prop := fun xs H Q => ∃ i : Int, xs = [.int i] ∧ i.natAbs.log2 < 1920 ∧ Q (.str (toString i)) H
abbrev rOrd : List V → Hp → VK → Prop := fun xs H Q => ∃ x, xs = [.str x] ∧ x.length = 1 ∧ Q (.int (x.cps.getD 0 0 : Nat)) H
theorem lt_one (c d : Nat) : decide ([c] < [d]) = decide (c < d) := by
  refine decide_eq_decide.mpr ⟨fun h => ?_, fun h => List.Lex.rel h⟩
  cases h with
  | rel h => exact h
  | cons h => cases h
theorem pre1 (s c : Nat) (r : List Nat) : TL.pre [s] (c :: r) = (c == s) := by
  show ([c] == [s]) = (c == s)
  by_cases e : c = s
  · subst e
    rw [beq_self_eq_true, beq_self_eq_true]
  · rw [beq_eq_false_iff_ne.mpr e, beq_eq_false_iff_ne.mpr fun z => e (List.cons.inj z).1]
theorem spl1 (s : Nat) (acc : List Nat) (c : Nat) (r : List Nat) : TL.spl [s] 0 acc (c :: r) = if c = s then acc :: TL.spl [s] 0 [] r else TL.spl [s] 0 (acc ++ [c]) r := by
  by_cases e : c = s
  · rw [if_pos e, TL.spl_hit (by rw [pre1, e, beq_self_eq_true])]
    rfl
  · rw [if_neg e, TL.spl_miss (by rw [pre1]; exact beq_eq_false_iff_ne.mpr e)]
/-- what all words say, all signs of the line say -/
theorem spl_all (s : Nat) (g : Nat → Bool) : ∀ (l acc : List Nat), (TL.spl [s] 0 acc l).all (·.all g) = (acc.all g && l.all fun c => c == s || g c)
  | [], acc => by
    rw [TL.spl_nil]
    simp
  | c :: r, acc => by
    rw [spl1]
    by_cases e : c = s
    · rw [if_pos e, List.all_cons, spl_all s g r [], List.all_cons, e, beq_self_eq_true]
      simp
    · rw [if_neg e, spl_all s g r, List.all_append, List.all_cons, List.all_cons, beq_eq_false_iff_ne.mpr e]
      simp [Bool.and_assoc]
theorem spl_free (s : Nat) : ∀ (l acc : List Nat), s ∉ acc → ∀ p ∈ TL.spl [s] 0 acc l, s ∉ p
  | [], acc, h, p, hp => by
    rw [TL.spl_nil] at hp
    rw [List.mem_singleton.mp hp]
    exact h
  | c :: r, acc, h, p, hp => by
    rw [spl1] at hp
    by_cases e : c = s
    · rw [if_pos e] at hp
      rcases List.mem_cons.mp hp with q | q
      · rw [q]; exact h
      · exact spl_free s r [] (fun z => by cases z) p q
    · rw [if_neg e] at hp
      refine spl_free s r _ (fun z => ?_) p hp
      rcases List.mem_append.mp z with q | q
      · exact h q
      · exact e (List.mem_singleton.mp q).symm
theorem spl_size (s : Nat) : ∀ (l acc : List Nat), ((TL.spl [s] 0 acc l).map List.length).sum ≤ acc.length + l.length ∧ (TL.spl [s] 0 acc l).length ≤ l.length + 1
  | [], acc => by
    rw [TL.spl_nil]
    simp
  | c :: r, acc => by
    rw [spl1]
    by_cases e : c = s
    · rw [if_pos e, List.map_cons, List.sum_cons, List.length_cons, List.length_cons]
      have := spl_size s r []
      rw [List.length_nil] at this
      omega
    · rw [if_neg e]
      have := spl_size s r (acc ++ [c])
      rw [List.length_append, List.length_singleton] at this
      rw [List.length_cons]
      omega
theorem split_tl (x : Str) : (Txt.split x " ").map TL.tl = TL.spl [32] 0 [] (TL.tl x) :=
  TL.split_spl x " " (by decide +kernel) (TL.kind_ok (by decide +kernel))
theorem split_size (x : Str) : ((Txt.split x " ").map (·.length)).sum ≤ x.length ∧ (Txt.split x " ").length ≤ x.length + 1 := by
  have h := spl_size 32 (TL.tl x) []
  rw [← split_tl, List.map_map, List.length_map, List.length_nil, ← TL.len_tl, Nat.zero_add] at h
  refine ⟨?_, h.2⟩
  have e : (Txt.split x " ").map (·.length) = (Txt.split x " ").map (List.length ∘ TL.tl) := List.map_congr_left fun y _ => TL.len_tl y
  rw [e]
  exact h.1
theorem split_all (g : Nat → Bool) (x : Str) : ((Txt.split x " ").all fun y => (TL.tl y).all g) = (TL.tl x).all fun c => c == 32 || g c := by
  have h := spl_all 32 g (TL.tl x) []
  rw [← split_tl, List.all_map, List.all_nil, Bool.true_and] at h
  exact h
theorem sum_mem : ∀ {l : List Nat} {x : Nat}, x ∈ l → x ≤ l.sum
  | y :: l, x, h => by
    rw [List.sum_cons]
    rcases List.mem_cons.mp h with h | h
    · omega
    · have := sum_mem h
      omega
theorem sum_filter (p : Str → Bool) : ∀ l : List Str, ((l.filter p).map (·.length)).sum ≤ (l.map (·.length)).sum
  | [] => Nat.le_refl _
  | y :: l => by
    rw [List.filter_cons]
    have := sum_filter p l
    split
    · simp only [List.map_cons, List.sum_cons]
      omega
    · simp only [List.map_cons, List.sum_cons]
      omega
theorem split_len {x y : Str} (h : y ∈ Txt.split x " ") : y.length ≤ x.length := Nat.le_trans (sum_mem (List.mem_map.mpr ⟨y, h, rfl⟩)) (split_size x).1
theorem join_len (a : Str) (ys : List Str) : (Txt.join a ys).length ≤ (ys.map (·.length)).sum + ys.length * a.length := by
  rw [TL.join_eq]
  exact StrLaws.join_length_le a ys
/-! ### numbers below 100 -/
def numS (n : Nat) : Str := Str.ofString (toString ((n : Nat) : Int))
def isNum (l : List Nat) : Bool := (decide (1 ≤ l.length) && decide (l.length ≤ 2) && l.all fun c => decide (48 ≤ c) && decide (c ≤ 57)) && !(decide (l.length = 2) && decide (l.getD 0 0 = 48))
theorem num_tab : ∀ n < 100, TL.tl (numS n) = if n < 10 then [48 + n] else [48 + n / 10, 48 + n % 10] := by decide +kernel
theorem isNum_iff (x : Str) : isNum (TL.tl x) = true ↔ ∃ n < 100, x = numS n := by
  constructor
  · intro h
    have inj : ∀ n < 100, TL.tl x = TL.tl (numS n) → ∃ n < 100, x = numS n := fun n hn e => ⟨n, hn, TL.ext_tl e⟩
    generalize TL.tl x = l at h inj
    unfold isNum at h
    simp only [Bool.and_eq_true, decide_eq_true_eq, Bool.not_eq_true', Bool.and_eq_false_iff, decide_eq_false_iff_not, List.all_eq_true] at h
    obtain ⟨⟨⟨h1, h2⟩, h3⟩, h4⟩ := h
    match l, h1, h2, h3, h4 with
    | [c], _, _, h3, _ =>
      have hc := h3 c List.mem_cons_self
      refine inj (c - 48) (by omega) ?_
      rw [num_tab _ (by omega), if_pos (by omega)]
      congr 1
      omega
    | [c, d], _, _, h3, h4 =>
      have hc := h3 c List.mem_cons_self
      have hd := h3 d (List.mem_cons_of_mem _ List.mem_cons_self)
      have hz : ¬ c = 48 := by
        rcases h4 with h4 | h4
        · exact absurd rfl h4
        · exact h4
      refine inj (10 * (c - 48) + (d - 48)) (by omega) ?_
      rw [num_tab _ (by omega), if_neg (by omega)]
      congr 1
      · omega
      · congr 1
        omega
    | [], h1, _, _, _ => exact absurd h1 (by decide)
    | _ :: _ :: _ :: _, _, h2, _, _ => simp at h2
  · rintro ⟨n, hn, rfl⟩
    revert n
    decide +kernel
theorem num_val : ∀ n < 100, PySem.intText? (numS n) = some (n : Int) := fun n hn => TL.int_num (by have := TL.numL_len (n := n) (k := 2) (by decide) (by omega); omega)
theorem num_str (n : Nat) (s : Str) : decide (V.str (numS n) = V.str s) = decide (s = numS n) := by
  by_cases e : s = numS n
  · subst e; simp
  · rw [decide_eq_false e, decide_eq_false]
    intro z
    injection z with z
    exact e z.symm
end L2.Px

namespace L2.Px
open PySem PySem.Spec PyProof.Rows
def top (i : Nat) : Stmt := PySem.Challenge.pw_wedgespace_k89_words_of_lines.main.body.getD i (.Pass ⟨0, 0, 0, 0⟩)
abbrev s_words_of : Stmt := top 5
abbrev s_is_plain : Stmt := top 6
abbrev s_is_name : Stmt := top 7
abbrev s_number_in : Stmt := top 8
abbrev s__law_cell : Stmt := top 10
abbrev s__law_values : Stmt := top 11
abbrev s__law_signs : Stmt := top 12
abbrev s__law_words : Stmt := top 13
abbrev s__law_is_name : Stmt := top 14
abbrev s__law_number : Stmt := top 15
abbrev s_law : Stmt := top 16
/-- the built-in names that the text leaves alone -/
structure Nm (mg : Str → Option Value) : Prop where
  n_all : mg "all" = none
  n_ord : mg "ord" = none
  n_len : mg "len" = none
  n_int : mg "int" = none
  n_range : mg "range" = none
  n_str : mg "str" = none
  n_repr : mg "repr" = none
abbrev n_words_of : List Str := ["line", "words"]
theorem sc_words_of : FnScope n_words_of ["line"] (defScope s_words_of) := ⟨rfl, rfl, rfl, by decide +kernel, rfl, by decide +kernel, by decide +kernel⟩
abbrev n_is_plain : List Str := ["line", "character"]
theorem sc_is_plain : FnScope n_is_plain ["line"] (defScope s_is_plain) := ⟨rfl, rfl, rfl, by decide +kernel, rfl, by decide +kernel, by decide +kernel⟩
abbrev n_is_name : List Str := ["word", "letter"]
theorem sc_is_name : FnScope n_is_name ["word"] (defScope s_is_name) := ⟨rfl, rfl, rfl, by decide +kernel, rfl, by decide +kernel, by decide +kernel⟩
abbrev n_number_in : List Str := ["word", "digit"]
theorem sc_number_in : FnScope n_number_in ["word"] (defScope s_number_in) := ⟨rfl, rfl, rfl, by decide +kernel, rfl, by decide +kernel, by decide +kernel⟩
abbrev n__law_cell : List Str := ["script", "k"]
theorem sc__law_cell : FnScope n__law_cell ["script", "k"] (defScope s__law_cell) := ⟨rfl, rfl, rfl, by decide +kernel, rfl, by decide +kernel, by decide +kernel⟩
abbrev n__law_values : List Str := ["cell", "count", "size", "values", "rest", "k", "mixed"]
theorem sc__law_values : FnScope n__law_values ["cell", "count", "size"] (defScope s__law_values) := ⟨rfl, rfl, rfl, by decide +kernel, rfl, by decide +kernel, by decide +kernel⟩
abbrev n__law_signs : List Str := ["signs"]
theorem sc__law_signs : FnScope n__law_signs [] (defScope s__law_signs) := ⟨rfl, rfl, rfl, by decide +kernel, rfl, by decide +kernel, by decide +kernel⟩
abbrev n__law_words : List Str := ["line", "words", "word", "char"]
theorem sc__law_words : FnScope n__law_words ["line"] (defScope s__law_words) := ⟨rfl, rfl, rfl, by decide +kernel, rfl, by decide +kernel, by decide +kernel⟩
abbrev n__law_is_name : List Str := ["word", "char"]
theorem sc__law_is_name : FnScope n__law_is_name ["word"] (defScope s__law_is_name) := ⟨rfl, rfl, rfl, by decide +kernel, rfl, by decide +kernel, by decide +kernel⟩
abbrev n__law_number : List Str := ["word", "number"]
theorem sc__law_number : FnScope n__law_number ["word"] (defScope s__law_number) := ⟨rfl, rfl, rfl, by decide +kernel, rfl, by decide +kernel, by decide +kernel⟩
abbrev n_law : List Str := ["script", "chars", "values", "line", "word", "long", "figures", "digits", "words", "value"]
theorem sc_law : FnScope n_law ["script"] (defScope s_law) := ⟨rfl, rfl, rfl, by decide +kernel, rfl, by decide +kernel, by decide +kernel⟩
end L2.Px

namespace L2.Px
open PySem PySem.Spec PyProof.Rows
/-! ### what is true of data of ints -/
/-! ### the mirror -/
/-- is a list of ints a permutation of 0, 1, 2, 3 -/
def isP (ns : List Int) : Bool := ns.isPerm [0, 1, 2, 3]
theorem isP_sorted {ns ms : List Int} (hp : ms.Perm ns) (hs : ms.Pairwise (· ≤ ·)) : decide (ms = [0, 1, 2, 3]) = isP ns := by
  unfold isP
  cases e : ns.isPerm [0, 1, 2, 3] with
  | true => exact decide_eq_true (PySem.W.ksm_same (hp.trans (List.isPerm_iff.mp e)) hs (by decide))
  | false =>
    refine decide_eq_false fun z => ?_
    subst z
    have := List.isPerm_iff.mpr hp.symm
    rw [e] at this
    cases this
section
variable {P : Program} {w : World} {K : PySem.W.Frag} {mg : Str → Option Value} {base : Heap}
/-- an argument that is a tuple of ints -/
def spIsPerm (K : PySem.W.Frag) : Sp := fun vs H Q _ => ∃ (a : Addr) (ns : List Int), vs = [.ref a] ∧ SqT K H a (iV ns) ∧ ∀ H', Same H H' → Q (.bl (isP ns)) H'
/-- the built-in names that the text leaves alone -/
structure NmJ (mg : Str → Option Value) : Prop where
  srt : mg "sorted" = none
  rng : mg "range" = none
  ln : mg "len" = none
  enm : mg "enumerate" = none
  tpl : mg "tuple" = none

/-! ### product_of -/
def prodL (one other : List Int) : List Int := one.map fun i => other.getD i.toNat 0
def spProd (K : PySem.W.Frag) : Sp := fun vs H Q _ => ∃ (a b : Addr) (ns ms : List Int), vs = [.ref a, .ref b] ∧ SqT K H a (iV ns) ∧ SqT K H b (iV ms) ∧ ns.length ≤ 1000 ∧ (∀ n ∈ ns, 0 ≤ n ∧ n < (ms.length : Int)) ∧
  ∀ H' p, Same H H' → H' p = some (.tup (iV (prodL ns ms))) → Q (.ref p) H'
/-! ### taking -/
def takeL (ns ms : List Int) : Nat → List Int
  | 0 => [0, 0, 0, 0]
  | i + 1 => (takeL ns ms i).set (ns.getD i 0).toNat (ms.getD i 0)
theorem takeL_len (ns ms : List Int) : ∀ i, (takeL ns ms i).length = 4
  | 0 => rfl
  | i + 1 => (List.length_set ..).trans (takeL_len ns ms i)
def spTaking (K : PySem.W.Frag) : Sp := fun vs H Q _ => ∃ (a b : Addr) (ns ms : List Int), vs = [.ref a, .ref b] ∧ SqT K H a (iV ns) ∧ SqT K H b (iV ms) ∧ ns.length ≤ ms.length ∧ (∀ n ∈ ns, 0 ≤ n ∧ n < 4) ∧
  ∀ H' p, Same H H' → H' p = some (.tup (iV (takeL ns ms ns.length))) → Q (.ref p) H'
end
end L2.Px

namespace L2.Px
open PySem PySem.Spec PyProof.Rows
section
variable {P : Program} {w : World} {K : PySem.W.Frag} {mg : Str → Option Value} {base : Heap}
/-! ### has_odd_sign -/
/-- how many k below i have a greater entry than j has -/
def cIn (ns : List Int) (j : Nat) : Nat → Nat
  | 0 => 0
  | i + 1 => cIn ns j i + (if ns.getD j 0 < ns.getD i 0 then 1 else 0)
def cOut (ns : List Int) : Nat → Nat
  | 0 => 0
  | j + 1 => cOut ns j + cIn ns j j
theorem cIn_le (ns : List Int) (j : Nat) : ∀ i, cIn ns j i ≤ i
  | 0 => Nat.le_refl _
  | i + 1 => by
    have := cIn_le ns j i
    unfold cIn
    split <;> omega
theorem cOut_le (ns : List Int) : ∀ j, j ≤ 4 → cOut ns j ≤ 4 * j
  | 0, _ => Nat.le_refl _
  | j + 1, h => by
    have h1 := cOut_le ns j (by omega)
    have h2 := cIn_le ns j j
    unfold cOut
    omega
def oddL (ns : List Int) : Bool := decide (((cOut ns 4 : Nat) : Int) % 2 = 1)
def spOdd (K : PySem.W.Frag) : Sp := fun vs H Q _ => ∃ (a : Addr) (ns : List Int), vs = [.ref a] ∧ SqT K H a (iV ns) ∧ ns.length = 4 ∧ ∀ H', Same H H' → Q (.bl (oddL ns)) H'
abbrev rGt : R2 := rI0 fun i j => .bl (decide (j < i))
end
end L2.Px

namespace L2.Px
open PySem PySem.Spec PyProof.Rows
/-- the class BadNumber, at C -/
structure Bad (K : PySem.W.Frag) (mg : Str → Option Value) (C : Addr) : Prop where
  g : mg "BadNumber" = some (.ref C)
  k : PySem.W.keepIn K (.ref C) = true
  x : PySem.W.excIn K C [.type "ValueError", .type "Exception", .type "BaseException", .type "object"] "ValueError.__new__" = true
  b : PySem.W.subIn K (.ref C) (.type "BaseException") = some true
  t : PySem.W.typeIn K (.ref C) = some (.type "type")
/-- the constant IDENTITY, at a -/
structure Idn (K : PySem.W.Frag) (mg : Str → Option Value) (a : Addr) : Prop where
  g : mg "IDENTITY" = some (.ref a)
  t : ∀ H, SqT K H a (iV [0, 1, 2, 3])
/-- the inverse, as `taking` makes it -/
def invL (ns : List Int) : List Int := takeL ns [0, 1, 2, 3] ns.length
theorem isP_len {ns : List Int} (h : isP ns = true) : ns.length = 4 := (List.isPerm_iff.mp h).length_eq
theorem isP_bd {ns : List Int} (h : isP ns = true) : ∀ n ∈ ns, 0 ≤ n ∧ n < 4 := fun n hn => by
  have := (List.isPerm_iff.mp h).mem_iff.mp hn
  simp at this
  omega
section
variable {P : Program} {w : World} {K : PySem.W.Frag} {mg : Str → Option Value} {base : Heap}
/-! ### inverse_of -/
def spInvOf (K : PySem.W.Frag) : Sp := fun vs H Q _ => ∃ (a : Addr) (ns : List Int), vs = [.ref a] ∧ SqT K H a (iV ns) ∧ isP ns = true ∧ ∀ H' p, Same H H' → H' p = some (.tup (iV (invL ns))) → Q (.ref p) H'
/-! ### check_permutation -/
def spCheck (K : PySem.W.Frag) (C : Addr) : Sp := fun vs H Q E => ∃ (a : Addr) (ns : List Int), vs = [.ref a] ∧ SqT K H a (iV ns) ∧ (isP ns = true → ∀ H', Same H H' → Q .non H') ∧ (isP ns = false → ∀ H', Same H H' → E (.ref C) none H')
/-! ### after, inverse, is_odd -/
def spAfter (K : PySem.W.Frag) (C : Addr) : Sp := fun vs H Q E => ∃ (a b : Addr) (ns ms : List Int), vs = [.ref a, .ref b] ∧ SqT K H a (iV ns) ∧ SqT K H b (iV ms) ∧
  (isP ns = true → isP ms = true → ∀ H' p, Same H H' → H' p = some (.tup (iV (prodL ns ms))) → Q (.ref p) H') ∧ (¬ (isP ns = true ∧ isP ms = true) → ∀ H', Same H H' → E (.ref C) none H')
def spInverse (K : PySem.W.Frag) (C : Addr) : Sp := fun vs H Q E => ∃ (a : Addr) (ns : List Int), vs = [.ref a] ∧ SqT K H a (iV ns) ∧
  (isP ns = true → ∀ H' p, Same H H' → H' p = some (.tup (iV (invL ns))) → Q (.ref p) H') ∧ (isP ns = false → ∀ H', Same H H' → E (.ref C) none H')
def spIsOdd (K : PySem.W.Frag) (C : Addr) : Sp := fun vs H Q E => ∃ (a : Addr) (ns : List Int), vs = [.ref a] ∧ SqT K H a (iV ns) ∧
  (isP ns = true → ∀ H', Same H H' → Q (.bl (oddL ns)) H') ∧ (isP ns = false → ∀ H', Same H H' → E (.ref C) none H')
end
end L2.Px

namespace L2.Px
open PySem PySem.Spec PyProof.Rows
/-! ### all_permutations -/
def t3 (a b : Nat) : Nat → List (List Int)
  | 0 => []
  | c + 1 => t3 a b c ++ [[0 + (a : Int), 0 + (b : Int), 0 + (c : Int), 6 - (0 + (a : Int)) - (0 + (b : Int)) - (0 + (c : Int))]]
def t2 (a : Nat) : Nat → List (List Int)
  | 0 => []
  | b + 1 => t2 a b ++ t3 a b 4
def t1 : Nat → List (List Int)
  | 0 => []
  | a + 1 => t1 a ++ t2 a 4
def allP : List (List Int) := (t1 4).filter isP
theorem t3_len (a b : Nat) : ∀ c, (t3 a b c).length = c
  | 0 => rfl
  | c + 1 => by
    show (t3 a b c ++ [_]).length = c + 1
    rw [List.length_append, t3_len a b c]
    rfl
theorem t2_len (a : Nat) : ∀ b, (t2 a b).length = 4 * b
  | 0 => rfl
  | b + 1 => by
    show (t2 a b ++ t3 a b 4).length = 4 * (b + 1)
    rw [List.length_append, t2_len a b, t3_len]
    omega
theorem t1_len : ∀ a, (t1 a).length = 16 * a
  | 0 => rfl
  | a + 1 => by
    show (t1 a ++ t2 a 4).length = 16 * (a + 1)
    rw [List.length_append, t1_len a, t2_len]
    omega
/-- tuples of ints at the addresses ts -/
abbrev TupsAt (H : Hp) (ts : List Addr) (nss : List (List Int)) : Prop := Paired (fun (t : Addr) (ns : List Int) => H t = some (.tup (iV ns))) ts nss
theorem TupsAt.mono {H H' : Hp} {ts : List Addr} {nss : List (List Int)} (h : TupsAt H ts nss) (k : ∀ t xs, H t = some (.tup xs) → H' t = some (.tup xs)) : TupsAt H' ts nss := Paired.mapP h fun _ _ e => k _ _ e
theorem upd_tup {H : Hp} {D : Addr} {l : List V} {o : HO} (hd : H D = some (.lst l)) {t : Addr} {xs : List V} (h : H t = some (.tup xs)) : upd H D o t = some (.tup xs) := by
  rw [upd_ne (fun z => by rw [z, hd] at h; cases h)]
  exact h
/-- a list of tuples of ints at D -/
structure LT (H : Hp) (D : Addr) (nss : List (List Int)) : Prop where
  ex : ∃ ts : List Addr, H D = some (.lst (ts.map V.ref)) ∧ TupsAt H ts nss
theorem LT.push {H : Hp} {D T : Addr} {nss : List (List Int)} {ns : List Int} (h : LT H D nss) (hT : H T = some (.tup (iV ns))) : ∃ l, H D = some (.lst l) ∧ l.length = nss.length ∧ LT (upd H D (.lst (l ++ [V.ref T]))) D (nss ++ [ns]) := by
  obtain ⟨ts, hd, hp⟩ := h.ex
  refine ⟨_, hd, by rw [List.length_map, Paired.length hp], ⟨ts ++ [T], ?_, ?_⟩⟩
  · rw [upd_same, List.map_append]
    rfl
  · exact paired_snoc (R := fun (t : Addr) (ns : List Int) => upd H D _ t = some (.tup (iV ns))) (upd_tup hd hT) (TupsAt.mono hp fun _ _ e => upd_tup hd e)
theorem LT.mono {H H' : Hp} {D : Addr} {nss : List (List Int)} (h : LT H D nss) (k : Same H H') : LT H' D nss := by
  obtain ⟨ts, hd, hp⟩ := h.ex
  exact ⟨ts, k _ _ hd, TupsAt.mono hp fun _ _ e => k _ _ e⟩
section
variable {P : Program} {w : World} {K : PySem.W.Frag} {mg : Str → Option Value} {base : Heap}
def spAll : Sp := fun vs H Q _ => vs = [] ∧ ∀ H' p, Same H H' → LT H' p allP → Q (.ref p) H'
abbrev rSub : R2 := rI0 fun i j => .int (i - j)
abbrev wR4 : TI := iRng1 (tCons (tC (.int 4)) tNil)
end
end L2.Px

namespace L2.Px
open PySem PySem.Spec PyProof.Rows
/-! ### data: a list of tuples of ints -/
abbrev tD (nss : List (List Int)) : List PyData := nss.map fun ns => .tuple (iD ns)
theorem dp_tups {K : PySem.W.Frag} {H : Hp} : ∀ {ts : List Addr} {nss : List (List Int)}, TupsAt H ts nss → DpAll K H (ts.map V.ref) (tD nss)
  | _, _, .nil => .nil
  | _, _, .cons h t => .cons (.tup (.of h) (dp_ints _)) (dp_tups t)
theorem LT.dp {K : PySem.W.Frag} {H : Hp} {D : Addr} {nss : List (List Int)} (h : LT H D nss) : Dp K H (.ref D) (.list (tD nss)) := by
  obtain ⟨ts, hd, hp⟩ := h.ex
  exact .lst (.of hd) (dp_tups hp)
theorem lay_tups : ∀ nss : List (List Int), PyData.canLayAll0 (tD nss) = true
  | [] => rfl
  | n :: r => by
    show (PyData.canLayAll0 (iD n) && PyData.canLayAll0 (tD r)) = true
    rw [lay_tups r, lay_ints]
    rfl
theorem dep_tups : ∀ nss : List (List Int), PyData.depthAll (tD nss) ≤ 1
  | [] => Nat.zero_le _
  | n :: r => by
    show max (PyData.depthAll (iD n) + 1) (PyData.depthAll (tD r)) ≤ 1
    rw [dep_ints]
    have := dep_tups r
    omega
theorem shaped_lt (nss : List (List Int)) : SeqAt.shaped (.list (tD nss)) = true := by
  show (PyData.canLayAll0 (tD nss) && decide (PyData.depthAll (tD nss) + 1 ≤ 64)) = true
  rw [lay_tups, decide_eq_true (by have := dep_tups nss; omega)]
  rfl
/-! ### every permutation is among them -/
theorem perm_in {ns : List Int} (h : isP ns = true) : ns ∈ allP := by
  have l := isP_len h
  have b := isP_bd h
  match ns, l with
  | [x, y, z, u], _ =>
    have m : ∀ n ∈ [x, y, z, u], n ∈ [(0 : Int), 1, 2, 3] := fun n hn => by
      have := b n hn
      simp
      omega
    have all : ∀ x ∈ [(0 : Int), 1, 2, 3], ∀ y ∈ [(0 : Int), 1, 2, 3], ∀ z ∈ [(0 : Int), 1, 2, 3], ∀ u ∈ [(0 : Int), 1, 2, 3], isP [x, y, z, u] = true → [x, y, z, u] ∈ allP := by decide +kernel
    exact all x (m x (by simp)) y (m y (by simp)) z (m z (by simp)) u (m u (by simp)) h
theorem in_perm {ns : List Int} (h : ns ∈ allP) : isP ns = true := (List.mem_filter.mp h).2
def idxL (ns : List Int) : Nat := allP.idxOf ns
theorem idx_all : ∀ ns ∈ allP, allP[idxL ns]? = some ns ∧ ∀ m < idxL ns, allP[m]? ≠ some ns := by decide +kernel
section
variable {P : Program} {w : World} {K : PySem.W.Frag} {mg : Str → Option Value} {base : Heap}
/-! ### index_of -/
def spIdx (K : PySem.W.Frag) (C : Addr) : Sp := fun vs H Q E => ∃ (a : Addr) (ns : List Int), vs = [.ref a] ∧ SqT K H a (iV ns) ∧
  (isP ns = true → ∀ H', Same H H' → Q (.int (idxL ns : Nat)) H') ∧ (isP ns = false → ∀ H', Same H H' → E (.ref C) none H')
theorem index_ok {K : PySem.W.Frag} {H : Hp} {D a : Addr} {ns : List Int} {Q : VK} (hD : LT H D allP) (ha : SqT K H a (iV ns)) (hp : isP ns = true) (q : Q (.int (idxL ns : Nat)) H) : rIndexD K (.ref D) [.ref a] H Q := by
  obtain ⟨i1, i2⟩ := idx_all ns (perm_in hp)
  refine ⟨D, .ref a, .tuple (iD ns), tD allP, idxL ns, .tuple (iD ns), rfl, rfl, hD.dp, dp_ti ha, shaped_lt _, shaped_ti _, ?_, ?_, fun m z hm hz => ?_, q⟩
  · rw [List.getElem?_map, i1]
    rfl
  · rw [eqv_tup]
    exact decide_eq_true rfl
  · rw [List.getElem?_map] at hz
    cases e : allP[m]? with
    | none => rw [e] at hz; cases hz
    | some ms =>
      rw [e] at hz
      cases hz
      show PyData.eqv (.tuple (iD ms)) (.tuple (iD ns)) = false
      rw [eqv_tup]
      exact decide_eq_false fun z => i2 m hm (by rw [e, z])
end
end L2.Px

namespace L2.Px
open PySem PySem.Spec PyProof.Rows
abbrev sCell : Stmt := top 10
abbrev sLaw : Stmt := top 16
section
variable {P : Program} {w : World} {K : PySem.W.Frag} {mg : Str → Option Value} {base : Heap}
/-! ### _law_cell -/
def spCell (K : PySem.W.Frag) : Sp := fun vs H Q _ => ∃ (a : Addr) (ns : List Int) (k : Nat), vs = [.ref a, .int (k : Int)] ∧ SqL K H a (iV ns) ∧ Q (.int (ns.getD k 0)) H
theorem scCell : FnScope ["script", "k"] ["script", "k"] (defScope sCell) := ⟨rfl, rfl, rfl, by decide +kernel, rfl, by decide +kernel, by decide +kernel⟩
theorem ok_cell {f : Addr} {fd : FuncData} (F : Fun K "_law_cell" "_law_cell" sCell f fd) (N : NmJ mg) : FnOk P w K mg base CX0 1 f fd ["script", "k"] (spCell K) := by
  refine F.ok scCell (fun vs H Q E h => ?_) (fun cdv A outer s H vs Q E hr h => ?_)
  · obtain ⟨a, ns, k, rfl, _⟩ := h
    rfl
  · obtain ⟨a, ns, k, rfl, hS, q⟩ := h
    refine ⟨_, pss_cons (ps_if (pt_cmpR op_lt (pv 1) (pe_callB call_len_seq (by rfl) N.ln PySem.boot_len (pa_cons (pv 0) pa_nil)) (nomark _)) (pss_one (ps_ret (pe_ix ix_list (pv 0) (pv 1) (fun _ _ => rfl)))) pss_nil)
      (pss_one (ps_ret pe_int)), ?_⟩
    refine ⟨_, rfl, .ref a, rfl, a, _, rfl, .inl hS, _, _, rfl, rfl, _, rfl, ?_⟩
    rw [List.length_map]
    refine ite2 (fun c => ?_) (fun c => ?_)
    · have c : (k : Int) < (ns.length : Int) := of_decide_eq_true c
      refine ⟨.ref a, rfl, _, rfl, a, _, (k : Int), _, rfl, rfl, hS, getD_at (by omega) c, ?_⟩
      rw [Int.toNat_natCast]
      exact q
    · have c : ¬ (k : Int) < (ns.length : Int) := fun z => c (decide_eq_true z)
      have e : ns.getD k 0 = 0 := by
        rw [List.getD_eq_getElem?_getD, List.getElem?_eq_none (by omega)]
        rfl
      rw [e] at q
      exact q

/-! ### _law_permutation -/
/-- behind k turns: what is left of the value, the entries, the corners left -/
def pst (v : Int) : Nat → Int × List Int × List Int
  | 0 => (v, [], [0, 1, 2, 3])
  | k + 1 =>
    let s := pst v k
    let i := (s.1 % (s.2.2.length : Int)).toNat
    (s.1 / (s.2.2.length : Int), s.2.1 ++ [s.2.2.getD i 0], s.2.2.take i ++ s.2.2.drop (i + 1))
def lawP (v : Int) : List Int := (pst v 4).2.1
theorem pst_left (v : Int) : ∀ k, k ≤ 4 → (pst v k).2.2.length = 4 - k
  | 0, _ => rfl
  | k + 1, h => by
    have ih := pst_left v k (by omega)
    show (List.take _ (pst v k).2.2 ++ List.drop _ (pst v k).2.2).length = 4 - (k + 1)
    have h1 : (pst v k).1 % ((pst v k).2.2.length : Int) < ((pst v k).2.2.length : Int) := Int.emod_lt_of_pos _ (by omega)
    have h0 : 0 ≤ (pst v k).1 % ((pst v k).2.2.length : Int) := Int.emod_nonneg _ (by omega)
    rw [List.length_append, List.length_take, List.length_drop]
    omega
theorem pst_made (v : Int) : ∀ k, (pst v k).2.1.length = k
  | 0 => rfl
  | k + 1 => by
    show ((pst v k).2.1 ++ [_]).length = k + 1
    rw [List.length_append, pst_made v k]
    rfl
def spPerm : Sp := fun vs H Q _ => ∃ (v : Int), vs = [.int v] ∧ ∀ H' p o, Same H H' → H' p = some (.frz o (.tup (iV (lawP v)))) → o.dict = none → Q (.ref p) H'
end
end L2.Px

namespace L2.Px
open PySem PySem.Spec PyProof.Rows
section
variable {P : Program} {w : World} {K : PySem.W.Frag} {mg : Str → Option Value} {base : Heap}
/-! ### _law_after -/
/-! ### _law_turned -/
def turnedL (ns : List Int) (k : Nat) : List Int := (List.range k).map fun (i : Nat) => ((ns.idxOf (0 + (i : Int)) : Nat) : Int)
def spTurned (K : PySem.W.Frag) : Sp := fun vs H Q _ => ∃ (a : Addr) (ns : List Int), ∃ o, vs = [.ref a] ∧ H a = some (.frz o (.tup (iV ns))) ∧ o.dict = none ∧ isP ns = true ∧ ∀ H' p, Same H H' → H' p = some (.tup (iV (turnedL ns 4))) → Q (.ref p) H'
theorem isP_all {ns : List Int} (h : isP ns = true) {i : Nat} (hi : i < 4) : (0 + (i : Int)) ∈ ns := by
  refine (List.isPerm_iff.mp h).mem_iff.mpr ?_
  simp
  omega
end
end L2.Px

namespace L2.Px
open PySem PySem.Spec PyProof.Rows
section
variable {P : Program} {w : World} {K : PySem.W.Frag} {mg : Str → Option Value} {base : Heap}
/-! ### _law_is_odd -/
def cLess (ns : List Int) (i : Nat) : Nat := (ns.drop (i + 1)).countP fun n => decide (n < ns.getD i 0)
def cSum (ns : List Int) : Nat → Nat
  | 0 => 0
  | i + 1 => cSum ns i + cLess ns i
def lawOdd (ns : List Int) : Bool := decide (((cSum ns 4 : Nat) : Int) % 2 = 1)
def spLOdd (K : PySem.W.Frag) : Sp := fun vs H Q _ => ∃ (a : Addr) (ns : List Int), vs = [.ref a] ∧ SqT K H a (iV ns) ∧ ns.length = 4 ∧ ∀ H', Same H H' → Q (.bl (lawOdd ns)) H'
abbrev rLt : R2 := rI0 fun i j => .bl (decide (i < j))
/-! ### _law_told -/
def toldD (wh : Nat) (ns ms : List Int) : PyData :=
  if wh = 0 then (if isP ns = true ∧ isP ms = true then .tuple (iD (prodL ns ms)) else .str "bad")
  else if isP ns = true then (if wh = 1 then .tuple (iD (invL ns)) else if wh = 2 then .bool (oddL ns) else .int (idxL ns : Nat)) else .str "bad"
def spTold (K : PySem.W.Frag) : Sp := fun vs H Q _ => ∃ (a b : Addr) (ns ms : List Int) (wh : Nat), vs = [.int (wh : Int), .ref a, .ref b] ∧ SqT K H a (iV ns) ∧ SqT K H b (iV ms) ∧ ∀ H' v, Same H H' → Dp K H' v (toldD wh ns ms) → Q v H'
/-- the classes for the except clause -/
structure Wed (K : PySem.W.Frag) (mg : Str → Option Value) (C W G : Addr) : Prop where
  e : ExcC K C
  m : PySem.W.exmOne K (.ref C) (.ref C) = some true
  gW : mg "WedgeError" = some (.ref W)
  gG : mg "NotGluing" = some (.ref G)
  kW : PySem.W.kitOne K (.ref C) (.ref W) = some true
  kG : PySem.W.kitOne K (.ref C) (.ref G) = some false
  mi : mg "isinstance" = none
abbrev rEqV : R2 := fun x y H Q => flatV x = true ∧ flatV y = true ∧ Q (.bl (decide (x = y))) H
end
end L2.Px

namespace L2.Px
open PySem PySem.Spec PyProof.Rows
section
variable {P : Program} {w : World} {K : PySem.W.Frag} {mg : Str → Option Value} {base : Heap}
/-- the suite: which text is told -/
def sTold0 (K : PySem.W.Frag) (C W G : Addr) : Addr → Value → Option Addr → TS := fun a cls d =>
  tRet (tIf (tAnd (tB (tCB (fun xs H Q => cls = .ref C ∧ d = none ∧ rIsE K C a xs H Q) (tCons (tVar 3) (tCons (L2.tC (.ref W)) tNil)))) (tNot (tB (tCB (fun xs H Q => cls = .ref C ∧ d = none ∧ rIsE K C a xs H Q) (tCons (tVar 3) (tCons (L2.tC (.ref G)) tNil)))))) (L2.tC (.str "bad")) (L2.tC (.str "other")))
def bTold0 (K : PySem.W.Frag) (C : Addr) : WX → TS := fun W =>
  tSeq (tIfS (tTest (tOp rEq (tVar 0) (L2.tC (.int 0)))) (tRet (tCallS (spAfter K C) (WE W) (tCons (tVar 1) (tCons (tVar 2) tNil)))) tNext)
  (tSeq (tIfS (tTest (tOp rEq (tVar 0) (L2.tC (.int 1)))) (tRet (tCallS (spInverse K C) (WE W) (tCons (tVar 1) tNil))) tNext)
  (tSeq (tIfS (tTest (tOp rEq (tVar 0) (L2.tC (.int 2)))) (tRet (tCallS (spIsOdd K C) (WE W) (tCons (tVar 1) tNil))) tNext)
  (tRet (tCallS (spIdx K C) (WE W) (tCons (tVar 1) tNil)))))
theorem nat_eq0 (wh : Nat) (n : Nat) : decide (V.int (wh : Int) = V.int (n : Int)) = decide (wh = n) := by
  by_cases e : wh = n
  · subst e; simp
  · rw [decide_eq_false e, decide_eq_false]
    intro z
    injection z with z
    omega
end
end L2.Px

namespace L2.Px
open PySem PySem.Spec PyProof.Rows
/-! ### small data and their texts -/
section
variable {X : Cx}
end
/-! ### the mathematics of the law -/
theorem law_perm : ∀ v : Nat, v < 24 → isP (lawP (v : Int)) = true := by decide +kernel
theorem law_turned : ∀ ns ∈ allP, turnedL ns 4 = invL ns := by decide +kernel
theorem law_odd : ∀ ns ∈ allP, lawOdd ns = oddL ns := by decide +kernel
theorem law_count : ∀ ns ∈ allP, (allP.countP fun m => decide (m = ns)) = 1 := by decide +kernel
theorem allP_len : allP.length = 24 := by decide +kernel
theorem allP_bd : ∀ ns ∈ allP, ns.length = 4 ∧ ∀ n ∈ ns, 0 ≤ n ∧ n < 4 := by decide +kernel
theorem allP_codes : ∀ i < 24, ∀ j < i, TS.code 4 (allP.getD j []) < TS.code 4 (allP.getD i []) := by decide +kernel
theorem allP_sm : smAll (tD allP) = true := by decide +kernel
theorem allP_wt : PyData.weightAll (tD allP) ≤ 1000 := by decide +kernel
end L2.Px

namespace L2.Px
open PySem PySem.Spec PyProof.Rows
theorem index_parts {ns : List Int} (hp : isP ns = true) : (tD allP)[idxL ns]? = some (.tuple (iD ns)) ∧ PyData.eqv (.tuple (iD ns)) (.tuple (iD ns)) = true ∧ ∀ (m : Nat) (z : PyData), m < idxL ns → (tD allP)[m]? = some z → PyData.eqv z (.tuple (iD ns)) = false := by
  obtain ⟨i1, i2⟩ := idx_all ns (perm_in hp)
  refine ⟨by rw [List.getElem?_map, i1]; rfl, by rw [eqv_tup]; exact decide_eq_true rfl, fun m z hm hz => ?_⟩
  rw [List.getElem?_map] at hz
  cases e : allP[m]? with
  | none => rw [e] at hz; cases hz
  | some ms =>
    rw [e] at hz
    cases hz
    show PyData.eqv (.tuple (iD ms)) (.tuple (iD ns)) = false
    rw [eqv_tup]
    exact decide_eq_false fun z => i2 m hm (by rw [e, z])
/-! ### slices and sums of tuples, whatever they are -/
section
variable {X : Cx}
end
theorem small_cat {xs ys : List Int} (h : xs.length + ys.length ≤ 100) : (iV xs).length + (iV ys).length ≤ sizeLine := by
  rw [List.length_map, List.length_map]
  exact Nat.le_of_lt (small1000 (by omega))
/-! ### what is told, and that it is small -/
theorem prod_bd : ∀ ns ∈ allP, ∀ ms ∈ allP, (prodL ns ms).length = 4 ∧ ∀ n ∈ prodL ns ms, 0 ≤ n ∧ n < 4 := by decide +kernel
theorem inv_bd : ∀ ns ∈ allP, (invL ns).length = 4 ∧ ∀ n ∈ invL ns, 0 ≤ n ∧ n < 4 := by decide +kernel
theorem idx_bd : ∀ ns ∈ allP, idxL ns < 24 := by decide +kernel
theorem sml_tup {ns : List Int} (hl : ns.length = 4) (hb : ∀ n ∈ ns, 0 ≤ n ∧ n < 4) : Sml (.tuple (iD ns)) := by
  have h : ∀ n ∈ ns, n.natAbs < 1000000000 := fun n hn => by have := hb n hn; omega
  refine ⟨sm_ints ns h, ?_, ?_⟩
  · show PyData.depthAll (iD ns) + 1 ≤ 60
    rw [dep_ints]
    decide
  · have := wt_ints ns h
    show PyData.weightAll (iD ns) ≤ 700000
    omega
theorem told0 {ns ms : List Int} (h1 : isP ns = true) (h2 : isP ms = true) : toldD 0 ns ms = .tuple (iD (prodL ns ms)) := by
  unfold toldD
  rw [if_pos rfl, if_pos ⟨h1, h2⟩]
theorem toldS {ns ms : List Int} {i : Nat} (hi : i ≠ 0) (h1 : isP ns = true) : toldD i ns ms = (if i = 1 then .tuple (iD (invL ns)) else if i = 2 then .bool (oddL ns) else .int (idxL ns : Nat)) := by
  unfold toldD
  rw [if_neg hi, if_pos h1]
theorem sml_told {ns ms : List Int} (h1 : ns ∈ allP) (h2 : ms ∈ allP) (i : Nat) : Sml (toldD i ns ms) := by
  by_cases hi : i = 0
  · subst hi
    rw [told0 (in_perm h1) (in_perm h2)]
    exact sml_tup (prod_bd ns h1 ms h2).1 (prod_bd ns h1 ms h2).2
  · rw [toldS hi (in_perm h1)]
    split
    · exact sml_tup (inv_bd ns h1).1 (inv_bd ns h1).2
    · split
      · exact ⟨rfl, (by decide : 0 ≤ 60), Nat.zero_le _⟩
      · have := idx_bd ns h1
        refine ⟨decide_eq_true (by omega), (by decide : 0 ≤ 60), ?_⟩
        have := wt_int (n := (idxL ns : Nat)) (by omega)
        omega
theorem told_bad0 {S ms : List Int} (h : isP S = false) (i : Nat) : toldD i S ms = .str "bad" := by
  unfold toldD
  have h1 : ¬ isP S = true := by rw [h]; decide
  by_cases hi : i = 0
  · rw [if_pos hi, if_neg fun z => h1 z.1]
  · rw [if_neg hi, if_neg h1]
theorem told_bad1 {S ms : List Int} (h : isP S = false) : toldD 0 ms S = .str "bad" := by
  have h1 : ¬ isP S = true := by rw [h]; decide
  unfold toldD
  rw [if_pos rfl, if_neg fun z => h1 z.2]
theorem dp_bad {K : PySem.W.Frag} {H : Hp} {v : V} {d : PyData} (h : Dp K H v d) (e : d = .str "bad") : v = .str "bad" := by
  subst e
  cases h
  rfl
/-- what the law expects, in the list `due` -/
theorem due_at {K : PySem.W.Frag} {H : Hp} {p5 p6 : Addr} {ns ms : List Int} (h1 : ns ∈ allP) (h2 : ms ∈ allP) (e5 : H p5 = some (.tup (iV (prodL ns ms)))) (e6 : H p6 = some (.tup (iV (turnedL ns 4)))) :
    ∀ i : Nat, i < 4 → ∃ v, atI [V.ref p5, V.ref p6, V.bl (lawOdd ns), V.int (idxL ns : Nat)] (0 + (i : Int)) = some v ∧ Dp K H v (toldD i ns ms) := by
  intro i hi
  have ei : (0 + (i : Int)) = ((i : Nat) : Int) := by omega
  rw [ei]
  have t1 := in_perm h1
  have t2 := in_perm h2
  match i, hi with
  | 0, _ => exact ⟨_, atI_nat rfl, by rw [told0 t1 t2]; exact dp_ti (.of e5)⟩
  | 1, _ => exact ⟨_, atI_nat rfl, by rw [toldS (by decide) t1, if_pos rfl, ← law_turned ns h1]; exact dp_ti (.of e6)⟩
  | 2, _ => exact ⟨_, atI_nat rfl, by rw [toldS (by decide) t1, if_neg (by decide), if_pos rfl, law_odd ns h1]; exact .bl _⟩
  | 3, _ => exact ⟨_, atI_nat rfl, by rw [toldS (by decide) t1, if_neg (by decide), if_neg (by decide)]; exact .int _⟩
/-- one of three -/
theorem one_of3 {K : PySem.W.Frag} {H : Hp} {q0 q1 q2 : Addr} {S0 S1 S2 : List Int} (z : Int) (h0 : SqT K H q0 (iV S0)) (h1 : SqT K H q1 (iV S1)) (h2 : SqT K H q2 (iV S2)) : ∃ q S, atI [V.ref q0, V.ref q1, V.ref q2] (z % 3) = some (.ref q) ∧ SqT K H q (iV S) := by
  have b0 : 0 ≤ z % 3 := Int.emod_nonneg _ (by decide)
  have b1 : z % 3 < 3 := Int.emod_lt_of_pos _ (by decide)
  obtain ⟨j, hj⟩ : ∃ j : Nat, z % 3 = (j : Int) := ⟨_, (Int.toNat_of_nonneg b0).symm⟩
  rw [hj]
  have : j < 3 := by omega
  match j, this with
  | 0, _ => exact ⟨_, _, atI_nat rfl, h0⟩
  | 1, _ => exact ⟨_, _, atI_nat rfl, h1⟩
  | 2, _ => exact ⟨_, _, atI_nat rfl, h2⟩
end L2.Px

namespace L2.Px
open PySem PySem.Spec PyProof.Rows
abbrev sValues : Stmt := top 11
section
variable {P : Program} {w : World} {K : PySem.W.Frag} {mg : Str → Option Value} {base : Heap}
/-! ### _law_values -/
def spValues : Sp := fun vs H Q _ => ∃ (c s : Int) (n : Nat), vs = [.int c, .int (n : Int), .int s] ∧ n ≤ 1000 ∧ 0 < s ∧ s < 1000000 ∧
  ∀ H' p l, Same H H' → H' p = some (.lst (iV l)) → H p = none → l.length = n → (∀ x ∈ l, 0 ≤ x ∧ x < s) → Q (.ref p) H'
theorem scValues : FnScope ["cell", "count", "size", "values", "rest", "k", "mixed"] ["cell", "count", "size"] (defScope sValues) := ⟨rfl, rfl, rfl, by decide +kernel, rfl, by decide +kernel, by decide +kernel⟩
theorem ok_values {f : Addr} {fd : FuncData} (F : Fun K "_law_values" "_law_values" sValues f fd) (N : NmJ mg) (mI : mg "int" = none) : FnOk P w K mg base CX0 1 f fd ["cell", "count", "size"] spValues := by
  refine F.ok scValues (fun vs H Q E h => ?_) (fun cdv A outer s H vs Q E hr h => ?_)
  · obtain ⟨c, s, n, rfl, _⟩ := h
    rfl
  · obtain ⟨c, z, n, rfl, hn, z0, z1, k⟩ := h
    refine ⟨_, pss_cons (ps_set (i := 3) scValues.nd rfl (.inl rfl) (pe_lst pa_nil))
      (pss_cons (ps_set (i := 4) scValues.nd rfl (.inl rfl) (pv 0))
      (pss_cons (ps_for PassesOwn.never rfl (pi_range1 (by rfl) N.rng (pa_cons (pv 1) pa_nil)) (pg_name (i := 5) scValues.nd rfl (.inl rfl))
        (pss_one (ps_if (pt_cmpR op_ge (pv 4) (pe_op op_pow pe_int pe_int) (nomark _))
          (pss_cons (ps_expr (pe_bm PySem.F.plainAttrs_list PySem.F.slot_list_append PySem.F.type_list_append mt_append (pv 3) (pa_cons (pe_op op_mod (pe_callTy call_int1 (by rfl) mI (by decide +kernel) (pa_cons (pv 4) pa_nil)) (pv 2)) pa_nil)))
            (pss_one (ps_set (i := 4) scValues.nd rfl (.inl rfl) (pe_op op_fdiv (pv 4) (pv 2)))))
          (pss_cons (ps_set (i := 6) scValues.nd rfl (.inl rfl) (pe_op op_mod (pe_op op_add (pe_op op_add (pe_op op_mul (pe_op op_mod (pe_callTy call_int1 (by rfl) mI (by decide +kernel) (pa_cons (pv 0) pa_nil)) pe_int) pe_int) (pe_op op_mul (pv 5) pe_int)) pe_int) pe_int))
            (pss_one (ps_expr (pe_bm PySem.F.plainAttrs_list PySem.F.slot_list_append PySem.F.type_list_append mt_append (pv 3) (pa_cons (pe_op op_mod (pe_op op_mod (pe_op op_mul (pv 6) pe_int) pe_int) (pv 2)) pa_nil))))))))
      (pss_one (ps_ret (pv 3))))), ?_⟩
    refine ⟨Nat.zero_le _, fun p hp => ?_⟩
    refine ⟨_, rfl, _, rfl, (n : Int), rfl, by omega, by omega, ?_⟩
    rw [Int.toNat_natCast]
    have small : ∀ l : List Int, l.length < 1000 → (iV l).length < sizeLine := fun l h => by
      rw [List.length_map]
      exact small1000 (by omega)
    refine for_it (walk_range (lo := 0)) (fun i σ H' => ∃ (y5 y6 : Option V) (r : Int) (l : List Int), σ = [some (.int c), some (.int (n : Int)), some (.int z), some (.ref p), some (.int r), y5, y6] ∧ Same H H' ∧ H' p = some (.lst (iV l)) ∧ l.length = i ∧ ∀ x ∈ l, 0 ≤ x ∧ x < z)
      ⟨none, none, c, [], rfl, Same.upd hp, upd_same, rfl, fun x hx => by cases hx⟩ (fun _ _ _ _ _ => trivial) ?_ ?_
    · rintro i x σ H1 H2 hi ⟨y5, y6, r, l, rfl, sm, hd, hl, hb⟩ ⟨rfl, rfl⟩
      have hi : i < n := hi
      have next : ∀ v : Int, ∀ x ∈ l ++ [v % z], 0 ≤ x ∧ x < z := fun v x hx => by
        rcases List.mem_append.mp hx with h | h
        · exact hb x h
        · rw [List.mem_singleton.mp h]
          exact ⟨Int.emod_nonneg _ (by omega), Int.emod_lt_of_pos _ z0⟩
      have len1 : ∀ v : Int, (l ++ [v % z]).length = i + 1 := fun v => by rw [List.length_append, hl]; rfl
      have put : ∀ (H3 : Hp) (v : Int), upd H3 p (.lst (iV l ++ [V.int (v % z)])) p = some (.lst (iV (l ++ [v % z]))) := fun H3 v => by
        rw [upd_same, iV_app]
        rfl
      refine ⟨_, rfl, _, _, rfl, rfl, ⟨by decide, by decide, by decide⟩, _, _, rfl, rfl, _, rfl, ite2 (fun cc => ?_) (fun cc => ?_)⟩
      · refine ⟨.ref p, rfl, .inl ⟨rfl, _, .of hd⟩, _, rfl, .inl ⟨_, rfl, _, rfl, _, _, rfl, rfl, z0, p, _, _, rfl, rfl, hd, small l (by omega), ?_⟩⟩
        refine ⟨_, rfl, _, rfl, _, _, rfl, rfl, ⟨z0, by omega⟩, ?_⟩
        exact ⟨_, _, _, _, rfl, own_push sm hp, put _ _, len1 _, next _⟩
      · refine ⟨_, rfl, .inl ⟨_, rfl, _, _, rfl, rfl, (by decide : (0 : Int) < 2147483647), _, _, rfl, rfl, mul_r (by decide) (by decide), _, rfl, _, _, rfl, rfl, mul_r (by decide) (by decide), _, _, rfl, rfl, _, _, rfl, rfl, _, _, rfl, rfl, (by decide : (0 : Int) < 2147483647), ?_⟩⟩
        refine ⟨.ref p, rfl, .inl ⟨rfl, _, .of hd⟩, _, rfl, _, _, rfl, rfl, mul_r (by decide) (by decide), _, _, rfl, rfl, (by decide : (0 : Int) < 2147483647), _, rfl, _, _, rfl, rfl, z0, p, _, _, rfl, rfl, hd, small l (by omega), ?_⟩
        exact ⟨_, _, _, _, rfl, own_push sm hp, put _ _, len1 _, next _⟩
    · rintro σ H1 ⟨y5, y6, r, l, rfl, sm, hd, hl, hb⟩
      exact ⟨_, rfl, k _ p l sm hd hp hl hb⟩
end
end L2.Px

namespace L2.Px
open PySem PySem.Spec PyProof.Rows
/-! ### words as data -/
theorem nat_eq89 {a b : Nat} : decide (V.int (a : Int) = V.int (b : Int)) = decide (a = b) := by
  by_cases e : a = b
  · subst e; simp
  · rw [decide_eq_false e, decide_eq_false]
    intro z
    injection z with z
    omega
def plainC (c : Nat) : Bool := (decide (32 ≤ c) && decide (c ≤ 126)) && decide (c ≠ 37)
def signC (c : Nat) : Bool := (decide (33 ≤ c) && decide (c ≤ 126)) && decide (c ≠ 37)
def smallC (c : Nat) : Bool := decide (c ∈ TL.tl "abcdefghijklmnopqrstuvwxyz")
def sgnS : Str := ("!\"#$&'()*+,-./0123456789:;<=>?@ABCDEFGHIJKLMNOPQRSTUVWXYZ[\\]^_`" : Str) ++ ("abcdefghijklmnopqrstuvwxyz{|}~" : Str)
theorem sp32 : (Str.ofString " ").cps.toList = [32] := by decide +kernel
theorem ti126 : (Str.ofString "~").cps.toList = [126] := by decide +kernel
theorem le_lo (c : Nat) : (!decide ((⟨#[c]⟩ : Str).cps.toList < (Str.ofString " ").cps.toList)) = decide (32 ≤ c) := by
  rw [sp32, show (⟨#[c]⟩ : Str).cps.toList = [c] from rfl, lt_one, ← decide_not]
  exact decide_eq_decide.mpr (by omega)
theorem le_hi (c : Nat) : (!decide ((Str.ofString "~").cps.toList < (⟨#[c]⟩ : Str).cps.toList)) = decide (c ≤ 126) := by
  rw [ti126, show (⟨#[c]⟩ : Str).cps.toList = [c] from rfl, lt_one, ← decide_not]
  exact decide_eq_decide.mpr (by omega)
theorem plain_sign (c : Nat) : plainC c = (c == 32 || signC c) := by
  by_cases h : c < 127
  · revert c
    decide +kernel
  · have e : (c == 32) = false := beq_eq_false_iff_ne.mpr (by omega)
    unfold plainC signC
    rw [e, decide_eq_false (show ¬ c ≤ 126 by omega)]
    simp
theorem sgn_tab : ∀ c < 127, decide (c ∈ TL.tl sgnS) = signC c := by decide +kernel
theorem sgn_low : ∀ c ∈ TL.tl sgnS, c < 127 := by decide +kernel
theorem sgn_in (c : Nat) : decide (c ∈ TL.tl sgnS) = signC c := by
  by_cases h : c < 127
  · exact sgn_tab c h
  · rw [decide_eq_false fun z => h (sgn_low c z)]
    unfold signC
    rw [decide_eq_false (show ¬ c ≤ 126 by omega)]
    simp
theorem dig_in (c : Nat) : decide (c ∈ TL.tl "0123456789") = (decide (48 ≤ c) && decide (c ≤ 57)) := by
  have low : ∀ c ∈ TL.tl "0123456789", c < 58 := by decide +kernel
  have tab : ∀ c < 58, decide (c ∈ TL.tl "0123456789") = (decide (48 ≤ c) && decide (c ≤ 57)) := by decide +kernel
  by_cases h : c < 58
  · exact tab c h
  · rw [decide_eq_false fun z => h (low c z), decide_eq_false (show ¬ c ≤ 57 by omega)]
    simp
def wordB (y : Str) : Bool := !(y == Str.empty) && (TL.tl y).all signC
def lineB (x : Str) : Bool := (Txt.split x " ").all wordB
def wordsD (x : Str) : PyData := if lineB x then .list ((Txt.split x " ").map PyData.str) else .none
def nameB (x : Str) : Bool := (decide (1 ≤ x.length) && decide (x.length ≤ 12)) && (TL.tl x).all smallC
def numD (x : Str) : PyData := match PySem.intText? x with
  | some n => if isNum (TL.tl x) then .int n else .none
  | none => .none
theorem line_eq (x : Str) : lineB x = (!decide (Str.empty ∈ Txt.split x " ") && (TL.tl x).all plainC) := by
  have h := split_all signC x
  have e : ((TL.tl x).all fun c => c == 32 || signC c) = (TL.tl x).all plainC := by
    congr 1
    funext c
    exact (plain_sign c).symm
  rw [e] at h
  rw [← h]
  unfold lineB
  induction Txt.split x " " with
  | nil => rfl
  | cons y l ih =>
    rw [List.all_cons, ih, List.all_cons]
    unfold wordB
    by_cases c : y = Str.empty
    · subst c
      simp
    · have c1 : (y == Str.empty) = false := beq_eq_false_iff_ne.mpr c
      have c2 : decide (Str.empty ∈ y :: l) = decide (Str.empty ∈ l) := decide_eq_decide.mpr ⟨fun z => (List.mem_cons.mp z).resolve_left (Ne.symm c), List.mem_cons_of_mem _⟩
      rw [c1, c2]
      cases (TL.tl y).all signC <;> cases decide (Str.empty ∈ l) <;> rfl
theorem inV_strs (x : Str) (l : List Str) : inV (.str x) (l.map V.str) = decide (x ∈ l) := by
  unfold inV
  rw [List.any_map]
  apply Bool.eq_iff_iff.mpr
  rw [List.any_eq_true, decide_eq_true_eq]
  constructor
  · rintro ⟨y, hy, e⟩
    have e : (y == x) = true := e
    exact beq_iff_eq.mp e ▸ hy
  · intro h
    exact ⟨x, h, beq_self_eq_true x⟩
theorem flat_strs (l : List Str) : (l.map V.str).all flatV = true := List.all_eq_true.mpr fun y hy => by
  obtain ⟨z, hz, rfl⟩ := List.mem_map.mp hy
  rfl
theorem cps_at {x : Str} {i c : Nat} (h : x.cps[i]? = some c) : (TL.tl x)[i]? = some c := by
  rw [← h]
  exact Array.getElem?_toList ..
theorem all_bl (g : Nat → Bool) (x : Str) : ((List.range x.cps.size).map fun i => g ((TL.tl x).getD i 0)).all id = (TL.tl x).all g := by
  have e : (List.range x.cps.size).map (fun i => g ((TL.tl x).getD i 0)) = (TL.tl x).map g := by
    refine List.ext_getElem (by simp) fun i h1 h2 => ?_
    have hi : i < (TL.tl x).length := by simpa using h2
    simp only [List.getElem_map, List.getElem_range]
    rw [List.getD_eq_getElem?_getD, List.getElem?_eq_getElem hi]
    rfl
  rw [e, List.all_map]
  rfl
theorem dp_strs {K : PySem.W.Frag} {H : Hp} : ∀ l : List Str, DpAll K H (l.map V.str) (l.map PyData.str)
  | [] => .nil
  | x :: l => .cons (.str x) (dp_strs l)
section
variable {P : Program} {w : World} {K : PySem.W.Frag} {mg : Str → Option Value} {base : Heap}
def sp_is_plain (K : PySem.W.Frag) : Sp := fun vs H Q _ => ∃ x : Str, vs = [.str x] ∧ x.length ≤ 1000 ∧ ∀ H', Same H H' → Q (.bl ((TL.tl x).all plainC)) H'
theorem ok_is_plain {f : Addr} {fd : FuncData} {k_PERCENT : Tok} (F : Fun K "is_plain" "is_plain" s_is_plain f fd) (N : Nm mg) (M_PERCENT : mg "PERCENT" = some (.int 37 k_PERCENT)) :
    FnOk P w K mg base CX0 1 f fd ["line"] (sp_is_plain K) := by
  refine F.ok sc_is_plain (fun vs H Q E h => ?_) (fun cdv A outer s H vs Q E hr h => ?_)
  · obtain ⟨x, rfl, _⟩ := h
    rfl
  · obtain ⟨x, rfl, hl, k⟩ := h
    refine ⟨_, pss_one (ps_ret (pe_callB (cr_all rfl) (by rfl) N.n_all (by decide +kernel) (pa_cons (pe_lc (own := [("character", 1)]) (g := gName 1) (tt := tYes) (te := tAndV (tChain (rLeS) (rLeS) (L2.tC (.str " ")) (tVar 1) (L2.tC (.str "~"))) (tOp (rNe) (tCB rOrd (tCons (tVar 1) (tNil))) (L2.tC (.int 37)))) rfl sc_is_plain.nd (pi_str (pv 0)) (blkOk_by (N := n_is_plain) (sc := defScope s_is_plain) (by decide +kernel)) (fun _ _ _ _ _ => (pg_name (i := 1) sc_is_plain.nd rfl (.inl rfl))) (fun _ _ _ _ _ => pts_nil) (fun _ _ _ _ _ => (pe_and (pe_chain op_le_str op_le_str pe_str (pv 1) pe_str) (pe_one (pe_cmpR op_ne (pe_callB call_ord (by rfl) N.n_ord (by decide +kernel) (pa_cons (pv 1) pa_nil)) (pe_glob rfl M_PERCENT (v := .int 37) ⟨_, rfl⟩) (nomark _)))))) pa_nil))), ?_⟩
    refine ⟨_, rfl, x, rfl, fun D hD => lc_map (walk_str (z := x)) RBl lasts_bl (fun i => plainC ((TL.tl x).getD i 0)) hD (by have : x.cps.size ≤ 1000 := hl; omega) (fun _ _ => trivial) ?_ ?_⟩
    · rintro i y H1 H2 hi s1 ⟨rfl, c, hc, rfl⟩ Nx kk
      have e : (TL.tl x).getD i 0 = c := by rw [List.getD_eq_getElem?_getD, cps_at hc]; rfl
      rw [e] at kk
      refine ⟨rfl, _, rfl, _, _, rfl, rfl, _, rfl, ?_⟩
      rw [le_lo]
      refine ite2 (fun c0 => ?_) (fun c0 => ?_)
      · refine ⟨_, _, rfl, rfl, _, rfl, ?_⟩
        rw [le_hi]
        refine ite2 (fun c1 => ?_) (fun c1 => ?_)
        · refine ⟨_, rfl, _, rfl, rfl, rfl, kk _ _ (Same.refl _) ?_⟩
          show V.bl _ = V.bl _
          unfold plainC
          rw [c0, c1]
          refine congrArg V.bl ?_
          show (!decide (V.int ((c : Nat) : Int) = V.int ((37 : Nat) : Int))) = _
          rw [nat_eq89, ← decide_not]
          rfl
        · refine kk _ _ (Same.refl _) ?_
          show V.bl _ = V.bl _
          unfold plainC
          rw [Bool.eq_false_iff.mpr c1, Bool.and_false, Bool.false_and]
      · refine ⟨false, rfl, ?_⟩
        refine iteF (kk _ _ (Same.refl _) ?_)
        show V.bl _ = V.bl _
        unfold plainC
        rw [Bool.eq_false_iff.mpr c0]
        rfl
    · intro H1 ws s1 hd p
      have e := paired_bl p
      subst e
      refine ⟨D, _, rfl, .of hd, ?_⟩
      rw [all_bl]
      exact k H1 s1
def sp_words_of (K : PySem.W.Frag) : Sp := fun vs H Q _ => ∃ x : Str, vs = [.str x] ∧ x.length ≤ 1000 ∧ ∀ H' v, Same H H' → Dp K H' v (wordsD x) → Q v H'
theorem ok_words_of {f : Addr} {fd : FuncData} {f_is_plain : Addr} {d_is_plain : FuncData} (F : Fun K "words_of" "words_of" s_words_of f fd) (N : Nm mg)
    (t_is_plain : At K mg "is_plain" s_is_plain ["line"] f_is_plain d_is_plain) (G_is_plain : FnOk P w K mg base CX0 1 f_is_plain d_is_plain ["line"] (sp_is_plain K)) :
    FnOk P w K mg base CX0 2 f fd ["line"] (sp_words_of K) := by
  refine F.ok sc_words_of (fun vs H Q E h => ?_) (fun cdv A outer s H vs Q E hr h => ?_)
  · obtain ⟨x, rfl, _⟩ := h
    rfl
  · obtain ⟨x, rfl, hl, k⟩ := h
    refine ⟨_, pss_cons (ps_set (i := 1) sc_words_of.nd rfl (.inl rfl) (pe_split (pv 0) pe_str))
      (pss_cons (ps_if (PW.pt (pw_or (pt_cmpR op_in_seq pe_str (pv 1) (by rfl)) (pw_or1 (pt_not (pt_val (pe_call G_is_plain (hr.mono (by decide)) rfl t_is_plain.g t_is_plain.F.kp t_is_plain.b .nil pass0 (pa_cons (pv 0) pa_nil))))))) (pss_one (ps_ret pe_non)) pss_nil)
      (pss_one (ps_ret (pv 1)))), ?_⟩
    have hs := split_size x
    refine ⟨_, rfl, ⟨x, rfl⟩, x, _, rfl, rfl, by decide +kernel, by show x.length + 2 ≤ 16777216; omega, fun p hp => ?_⟩
    have sp := Same.upd (o := .lst ((Txt.split x " ").map V.str)) hp
    have e := line_eq x
    refine ⟨.ref p, rfl, p, _, rfl, .inl (.of upd_same), rfl, flat_strs _, _, rfl, ?_⟩
    show if inV (.str Str.empty) ((Txt.split x " ").map V.str) = true then _ else _
    rw [inV_strs]
    refine ite2 (fun c0 => ?_) (fun c0 => ?_)
    · refine k _ _ sp ?_
      unfold wordsD
      rw [e, c0]
      exact .non
    · refine ⟨_, rfl, x, rfl, hl, fun H2 s2 => ?_⟩
      have c0 := Bool.eq_false_iff.mpr c0
      refine ⟨_, rfl, ?_⟩
      cases c1 : (TL.tl x).all plainC with
      | false =>
        refine iteT (k _ _ (sp.trans s2) ?_)
        unfold wordsD
        rw [e, c0, c1]
        exact .non
      | true =>
        refine iteF ⟨_, rfl, k _ _ (sp.trans s2) ?_⟩
        unfold wordsD
        rw [e, c0, c1]
        exact .lst (.of (s2 _ _ upd_same)) (dp_strs _)
def sp__law_signs (K : PySem.W.Frag) : Sp := fun vs H Q _ => vs = [] ∧ Q (.str sgnS) H
theorem ok__law_signs {f : Addr} {fd : FuncData} (F : Fun K "_law_signs" "_law_signs" s__law_signs f fd) (N : Nm mg) :
    FnOk P w K mg base CX0 1 f fd [] (sp__law_signs K) := by
  refine F.ok sc__law_signs (fun vs H Q E h => ?_) (fun cdv A outer s H vs Q E hr h => ?_)
  · obtain ⟨rfl, _⟩ := h
    rfl
  · obtain ⟨rfl, k⟩ := h
    refine ⟨_, pss_cons (ps_set (i := 0) sc__law_signs.nd rfl (.inl rfl) pe_str)
      (pss_one (ps_ret (pe_op op_add_str (pv 0) pe_str))), ?_⟩
    exact ⟨_, rfl, _, _, rfl, rfl, by show _ ≤ 16777216; decide +kernel, k⟩
def sp__law_words (K : PySem.W.Frag) : Sp := sp_words_of K
theorem ok__law_words {f : Addr} {fd : FuncData} {f__law_signs : Addr} {d__law_signs : FuncData} (F : Fun K "_law_words" "_law_words" s__law_words f fd) (N : Nm mg)
    (t__law_signs : At K mg "_law_signs" s__law_signs [] f__law_signs d__law_signs) (G__law_signs : FnOk P w K mg base CX0 1 f__law_signs d__law_signs [] (sp__law_signs K)) :
    FnOk P w K mg base CX0 2 f fd ["line"] (sp__law_words K) := by
  refine F.ok sc__law_words (fun vs H Q E h => ?_) (fun cdv A outer s H vs Q E hr h => ?_)
  · obtain ⟨x, rfl, _⟩ := h
    rfl
  · obtain ⟨x, rfl, hl, k⟩ := h
    refine ⟨_, pss_cons (ps_set (i := 1) sc__law_words.nd rfl (.inl rfl) (pe_split (pv 0) pe_str))
      (pss_cons (ps_for PassesOwn.never rfl (pi_list (pv 1)) (pg_name (i := 2) sc__law_words.nd rfl (.inl rfl)) (pss_one (ps_if (PW.pt (pw_or (pt_cmpR op_eq (pv 2) pe_str (nomark _)) (pw_or1 (pt_not (pt_val (pe_callB (cr_all rfl) (by rfl) N.n_all (by decide +kernel) (pa_cons (pe_lc (own := [("char", 3)]) (g := gName 3) (tt := tYes) (te := tOp rInSg (tVar 3) (tCall (sp__law_signs K) [] E0 tNil)) rfl sc__law_words.nd (pi_str (pv 2)) (blkOk_by (N := n__law_words) (sc := defScope s__law_words) (by decide +kernel)) (fun _ _ _ _ _ => (pg_name (i := 3) sc__law_words.nd rfl (.inl rfl))) (fun _ _ _ _ _ => pts_nil) (fun _ _ _ _ _ => (pe_cmpR op_in_sign (pv 3) (pe_call0 G__law_signs (hr.mono (by decide)) rfl t__law_signs.g t__law_signs.F.kp t__law_signs.b .nil pass0) (by rfl)))) pa_nil))))))) (pss_one (ps_ret pe_non)) pss_nil)))
      (pss_one (ps_ret (pv 1)))), ?_⟩
    have hs := split_size x
    refine ⟨_, rfl, ⟨x, rfl⟩, x, _, rfl, rfl, by decide +kernel, by show x.length + 2 ≤ 16777216; omega, fun p hp => ?_⟩
    have sp := Same.upd (o := .lst ((Txt.split x " ").map V.str)) hp
    refine ⟨.ref p, rfl, p, rfl, ⟨_, .of upd_same⟩, ?_⟩
    refine for_it (walk_list (K := K) (a := p) (xs := (Txt.split x " ").map V.str)) (fun i σ H' => ∃ y2 y3 : Option V, σ = [some (.str x), some (.ref p), y2, y3] ∧ Same H H' ∧ H' p = some (.lst ((Txt.split x " ").map V.str)) ∧ ((Txt.split x " ").take i).all wordB = true)
      ⟨none, none, rfl, sp, upd_same, rfl⟩ (fun i σ H' _ ⟨_, _, _, _, h, _⟩ => .of h) ?_ ?_
    · rintro i y σ H1 H2 hi ⟨y2, y3, rfl, s1, h1, a1⟩ ⟨rfl, hy⟩
      obtain ⟨u, hu, rfl⟩ : ∃ u, (Txt.split x " ")[i]? = some u ∧ y = .str u := by
        rw [List.getElem?_map] at hy
        cases e : (Txt.split x " ")[i]? with
        | none => rw [e] at hy; cases hy
        | some u => rw [e] at hy; exact ⟨u, rfl, (Option.some.inj hy).symm⟩
      have um := List.mem_of_getElem? hu
      have lu := split_len um
      have no : wordB u = false → lineB x = false := fun h => by
        unfold lineB
        rw [List.all_eq_false]
        exact ⟨u, um, by rw [h]; exact Bool.false_ne_true⟩
      refine ⟨_, rfl, rfl, _, rfl, ite2 (fun c0 => ?_) (fun c0 => ?_)⟩
      · have c0 : V.str u = V.str Str.empty := of_decide_eq_true c0
        injection c0 with c0
        refine k _ _ s1 ?_
        unfold wordsD
        rw [no (by rw [c0]; rfl)]
        exact .non
      have c0 : ¬ u = Str.empty := fun z => c0 (decide_eq_true (congrArg V.str z))
      have c1 : (u == Str.empty) = false := beq_eq_false_iff_ne.mpr c0
      refine ⟨_, rfl, u, rfl, fun D hD => lc_map (walk_str (z := u)) RBl lasts_bl (fun i => signC ((TL.tl u).getD i 0)) hD (by have : u.cps.size ≤ 1000 := Nat.le_trans lu hl; omega) (fun _ _ => trivial) ?_ ?_⟩
      · rintro j y H3 H4 hj s3 ⟨rfl, c, hc, rfl⟩ Nx kk
        have e : (TL.tl u).getD j 0 = c := by rw [List.getD_eq_getElem?_getD, cps_at hc]; rfl
        rw [e] at kk
        refine ⟨rfl, _, rfl, rfl, c, sgnS, rfl, rfl, kk _ _ (Same.refl _) ?_⟩
        exact congrArg V.bl (sgn_in c)
      · intro H3 ws s3 hd p3
        have e := paired_bl p3
        subst e
        refine ⟨D, _, rfl, .of hd, ?_⟩
        rw [all_bl]
        have wu : wordB u = (TL.tl u).all signC := by
          unfold wordB
          rw [c1]
          rfl
        refine ⟨_, rfl, ?_⟩
        rw [← wu]
        cases c2 : wordB u with
        | false =>
          refine iteT (k _ _ (s1.trans s3) ?_)
          unfold wordsD
          rw [no c2]
          exact .non
        | true =>
          refine iteF ⟨_, _, rfl, s1.trans s3, s3 _ _ h1, ?_⟩
          rw [take_snoc hu, List.all_append, a1, List.all_cons, c2]
          rfl
    · rintro σ H1 ⟨y2, y3, rfl, s1, h1, a1⟩
      rw [List.length_map, List.take_length] at a1
      refine ⟨_, rfl, k _ _ s1 ?_⟩
      unfold wordsD
      rw [show lineB x = true from a1]
      exact .lst (.of h1) (dp_strs _)
theorem name_len (x : Str) : (decide ((1 : Int) ≤ (x.length : Int)) = decide (1 ≤ x.length)) ∧ (decide ((x.length : Int) ≤ 12) = decide (x.length ≤ 12)) ∧ (decide ((x.length : Int) ≤ 2) = decide (x.length ≤ 2)) :=
  ⟨decide_eq_decide.mpr (by omega), decide_eq_decide.mpr (by omega), decide_eq_decide.mpr (by omega)⟩
def sp_is_name (K : PySem.W.Frag) : Sp := fun vs H Q _ => ∃ x : Str, vs = [.str x] ∧ x.length ≤ 1000 ∧ ∀ H', Same H H' → Q (.bl (nameB x)) H'
def sp__law_is_name (K : PySem.W.Frag) : Sp := sp_is_name K
theorem ok_is_name {f : Addr} {fd : FuncData} {k_LONGEST_NAME : Tok} {k_SMALL_LETTERS : Tok} (F : Fun K "is_name" "is_name" s_is_name f fd) (N : Nm mg) (M_LONGEST_NAME : mg "LONGEST_NAME" = some (.int 12 k_LONGEST_NAME)) (M_SMALL_LETTERS : mg "SMALL_LETTERS" = some (.str "abcdefghijklmnopqrstuvwxyz" k_SMALL_LETTERS)) :
    FnOk P w K mg base CX0 1 f fd ["word"] (sp_is_name K) := by
  refine F.ok sc_is_name (fun vs H Q E h => ?_) (fun cdv A outer s H vs Q E hr h => ?_)
  · obtain ⟨x, rfl, _⟩ := h
    rfl
  · obtain ⟨x, rfl, hl, k⟩ := h
    refine ⟨_, pss_one (ps_ret (pe_and (pe_chain op_le op_le pe_int (pe_callB call_len_str (by rfl) N.n_len PySem.boot_len (pa_cons (pv 0) pa_nil)) (pe_glob rfl M_LONGEST_NAME (v := .int 12) ⟨_, rfl⟩)) (pe_one (pe_callB (cr_all rfl) (by rfl) N.n_all (by decide +kernel) (pa_cons (pe_lc (own := [("letter", 1)]) (g := gName 1) (tt := tYes) (te := tOp rInSg (tVar 1) (L2.tC (.str "abcdefghijklmnopqrstuvwxyz"))) rfl sc_is_name.nd (pi_str (pv 0)) (blkOk_by (N := n_is_name) (sc := defScope s_is_name) (by decide +kernel)) (fun _ _ _ _ _ => (pg_name (i := 1) sc_is_name.nd rfl (.inl rfl))) (fun _ _ _ _ _ => pts_nil) (fun _ _ _ _ _ => (pe_cmpR op_in_sign (pv 1) (pe_glob rfl M_SMALL_LETTERS (v := .str "abcdefghijklmnopqrstuvwxyz") ⟨_, rfl⟩) (by rfl)))) pa_nil))))), ?_⟩
    obtain ⟨n1, n2, _⟩ := name_len x
    have hz : x.length ≤ sizeLine := by show x.length ≤ 16777216; omega
    refine ⟨_, rfl, x, rfl, hz, _, _, rfl, rfl, _, rfl, ?_⟩
    unfold nameB at k
    rw [n1]
    refine ite2 (fun c0 => ?_) (fun c0 => ?_)
    · refine ⟨_, _, rfl, rfl, _, rfl, ?_⟩
      rw [n2]
      refine ite2 (fun c1 => ?_) (fun c1 => ?_)
      · rw [c0, c1] at k
        refine ⟨_, rfl, x, rfl, fun D hD => lc_map (walk_str (z := x)) RBl lasts_bl (fun i => smallC ((TL.tl x).getD i 0)) hD (by have : x.cps.size ≤ 1000 := hl; omega) (fun _ _ => trivial) ?_ ?_⟩
        · rintro i y H1 H2 hi s1 ⟨rfl, c, hc, rfl⟩ Nx kk
          have e : (TL.tl x).getD i 0 = c := by rw [List.getD_eq_getElem?_getD, cps_at hc]; rfl
          rw [e] at kk
          exact ⟨rfl, _, rfl, c, _, rfl, rfl, kk _ _ (Same.refl _) rfl⟩
        · intro H1 ws s1 hd p
          have e := paired_bl p
          subst e
          refine ⟨D, _, rfl, .of hd, ?_⟩
          rw [all_bl]
          exact k H1 s1
      · rw [Bool.eq_false_iff.mpr c1, Bool.and_false, Bool.false_and] at k
        exact k H (Same.refl H)
    · refine ⟨false, rfl, iteF ?_⟩
      rw [Bool.eq_false_iff.mpr c0, Bool.false_and, Bool.false_and] at k
      exact k H (Same.refl H)
theorem ok__law_is_name {f : Addr} {fd : FuncData} (F : Fun K "_law_is_name" "_law_is_name" s__law_is_name f fd) (N : Nm mg) :
    FnOk P w K mg base CX0 1 f fd ["word"] (sp__law_is_name K) := by
  refine F.ok sc__law_is_name (fun vs H Q E h => ?_) (fun cdv A outer s H vs Q E hr h => ?_)
  · obtain ⟨x, rfl, _⟩ := h
    rfl
  · obtain ⟨x, rfl, hl, k⟩ := h
    refine ⟨_, pss_one (ps_ret (pe_and (pe_chain op_le op_le pe_int (pe_callB call_len_str (by rfl) N.n_len PySem.boot_len (pa_cons (pv 0) pa_nil)) pe_int) (pe_one (pe_callB (cr_all rfl) (by rfl) N.n_all (by decide +kernel) (pa_cons (pe_lc (own := [("char", 1)]) (g := gName 1) (tt := tYes) (te := tOp rInSg (tVar 1) (L2.tC (.str "abcdefghijklmnopqrstuvwxyz"))) rfl sc__law_is_name.nd (pi_str (pv 0)) (blkOk_by (N := n__law_is_name) (sc := defScope s__law_is_name) (by decide +kernel)) (fun _ _ _ _ _ => (pg_name (i := 1) sc__law_is_name.nd rfl (.inl rfl))) (fun _ _ _ _ _ => pts_nil) (fun _ _ _ _ _ => (pe_cmpR op_in_sign (pv 1) pe_str (by rfl)))) pa_nil))))), ?_⟩
    obtain ⟨n1, n2, _⟩ := name_len x
    have hz : x.length ≤ sizeLine := by show x.length ≤ 16777216; omega
    refine ⟨_, rfl, x, rfl, hz, _, _, rfl, rfl, _, rfl, ?_⟩
    unfold nameB at k
    rw [n1]
    refine ite2 (fun c0 => ?_) (fun c0 => ?_)
    · refine ⟨_, _, rfl, rfl, _, rfl, ?_⟩
      rw [n2]
      refine ite2 (fun c1 => ?_) (fun c1 => ?_)
      · rw [c0, c1] at k
        refine ⟨_, rfl, x, rfl, fun D hD => lc_map (walk_str (z := x)) RBl lasts_bl (fun i => smallC ((TL.tl x).getD i 0)) hD (by have : x.cps.size ≤ 1000 := hl; omega) (fun _ _ => trivial) ?_ ?_⟩
        · rintro i y H1 H2 hi s1 ⟨rfl, c, hc, rfl⟩ Nx kk
          have e : (TL.tl x).getD i 0 = c := by rw [List.getD_eq_getElem?_getD, cps_at hc]; rfl
          rw [e] at kk
          exact ⟨rfl, _, rfl, c, _, rfl, rfl, kk _ _ (Same.refl _) rfl⟩
        · intro H1 ws s1 hd p
          have e := paired_bl p
          subst e
          refine ⟨D, _, rfl, .of hd, ?_⟩
          rw [all_bl]
          exact k H1 s1
      · rw [Bool.eq_false_iff.mpr c1, Bool.and_false, Bool.false_and] at k
        exact k H (Same.refl H)
    · refine ⟨false, rfl, iteF ?_⟩
      rw [Bool.eq_false_iff.mpr c0, Bool.false_and, Bool.false_and] at k
      exact k H (Same.refl H)
def sp_number_in (K : PySem.W.Frag) : Sp := fun vs H Q _ => ∃ x : Str, vs = [.str x] ∧ x.length ≤ 1000 ∧ ∀ H' v, Same H H' → Dp K H' v (numD x) → Q v H'
theorem isNum_len {x : Str} (h : isNum (TL.tl x) = true) : x.length ≤ 2 := by
  unfold isNum at h
  simp only [Bool.and_eq_true, decide_eq_true_eq] at h
  rw [TL.len_tl]
  exact h.1.1.2
theorem numD_no {x : Str} (h : isNum (TL.tl x) = false) : numD x = .none := by
  unfold numD
  split
  · rw [h]; rfl
  · rfl
theorem ok_number_in {f : Addr} {fd : FuncData} {k_DIGITS : Tok} (F : Fun K "number_in" "number_in" s_number_in f fd) (N : Nm mg) (M_DIGITS : mg "DIGITS" = some (.str "0123456789" k_DIGITS)) :
    FnOk P w K mg base CX0 1 f fd ["word"] (sp_number_in K) := by
  refine F.ok sc_number_in (fun vs H Q E h => ?_) (fun cdv A outer s H vs Q E hr h => ?_)
  · obtain ⟨x, rfl, _⟩ := h
    rfl
  · obtain ⟨x, rfl, hl, k⟩ := h
    refine ⟨_, pss_cons (ps_if (PW.pt (pw_or (pt_not (pt_chain op_le op_le pe_int (pe_callB call_len_str (by rfl) N.n_len PySem.boot_len (pa_cons (pv 0) pa_nil)) pe_int)) (pw_or1 (pt_not (pt_val (pe_callB (cr_all rfl) (by rfl) N.n_all (by decide +kernel) (pa_cons (pe_lc (own := [("digit", 1)]) (g := gName 1) (tt := tYes) (te := tOp rInSg (tVar 1) (L2.tC (.str "0123456789"))) rfl sc_number_in.nd (pi_str (pv 0)) (blkOk_by (N := n_number_in) (sc := defScope s_number_in) (by decide +kernel)) (fun _ _ _ _ _ => (pg_name (i := 1) sc_number_in.nd rfl (.inl rfl))) (fun _ _ _ _ _ => pts_nil) (fun _ _ _ _ _ => (pe_cmpR op_in_sign (pv 1) (pe_glob rfl M_DIGITS (v := .str "0123456789") ⟨_, rfl⟩) (by rfl)))) pa_nil))))))) (pss_one (ps_ret pe_non)) pss_nil)
      (pss_cons (ps_if (PW.pt (pw_and (pt_cmpR op_eq (pe_callB call_len_str (by rfl) N.n_len PySem.boot_len (pa_cons (pv 0) pa_nil)) pe_int (nomark _)) (pw_and1 (pt_cmpR op_eq (pe_ix ix_str (pv 0) pe_int (fun _ _ => rfl)) pe_str (nomark _))))) (pss_one (ps_ret pe_non)) pss_nil)
      (pss_one (ps_ret (pe_callTy call_int_str (by rfl) N.n_int (by decide +kernel) (pa_cons (pv 0) pa_nil))))), ?_⟩
    obtain ⟨n1, _, n2⟩ := name_len x
    have hz : x.length ≤ sizeLine := by show x.length ≤ 16777216; omega
    have lt := TL.len_tl x
    have kn : isNum (TL.tl x) = false → ∀ H', Same H H' → Q .non H' := fun h H' s => k H' _ s (by rw [numD_no h]; exact .non)
    refine ⟨_, rfl, x, rfl, hz, _, _, rfl, rfl, _, rfl, ?_⟩
    rw [n1]
    refine ite2 (fun c0 => ?_) (fun c0 => ?_)
    · refine ⟨_, _, rfl, rfl, _, rfl, ?_⟩
      rw [n2]
      cases c1 : decide (x.length ≤ 2) with
      | false => exact iteT (kn (by unfold isNum; rw [← lt, c1, Bool.and_false]; rfl) H (Same.refl H))
      | true =>
        refine iteF ⟨_, rfl, x, rfl, fun D hD => lc_map (walk_str (z := x)) RBl lasts_bl (fun i => decide (48 ≤ (TL.tl x).getD i 0) && decide ((TL.tl x).getD i 0 ≤ 57)) hD (by have : x.cps.size ≤ 1000 := hl; omega) (fun _ _ => trivial) ?_ ?_⟩
        · rintro i y H1 H2 hi s1 ⟨rfl, c, hc, rfl⟩ Nx kk
          have e : (TL.tl x).getD i 0 = c := by rw [List.getD_eq_getElem?_getD, cps_at hc]; rfl
          rw [e] at kk
          exact ⟨rfl, _, rfl, c, _, rfl, rfl, kk _ _ (Same.refl _) (congrArg V.bl (dig_in c))⟩
        · intro H1 ws s1 hd p
          have e := paired_bl p
          subst e
          refine ⟨D, _, rfl, .of hd, ?_⟩
          rw [all_bl fun c => decide (48 ≤ c) && decide (c ≤ 57)]
          refine ⟨_, rfl, ?_⟩
          cases c2 : (TL.tl x).all (fun c => decide (48 ≤ c) && decide (c ≤ 57)) with
          | false => exact iteT (kn (by unfold isNum; rw [c2, Bool.and_false]; rfl) H1 s1)
          | true =>
            refine iteF ⟨_, rfl, x, rfl, hz, rfl, _, rfl, ?_⟩
            rw [show decide (V.int (x.length : Int) = V.int 2) = decide (x.length = 2) from nat_eq89 (b := 2)]
            have yes : isNum (TL.tl x) = true → PySem.intText? x = some ((PySem.intText? x).getD 0) ∧ numD x = .int ((PySem.intText? x).getD 0) := fun h => by
              obtain ⟨n, hn, rfl⟩ := (isNum_iff x).mp h
              unfold numD
              rw [num_val n hn, h]
              exact ⟨rfl, rfl⟩
            have fin : isNum (TL.tl x) = true → PySem.intText? x = some ((PySem.intText? x).getD 0) ∧ x.length ≤ 640 ∧ Q (.int ((PySem.intText? x).getD 0)) H1 := fun h => ⟨(yes h).1, by have := of_decide_eq_true c1; omega, k H1 _ s1 (by rw [(yes h).2]; exact .int _)⟩
            refine ite2 (fun c3 => ?_) (fun c3 => ?_)
            · have c3 : x.length = 2 := of_decide_eq_true c3
              obtain ⟨a, ha⟩ : ∃ a, (TL.tl x)[0]? = some a := ⟨_, List.getElem?_eq_getElem (by omega)⟩
              refine ⟨_, rfl, x, 0, a, rfl, rfl, hz, atI_nat (j := 0) ha, rfl, _, rfl, ?_⟩
              have ea : (TL.tl x).getD 0 0 = a := by rw [List.getD_eq_getElem?_getD, ha]; rfl
              have e0 : decide (V.str ⟨#[a]⟩ = V.str "0") = decide (a = 48) := by
                by_cases e : a = 48
                · subst e
                  rw [decide_eq_true rfl, decide_eq_true]
                  exact congrArg V.str (TL.ext_tl (by decide +kernel))
                · rw [decide_eq_false e, decide_eq_false]
                  intro z
                  injection z with z
                  have z := congrArg TL.tl z
                  rw [show TL.tl "0" = [48] by decide +kernel] at z
                  exact e (List.cons.inj z).1
              rw [e0]
              refine ite2 (fun c4 => ?_) (fun c4 => ?_)
              · refine kn ?_ H1 s1
                unfold isNum
                rw [ea, c4, ← lt, decide_eq_true c3, Bool.and_self, Bool.not_true, Bool.and_false]
              · obtain ⟨f1, f2, f3⟩ := fin (by
                  unfold isNum
                  rw [ea, Bool.eq_false_iff.mpr c4, ← lt, c0, c1, c2]
                  simp)
                exact ⟨_, rfl, x, _, rfl, f1, f2, f3⟩
            · obtain ⟨f1, f2, f3⟩ := fin (by
                unfold isNum
                rw [← lt, c0, c1, c2, Bool.eq_false_iff.mpr c3]
                simp)
              exact ⟨_, rfl, x, _, rfl, f1, f2, f3⟩
    · refine ⟨false, rfl, iteT (kn ?_ H (Same.refl H))⟩
      unfold isNum
      rw [← lt, Bool.eq_false_iff.mpr c0, Bool.false_and, Bool.false_and, Bool.false_and]
def sp__law_number (K : PySem.W.Frag) : Sp := sp_number_in K
theorem ok__law_number {f : Addr} {fd : FuncData} (F : Fun K "_law_number" "_law_number" s__law_number f fd) (N : Nm mg) :
    FnOk P w K mg base CX0 1 f fd ["word"] (sp__law_number K) := by
  refine F.ok sc__law_number (fun vs H Q E h => ?_) (fun cdv A outer s H vs Q E hr h => ?_)
  · obtain ⟨x, rfl, _⟩ := h
    rfl
  · obtain ⟨x, rfl, hl, k⟩ := h
    refine ⟨_, pss_cons (ps_if (pt_cmpR op_notIn_seq (pv 0) (pe_lc (own := [("number", 1)]) (g := gName 1) (tt := tYes) (te := tCB rStrI (tCons (tVar 1) (tNil))) rfl sc__law_number.nd (pi_range1 (by rfl) N.n_range (pa_cons pe_int pa_nil)) (blkOk_by (N := n__law_number) (sc := defScope s__law_number) (by decide +kernel)) (fun _ _ _ _ _ => (pg_name (i := 1) sc__law_number.nd rfl (.inl rfl))) (fun _ _ _ _ _ => pts_nil) (fun _ _ _ _ _ => (pe_callTy call_str_int (by rfl) N.n_str (by decide +kernel) (pa_cons (pv 1) pa_nil)))) (by rfl)) (pss_one (ps_ret pe_non)) pss_nil)
      (pss_one (ps_ret (pe_callTy call_int_str (by rfl) N.n_int (by decide +kernel) (pa_cons (pv 0) pa_nil)))), ?_⟩
    refine ⟨_, rfl, 100, rfl, by decide, by decide, fun D hD => ?_⟩
    refine lc_map (walk_range (lo := 0)) (fun _ v (n : Nat) => v = .str (numS n)) (fun _ _ _ _ _ h => h) (fun i => i) hD (by decide) (fun _ _ => trivial) ?_ ?_
    · rintro i y H1 H2 hi s1 ⟨rfl, rfl⟩ Nx kk
      have hi : i < 100 := hi
      refine ⟨rfl, _, rfl, _, rfl, ?_, kk _ _ (Same.refl _) ?_⟩
      · show (0 + (i : Int)).natAbs.log2 < 1920
        have : (0 + (i : Int)).natAbs < 128 := by omega
        by_cases z : (0 + (i : Int)).natAbs = 0
        · rw [z]; decide
        · exact Nat.lt_trans ((Nat.log2_lt z).mpr (Nat.lt_of_lt_of_le this (by decide : 128 ≤ 2 ^ 7))) (by decide)
      · show V.str _ = V.str (numS i)
        unfold numS
        rw [Int.zero_add]
    · intro H1 ws s1 hd p
      have ew : ws = ((List.range 100).map numS).map V.str := by
        clear hd
        rw [List.map_map]
        have q : ∀ {xs : List V} {ys : List Nat}, Paired (fun v (n : Nat) => v = V.str (numS n)) xs ys → xs = ys.map (V.str ∘ numS) := by
          intro xs ys h
          induction h with
          | nil => rfl
          | cons h r ih => rw [h, ih]; rfl
        have := q p
        rw [List.map_id'] at this
        exact this
      subst ew
      refine ⟨D, _, rfl, .inl (.of hd), rfl, flat_strs _, ?_⟩
      refine ⟨_, rfl, ?_⟩
      show if (!inV (.str x) (((List.range 100).map numS).map V.str)) = true then _ else _
      rw [inV_strs]
      have iff : decide (x ∈ (List.range 100).map numS) = isNum (TL.tl x) := by
        apply Bool.eq_iff_iff.mpr
        rw [decide_eq_true_eq, isNum_iff]
        constructor
        · intro h
          obtain ⟨n, hn, e⟩ := List.mem_map.mp h
          exact ⟨n, List.mem_range.mp hn, e.symm⟩
        · rintro ⟨n, hn, rfl⟩
          exact List.mem_map.mpr ⟨n, List.mem_range.mpr hn, rfl⟩
      rw [iff]
      cases c : isNum (TL.tl x) with
      | false => exact iteT (k H1 _ s1 (by rw [numD_no c]; exact .non))
      | true =>
        obtain ⟨n, hn, rfl⟩ := (isNum_iff x).mp c
        refine iteF ⟨_, rfl, _, (n : Int), rfl, num_val n hn, by have := isNum_len c; omega, k H1 _ s1 ?_⟩
        unfold numD
        rw [num_val n hn, c]
        exact .int _
end
end L2.Px

namespace L2.Px
open PySem PySem.Spec PyProof.Rows
/-! ### texts that can be shown -/
def lowC (c : Nat) : Bool := decide (c < 16 ^ 8)
structure OkS (x : Str) (n : Nat) : Prop where
  l : x.length ≤ n
  c : (TL.tl x).all lowC = true
theorem OkS.mono {x : Str} {n m : Nat} (h : OkS x n) (k : n ≤ m) : OkS x m := ⟨Nat.le_trans h.l k, h.c⟩
theorem joinL_all (g : Nat → Bool) (s : List Nat) (hs : s.all g = true) : ∀ ps : List (List Nat), (∀ p ∈ ps, p.all g = true) → (TL.joinL s ps).all g = true
  | [], _ => rfl
  | [p], h => h p List.mem_cons_self
  | p :: q :: r, h => by
    show (p ++ (s ++ TL.joinL s (q :: r))).all g = true
    rw [List.all_append, List.all_append, h p List.mem_cons_self, hs, joinL_all g s hs (q :: r) fun z hz => h z (List.mem_cons_of_mem _ hz)]
    rfl
theorem join_ok {a : Str} {ys : List Str} {n : Nat} (ha : (TL.tl a).all lowC = true) (hy : ∀ y ∈ ys, (TL.tl y).all lowC = true) (hn : (ys.map (·.length)).sum + ys.length * a.length ≤ n) : OkS (Txt.join a ys) n := by
  refine ⟨Nat.le_trans (join_len a ys) hn, ?_⟩
  rw [TL.join_eq, TL.tl_join]
  refine joinL_all lowC _ ha _ fun p hp => ?_
  obtain ⟨y, h, rfl⟩ := List.mem_map.mp hp
  exact hy y h
theorem split_ok {x y : Str} {n : Nat} (h : OkS x n) (hy : y ∈ Txt.split x " ") : OkS y n := by
  refine ⟨Nat.le_trans (split_len hy) h.l, ?_⟩
  have e := split_all lowC x
  have t : ((TL.tl x).all fun c => c == 32 || lowC c) = true := List.all_eq_true.mpr fun c hc => by rw [List.all_eq_true.mp h.c c hc, Bool.or_true]
  rw [t, List.all_eq_true] at e
  exact e y hy
theorem app_ok {x y : Str} {n m : Nat} (hx : OkS x n) (hy : OkS y m) : OkS (x ++ y) (n + m) := by
  refine ⟨by rw [Str.length_append]; have := hx.l; have := hy.l; omega, ?_⟩
  rw [TL.tl_append, List.all_append, hx.c, hy.c]
  rfl
def chS (z : Str) (j : Int) : Str := ⟨#[(TL.tl z).getD j.toNat 0]⟩
theorem chs_len (z : Str) (j : Int) : (chS z j).length = 1 := rfl
theorem chs_ok {z : Str} (hz : (TL.tl z).all lowC = true) (j : Int) : (TL.tl (chS z j)).all lowC = true := by
  show (lowC ((TL.tl z).getD j.toNat 0) && true) = true
  rw [Bool.and_true]
  by_cases h : j.toNat < (TL.tl z).length
  · rw [List.getD_eq_getElem?_getD, List.getElem?_eq_getElem h]
    exact List.all_eq_true.mp hz _ (List.getElem_mem h)
  · rw [List.getD_eq_getElem?_getD, List.getElem?_eq_none (by omega)]
    decide
theorem chs_at {z : Str} {j : Int} (h0 : 0 ≤ j) (h1 : j < ((TL.tl z).length : Nat)) : atI z.cps.toList j = some ((TL.tl z).getD j.toNat 0) := by
  obtain ⟨m, rfl⟩ := Int.eq_ofNat_of_zero_le h0
  rw [Int.toNat_natCast]
  refine atI_nat (j := m) ?_
  have h : m < (TL.tl z).length := by omega
  show (TL.tl z)[m]? = _
  rw [List.getD_eq_getElem?_getD, List.getElem?_eq_getElem h]
  rfl
abbrev RStr : Hp → V → Str → Prop := fun _ v x => v = .str x
theorem lasts_str : Lasts RStr := fun _ _ _ _ _ h => h
theorem paired_str {H : Hp} {xs : List V} {ys : List Str} (h : Paired (RStr H) xs ys) : xs = ys.map V.str := by
  induction h with
  | nil => rfl
  | cons h r ih => rw [h, ih]; rfl
theorem ones (z : Str) (f : Nat → Int) (n : Nat) : (((List.range n).map fun i => chS z (f i)).map (·.length)).sum = n := by
  rw [List.map_map]
  have : ∀ l : List Nat, (l.map ((·.length) ∘ fun i => chS z (f i))).sum = l.length := by
    intro l
    induction l with
    | nil => rfl
    | cons x l ih => rw [List.map_cons, List.sum_cons, ih, List.length_cons]; show 1 + _ = _; omega
  rw [this, List.length_range]
theorem ok_line {z : Str} (hz : (TL.tl z).all lowC = true) (f : Nat → Int) (n : Nat) : ((((List.range n).map fun i => chS z (f i)).map (·.length)).sum + ((List.range n).map fun i => chS z (f i)).length * (Str.ofString "").length ≤ n) ∧ OkS (Txt.join (Str.ofString "") ((List.range n).map fun i => chS z (f i))) n := by
  have e : (((List.range n).map fun i => chS z (f i)).map (·.length)).sum + ((List.range n).map fun i => chS z (f i)).length * (Str.ofString "").length ≤ n := by
    rw [ones, show (Str.ofString "").length = 0 from rfl]
    omega
  refine ⟨e, join_ok rfl (fun y hy => ?_) e⟩
  obtain ⟨i, _, rfl⟩ := List.mem_map.mp hy
  exact chs_ok hz _
theorem wt_strs : ∀ l : List Str, PyData.weightAll (l.map PyData.str) ≤ (l.map (·.length)).sum + l.length
  | [] => Nat.zero_le _
  | x :: l => by
    have h := wt_strs l
    have e : PyData.weight (.str x) = x.length := rfl
    show PyData.weight (.str x) + 1 + PyData.weightAll (l.map PyData.str) ≤ _
    rw [List.map_cons, List.sum_cons, List.length_cons]
    omega
theorem filt_range {l : List Str} (g : Str → Option Str) : (List.range l.length).filterMap (fun i => g (l.getD i Str.empty)) = l.filterMap g := by
  have e : l = (List.range l.length).map fun i => l.getD i Str.empty := by
    refine List.ext_getElem (by simp) fun i h1 h2 => ?_
    rw [List.getElem_map, List.getElem_range, List.getD_eq_getElem?_getD, List.getElem?_eq_getElem h1]
    rfl
  conv => rhs; rw [e]
  rw [List.filterMap_map]
  rfl
def keepS (y : Str) : Option Str := if y = Str.empty then none else some y
theorem keep_filter (l : List Str) : l.filterMap keepS = l.filter fun y => decide (y ≠ Str.empty) := by
  induction l with
  | nil => rfl
  | cons y l ih =>
    rw [List.filterMap_cons, List.filter_cons, ih]
    unfold keepS
    by_cases c : y = Str.empty
    · rw [if_pos c, decide_eq_false (fun z => z c)]
      rfl
    · rw [if_neg c, decide_eq_true c]
      rfl
theorem dep_strs : ∀ l : List Str, PyData.depthAll (l.map PyData.str) = 0
  | [] => rfl
  | x :: l => by
    show max (PyData.depth (.str x)) (PyData.depthAll (l.map PyData.str)) = 0
    rw [dep_strs l]
    rfl
theorem sml_words {x : Str} {n : Nat} (h : OkS x n) (hn : n ≤ 1000) : Sml (wordsD x) := by
  unfold wordsD
  split
  · have hs := (split_size x).2
    have hl := h.l
    refine ⟨?_, ?_, ?_⟩
    · show smAll ((Txt.split x " ").map PyData.str) = true
      have : ∀ l : List Str, (∀ y ∈ l, (TL.tl y).all lowC = true) → smAll (l.map PyData.str) = true := by
        intro l
        induction l with
        | nil => exact fun _ => rfl
        | cons y l ih =>
          intro h
          show (sm (.str y) && smAll (l.map PyData.str)) = true
          rw [ih fun z hz => h z (List.mem_cons_of_mem _ hz), Bool.and_true]
          exact h y List.mem_cons_self
      exact this _ fun y hy => (split_ok h hy).c
    · show PyData.depthAll ((Txt.split x " ").map PyData.str) + 1 ≤ 60
      rw [dep_strs]
      decide
    · show PyData.weightAll ((Txt.split x " ").map PyData.str) ≤ 700000
      have := wt_strs (Txt.split x " ")
      have := (split_size x).1
      omega
  · exact ⟨rfl, by decide, by decide⟩
theorem sml_num (x : Str) : Sml (numD x) := by
  unfold numD
  split
  · rename_i n hn
    split
    · rename_i hx
      obtain ⟨m, hm, rfl⟩ := (isNum_iff x).mp hx
      rw [num_val m hm] at hn
      cases hn
      have t : ∀ m : Nat, m < 100 → sm (.int (m : Int)) = true ∧ PyData.depth (.int (m : Int)) ≤ 60 ∧ PyData.weight (.int (m : Int)) ≤ 700000 := by decide +kernel
      exact ⟨(t m hm).1, (t m hm).2.1, (t m hm).2.2⟩
    · exact ⟨rfl, by decide, by decide⟩
  · exact ⟨rfl, by decide, by decide⟩
abbrev sp__law_cell (K : PySem.W.Frag) : Sp := spCell K
abbrev sp__law_values (K : PySem.W.Frag) : Sp := spValues
theorem c0_low : (TL.tl (Str.ofString "abcxyzABC  0123456789()-+~#:,  \"\n\t")).all lowC = true := by decide +kernel
theorem c0_len : (TL.tl (Str.ofString "abcxyzABC  0123456789()-+~#:,  \"\n\t")).length = 34 := by decide +kernel
theorem c1_low : (TL.tl (Str.ofString "abcz")).all lowC = true := by decide +kernel
theorem c1_len : (TL.tl (Str.ofString "abcz")).length = 4 := by decide +kernel
theorem c2_low : (TL.tl (Str.ofString "0123456789")).all lowC = true := by decide +kernel
theorem c2_len : (TL.tl (Str.ofString "0123456789")).length = 10 := by decide +kernel
section
variable {P : Program} {w : World} {K : PySem.W.Frag} {mg : Str → Option Value} {base : Heap}
abbrev PL4 (K : PySem.W.Frag) (a : Addr) (ns : List Int) (σ : St) (H : Hp) : Prop := ∃ (L : Addr) (x : Str), σ = [some (.ref a), some (.str "abcxyzABC  0123456789()-+~#:,  \"\n\t"), some (.ref L), some (.str x), none, none, none, none, none, none] ∧ SqL K H a (iV ns) ∧ OkS x 100
def sp_law (K : PySem.W.Frag) : Sp := fun vs H Q _ => ∃ (a : Addr) (ns : List Int), vs = [.ref a] ∧ SqL K H a (iV ns) ∧ ns.length ≤ 63 ∧ ∀ H', Q (.bl true) H'
theorem ok_law {f : Addr} {fd : FuncData} {f__law_values : Addr} {d__law_values : FuncData} {f__law_cell : Addr} {d__law_cell : FuncData} {f_words_of : Addr} {d_words_of : FuncData} {f__law_words : Addr} {d__law_words : FuncData} {f_is_name : Addr} {d_is_name : FuncData} {f__law_is_name : Addr} {d__law_is_name : FuncData} {f_number_in : Addr} {d_number_in : FuncData} {f__law_number : Addr} {d__law_number : FuncData} (F : Fun K "law" "law" s_law f fd) (N : Nm mg)
    (t__law_values : At K mg "_law_values" s__law_values ["cell", "count", "size"] f__law_values d__law_values) (G__law_values : FnOk P w K mg base CX0 1 f__law_values d__law_values ["cell", "count", "size"] (sp__law_values K))
    (t__law_cell : At K mg "_law_cell" s__law_cell ["script", "k"] f__law_cell d__law_cell) (G__law_cell : FnOk P w K mg base CX0 1 f__law_cell d__law_cell ["script", "k"] (sp__law_cell K))
    (t_words_of : At K mg "words_of" s_words_of ["line"] f_words_of d_words_of) (G_words_of : FnOk P w K mg base CX0 2 f_words_of d_words_of ["line"] (sp_words_of K))
    (t__law_words : At K mg "_law_words" s__law_words ["line"] f__law_words d__law_words) (G__law_words : FnOk P w K mg base CX0 2 f__law_words d__law_words ["line"] (sp__law_words K))
    (t_is_name : At K mg "is_name" s_is_name ["word"] f_is_name d_is_name) (G_is_name : FnOk P w K mg base CX0 1 f_is_name d_is_name ["word"] (sp_is_name K))
    (t__law_is_name : At K mg "_law_is_name" s__law_is_name ["word"] f__law_is_name d__law_is_name) (G__law_is_name : FnOk P w K mg base CX0 1 f__law_is_name d__law_is_name ["word"] (sp__law_is_name K))
    (t_number_in : At K mg "number_in" s_number_in ["word"] f_number_in d_number_in) (G_number_in : FnOk P w K mg base CX0 1 f_number_in d_number_in ["word"] (sp_number_in K))
    (t__law_number : At K mg "_law_number" s__law_number ["word"] f__law_number d__law_number) (G__law_number : FnOk P w K mg base CX0 1 f__law_number d__law_number ["word"] (sp__law_number K)) :
    GFn P w K mg base 3 f fd ["script"] (sp_law K) := by
  refine gfn_of F sc_law (fun vs H Q E h => ?_) (fun cdv A outer s H vs Q E hg hr h => ?_)
  · obtain ⟨a, ns, rfl, _⟩ := h
    rfl
  · obtain ⟨a, ns, rfl, hS, _, k⟩ := h
    have hu := hr.units
    refine cut2 ((defBody s_law).drop 4) (PL4 K a ns) ?_ fun u4 p4 q4 => ?_
    · refine ⟨_, pss_cons (ps_if (pt_cmpR op_ne (pe_callB (cr_reprS hg hu) (by rfl) N.n_repr (by decide +kernel) (pa_cons (pe_call G_words_of (hr.mono (by decide)) rfl t_words_of.g t_words_of.F.kp t_words_of.b .nil pass0 (pa_cons (pv 3) pa_nil)) pa_nil)) (pe_callB (cr_reprS hg hu) (by rfl) N.n_repr (by decide +kernel) (pa_cons (pe_call G__law_words (hr.mono (by decide)) rfl t__law_words.g t__law_words.F.kp t__law_words.b .nil pass0 (pa_cons (pv 3) pa_nil)) pa_nil)) (nomark _)) (pss_one (ps_ret pe_bl)) pss_nil)
      (pss_cons (ps_set (i := 5) sc_law.nd rfl (.inl rfl) (pe_join pe_str (pe_lc (own := [("value", 9)]) (g := gName 9) (tt := tYes) (te := tOp (rIxS) (L2.tC (.str "abcz")) (tOp (rI (fun _ j => 0 < j) fun i j => .int (i % j)) (tVar 9) (L2.tC (.int 4)))) rfl sc_law.nd (pi_list (pe_call G__law_values (hr.mono (by decide)) rfl t__law_values.g t__law_values.F.kp t__law_values.b .nil pass0 (pa_cons (pe_call G__law_cell (hr.mono (by decide)) rfl t__law_cell.g t__law_cell.F.kp t__law_cell.b .nil pass0 (pa_cons (pv 0) (pa_cons pe_int pa_nil))) (pa_cons (pe_op op_mod (pe_call G__law_cell (hr.mono (by decide)) rfl t__law_cell.g t__law_cell.F.kp t__law_cell.b .nil pass0 (pa_cons (pv 0) (pa_cons pe_int pa_nil))) pe_int) (pa_cons pe_int pa_nil))))) (blkOk_by (N := n_law) (sc := defScope s_law) (by decide +kernel)) (fun _ _ _ _ _ => (pg_name (i := 9) sc_law.nd rfl (.inl rfl))) (fun _ _ _ _ _ => pts_nil) (fun _ _ _ _ _ => (pe_ix ix_str pe_str (pe_op op_mod (pv 9) pe_int) (fun _ _ => rfl))))))
      (pss_cons (ps_set (i := 6) sc_law.nd rfl (.inl rfl) (pe_call G__law_values (hr.mono (by decide)) rfl t__law_values.g t__law_values.F.kp t__law_values.b .nil pass0 (pa_cons (pe_call G__law_cell (hr.mono (by decide)) rfl t__law_cell.g t__law_cell.F.kp t__law_cell.b .nil pass0 (pa_cons (pv 0) (pa_cons pe_int pa_nil))) (pa_cons (pe_op op_mod (pe_call G__law_cell (hr.mono (by decide)) rfl t__law_cell.g t__law_cell.F.kp t__law_cell.b .nil pass0 (pa_cons (pv 0) (pa_cons pe_int pa_nil))) pe_int) (pa_cons pe_int pa_nil)))))
      (pss_cons (ps_set (i := 7) sc_law.nd rfl (.inl rfl) (pe_join pe_str (pe_lc (own := [("value", 9)]) (g := gName 9) (tt := tYes) (te := tOp (rIxS) (L2.tC (.str "0123456789")) (tOp (rI (fun _ j => 0 < j) fun i j => .int (i % j)) (tVar 9) (L2.tC (.int 10)))) rfl sc_law.nd (pi_list (pv 6)) (blkOk_by (N := n_law) (sc := defScope s_law) (by decide +kernel)) (fun _ _ _ _ _ => (pg_name (i := 9) sc_law.nd rfl (.inl rfl))) (fun _ _ _ _ _ => pts_nil) (fun _ _ _ _ _ => (pe_ix ix_str pe_str (pe_op op_mod (pv 9) pe_int) (fun _ _ => rfl))))))
      (pss_cons (ps_set (i := 8) sc_law.nd rfl (.inl rfl) (pe_op op_cat (pe_split (pv 3) pe_str) (pe_lst (pa_cons (pv 5) (pa_cons (pv 7) (pa_cons (pe_op op_add_str pe_str (pv 7)) (pa_cons (pe_op op_add_str pe_str (pv 7)) (pa_cons pe_str (pa_cons pe_str (pa_cons pe_str (pa_cons pe_str (pa_cons pe_str (pa_cons pe_str (pa_cons pe_str (pa_cons pe_str pa_nil)))))))))))))))
      (pss_cons (ps_for PassesOwn.never rfl (pi_list (pv 8)) (pg_name (i := 4) sc_law.nd rfl (.inl rfl)) (pss_one (ps_if (PW.pt (pw_or (pt_cmpR op_ne (pe_callB (cr_reprS hg hu) (by rfl) N.n_repr (by decide +kernel) (pa_cons (pe_call G_is_name (hr.mono (by decide)) rfl t_is_name.g t_is_name.F.kp t_is_name.b .nil pass0 (pa_cons (pv 4) pa_nil)) pa_nil)) (pe_callB (cr_reprS hg hu) (by rfl) N.n_repr (by decide +kernel) (pa_cons (pe_call G__law_is_name (hr.mono (by decide)) rfl t__law_is_name.g t__law_is_name.F.kp t__law_is_name.b .nil pass0 (pa_cons (pv 4) pa_nil)) pa_nil)) (nomark _)) (pw_or1 (pt_cmpR op_ne (pe_callB (cr_reprS hg hu) (by rfl) N.n_repr (by decide +kernel) (pa_cons (pe_call G_number_in (hr.mono (by decide)) rfl t_number_in.g t_number_in.F.kp t_number_in.b .nil pass0 (pa_cons (pv 4) pa_nil)) pa_nil)) (pe_callB (cr_reprS hg hu) (by rfl) N.n_repr (by decide +kernel) (pa_cons (pe_call G__law_number (hr.mono (by decide)) rfl t__law_number.g t__law_number.F.kp t__law_number.b .nil pass0 (pa_cons (pv 4) pa_nil)) pa_nil)) (nomark _))))) (pss_one (ps_ret pe_bl)) pss_nil)))
      (pss_one (ps_ret pe_bl))))))), ?_⟩
      rintro σ H1 ⟨L, x, rfl, hS, hx⟩
      have xl := hx.l
      have SX := sml_words hx (by decide)
      refine ⟨_, rfl, x, rfl, by omega, fun H2 v2 s2 hv2 => ⟨v2, wordsD x, rfl, hv2, SX.a, SX.b, SX.c, _, rfl, x, rfl, by omega, fun H3 v3 s3 hv3 => ⟨v3, wordsD x, rfl, hv3, SX.a, SX.b, SX.c, rfl, _, rfl, iteNS rfl ?_⟩⟩⟩
      have hS3 := (s2.trans s3).seq hS
      have m0 : 0 ≤ ns.getD 4 0 % 15 := Int.emod_nonneg _ (by decide)
      have m1 : ns.getD 4 0 % 15 < 15 := Int.emod_lt_of_pos _ (by decide)
      obtain ⟨n, hn⟩ := Int.eq_ofNat_of_zero_le m0
      refine ⟨⟨_, rfl⟩, .ref a, rfl, a, ns, 3, rfl, hS3, .ref a, rfl, a, ns, 4, rfl, hS3, _, _, rfl, rfl, (by decide : (0 : Int) < 15), ns.getD 3 0, 97, n, by rw [← hn]; rfl, by omega, by decide, by decide, fun H4 L4 l4 s4 hL4 nL4 ll4 bl4 => ?_⟩
      refine ⟨L4, rfl, ⟨_, .of hL4⟩, fun D hD => lc_map (walk_list (K := K) (a := L4) (xs := iV l4)) RStr lasts_str (fun i => chS "abcz" (l4.getD i 0 % 4)) hD (by rw [List.length_map]; omega) (fun H' s => s.seq (.of hL4)) ?_ ?_⟩
      · rintro i y H5 H6 hi s5 ⟨rfl, hy⟩ Nx kk
        obtain ⟨v, hv, rfl⟩ := iV_get hy
        have e : l4.getD i 0 = v := by rw [List.getD_eq_getElem?_getD, hv]; rfl
        rw [e] at kk
        have b0 : 0 ≤ v % 4 := Int.emod_nonneg _ (by decide)
        have b1 : v % 4 < 4 := Int.emod_lt_of_pos _ (by decide)
        exact ⟨rfl, _, rfl, _, _, rfl, rfl, (by decide : (0 : Int) < 4), _, v % 4, _, rfl, rfl, by show 4 ≤ 16777216; decide, chs_at b0 (by rw [c1_len]; omega), kk _ _ (Same.refl _) rfl⟩
      intro H5 ws s5 hd5 p5
      have ew := paired_str p5
      subst ew
      have ln : (iV l4).length = n := by rw [List.length_map]; exact ll4
      obtain ⟨z1, z2⟩ := ok_line c1_low (fun i => l4.getD i 0 % 4) (iV l4).length
      refine ⟨_, D, _, rfl, rfl, .inl (.of hd5), by omega, ?_⟩
      have hlong := z2.mono (show (iV l4).length ≤ 100 by omega)
      generalize Txt.join (Str.ofString "") ((List.range (iV l4).length).map fun i => chS "abcz" (l4.getD i 0 % 4)) = lg at hlong
      have hS5 := (s4.trans s5).seq hS3
      have w0 : 0 ≤ ns.getD 4 0 % 4 := Int.emod_nonneg _ (by decide)
      have w1 : ns.getD 4 0 % 4 < 4 := Int.emod_lt_of_pos _ (by decide)
      obtain ⟨n6, hn6⟩ := Int.eq_ofNat_of_zero_le w0
      refine ⟨.ref a, rfl, a, ns, 5, rfl, hS5, .ref a, rfl, a, ns, 4, rfl, hS5, _, _, rfl, rfl, (by decide : (0 : Int) < 4), ns.getD 5 0, 97, n6, by rw [← hn6]; rfl, by omega, by decide, by decide, fun H6 L6 l6 s6 hL6 nL6 ll6 bl6 => ?_⟩
      refine ⟨⟨_, rfl⟩, _, rfl, L6, rfl, ⟨_, .of hL6⟩, fun D6 hD6 => lc_map (walk_list (K := K) (a := L6) (xs := iV l6)) RStr lasts_str (fun i => chS "0123456789" (l6.getD i 0 % 10)) hD6 (by rw [List.length_map]; omega) (fun H' s => s.seq (.of hL6)) ?_ ?_⟩
      · rintro i y H7 H8 hi s7 ⟨rfl, hy⟩ Nx kk
        obtain ⟨v, hv, rfl⟩ := iV_get hy
        have e : l6.getD i 0 = v := by rw [List.getD_eq_getElem?_getD, hv]; rfl
        rw [e] at kk
        have b0 : 0 ≤ v % 10 := Int.emod_nonneg _ (by decide)
        have b1 : v % 10 < 10 := Int.emod_lt_of_pos _ (by decide)
        exact ⟨rfl, _, rfl, _, _, rfl, rfl, (by decide : (0 : Int) < 10), _, v % 10, _, rfl, rfl, by show 10 ≤ 16777216; decide, chs_at b0 (by rw [c2_len]; omega), kk _ _ (Same.refl _) rfl⟩
      intro H7 ws s7 hd7 p7
      have ew := paired_str p7
      subst ew
      have ln6 : (iV l6).length = n6 := by rw [List.length_map]; exact ll6
      obtain ⟨y1, y2⟩ := ok_line c2_low (fun i => l6.getD i 0 % 10) (iV l6).length
      refine ⟨_, D6, _, rfl, rfl, .inl (.of hd7), by omega, ?_⟩
      have hdg := y2.mono (show (iV l6).length ≤ 100 by omega)
      generalize Txt.join (Str.ofString "") ((List.range (iV l6).length).map fun i => chS "0123456789" (l6.getD i 0 % 10)) = dg at hdg
      have hs := split_size x
      have dl := hdg.l
      have c1 : (Str.ofString "0").length = 1 := rfl
      have c2 : (Str.ofString "-").length = 1 := rfl
      refine ⟨_, rfl, ⟨x, rfl⟩, x, _, rfl, rfl, by decide +kernel, by show x.length + 2 ≤ 16777216; omega, fun p hp => ?_⟩
      refine ⟨_, rfl, _, rfl, _, rfl, _, _, rfl, rfl, by show _ ≤ 16777216; rw [c1]; omega, _, rfl, _, _, rfl, rfl, by show _ ≤ 16777216; rw [c2]; omega, by show 12 ≤ sizeLine; decide, fun D8 hD8 => ?_⟩
      have sp := Same.upd (o := .lst ((Txt.split x " ").map V.str)) hp
      have s8 := Same.upd (o := .lst ([V.str lg, .str dg, .str (Str.ofString "0" ++ dg), .str (Str.ofString "-" ++ dg), .str "+1", .str "", .str "-", .str "a1", .str "aA", .str "99", .str "100", .str "00"])) hD8
      have hp8 := s8 _ _ (upd_same (H := H7) (a := p) (o := .lst ((Txt.split x " ").map V.str)))
      refine ⟨p, D8, _, _, rfl, rfl, hp8, upd_same, by rw [List.length_map]; show _ + 12 ≤ 16777216; omega, fun D9 hD9 => ?_⟩
      have hD9' := upd_same (H := upd (upd H7 p (.lst ((Txt.split x " ").map V.str))) D8 (.lst ([V.str lg, .str dg, .str (Str.ofString "0" ++ dg), .str (Str.ofString "-" ++ dg), .str "+1", .str "", .str "-", .str "a1", .str "aA", .str "99", .str "100", .str "00"]))) (a := D9) (o := .lst ((Txt.split x " ").map V.str ++ [V.str lg, .str dg, .str (Str.ofString "0" ++ dg), .str (Str.ofString "-" ++ dg), .str "+1", .str "", .str "-", .str "a1", .str "aA", .str "99", .str "100", .str "00"]))
      have okA : ∀ u ∈ Txt.split x " " ++ [lg, dg, Str.ofString "0" ++ dg, Str.ofString "-" ++ dg, "+1", "", "-", "a1", "aA", "99", "100", "00"], OkS u 1000 := by
        have cn : ∀ u ∈ ([Str.ofString "+1", "", "-", "a1", "aA", "99", "100", "00"] : List Str), u.length ≤ 1000 ∧ (TL.tl u).all lowC = true := by decide +kernel
        have k0 : OkS (Str.ofString "0") 1 := ⟨Nat.le_refl _, by decide +kernel⟩
        have k1 : OkS (Str.ofString "-") 1 := ⟨Nat.le_refl _, by decide +kernel⟩
        intro u hu
        rcases List.mem_append.mp hu with h | h
        · exact (split_ok hx h).mono (by decide)
        rcases List.mem_cons.mp h with h | h
        · rw [h]; exact hlong.mono (by decide)
        rcases List.mem_cons.mp h with h | h
        · rw [h]; exact hdg.mono (by decide)
        rcases List.mem_cons.mp h with h | h
        · rw [h]; exact (app_ok k0 hdg).mono (by decide)
        rcases List.mem_cons.mp h with h | h
        · rw [h]; exact (app_ok k1 hdg).mono (by decide)
        exact ⟨(cn u h).1, (cn u h).2⟩
      generalize upd (upd (upd H7 p (.lst ((Txt.split x " ").map V.str))) D8 (.lst ([V.str lg, .str dg, .str (Str.ofString "0" ++ dg), .str (Str.ofString "-" ++ dg), .str "+1", .str "", .str "-", .str "a1", .str "aA", .str "99", .str "100", .str "00"]))) D9 (.lst ((Txt.split x " ").map V.str ++ [V.str lg, .str dg, .str (Str.ofString "0" ++ dg), .str (Str.ofString "-" ++ dg), .str "+1", .str "", .str "-", .str "a1", .str "aA", .str "99", .str "100", .str "00"])) = H9 at hD9'
      rw [show [V.str lg, .str dg, .str (Str.ofString "0" ++ dg), .str (Str.ofString "-" ++ dg), .str "+1", .str "", .str "-", .str "a1", .str "aA", .str "99", .str "100", .str "00"] = [lg, dg, Str.ofString "0" ++ dg, Str.ofString "-" ++ dg, "+1", "", "-", "a1", "aA", "99", "100", "00"].map V.str from rfl, ← List.map_append] at hD9'
      generalize Txt.split x " " ++ [lg, dg, Str.ofString "0" ++ dg, Str.ofString "-" ++ dg, "+1", "", "-", "a1", "aA", "99", "100", "00"] = W at hD9' okA
      refine ⟨_, rfl, D9, rfl, ⟨_, .of hD9'⟩, ?_⟩
      refine for_it (walk_list (K := K) (a := D9) (xs := W.map V.str)) (fun i σ H' => ∃ y4 : Option V, σ = [some (.ref a), some (.str "abcxyzABC  0123456789()-+~#:,  \"\n\t"), some (.ref L), some (.str x), y4, some (.str lg), some (.ref L6), some (.str dg), some (.ref D9), none] ∧ Same H9 H') ⟨none, rfl, Same.refl _⟩ (fun i σ H' _ ⟨_, _, s⟩ => s.seq (.of hD9')) ?_ ?_
      · rintro i y σ H10 H11 hi ⟨y4, rfl, s10⟩ ⟨rfl, hy⟩
        obtain ⟨u, hu, rfl⟩ : ∃ u, W[i]? = some u ∧ y = .str u := by
          rw [List.getElem?_map] at hy
          cases e : W[i]? with
          | none => rw [e] at hy; cases hy
          | some u => rw [e] at hy; exact ⟨u, rfl, (Option.some.inj hy).symm⟩
        have ou := okA u (List.mem_of_getElem? hu)
        have SN := sml_num u
        have ub := ou.l
        have bw : ∀ b : Bool, sm (.bool b) = true ∧ PyData.depth (.bool b) ≤ 60 ∧ PyData.weight (.bool b) ≤ 700000 := by decide
        obtain ⟨g1, g2, g3⟩ := bw (nameB u)
        refine ⟨_, rfl, u, rfl, ub, fun H12 s12 => ⟨_, .bool (nameB u), rfl, .bl _, g1, g2, g3, _, rfl, u, rfl, ub, fun H13 s13 => ⟨_, .bool (nameB u), rfl, .bl _, g1, g2, g3, rfl, _, rfl, iteNS rfl ?_⟩⟩⟩
        refine ⟨_, rfl, u, rfl, ub, fun H14 v14 s14 hv14 => ⟨v14, numD u, rfl, hv14, SN.a, SN.b, SN.c, _, rfl, u, rfl, ub, fun H15 v15 s15 hv15 => ⟨v15, numD u, rfl, hv15, SN.a, SN.b, SN.c, rfl, _, rfl, iteNS rfl ?_⟩⟩⟩
        exact ⟨_, rfl, s10.trans (s12.trans (s13.trans (s14.trans s15)))⟩
      · rintro σ H10 ⟨y4, rfl, s10⟩
        exact k H10
    · refine ⟨_, pss_cons (ps_set (i := 1) sc_law.nd rfl (.inr rfl) pe_str)
      (pss_cons (ps_set (i := 2) sc_law.nd rfl (.inl rfl) (pe_call G__law_values (hr.mono (by decide)) rfl t__law_values.g t__law_values.F.kp t__law_values.b .nil pass0 (pa_cons (pe_call G__law_cell (hr.mono (by decide)) rfl t__law_cell.g t__law_cell.F.kp t__law_cell.b .nil pass0 (pa_cons (pv 0) (pa_cons pe_int pa_nil))) (pa_cons (pe_op op_mod (pe_call G__law_cell (hr.mono (by decide)) rfl t__law_cell.g t__law_cell.F.kp t__law_cell.b .nil pass0 (pa_cons (pv 0) (pa_cons pe_int pa_nil))) pe_int) (pa_cons pe_int pa_nil)))))
      (pss_cons (ps_set (i := 3) sc_law.nd rfl (.inl rfl) (pe_join pe_str (pe_lc (own := [("value", 9)]) (g := gName 9) (tt := tYes) (te := tOp (rIxS) (tVar 1) (tIf (tTest (tOp (rI0 fun i j => .bl (decide (j < i))) (tVar 9) (L2.tC (.int 1)))) (tOp (rI (fun _ j => 0 < j) fun i j => .int (i % j)) (tVar 9) (L2.tC (.int 33))) (L2.tC (.int 33)))) rfl sc_law.nd (pi_list (pv 2)) (blkOk_by (N := n_law) (sc := defScope s_law) (by decide +kernel)) (fun _ _ _ _ _ => (pg_name (i := 9) sc_law.nd rfl (.inl rfl))) (fun _ _ _ _ _ => pts_nil) (fun _ _ _ _ _ => (pe_ix ix_str (pv 1) (pe_ifExp (pt_cmpR op_gt (pv 9) pe_int (nomark _)) (pe_op op_mod (pv 9) pe_int) pe_int) (fun _ _ => rfl))))))
      (pss_cons (ps_if (pt_cmpR op_gt (pe_op op_mod (pe_call G__law_cell (hr.mono (by decide)) rfl t__law_cell.g t__law_cell.F.kp t__law_cell.b .nil pass0 (pa_cons (pv 0) (pa_cons pe_int pa_nil))) pe_int) pe_int (nomark _)) (pss_one (ps_set (i := 3) sc_law.nd rfl (.inl rfl) (pe_join pe_str (pe_lc (own := [("word", 4)]) (g := gName 4) (tt := tTest (tOp (rNe) (tVar 4) (L2.tC (.str "")))) (te := tVar 4) rfl sc_law.nd (pi_list (pe_split (pv 3) pe_str)) (blkOk_by (N := n_law) (sc := defScope s_law) (by decide +kernel)) (fun _ _ _ _ _ => (pg_name (i := 4) sc_law.nd rfl (.inl rfl))) (fun _ _ _ _ _ => (pts_one (pt_cmpR op_ne (pv 4) pe_str (nomark _)))) (fun _ _ _ _ _ => (pv 4)))))) pss_nil)
      (p4)))), ?_⟩
      have m0 : 0 ≤ ns.getD 0 0 % 31 := Int.emod_nonneg _ (by decide)
      have m1 : ns.getD 0 0 % 31 < 31 := Int.emod_lt_of_pos _ (by decide)
      obtain ⟨n, hn⟩ := Int.eq_ofNat_of_zero_le m0
      refine ⟨.ref a, rfl, a, ns, 1, rfl, hS, .ref a, rfl, a, ns, 0, rfl, hS, _, _, rfl, rfl, (by decide : (0 : Int) < 31), ns.getD 1 0, 97, n, by rw [← hn]; rfl, by omega, by decide, by decide, fun H1 L l s1 hL nL ll bl => ?_⟩
      have zl : (34 : Nat) ≤ sizeLine := by show 34 ≤ 16777216; decide
      refine ⟨⟨_, rfl⟩, _, rfl, L, rfl, ⟨_, .of hL⟩, fun D hD => lc_map (walk_list (K := K) (a := L) (xs := iV l)) RStr lasts_str (fun i => chS "abcxyzABC  0123456789()-+~#:,  \"\n\t" (if 1 < l.getD i 0 then l.getD i 0 % 33 else 33)) hD (by rw [List.length_map]; omega) (fun H' s => s.seq (.of hL)) ?_ ?_⟩
      · rintro i y H2 H3 hi s2 ⟨rfl, hy⟩ Nx kk
        obtain ⟨v, hv, rfl⟩ := iV_get hy
        have e : l.getD i 0 = v := by rw [List.getD_eq_getElem?_getD, hv]; rfl
        rw [e] at kk
        refine ⟨rfl, _, rfl, _, rfl, _, _, rfl, rfl, _, rfl, ite2 (fun c => ?_) (fun c => ?_)⟩
        · have c : 1 < v := of_decide_eq_true c
          rw [if_pos c] at kk
          have b0 : 0 ≤ v % 33 := Int.emod_nonneg _ (by decide)
          have b1 : v % 33 < 33 := Int.emod_lt_of_pos _ (by decide)
          exact ⟨_, rfl, _, _, rfl, rfl, (by decide : (0 : Int) < 33), _, v % 33, _, rfl, rfl, zl, chs_at b0 (by rw [c0_len]; omega), kk _ _ (Same.refl _) rfl⟩
        · have c : ¬ 1 < v := fun z => c (decide_eq_true z)
          rw [if_neg c] at kk
          exact ⟨_, 33, _, rfl, rfl, zl, chs_at (by decide) (by rw [c0_len]; decide), kk _ _ (Same.refl _) rfl⟩
      · intro H2 ws s2 hd2 p2
        have ew := paired_str p2
        subst ew
        have ln : (iV l).length = n := by rw [List.length_map]; exact ll
        obtain ⟨z1, z2⟩ := ok_line c0_low (fun i => if 1 < l.getD i 0 then l.getD i 0 % 33 else 33) (iV l).length
        refine ⟨_, D, _, rfl, rfl, .inl (.of hd2), by omega, ?_⟩
        have z3 := z2.mono (show (iV l).length ≤ 30 by omega)
        generalize Txt.join (Str.ofString "") ((List.range (iV l).length).map fun i => chS "abcxyzABC  0123456789()-+~#:,  \"\n\t" (if 1 < l.getD i 0 then l.getD i 0 % 33 else 33)) = x at z3
        have hS2 := (s1.trans s2).seq hS
        refine ⟨.ref a, rfl, a, ns, 2, rfl, hS2, _, _, rfl, rfl, (by decide : (0 : Int) < 3), _, _, rfl, rfl, _, rfl, ite2 (fun _ => ?_) (fun _ => ?_)⟩
        · have xl := z3.l
          have hs := split_size x
          refine ⟨⟨_, rfl⟩, _, rfl, ⟨x, rfl⟩, x, _, rfl, rfl, by decide +kernel, by show x.length + 2 ≤ 16777216; omega, fun p hp => ?_⟩
          have sp := Same.upd (o := .lst ((Txt.split x " ").map V.str)) hp
          refine ⟨p, rfl, ⟨_, .of upd_same⟩, fun D2 hD2 => lc_filt (n := ((Txt.split x " ").map V.str).length) (walk_list (K := K) (a := p) (xs := (Txt.split x " ").map V.str)) RStr lasts_str (fun i => keepS ((Txt.split x " ").getD i Str.empty)) hD2 (by rw [List.length_map]; omega) (fun H' s => s.seq (.of upd_same)) ?_ ?_⟩
          · rintro i y H3 H4 hi s3 ⟨rfl, hy⟩ Nx k1 k2
            obtain ⟨u, hu, rfl⟩ : ∃ u, (Txt.split x " ")[i]? = some u ∧ y = .str u := by
              rw [List.getElem?_map] at hy
              cases e : (Txt.split x " ")[i]? with
              | none => rw [e] at hy; cases hy
              | some u => rw [e] at hy; exact ⟨u, rfl, (Option.some.inj hy).symm⟩
            have e : (Txt.split x " ").getD i Str.empty = u := by rw [List.getD_eq_getElem?_getD, hu]; rfl
            rw [e] at k1 k2
            refine ⟨rfl, _, rfl, rfl, _, rfl, ?_⟩
            by_cases c : u = Str.empty
            · subst c
              exact iteNS rfl (k2 _ (by unfold keepS; rw [if_pos rfl]) (Same.refl _))
            · have c2 : (!decide (V.str u = V.str Str.empty)) = true := by
                rw [decide_eq_false fun z => c (by injection z)]
                rfl
              show if (!decide (V.str u = V.str Str.empty)) = true then _ else _
              rw [c2]
              exact iteT ⟨_, rfl, k1 _ _ u (by unfold keepS; rw [if_neg c]) (Same.refl _) rfl⟩
          · intro H3 ws s3 hd3 p3
            have ew := paired_str p3
            rw [List.length_map, filt_range, keep_filter] at ew
            subst ew
            have sz := sum_filter (fun y => decide (y ≠ Str.empty)) (Txt.split x " ")
            have szl := List.length_filter_le (fun y => decide (y ≠ Str.empty)) (Txt.split x " ")
            have tot : (((Txt.split x " ").filter fun y => decide (y ≠ Str.empty)).map (·.length)).sum + ((Txt.split x " ").filter fun y => decide (y ≠ Str.empty)).length * (Str.ofString " ").length ≤ 100 := by
              rw [show (Str.ofString " ").length = 1 from rfl]
              omega
            refine ⟨_, D2, _, rfl, rfl, .inl (.of hd3), by omega, ?_⟩
            exact q4 _ _ ⟨L, _, rfl, (sp.trans s3).seq hS2, join_ok (by decide +kernel) (fun y hy => (split_ok z3 ((List.mem_filter.mp hy).1)).c) tot⟩
        · exact q4 _ _ ⟨L, x, rfl, hS2, z3.mono (by decide)⟩
end
end L2.Px

namespace L2.Px
open PySem PySem.Spec PyProof.Rows
/-- a def of the text, from what the table of the program says of it -/
theorem at_mk {K : PySem.W.Frag} {h : Heap} {mg : Str → Option Value} (X : K.In h) (G : h.Ns mainGlobals mg) {x : Str} {st : Stmt} {ps : List Str} {f : Addr} {oc kV doc pm cdv ct : Value} {od an : Option Addr} {osl : Array (Option Value)}
    (g : PySem.W.nsIn K mainGlobals x = some (some (.ref f)))
    (l : K.lookup f = some ⟨oc, od, .func (PySem.W.fnOf x x (defArgs st) (defBody st) (defScope st) .none kV doc pm an cdv ct), osl⟩)
    (c : PySem.W.codeIn K cdv x = true) (k : PySem.W.keepIn K (.ref f) = true)
    (hb : ∀ (kV doc pm : Value) (an : Option Addr) (cdv ct : Value) (us : List Value), us.length = ps.length → bindArgs (PySem.W.fnOf x x (defArgs st) (defBody st) (defScope st) .none kV doc pm an cdv ct) ⟨us, []⟩ = pure (ps.zip us)) :
    At K mg x st ps f (PySem.W.fnOf x x (defArgs st) (defBody st) (defScope st) .none kV doc pm an cdv ct) :=
  ⟨fun_mk l c k, PySem.W.mg_of X G g, (fun_mk l c k).binds hb⟩
theorem kit_own {K : PySem.W.Frag} {S T : Addr} {b : Bool} (h2 : PySem.W.isClsIn K T = true) (h3 : PySem.W.typeIn K (.ref T) = some (.type "type")) (h4 : PySem.W.subIn K (.ref S) (.ref T) = some b) : PySem.W.kitCls K (.ref S) (.ref T) = some b := by
  have e2 : ((PySem.W.clsIn K T).isSome && PySem.W.typeIn K (.ref T) == some (.type "type")) = true := by
    have h2' : (PySem.W.clsIn K T).isSome = true := h2
    rw [h2', h3] <;> rfl
  show (if ((PySem.W.clsIn K T).isSome && PySem.W.typeIn K (.ref T) == some (.type "type")) = true then PySem.W.subIn K (.ref S) (.ref T) else none) = some b
  rw [if_pos e2]
  exact h4
theorem exm_self {K : PySem.W.Frag} {S : Addr} (h1 : PySem.W.subIn K (.ref S) (.type "BaseException") = some true) (h4 : PySem.W.kitCls K (.ref S) (.ref S) = some true) : PySem.W.exmOne K (.ref S) (.ref S) = some true := by
  have e1 : (PySem.W.subIn K (.ref S) (.type "BaseException") == some true) = true := by rw [h1] <;> rfl
  show (if (PySem.W.subIn K (.ref S) (.type "BaseException") == some true) = true then PySem.W.kitCls K (.ref S) (.ref S) else none) = some true
  rw [if_pos e1]
  exact h4
theorem kit_yes {K : PySem.W.Frag} {S T : Addr} (h : PySem.W.kitCls K (.ref S) (.ref T) = some true) : PySem.W.kitOne K (.ref S) (.ref T) = some true := by
  show (if ((Value.ref S) == (.ref T)) = true then some true else PySem.W.kitCls K (.ref S) (.ref T)) = some true
  split
  · rfl
  · exact h
theorem kit_no {K : PySem.W.Frag} {S T : Addr} (n : (S == T) = false) (h : PySem.W.kitCls K (.ref S) (.ref T) = some false) : PySem.W.kitOne K (.ref S) (.ref T) = some false := by
  show (if ((Value.ref S) == (.ref T)) = true then some true else PySem.W.kitCls K (.ref S) (.ref T)) = some false
  rw [if_neg, h]
  intro z
  have : S = T := Value.ref.inj (beq_iff_eq.mp z)
  subst this
  rw [show (S == S) = true from beq_self_eq_true S] at n
  cases n
/-- a tuple of four ints at the top -/
theorem idn_mk {K : PySem.W.Frag} {a : Addr} {od : Option Addr} {osl : Array (Option Value)} {n : Nat} {y0 y1 y2 y3 : Tok} (l : K.lookup a = some ⟨.type "tuple", od, .seq #[.int 0 y0, .int 1 y1, .int 2 y2, .int 3 y3] n, osl⟩) : ∀ H, SqT K H a (iV [0, 1, 2, 3]) := fun H => by
  have r : ∀ (i : Int) (t : Tok), RelV (.int i) (.int i t) := fun i t => by first | exact rfl | exact ⟨t, rfl⟩
  exact .inr ⟨_, _, n, l, rfl, rfl, by show 4 ≤ sizeLine; decide, .cons (r _ _) (.cons (r _ _) (.cons (r _ _) (.cons (r _ _) .nil)))⟩

open PySem.OEX in
theorem all_mk {P : Program} {w : World} {K : PySem.W.Frag} {h : Heap} {mg : Str → Option Value} {fa : Addr} (X : K.In h) (G : h.Ns mainGlobals mg) (hfa : mg "law" = some (.ref fa))
    {k_PERCENT : Tok}
    {k_LONGEST_NAME : Tok}
    {k_SMALL_LETTERS : Tok}
    {k_DIGITS : Tok}
    {f0 : Addr} {oc0 kV0 doc0 pm0 cd0 ct0 : Value} {od0 an0 : Option Addr} {sl0 : Array (Option Value)}
    {f1 : Addr} {oc1 kV1 doc1 pm1 cd1 ct1 : Value} {od1 an1 : Option Addr} {sl1 : Array (Option Value)}
    {f2 : Addr} {oc2 kV2 doc2 pm2 cd2 ct2 : Value} {od2 an2 : Option Addr} {sl2 : Array (Option Value)}
    {f3 : Addr} {oc3 kV3 doc3 pm3 cd3 ct3 : Value} {od3 an3 : Option Addr} {sl3 : Array (Option Value)}
    {f4 : Addr} {oc4 kV4 doc4 pm4 cd4 ct4 : Value} {od4 an4 : Option Addr} {sl4 : Array (Option Value)}
    {f5 : Addr} {oc5 kV5 doc5 pm5 cd5 ct5 : Value} {od5 an5 : Option Addr} {sl5 : Array (Option Value)}
    {f6 : Addr} {oc6 kV6 doc6 pm6 cd6 ct6 : Value} {od6 an6 : Option Addr} {sl6 : Array (Option Value)}
    {f7 : Addr} {oc7 kV7 doc7 pm7 cd7 ct7 : Value} {od7 an7 : Option Addr} {sl7 : Array (Option Value)}
    {f8 : Addr} {oc8 kV8 doc8 pm8 cd8 ct8 : Value} {od8 an8 : Option Addr} {sl8 : Array (Option Value)}
    {f9 : Addr} {oc9 kV9 doc9 pm9 cd9 ct9 : Value} {od9 an9 : Option Addr} {sl9 : Array (Option Value)}
    {fl : Addr} {ocl kVl docl pml cdl ctl : Value} {odl anl : Option Addr} {sll : Array (Option Value)}
    (gM_PERCENT : PySem.W.nsIn K mainGlobals "PERCENT" = some (some (.int 37 k_PERCENT)))
    (gM_LONGEST_NAME : PySem.W.nsIn K mainGlobals "LONGEST_NAME" = some (some (.int 12 k_LONGEST_NAME)))
    (gM_SMALL_LETTERS : PySem.W.nsIn K mainGlobals "SMALL_LETTERS" = some (some (.str "abcdefghijklmnopqrstuvwxyz" k_SMALL_LETTERS)))
    (gM_DIGITS : PySem.W.nsIn K mainGlobals "DIGITS" = some (some (.str "0123456789" k_DIGITS)))
    (g0 : PySem.W.nsIn K mainGlobals "words_of" = some (some (.ref f0)))
    (l0 : K.lookup f0 = some ⟨oc0, od0, .func (PySem.W.fnOf "words_of" "words_of" (defArgs s_words_of) (defBody s_words_of) (defScope s_words_of) .none kV0 doc0 pm0 an0 cd0 ct0), sl0⟩)
    (c0 : PySem.W.codeIn K cd0 "words_of" = true)
    (k0 : PySem.W.keepIn K (.ref f0) = true)
    (g1 : PySem.W.nsIn K mainGlobals "is_plain" = some (some (.ref f1)))
    (l1 : K.lookup f1 = some ⟨oc1, od1, .func (PySem.W.fnOf "is_plain" "is_plain" (defArgs s_is_plain) (defBody s_is_plain) (defScope s_is_plain) .none kV1 doc1 pm1 an1 cd1 ct1), sl1⟩)
    (c1 : PySem.W.codeIn K cd1 "is_plain" = true)
    (k1 : PySem.W.keepIn K (.ref f1) = true)
    (g2 : PySem.W.nsIn K mainGlobals "is_name" = some (some (.ref f2)))
    (l2 : K.lookup f2 = some ⟨oc2, od2, .func (PySem.W.fnOf "is_name" "is_name" (defArgs s_is_name) (defBody s_is_name) (defScope s_is_name) .none kV2 doc2 pm2 an2 cd2 ct2), sl2⟩)
    (c2 : PySem.W.codeIn K cd2 "is_name" = true)
    (k2 : PySem.W.keepIn K (.ref f2) = true)
    (g3 : PySem.W.nsIn K mainGlobals "number_in" = some (some (.ref f3)))
    (l3 : K.lookup f3 = some ⟨oc3, od3, .func (PySem.W.fnOf "number_in" "number_in" (defArgs s_number_in) (defBody s_number_in) (defScope s_number_in) .none kV3 doc3 pm3 an3 cd3 ct3), sl3⟩)
    (c3 : PySem.W.codeIn K cd3 "number_in" = true)
    (k3 : PySem.W.keepIn K (.ref f3) = true)
    (g4 : PySem.W.nsIn K mainGlobals "_law_cell" = some (some (.ref f4)))
    (l4 : K.lookup f4 = some ⟨oc4, od4, .func (PySem.W.fnOf "_law_cell" "_law_cell" (defArgs s__law_cell) (defBody s__law_cell) (defScope s__law_cell) .none kV4 doc4 pm4 an4 cd4 ct4), sl4⟩)
    (c4 : PySem.W.codeIn K cd4 "_law_cell" = true)
    (k4 : PySem.W.keepIn K (.ref f4) = true)
    (g5 : PySem.W.nsIn K mainGlobals "_law_values" = some (some (.ref f5)))
    (l5 : K.lookup f5 = some ⟨oc5, od5, .func (PySem.W.fnOf "_law_values" "_law_values" (defArgs s__law_values) (defBody s__law_values) (defScope s__law_values) .none kV5 doc5 pm5 an5 cd5 ct5), sl5⟩)
    (c5 : PySem.W.codeIn K cd5 "_law_values" = true)
    (k5 : PySem.W.keepIn K (.ref f5) = true)
    (g6 : PySem.W.nsIn K mainGlobals "_law_signs" = some (some (.ref f6)))
    (l6 : K.lookup f6 = some ⟨oc6, od6, .func (PySem.W.fnOf "_law_signs" "_law_signs" (defArgs s__law_signs) (defBody s__law_signs) (defScope s__law_signs) .none kV6 doc6 pm6 an6 cd6 ct6), sl6⟩)
    (c6 : PySem.W.codeIn K cd6 "_law_signs" = true)
    (k6 : PySem.W.keepIn K (.ref f6) = true)
    (g7 : PySem.W.nsIn K mainGlobals "_law_words" = some (some (.ref f7)))
    (l7 : K.lookup f7 = some ⟨oc7, od7, .func (PySem.W.fnOf "_law_words" "_law_words" (defArgs s__law_words) (defBody s__law_words) (defScope s__law_words) .none kV7 doc7 pm7 an7 cd7 ct7), sl7⟩)
    (c7 : PySem.W.codeIn K cd7 "_law_words" = true)
    (k7 : PySem.W.keepIn K (.ref f7) = true)
    (g8 : PySem.W.nsIn K mainGlobals "_law_is_name" = some (some (.ref f8)))
    (l8 : K.lookup f8 = some ⟨oc8, od8, .func (PySem.W.fnOf "_law_is_name" "_law_is_name" (defArgs s__law_is_name) (defBody s__law_is_name) (defScope s__law_is_name) .none kV8 doc8 pm8 an8 cd8 ct8), sl8⟩)
    (c8 : PySem.W.codeIn K cd8 "_law_is_name" = true)
    (k8 : PySem.W.keepIn K (.ref f8) = true)
    (g9 : PySem.W.nsIn K mainGlobals "_law_number" = some (some (.ref f9)))
    (l9 : K.lookup f9 = some ⟨oc9, od9, .func (PySem.W.fnOf "_law_number" "_law_number" (defArgs s__law_number) (defBody s__law_number) (defScope s__law_number) .none kV9 doc9 pm9 an9 cd9 ct9), sl9⟩)
    (c9 : PySem.W.codeIn K cd9 "_law_number" = true)
    (k9 : PySem.W.keepIn K (.ref f9) = true)
    (gl : PySem.W.nsIn K mainGlobals "law" = some (some (.ref fl)))
    (ll : K.lookup fl = some ⟨ocl, odl, .func (PySem.W.fnOf "law" "law" (defArgs s_law) (defBody s_law) (defScope s_law) .none kVl docl pml anl cdl ctl), sll⟩)
    (cl : PySem.W.codeIn K cdl "law" = true)
    (kl : PySem.W.keepIn K (.ref fl) = true)
    (n0 : PySem.W.nsIn K mainGlobals "all" = some none)
    (n1 : PySem.W.nsIn K mainGlobals "ord" = some none)
    (n2 : PySem.W.nsIn K mainGlobals "len" = some none)
    (n3 : PySem.W.nsIn K mainGlobals "int" = some none)
    (n4 : PySem.W.nsIn K mainGlobals "range" = some none)
    (n5 : PySem.W.nsIn K mainGlobals "str" = some none)
    (n6 : PySem.W.nsIn K mainGlobals "repr" = some none)
    (n7 : PySem.W.nsIn K mainGlobals "sorted" = some none)
    (n8 : PySem.W.nsIn K mainGlobals "enumerate" = some none)
    (n9 : PySem.W.nsIn K mainGlobals "tuple" = some none) :
    ∃ fd : FuncData, (∀ (s : Shared) (u : Value), BindsTo s fd ⟨[u], []⟩ [("script", u)]) ∧ ∀ base : Heap, K.In base → base.Ns mainGlobals mg → GFn P w K mg base 3 fa fd ["script"] (sp_law K) := by
  have e := hfa.symm.trans (PySem.W.mg_of X G gl)
  cases e
  have N : Nm mg := ⟨PySem.W.mg_none_of X G n0, PySem.W.mg_none_of X G n1, PySem.W.mg_none_of X G n2, PySem.W.mg_none_of X G n3, PySem.W.mg_none_of X G n4, PySem.W.mg_none_of X G n5, PySem.W.mg_none_of X G n6⟩
  have A0 := at_mk (st := s_words_of) (ps := ["line"]) X G g0 l0 c0 k0 (fun _ _ _ _ _ _ us hl => match us, hl with | [_], _ => rfl)
  have A1 := at_mk (st := s_is_plain) (ps := ["line"]) X G g1 l1 c1 k1 (fun _ _ _ _ _ _ us hl => match us, hl with | [_], _ => rfl)
  have A2 := at_mk (st := s_is_name) (ps := ["word"]) X G g2 l2 c2 k2 (fun _ _ _ _ _ _ us hl => match us, hl with | [_], _ => rfl)
  have A3 := at_mk (st := s_number_in) (ps := ["word"]) X G g3 l3 c3 k3 (fun _ _ _ _ _ _ us hl => match us, hl with | [_], _ => rfl)
  have A4 := at_mk (st := s__law_cell) (ps := ["script", "k"]) X G g4 l4 c4 k4 (fun _ _ _ _ _ _ us hl => match us, hl with | [_, _], _ => rfl)
  have A5 := at_mk (st := s__law_values) (ps := ["cell", "count", "size"]) X G g5 l5 c5 k5 (fun _ _ _ _ _ _ us hl => match us, hl with | [_, _, _], _ => rfl)
  have A6 := at_mk (st := s__law_signs) (ps := []) X G g6 l6 c6 k6 (fun _ _ _ _ _ _ us hl => match us, hl with | [], _ => rfl)
  have A7 := at_mk (st := s__law_words) (ps := ["line"]) X G g7 l7 c7 k7 (fun _ _ _ _ _ _ us hl => match us, hl with | [_], _ => rfl)
  have A8 := at_mk (st := s__law_is_name) (ps := ["word"]) X G g8 l8 c8 k8 (fun _ _ _ _ _ _ us hl => match us, hl with | [_], _ => rfl)
  have A9 := at_mk (st := s__law_number) (ps := ["word"]) X G g9 l9 c9 k9 (fun _ _ _ _ _ _ us hl => match us, hl with | [_], _ => rfl)
  have M_PERCENT := PySem.W.mg_of X G gM_PERCENT
  have M_LONGEST_NAME := PySem.W.mg_of X G gM_LONGEST_NAME
  have M_SMALL_LETTERS := PySem.W.mg_of X G gM_SMALL_LETTERS
  have M_DIGITS := PySem.W.mg_of X G gM_DIGITS
  have NJ : NmJ mg := ⟨PySem.W.mg_none_of X G n7, PySem.W.mg_none_of X G n4, PySem.W.mg_none_of X G n2, PySem.W.mg_none_of X G n8, PySem.W.mg_none_of X G n9⟩
  exact ⟨_, fun s u => .of_eq rfl, fun base _ _ => 
    have G__law_values : FnOk P w K mg base CX0 1 f5 _ ["cell", "count", "size"] (sp__law_values K) := ok_values (A5).F NJ (PySem.W.mg_none_of X G n3)
    have G__law_cell : FnOk P w K mg base CX0 1 f4 _ ["script", "k"] (sp__law_cell K) := ok_cell (A4).F NJ
    have G_is_plain : FnOk P w K mg base CX0 1 f1 _ ["line"] (sp_is_plain K) := ok_is_plain (A1).F N M_PERCENT
    have G_words_of : FnOk P w K mg base CX0 2 f0 _ ["line"] (sp_words_of K) := ok_words_of (A0).F N A1 G_is_plain
    have G__law_signs : FnOk P w K mg base CX0 1 f6 _ [] (sp__law_signs K) := ok__law_signs (A6).F N
    have G__law_words : FnOk P w K mg base CX0 2 f7 _ ["line"] (sp__law_words K) := ok__law_words (A7).F N A6 G__law_signs
    have G_is_name : FnOk P w K mg base CX0 1 f2 _ ["word"] (sp_is_name K) := ok_is_name (A2).F N M_LONGEST_NAME M_SMALL_LETTERS
    have G__law_is_name : FnOk P w K mg base CX0 1 f8 _ ["word"] (sp__law_is_name K) := ok__law_is_name (A8).F N
    have G_number_in : FnOk P w K mg base CX0 1 f3 _ ["word"] (sp_number_in K) := ok_number_in (A3).F N M_DIGITS
    have G__law_number : FnOk P w K mg base CX0 1 f9 _ ["word"] (sp__law_number K) := ok__law_number (A9).F N
    ok_law (fun_mk ll cl kl) N A5 G__law_values A4 G__law_cell A0 G_words_of A7 G__law_words A2 G_is_name A8 G__law_is_name A3 G_number_in A9 G__law_number⟩
end L2.Px

open PySem PySem.W PyProof.Rows
set_option maxRecDepth 100000 in
set_option maxHeartbeats 8000000 in
theorem PySem.Challenge.cw_wedgespace_k89_words_of_lines_holds : PySem.Challenge.rw_wedgespace_k89_words_of_lines.Holds := by
  w_on; o_law; k_head; (case hw => w_witness2)
  k_fill
  refine L2.Px.walkG (l := PySem.Challenge.rw_wedgespace_k89_words_of_lines) (n := 63) (k := 3) (x := "script") (sp := L2.Px.sp_law) rfl (by decide) rfl ⟨rfl, by decide, by decide⟩ (fun w h Y => PySem.W.kIn_of Y) ?F ?S
  case F =>
    intro w mg fa h KX G hmg
    refine' L2.Px.all_mk KX G hmg ?zgM_PERCENT ?zgM_LONGEST_NAME ?zgM_SMALL_LETTERS ?zgM_DIGITS ?zg0 ?zl0 ?zc0 ?zk0 ?zg1 ?zl1 ?zc1 ?zk1 ?zg2 ?zl2 ?zc2 ?zk2 ?zg3 ?zl3 ?zc3 ?zk3 ?zg4 ?zl4 ?zc4 ?zk4 ?zg5 ?zl5 ?zc5 ?zk5 ?zg6 ?zl6 ?zc6 ?zk6 ?zg7 ?zl7 ?zc7 ?zk7 ?zg8 ?zl8 ?zc8 ?zk8 ?zg9 ?zl9 ?zc9 ?zk9 ?zgl ?zll ?zcl ?zkl ?zn0 ?zn1 ?zn2 ?zn3 ?zn4 ?zn5 ?zn6 ?zn7 ?zn8 ?zn9

    (case zgM_PERCENT => k_is)
    (case zgM_LONGEST_NAME => k_is)
    (case zgM_SMALL_LETTERS => k_is)
    (case zgM_DIGITS => k_is)
    (case zg0 => k_is)
    (case zl0 => k_is)
    (case zc0 => k_is)
    (case zk0 => k_is)
    (case zg1 => k_is)
    (case zl1 => k_is)
    (case zc1 => k_is)
    (case zk1 => k_is)
    (case zg2 => k_is)
    (case zl2 => k_is)
    (case zc2 => k_is)
    (case zk2 => k_is)
    (case zg3 => k_is)
    (case zl3 => k_is)
    (case zc3 => k_is)
    (case zk3 => k_is)
    (case zg4 => k_is)
    (case zl4 => k_is)
    (case zc4 => k_is)
    (case zk4 => k_is)
    (case zg5 => k_is)
    (case zl5 => k_is)
    (case zc5 => k_is)
    (case zk5 => k_is)
    (case zg6 => k_is)
    (case zl6 => k_is)
    (case zc6 => k_is)
    (case zk6 => k_is)
    (case zg7 => k_is)
    (case zl7 => k_is)
    (case zc7 => k_is)
    (case zk7 => k_is)
    (case zg8 => k_is)
    (case zl8 => k_is)
    (case zc8 => k_is)
    (case zk8 => k_is)
    (case zg9 => k_is)
    (case zl9 => k_is)
    (case zc9 => k_is)
    (case zk9 => k_is)
    (case zgl => k_is)
    (case zll => k_is)
    (case zcl => k_is)
    (case zkl => k_is)
    (case zn0 => k_is)
    (case zn1 => k_is)
    (case zn2 => k_is)
    (case zn3 => k_is)
    (case zn4 => k_is)
    (case zn5 => k_is)
    (case zn6 => k_is)
    (case zn7 => k_is)
    (case zn8 => k_is)
    (case zn9 => k_is)
  case S =>
    intro K H a ns hl hS
    exact ⟨a, ns, rfl, hS, hl, fun _ => rfl⟩


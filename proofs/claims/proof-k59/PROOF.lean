import PyProof.Rows.All
import Wide.All
import OpenK.AllK
import Wide.FinOn
import HandS.ForExc
import HandS.Comp
import PyProof.ReprRoads
import KE.GoesMore
import HandS.Iter
import HandS.SortInts
import HandS.Walk
import HandS.Base
import HandS.Call
import HandS.Exc
import PyProof.ReprLen
import HandS.Zip
import HandS.Style
import HandS.Deep
import HandS.ExcIs
import HandS.IsInst
import HandS.TupSets
import HandS.TupAny
import HandS.Conv
import HandS.Rev
import HandS.ExcInit
import KE.KIndexOf
import KE.KSortedM
import KE.KEqDeep
import KE.KRevSl
import HandS.SetKeys
import HandS.SetIn
import HandS.Words
import HandS.WordsExc
import KE.KSetDisp
import HandS.DictComp
import HandS.List
import KE.DataCmp
import HandS.TupMul
import PySem.Challenge.RW_wedgespace_k59_images_of_words
set_option Elab.async false
set_option linter.all false
set_option maxRecDepth 100000
set_option maxHeartbeats 4000000
/-! List comprehensions of any number of clauses. -/
namespace L2.Px
open PySem PySem.Spec PyProof.Rows

/-- what a clause does with an item that has passed: from slots and heap, to reach the wanted heap -/
abbrev TB := St → Hp → (Hp → Prop) → Prop

/-- the rest of a turn at the last clause -/
def tailE (elt : Expr) (acc : Value) (env : Env) (c : Code) : Sem Fin := do
  (do let _ ← call (.builtin "list.append") [acc, ← eval elt env])
  again c
/-- the rest of a turn ahead of another clause, its source i1 -/
def tailN (nd : Expr) (d : Nat) (i1 : Expr) (acc : Value) (env : Env) (c : Code) : Sem Fin := do
  let x ← eval i1 env
  standAt i1.pos
  let y ← foldedSetIterable i1 env x
  let it ← holding [y] (pyIter y)
  let _ ← runOwn (.compStart nd d it acc env) env
  again c

/-- one turn of a clause, its rest a letter -/
def turnC (t i : Expr) (ifs : List Expr) (it : Value) (env : Env) (rest : Sem Fin) (c : Code) : Sem Fin := do
  standAt i.pos
  match ← pyNext it with
  | none => pure (.done .next)
  | some v =>
    letOwnedTupleGo t it v
    assign t env v
    let mut ok := true
    for c in ifs do
      if ok then ok ← isTrue c env (eval c env)
    if ok then rest else again c

theorem turn_last {elt t i : Expr} {ifs : List Expr} {gs : List Comprehension} {sc : Scope} {ps : Pos} {d : Nat} {it acc : Value} {env : Env} (hg : gs[d]? = some ⟨t, i, ifs, 0⟩) (hn : gs[d + 1]? = none) :
    compTurn (.ListComp elt gs sc ps) d it acc env = turnC t i ifs it env (tailE elt acc env (.compLoop (.ListComp elt gs sc ps) d it acc env)) (.compLoop (.ListComp elt gs sc ps) d it acc env) := by
  unfold compTurn turnC tailE
  simp only [hg, hn]
  rfl
theorem turn_next {elt t i t1 i1 : Expr} {ifs ifs1 : List Expr} {gs : List Comprehension} {sc : Scope} {ps : Pos} {d : Nat} {it acc : Value} {env : Env} (hg : gs[d]? = some ⟨t, i, ifs, 0⟩) (hn : gs[d + 1]? = some ⟨t1, i1, ifs1, 0⟩) :
    compTurn (.ListComp elt gs sc ps) d it acc env = turnC t i ifs it env (tailN (.ListComp elt gs sc ps) (d + 1) i1 acc env (.compLoop (.ListComp elt gs sc ps) d it acc env)) (.compLoop (.ListComp elt gs sc ps) d it acc env) := by
  unfold compTurn turnC tailN
  simp only [hg, hn]
  rfl

/-- the wish where nothing is raised -/
abbrev F0 : Value → Shared → Prop := fun _ _ => False

/-- the rest of a turn, from the block's state: it comes to the turn's end with the wanted heap; ws: the names that it forgets -/
structure PB (X : Cx) (rest : Code → Sem Fin) (ws : List Nat) (tb : TB) : Prop where
  run : ∀ (pins : List (Addr × Obj)) (s : Shared) (σ : St) (H : Hp) (Nx : Hp → Prop) (c : Code), Inv X pins σ H s → tb σ H Nx →
    wpAny (model X.prog X.w) X.A (rest c) (fun f s' => f = .again c ∧ ∃ H', Inv X pins (wipe σ ws) H' s' ∧ Nx H') F0 s

/-- a clause's turns: W by the turn and a measure -/
def ClStep (J : It) (g : TG) (tt : TT) (vs : List Nat) (tb : TB) (σ : St) (W : Nat → Nat → Hp → Prop) (Nx0 : Hp → Prop) : Prop :=
  ∀ i m H, W i m H → (J.stop i H ∧ Nx0 H) ∨ (J.go i H ∧ ∃ Nx : Hp → Prop, (∀ H', Nx H' → ∃ m', m' < m ∧ W (i + 1) m' H') ∧
    ∀ x H', J.yld i H x H' → g x (wipe σ vs) H' fun σ2 H2 => wipe σ2 vs = wipe σ vs ∧ tt σ2 H2 fun b H3 => if b = true then tb σ2 H3 Nx else Nx H3)

theorem weakC {X : Cx} {pins : List (Addr × Obj)} {σ σ2 : St} {H : Hp} {s : Shared} {vs ws : List Nat} (I : Inv X pins (wipe σ2 ws) H s) (e : wipe σ2 vs = wipe σ vs) (sub : ∀ j ∈ ws, j ∈ vs) : Inv X pins (wipe σ vs) H s := by
  refine I.weak (by rw [← e, wipe_length, wipe_length]) fun j v q => ?_
  rw [← e] at q
  obtain ⟨q1, q2⟩ := wipe_some q
  rw [wipe_out fun z => q2 (sub j z)]
  exact q1

section
variable {X : Cx} {elt t i : Expr} {ifs : List Expr} {gs : List Comprehension} {sc : Scope} {ps : Pos} {d : Nat} {acc : Value}
  {g : TG} {tt : TT} {tb : TB} {vs ws : List Nat} {J : It} {fp : List Addr} {it : Addr} {tn : Nat → Heap → Prop} {pins : List (Addr × Obj)} {s : Shared} {σ : St} {H : Hp} {Nx0 : Hp → Prop}

/-- the loop of a clause -/
theorem loop_run {rest : Code → Sem Fin} (hx : X.xe = F0) (hc : X.calm = true)
    (ht : ∀ it, compTurn (.ListComp elt gs sc ps) d it acc X.env = turnC t i ifs it X.env (rest (.compLoop (.ListComp elt gs sc ps) d it acc X.env)) (.compLoop (.ListComp elt gs sc ps) d it acc X.env))
    (pg : PG X t g) (pt : PTs X ifs tt) (pb : PB X rest ws tb) (sub : ∀ j ∈ ws, j ∈ vs)
    (T : Turn X.prog X.w X.K t J fp it tn) (I : Inv X pins (wipe σ vs) H s) (st : tn 0 s.heap) (hf : ∀ b ∈ fp, FpOk X pins H b)
    {W : Nat → Nat → Hp → Prop} {m : Nat} (w0 : W 0 m H) (step : ClStep J g tt vs tb σ W Nx0) :
    codeAny (model X.prog X.w) X.A (.compLoop (.ListComp elt gs sc ps) d (.ref it) acc X.env) (fun r s' => r = .ok .next ∧ ∃ H', Inv X pins (wipe σ vs) H' s' ∧ Nx0 H') s := by
  refine codeAny_loop rfl (fun m s' => ∃ k H', Inv X pins (wipe σ vs) H' s' ∧ tn k s'.heap ∧ (∀ b ∈ fp, H' b = none) ∧ W k m H') (fun m s1 hI => ?_) m ⟨0, H, I, st, fun b hb => (hf b hb).1, w0⟩
  obtain ⟨k, H1, I1, st1, n1, w1⟩ := hI
  have fok : ∀ {H' : Hp}, (∀ b ∈ fp, H' b = none) → ∀ b ∈ fp, FpOk X pins H' b := fun n b hb => ⟨n b hb, (hf b hb).2⟩
  show wpAny _ X.A (Sem.onRaise (compTurn (.ListComp elt gs sc ps) d (.ref it) acc X.env) _) _ _ s1
  refine wpAny_noted (wpAny_mono (Q := fun fin s' => match fin with
    | .done f => f = .next ∧ ∃ H', Inv X pins (wipe σ vs) H' s' ∧ Nx0 H'
    | .again c' => c' = .compLoop (.ListComp elt gs sc ps) d (.ref it) acc X.env ∧ ∃ m', m' < m ∧ ∃ k H', Inv X pins (wipe σ vs) H' s' ∧ tn k s'.heap ∧ (∀ b ∈ fp, H' b = none) ∧ W k m' H') (E := F0) ?_ (fun fin s' h => ?_) fun _ _ z => z.elim)
  · rw [ht]
    unfold turnC
    refine wpAny_bind (wpAny_standAt (wpAny_bind ?_))
    rcases step k m H1 w1 with ⟨stop, q⟩ | ⟨go, Nx, hNx, q⟩
    · refine thnF (T.done X rfl rfl rfl hc k pins s1 _ H1 F0 I1 (fok n1) st1 stop) fun r s2 ⟨hr, I2⟩ => ?_
      subst hr
      exact wpAny_pure ⟨rfl, H1, I2, q⟩
    · refine thnF (T.item X rfl rfl rfl hc k pins s1 _ H1 F0 I1 (fok n1) st1 go) fun r s2 ⟨u, hr, h2⟩ => ?_
      subst hr
      refine wpAny_bind (thnF h2 fun _ s3 ⟨x, H3, I3, r3, y3, st3, n3⟩ => ?_)
      have I3' := I3.pinned (fok n3) (T.obj _ _ st3)
      have a1 := pg.run _ s3 _ H3 x u _ I3' r3 (q x H3 y3)
      rw [hx] at a1
      refine wpAny_bind (thnF a1 fun _ s4 ⟨σ4, H4, I4, e4, q4⟩ => ?_)
      have a2 := pt.run _ s4 σ4 H4 _ I4 q4
      rw [hx] at a2
      -- behind the rest, whatever it was
      have fin : ∀ {s' : Shared} {H' : Hp}, Inv X (pins ++ pinsAt fp s3.heap) (wipe σ vs) H' s' → Nx H' → ∃ m', m' < m ∧ ∃ k H', Inv X pins (wipe σ vs) H' s' ∧ tn k s'.heap ∧ (∀ b ∈ fp, H' b = none) ∧ W k m' H' := fun {s' H'} I' nx => by
        obtain ⟨m', hm, w'⟩ := hNx H' nx
        have stay : ∀ b ∈ fp, ∀ o, s3.heap.get? b = some o → s'.heap.get? b = some o ∧ H' b = none := fun b hb o e => by
          have z := I'.pin (b, o) (List.mem_append_right _ (List.mem_append_right _ (mem_pinsAt hb e)))
          exact ⟨z.1, z.2.1⟩
        refine ⟨m', hm, k + 1, H', I'.unpinned, T.keep _ _ _ st3 fun b hb o e => (stay b hb o e).1, fun b hb => ?_, w'⟩
        obtain ⟨o, e, _⟩ := T.obj _ _ st3 b hb
        exact (stay b hb o e).2
      refine wpAny_bind (thnF a2 fun b s5 ⟨H5, I5, q5⟩ => ?_)
      cases b with
      | false =>
        simp only [Bool.false_eq_true, if_false] at q5 ⊢
        exact wpAny_pure ⟨rfl, fin (weakC (ws := []) I5 e4 (fun j z => by cases z)) q5⟩
      | true =>
        simp only [if_true] at q5 ⊢
        refine thnF (pb.run _ s5 σ4 H5 Nx _ I5 q5) fun f s6 ⟨hf6, H6, I6, nx⟩ => ?_
        subst hf6
        exact ⟨rfl, fin (weakC I6 e4 sub) nx⟩
  · cases fin with
    | done f => exact ⟨by rw [h.1], h.2⟩
    | again c' => exact h

/-- the last clause's rest: the element, appended to the list at D -/
def tElt (D : Addr) (te : TE) : TB := fun σ H Nx => te σ H fun y H' => ∃ a, H' D = some (.lst a) ∧ a.length < sizeLine ∧ Nx (upd H' D (.lst (a ++ [y])))
theorem pb_elt {D : Addr} {te : TE} (hx : X.xe = F0) (he : PE X elt te) : PB X (tailE elt (.ref D) X.env) [] (tElt D te) := by
  refine ⟨fun pins s σ H Nx c I h => ?_⟩
  unfold tailE
  have a := he.run pins s σ H _ I h
  rw [hx] at a
  refine wpAny_bind (wpAny_bind (thnF a fun u s1 ⟨y, H1, I1, r1, ac, hD, hz, nx⟩ => wpAny_bind (app_ok I1 hD hz r1 fun s2 I2 => wpAny_pure (wpAny_pure ⟨rfl, _, I2, nx⟩))))

/-- another clause within -/
def tCl (wi : TI) (g : TG) (tt : TT) (vs : List Nat) (tb : TB) : TB := fun σ H Nx => wi σ H fun J H1 => ∃ W : Nat → Nat → Hp → Prop, (∃ m, W 0 m H1) ∧ ClStep J g tt vs tb σ W Nx
theorem pb_cl {rest : Code → Sem Fin} {wi : TI} (hx : X.xe = F0) (hc : X.calm = true) (hd : gs[d]? = some ⟨t, i, ifs, 0⟩)
    (ht : ∀ it, compTurn (.ListComp elt gs sc ps) d it acc X.env = turnC t i ifs it X.env (rest (.compLoop (.ListComp elt gs sc ps) d it acc X.env)) (.compLoop (.ListComp elt gs sc ps) d it acc X.env))
    (pi : PI X t i wi) (pg : PG X t g) (pt : PTs X ifs tt) (pb : PB X rest ws tb) (sub : ∀ j ∈ ws, j ∈ vs) (hs : ∀ x, foldedSetIterable i X.env x = pure x) :
    PB X (tailN (.ListComp elt gs sc ps) d i acc X.env) vs (tCl wi g tt vs tb) := by
  refine ⟨fun pins s σ H Nx c I h => ?_⟩
  unfold tailN
  have a := pi.run pins s σ H _ I h
  rw [hx] at a
  refine wpAny_bind (thnF a fun v s1 h1 => wpAny_bind (wpAny_standAt (wpAny_bind (wpAny_of_eq (hs v) (wpAny_bind (wpAny_holding (thnF h1 fun itv s2 h2 => ?_)))))))
  obtain ⟨it, fp, tn, J, H2, e, I2, T, st2, f2, W, ⟨m, w0⟩, step⟩ := h2
  subst e
  have loop := loop_run (H := H2) hx hc ht pg pt pb sub T (I2.weak (wipe_length _ _) fun j v q => (wipe_some q).1) st2 f2 w0 step
  refine wpAny_bind (wpAny_runOwn ?_)
  rw [Around.mark_none]
  refine codeAny_of_tree ?_
  show wpAny _ _ (Sem.onRaise (compStart (.ListComp elt gs sc ps) d (.ref it) acc X.env) _) _ _ s2
  refine wpAny_notedAt ?_
  unfold compStart
  have hcl : clausesOf (.ListComp elt gs sc ps) = gs := rfl
  rw [hcl, hd]
  have done : codeAny (model X.prog X.w) X.A (.compLoop (.ListComp elt gs sc ps) d (.ref it) acc X.env) (fun r s' => match r with
      | .ok f => wpAny (model X.prog X.w) X.A (again c) (fun f s' => f = .again c ∧ ∃ H', Inv X pins (wipe σ vs) H' s' ∧ Nx H') F0 s'
      | .error e => cameBackBy (model X.prog X.w) X.A X.env F0 e s') s2 := codeAny_mono loop fun r s' ⟨hr, H', I', q⟩ => by
    subst hr
    exact wpAny_pure ⟨rfl, H', I', q⟩
  show wpAny _ _ (ask >>= _) _ _ s2
  refine wpAny_bind (wpAny_askSetting (wpAny_ite ?_))
  split
  · first
      | exact wpAny_bind (wpAny_pure (wpAny_pure (And.intro rfl done)))
      | exact wpAny_pure (And.intro rfl done)
  · refine wpAny_bind (wpAny_rule (wpAny_bind (wpAny_standAt (wpAny_bind (T.self X.A 0 s2 _ _ st2 ?_)))))
    exact wpAny_pure (And.intro rfl done)

/-- [elt for tg in iter if .. for .. ..]: D the new list, tb D what the first clause does with an item -/
def tLcN (wi : TI) (g : TG) (tt : TT) (vs : List Nat) (tb : Addr → TB) : TE := fun σ H Q => wi σ H fun J H1 => ∀ D, H1 D = none → ∃ W : Nat → Nat → Hp → Prop, (∃ m, W 0 m (upd H1 D (.lst []))) ∧ ClStep J g tt vs (tb D) σ W (fun H' => Q (.ref D) H')

/-- the block, from the state in which its list stands -/
theorem block_run {tg iter : Expr} {rs : List Comprehension} {scope : Scope} {own : List (Str × Nat)} {pos : Pos} {tb : TB} {rest : Env → Code → Sem Fin} {D : Addr} {W : Nat → Nat → Hp → Prop} {m0 : Nat} {R : Result → Shared → Prop}
    (hc : X.calm = true) (hN : X.N.Nodup) (I : Inv X pins σ H s) (ok : BlkOk X.N X.env.scope scope own)
    (ht : ∀ it env, compTurn (.ListComp elt (⟨tg, iter, ifs, 0⟩ :: rs) scope pos) 0 it (.ref D) env = turnC tg iter ifs it env (rest env (.compLoop (.ListComp elt (⟨tg, iter, ifs, 0⟩ :: rs) scope pos) 0 it (.ref D) env)) (.compLoop (.ListComp elt (⟨tg, iter, ifs, 0⟩ :: rs) scope pos) 0 it (.ref D) env))
    (hg : ∀ (s : Shared) (H : Hp) (C : Addr) (cl : List (Str × Addr)) (fp : List Addr), PG (X.blk s H scope (compEnvC scope cl C X.env) fp) tg g)
    (hp : ∀ (s : Shared) (H : Hp) (C : Addr) (cl : List (Str × Addr)) (fp : List Addr), PTs (X.blk s H scope (compEnvC scope cl C X.env) fp) ifs tt)
    (hb : ∀ (s : Shared) (H : Hp) (C : Addr) (cl : List (Str × Addr)) (fp : List Addr), PB (X.blk s H scope (compEnvC scope cl C X.env) fp) (rest (compEnvC scope cl C X.env)) ws tb) (sub : ∀ j ∈ ws, j ∈ own.map (·.2))
    (T : Turn X.prog X.w X.K tg J fp it tn) (st : tn 0 s.heap) (hf : ∀ b ∈ fp, FpOk X pins H b ∧ b < s.heap.objs.size) (w0 : W 0 m0 H) (step : ClStep J g tt (own.map (·.2)) tb σ W Nx0)
    (hR : ∀ s' m H', Inv X pins σ H' s' → Nx0 H' → s'.heap.Ns s.heap.objs.size m → FpOk X pins H' s.heap.objs.size → R (.ok .next) s') :
    codeAny (model X.prog X.w) X.A (.compStart (.ListComp elt (⟨tg, iter, ifs, 0⟩ :: rs) scope pos) 0 (.ref it) (.ref D) (compEnvC scope (cellsFrom (s.heap.objs.size + 1) scope.names (cloFrom X.env.cells scope.names [])) s.heap.objs.size X.env)) R
      { s with heap := pushCells (s.heap.push { cls := .type "dict", data := .dict #[] }) scope.names } := by
  have I4 := block_start I ok hN hf
  have qg := hg s H s.heap.objs.size (cellsFrom (s.heap.objs.size + 1) scope.names (cloFrom X.env.cells scope.names [])) fp
  have qp := hp s H s.heap.objs.size (cellsFrom (s.heap.objs.size + 1) scope.names (cloFrom X.env.cells scope.names [])) fp
  have qb := hb s H s.heap.objs.size (cellsFrom (s.heap.objs.size + 1) scope.names (cloFrom X.env.cells scope.names [])) fp
  have st4 : tn 0 (pushCells (s.heap.push { cls := .type "dict", data := .dict #[] }) scope.names) := T.keep _ _ _ st fun _ _ _ e => pushCells_keeps _ _ _ _ (Heap.get?_push_of_some _ e)
  generalize hce : compEnvC scope (cellsFrom (s.heap.objs.size + 1) scope.names (cloFrom X.env.cells scope.names [])) s.heap.objs.size X.env = ce at I4 qg qp qb ⊢
  have cL : ce.locals = s.heap.objs.size := by rw [← hce]; rfl
  have f4 : ∀ b ∈ fp, FpOk (X.blk s H scope ce fp) [] H b := fun b hb =>
    ⟨(hf b hb).1.1, (I4.ok.exf b hb).1, I4.ok.exfs b hb, .inl hb, fun x c e => (I4.ok.exf b hb).2 x c e, fun p hp => by cases hp⟩
  have loop := loop_run (X := X.blk s H scope ce fp) (it := it) rfl hc (fun it => ht it ce) qg qp qb sub T I4 st4 f4 w0 step
  have fin : codeAny (model X.prog X.w) X.A (.compLoop (.ListComp elt (⟨tg, iter, ifs, 0⟩ :: rs) scope pos) 0 (.ref it) (.ref D) ce) R { s with heap := pushCells (s.heap.push { cls := .type "dict", data := .dict #[] }) scope.names } := by
    refine codeAny_mono loop fun r s' ⟨hr, H', I', nx⟩ => ?_
    subst hr
    obtain ⟨m, hn, _⟩ := I'.loc
    have hn : s'.heap.Ns ce.locals m := hn
    have nC : H' ce.locals = none := I'.free
    rw [cL] at hn nC
    exact hR s' m H' (I.call' (ch := fp) I'.os I'.base I'.hok I'.bare fun b hb => let z := (hf b hb).1.2; ⟨z.2.2.1, z.1, z.2.2.2.1, z.2.2.2.2⟩) nx hn (I.fpOk (Nat.le_refl _) nC)
  exact codeAny_compStart_list fin (T.self X.A 0 _ _ _ st4 fin)

theorem lcN_core {tg iter : Expr} {rs : List Comprehension} {scope : Scope} {own : List (Str × Nat)} {pos pos' : Pos} {wi : TI} {tb : Addr → TB} {rest : Addr → Env → Code → Sem Fin}
    {use : Option (Value → Sem Unit)} {Qf : Value → Shared → Prop} {Q : VK}
    (hc : X.calm = true) (hN : X.N.Nodup) (I : Inv X pins σ H s) (hi : PI X tg iter wi) (ok : BlkOk X.N X.env.scope scope own) (hs : ∀ x, foldedSetIterable iter X.env x = pure x)
    (ht : ∀ it D env, compTurn (.ListComp elt (⟨tg, iter, ifs, 0⟩ :: rs) scope pos) 0 it (.ref D) env = turnC tg iter ifs it env (rest D env (.compLoop (.ListComp elt (⟨tg, iter, ifs, 0⟩ :: rs) scope pos) 0 it (.ref D) env)) (.compLoop (.ListComp elt (⟨tg, iter, ifs, 0⟩ :: rs) scope pos) 0 it (.ref D) env))
    (hg : ∀ (s : Shared) (H : Hp) (C : Addr) (cl : List (Str × Addr)) (fp : List Addr), PG (X.blk s H scope (compEnvC scope cl C X.env) fp) tg g)
    (hp : ∀ (s : Shared) (H : Hp) (C : Addr) (cl : List (Str × Addr)) (fp : List Addr), PTs (X.blk s H scope (compEnvC scope cl C X.env) fp) ifs tt)
    (hb : ∀ (s : Shared) (H : Hp) (C : Addr) (cl : List (Str × Addr)) (fp : List Addr) (D : Addr), PB (X.blk s H scope (compEnvC scope cl C X.env) fp) (rest D (compEnvC scope cl C X.env)) ws (tb D)) (sub : ∀ j ∈ ws, j ∈ own.map (·.2))
    (h : tLcN wi g tt (own.map (·.2)) tb σ H Q)
    (hR : ∀ D C s' m H', Inv X pins σ H' s' → Q (.ref D) H' → s'.heap.Ns C m → FpOk X pins H' C → compPost (model X.prog X.w) X.A X.xe use Qf (.ref D) C (.ok .next) s') :
    wpAny (model X.prog X.w) X.A (comprehension (.ListComp elt (⟨tg, iter, ifs, 0⟩ :: rs) scope pos) scope X.env pos' (newList []) false (eval iter X.env) use) Qf X.xe s := by
  have hfr : ∀ y ∈ scope.names, y.2 = .free → ∃ c, X.env.cells.lookup y.1 = some c := fun y hy e =>
    I.ok.has _ (ok.free y hy e)
  refine wpAny_comprehension_free (use := use) rfl hs (closure_ok hfr) ok.kind (fun y hy e => (ok.uniq y hy).trans (congrArg some e))
    (thn (hi.run pins s σ H _ I h) fun xv s1 h1 => thn h1 fun itv s2 ⟨it, fp, tn, J, H2, e, I2, T, st2, f2, q⟩ => ?_)
  subst e
  refine wpAny_newObj_type (newEnv_comp ?_) (Nat.zero_le _)
  have hfree : H2 s2.heap.objs.size = none := I2.hok.fresh (Nat.le_refl _)
  obtain ⟨W, ⟨m0, w0⟩, step⟩ := q _ hfree
  have small : ∀ b ∈ fp, b < s2.heap.objs.size := fun b hb => let ⟨_, e, _⟩ := T.obj _ _ st2 b hb; Heap.lt_size e
  have I3 : Inv X pins σ (upd H2 s2.heap.objs.size (.lst [])) { s2 with heap := s2.heap.push { cls := .type "list", data := .seq ([] : List Value).toArray } } :=
    I2.laid (t' := s2.toks) (fun _ _ e => Heap.get?_push_of_some _ e) (Nat.le_refl _) ⟨Nat.zero_le _, [], 0, .nil, Heap.get?_push_size _ rfl⟩
  refine block_run (T := T) (tb := tb s2.heap.objs.size) (rest := rest s2.heap.objs.size) hc hN I3 ok (fun it env => ht it _ env) hg hp (fun s H C cl fp => hb s H C cl fp _) sub (T.keep _ _ _ st2 fun _ _ _ e => Heap.get?_push_of_some _ e)
    (fun b hb => ⟨⟨(upd_ne (Nat.ne_of_lt (small b hb))).trans (f2 b hb).1, (f2 b hb).2⟩, ?_⟩) w0 step (fun s' m H' I' q hn f => hR _ _ s' m H' I' q hn f)
  show b < (s2.heap.push _).objs.size
  rw [Heap.size_push]
  exact Nat.lt_succ_of_lt (small b hb)

/-- the rule, as a value -/
theorem pe_lcN {tg iter : Expr} {rs : List Comprehension} {scope : Scope} {own : List (Str × Nat)} {pos : Pos} {wi : TI} {tb : Addr → TB} {rest : Addr → Env → Code → Sem Fin}
    (hc : X.calm = true) (hN : X.N.Nodup) (hi : PI X tg iter wi) (ok : BlkOk X.N X.env.scope scope own)
    (ht : ∀ it D env, compTurn (.ListComp elt (⟨tg, iter, ifs, 0⟩ :: rs) scope pos) 0 it (.ref D) env = turnC tg iter ifs it env (rest D env (.compLoop (.ListComp elt (⟨tg, iter, ifs, 0⟩ :: rs) scope pos) 0 it (.ref D) env)) (.compLoop (.ListComp elt (⟨tg, iter, ifs, 0⟩ :: rs) scope pos) 0 it (.ref D) env))
    (hg : ∀ (s : Shared) (H : Hp) (C : Addr) (cl : List (Str × Addr)) (fp : List Addr), PG (X.blk s H scope (compEnvC scope cl C X.env) fp) tg g)
    (hp : ∀ (s : Shared) (H : Hp) (C : Addr) (cl : List (Str × Addr)) (fp : List Addr), PTs (X.blk s H scope (compEnvC scope cl C X.env) fp) ifs tt)
    (hb : ∀ (s : Shared) (H : Hp) (C : Addr) (cl : List (Str × Addr)) (fp : List Addr) (D : Addr), PB (X.blk s H scope (compEnvC scope cl C X.env) fp) (rest D (compEnvC scope cl C X.env)) ws (tb D)) (sub : ∀ j ∈ ws, j ∈ own.map (·.2))
    (hs : ∀ x, foldedSetIterable iter X.env x = pure x := by intro _; rfl) :
    PE X (.ListComp elt (⟨tg, iter, ifs, 0⟩ :: rs) scope pos) (tLcN wi g tt (own.map (·.2)) tb) := by
  refine ⟨fun pins s σ H Q I h => ?_⟩
  rw [eval_ListComp]
  refine lcN_core hc hN I hi ok hs ht hg hp hb sub h fun D C s' m H' I' q hn f => ⟨m, hn, fun h2 same => ?_⟩
  exact ⟨.ref D, H', I'.turned (t' := s'.toks) (fun b o hb e => (same.2 b hb).trans e) f.1 f.2.1 f.2.2.2.1 f.2.2.2.2.1 f.2.2.2.2.2, rfl, q⟩
/-- y = [..] on one row, y a local in the slot k -/
theorem ps_setLcN {k : Nat} {y : Str} {py : Pos} {tg iter : Expr} {rs : List Comprehension} {scope : Scope} {own : List (Str × Nat)} {pos spos : Pos} {wi : TI} {tb : Addr → TB} {rest : Addr → Env → Code → Sem Fin}
    (hc : X.calm = true) (hN : X.N.Nodup) (hy : X.N[k]? = some y) (hl : X.env.scope.names.lookup y = some .local)
    (hw : swapsWith (.ListComp elt (⟨tg, iter, ifs, 0⟩ :: rs) scope pos) (some (.Name y py)) spos.line X.env = pure true) (hi : PI X tg iter wi) (ok : BlkOk X.N X.env.scope scope own)
    (ht : ∀ it D env, compTurn (.ListComp elt (⟨tg, iter, ifs, 0⟩ :: rs) scope pos) 0 it (.ref D) env = turnC tg iter ifs it env (rest D env (.compLoop (.ListComp elt (⟨tg, iter, ifs, 0⟩ :: rs) scope pos) 0 it (.ref D) env)) (.compLoop (.ListComp elt (⟨tg, iter, ifs, 0⟩ :: rs) scope pos) 0 it (.ref D) env))
    (hg : ∀ (s : Shared) (H : Hp) (C : Addr) (cl : List (Str × Addr)) (fp : List Addr), PG (X.blk s H scope (compEnvC scope cl C X.env) fp) tg g)
    (hp : ∀ (s : Shared) (H : Hp) (C : Addr) (cl : List (Str × Addr)) (fp : List Addr), PTs (X.blk s H scope (compEnvC scope cl C X.env) fp) ifs tt)
    (hb : ∀ (s : Shared) (H : Hp) (C : Addr) (cl : List (Str × Addr)) (fp : List Addr) (D : Addr), PB (X.blk s H scope (compEnvC scope cl C X.env) fp) (rest D (compEnvC scope cl C X.env)) ws (tb D)) (sub : ∀ j ∈ ws, j ∈ own.map (·.2))
    (hs : ∀ x, foldedSetIterable iter X.env x = pure x := by intro _; rfl) :
    PS X (.Assign [.Name y py] (.ListComp elt (⟨tg, iter, ifs, 0⟩ :: rs) scope pos) spos) (tAsg (tLcN wi g tt (own.map (·.2)) tb) (gName k)) := by
  refine ⟨fun pins s σ H D I h => ?_⟩
  rw [exec_Assign_Name_used _ _ _ _ hw]
  refine wpAny_bind (wpAny_standAt (wpAny_bind (wpAny_bind (thn (lcN_core (Qf := fun _ s' => SP X pins D .next s') (Q := fun x H1 => gName k x σ H1 D.nx) hc hN I hi ok hs ht hg hp hb sub h fun L C s' m H' I' q hn f => ?_) fun _ s' hq => wpAny_pure (wpAny_pure hq)))))
  refine wpAny_assign_Name (store_ok2 (v := V.ref L) I' hN hy (.inl hl) rfl (fun s2 I2 ⟨a, same, ha⟩ => ?_) (.inr hl))
  have apart : C ≠ a := ha.elim (fun z => z ▸ f.2.1) fun z e => f.2.2.2.2.1 y a z e.symm
  refine ⟨m, hn.sameBut same apart, fun h3 same3 => ?_⟩
  exact ⟨_, H', I2.turned (t' := s2.toks) (fun b o hb e => (same3.2 b hb).trans e) f.1 f.2.1 f.2.2.2.1 f.2.2.2.2.1 f.2.2.2.2.2, q⟩
end
end L2.Px

/-! Rules beside the hand layer: sorted of a tuple, enumerate of a tuple, repr of data. -/
namespace L2.Px
open PySem PySem.Spec PyProof.Rows

/-- the context one call of a built-in deeper -/
abbrev up1 (X : Cx) : Cx := { X with A := X.A.in1 }
theorem ok_up1 {X : Cx} (o : X.Ok) : (up1 X).Ok := ⟨o.mod, o.kind, o.glob, o.blt, o.above, o.inj, o.has, o.cab, o.hd, o.frames, o.stk, o.exf, o.bs, o.bsz, o.noex, o.exfs, o.funs, o.frf⟩
theorem inv_up1 {X : Cx} {pins : List (Addr × Obj)} {σ : St} {H : Hp} {s : Shared} (I : Inv X pins σ H s) : Inv (up1 X) pins σ H s := ⟨ok_up1 I.ok, I.os, I.bare, I.base, I.loc, I.cell, I.free, I.freeC, I.pin, I.hok, I.len⟩
theorem ok_dn1 {X : Cx} (o : (up1 X).Ok) : X.Ok := ⟨o.mod, o.kind, o.glob, o.blt, o.above, o.inj, o.has, o.cab, o.hd, o.frames, o.stk, o.exf, o.bs, o.bsz, o.noex, o.exfs, o.funs, o.frf⟩
theorem inv_dn1 {X : Cx} {pins : List (Addr × Obj)} {σ : St} {H : Hp} {s : Shared} (I : Inv (up1 X) pins σ H s) : Inv X pins σ H s := ⟨ok_dn1 I.ok, I.os, I.bare, I.base, I.loc, I.cell, I.free, I.freeC, I.pin, I.hok, I.len⟩
section
variable {X : Cx}
/-- sorted(t), t a tuple of ints: a new list -/
def rSortedTI (K : PySem.W.Frag) : List V → Hp → VK → Prop := fun vs H Q => ∃ (a : Addr) (ns : List Int), vs = [V.ref a] ∧ (SqL K H a (ns.map V.int) ∨ SqT K H a (ns.map V.int)) ∧
  ∀ (ms : List Int) (p : Addr), ms.Perm ns → ms.Pairwise (· ≤ ·) → H p = none → Q (.ref p) (upd H p (.lst (ms.map V.int)))
theorem cr_sortedTI : CallR X (.builtin "sorted") (rSortedTI X.K) := by
  intro pins s σ H vs us Q I r h
  obtain ⟨a, ns, rfl, hq, q⟩ := h
  have go : ∀ (T : String) (o : Obj) (its : List Value) (n : Nat), T = "list" ∨ T = "tuple" → Vals (ns.map V.int) its → (ns.map V.int).length ≤ sizeLine → s.heap.get? a = some o → o.cls = .type T → o.data = .seq its.toArray n →
      wpAny (model X.prog X.w) X.A (call (.builtin "sorted") us) (EP X pins σ Q) X.xe s := by
    intro T o its n hT rv hz ho hc hd
    have hi : its.length ≤ sizeLine := rv.length ▸ hz
    rw [Vals.ref1 r]
    refine Calls.call_function_entry kind_sorted plain_sorted entry_sorted (args_sorted1 _) ?_
    unfold Builtin.«sorted»
    refine wpAny_bind (m := checkCount "sorted" 1 1 _) (wpAny_pure (wpAny_bind (wpAny_collect_seq a hT ho hc hd (fun h1 kp => ?_) (by rw [List.size_toArray]; exact hi))))
    refine wpAny_bind (wpAny_newList ?_ hi)
    have I1 : Inv X pins σ H { s with heap := h1 } := I.kept (t' := s.toks) kp
    have hn : H h1.objs.size = none := I1.hok.fresh (Nat.le_refl _)
    have I2 : Inv X pins σ (upd H h1.objs.size (.lst (ns.map V.int))) { s with heap := h1.push { cls := .type "list", data := .seq its.toArray } } :=
      I1.laid (t' := s.toks) (fun _ _ e => Heap.get?_push_of_some _ e) (Nat.le_refl _) ⟨hz, its, 0, rv, Heap.get?_push_size _ rfl⟩
    have srt := mt_sortI (X := up1 X) pins { s with heap := h1.push { cls := .type "list", data := .seq its.toArray } } σ _ (.ref h1.objs.size) [] (.ref h1.objs.size) [] (fun v H' => v = .non ∧ ∃ ms : List Int, ms.Perm ns ∧ ms.Pairwise (· ≤ ·) ∧ H' = upd H h1.objs.size (.lst (ms.map V.int))) (inv_up1 I2) rfl .nil
      ⟨h1.objs.size, ns, rfl, rfl, upd_same, fun ms hp hs => ⟨rfl, ms, hp, hs, upd_upd⟩⟩
    refine wpAny_bind (wpAny_holding (thn srt fun v s3 ⟨x, H3, I3, rx, ex, ms, hp, hs, e3⟩ => ?_))
    subst e3
    exact wpAny_pure ⟨_, rfl, .ref h1.objs.size, _, inv_dn1 I3, rfl, q ms _ hp hs hn⟩
  rcases hq with hq | hq
  · obtain ⟨its, rv, pl, hz⟩ := I.list hq
    obtain ⟨o, ho, hc, n, hd⟩ := pl.isList
    exact go _ o its n (.inl rfl) rv hz ho hc hd
  · obtain ⟨its, rv, pl, hz⟩ := I.tuple hq
    obtain ⟨o, ho, hc, n, hd⟩ := pl
    exact go _ o its n (.inr rfl) rv hz ho hc hd

/-- repr(x) of data, where no repr runs -/
def rReprD (K : PySem.W.Frag) : List V → Hp → VK → Prop := fun vs H Q => ∃ (x : V) (d : PyData), vs = [x] ∧ Dp K H x d ∧ d.showable = true ∧ d.hasDict = false ∧ d.depth ≤ 60 ∧ d.shown.length ≤ sizeLine ∧ Q (.str d.shown) H
theorem cr_reprD (hg : X.A.guards = some []) (hu : X.A.units + 64 < cLine) : CallR X (.builtin "repr") (rReprD X.K) := by
  intro pins s σ H vs us Q I r h
  obtain ⟨x, d, rfl, hd, hs, hnd, hdp, hz, q⟩ := h
  cases r with
  | cons rx rr =>
    cases rr
    have hd0 := hd
    cases hd with
    | non =>
      cases rx
      exact PySem.P.repr_of_none ⟨.str ("None" : Str), H, I.tok _, ⟨_, rfl⟩, q⟩
    | bl b =>
      cases rx
      exact PySem.P.repr_of_bool ⟨.str (if b then ("True" : Str) else ("False" : Str)), H, I.tok _, ⟨_, by cases b <;> rfl⟩, by cases b <;> exact q⟩
    | int i =>
      obtain ⟨t, rfl⟩ := rx
      exact PySem.P.repr_of_int (of_decide_eq_true (by simpa [PyData.showable] using hs)) ⟨.str (toString i : String), H, I.tok _, ⟨_, rfl⟩, q⟩
    | str x =>
      obtain ⟨t, rfl⟩ := rx
      exact PySem.P.repr_of_str ⟨.str (reprText x), H, I.tok _, ⟨_, rfl⟩, q⟩ hz
    | lst hq ha =>
      cases rx
      obtain ⟨as, rd⟩ := Dp.reads I _ _ _ hd0 rfl
      exact repr_of_reads' rd hs (fun z => by rw [hnd] at z; cases z) hg (by omega) (fun _ _ e => e) (fun h' u tk kp => ⟨.str _, H, I.kept (t' := tk) kp, ⟨_, rfl⟩, q⟩) hz
    | tup hq ha =>
      cases rx
      obtain ⟨as, rd⟩ := Dp.reads I _ _ _ hd0 rfl
      exact repr_of_reads' rd hs (fun z => by rw [hnd] at z; cases z) hg (by omega) (fun _ _ e => e) (fun h' u tk kp => ⟨.str _, H, I.kept (t' := tk) kp, ⟨_, rfl⟩, q⟩) hz

/-! ### enumerate(t), t a tuple -/
theorem meets_enum_newT (t : Addr) (items : Array Value) :
    Meets (Builtin.«enumerate.__new__» ⟨[.type "enumerate", .ref t], []⟩) (fun _ R s => s.heap.IsTuple t items ∧
      R (.ok (.ret (.ref (s.heap.push { cls := .type "tuple_iterator", data := .fields #[.ref t, .int 0 0] }).objs.size)))
        { s with heap := (s.heap.push { cls := .type "tuple_iterator", data := .fields #[.ref t, .int 0 0] }).push { cls := .type "enumerate", data := .fields #[.none, .bool false, .ref s.heap.objs.size, rawInt 0, .none, .none] } }) :=
  .of_wp fun prog w A R s h => by
    obtain ⟨hp, g, d, tk, os⟩ := s
    obtain ⟨hl, h⟩ := h
    have hsub := sub_enumerate
    have hL : Heap.IsTuple (Shared.heap ⟨hp, g, d, tk, os⟩) t items := hl
    wp_walk
    refine wpAny_stack_any fun st => wpAny_pure ?_
    split
    · rename_i c _ _ _ _ _
      cases (c == Value.type "enumerate")
      all_goals
        wp_walk using wpAny_pyIter_tuple hL
        exact ⟨_, rfl, h⟩
    · wp_walk using wpAny_pyIter_tuple hL
      exact ⟨_, rfl, h⟩

theorem call_enumT {prog : Program} {w : World} {A : Around} {E : Value → Shared → Prop} {s : Shared} {t : Addr} {items : Array Value} {Q : Value → Shared → Prop} (ht : s.heap.IsTuple t items)
    (h : ∀ h', IsEnum h' (s.heap.objs.size + 1) s.heap.objs.size 0 .none → h'.IsTupleIter s.heap.objs.size t 0 →
      (∀ b o, s.heap.get? b = some o → h'.get? b = some o) → Q (.ref (s.heap.objs.size + 1)) { s with heap := h' }) : wpAny (model prog w) A (call (.type "enumerate") [.ref t]) Q E s := by
  refine callType_new F.called_enumerate (by decide) (F.typeCall_enumerate_1 _) (F.newCall_enumerate_1 _) (fun obj => F.args_object_init_2 obj _) F.entry_enumerate_new (meets_enum_newT t items) ⟨ht, ?_⟩
  have z : (s.heap.push { cls := .type "tuple_iterator", data := .fields #[.ref t, .int 0 0] }).objs.size = s.heap.objs.size + 1 := Heap.size_push ..
  have e2 := Heap.get?_push_size (s.heap.push { cls := .type "tuple_iterator", data := .fields #[.ref t, .int 0 0] }) (o := { cls := .type "enumerate", data := .fields #[.none, .bool false, .ref s.heap.objs.size, rawInt 0, .none, .none] }) rfl
  rw [z] at e2
  show _ ∧ _
  rw [z]
  exact ⟨⟨_, e2, rfl⟩, h _ e2 ⟨_, Heap.get?_push_of_some _ (Heap.get?_push_size _ rfl), rfl, rfl⟩ fun b o x => Heap.get?_push_of_some _ (Heap.get?_push_of_some _ x)⟩

/-- the pairs (i, item i) of the tuple at a, each a new tuple -/
def Itet (K : PySem.W.Frag) (a : Addr) : It :=
  ⟨fun i H => ∃ (xs : List V) (x : V), SqT K H a xs ∧ xs[i]? = some x, fun i H v H' => ∃ T x, v = .ref T ∧ H T = none ∧ H' = upd H T (.tup [.int (i : Nat), x]) ∧ ∀ xs, SqT K H a xs → xs[i]? = some x,
    fun i H => ∃ xs : List V, SqT K H a xs ∧ xs.length = i⟩
theorem turn_enumT {P : Program} {w : World} {K : PySem.W.Frag} {elts : List Expr} {kk : Nat} {tpos : Pos} (a e it : Addr) :
    Turn P w K (.Tuple elts kk tpos) (Itet K a) [e, it] e (fun i h => (∃ old, IsEnum h e it ((i : Nat) : Int) old) ∧ h.IsTupleIter it a i ∧ e ≠ it) where
  mem := List.mem_cons_self
  obj := fun i h ⟨⟨old, he⟩, ⟨o, ho, hc, hd⟩, _⟩ b hb => by
    rcases List.mem_cons.mp hb with z | z
    · subst z
      exact ⟨_, he, fun v q => nomatch q⟩
    · obtain rfl := List.mem_singleton.mp z
      exact ⟨o, ho, fun v q => by rw [hd] at q; cases q⟩
  keep := fun i h h' ⟨⟨old, he⟩, hi, hne⟩ k => ⟨⟨old, k e (by simp) _ he⟩, hi.at fun o q => k it (by simp) o q, hne⟩
  item := by
    intro X hP hw hK hc i pins s σ H E I hf st hg
    subst hP hw hK
    obtain ⟨⟨old, he⟩, hit, hne⟩ := st
    obtain ⟨xs, x, hq, hx⟩ := hg
    obtain ⟨its, rv, tp, hz⟩ := I.tuple hq
    obtain ⟨u, hu, ru⟩ := rv.get hx
    have hel : e < s.heap.objs.size := Heap.lt_size he
    have hil : it < s.heap.objs.size := by obtain ⟨_, q, _⟩ := hit; exact Heap.lt_size q
    have nit : a ≠ it := fun z => by
      subst z
      obtain ⟨o1, h1, c1, d1⟩ := hit
      obtain ⟨o2, h2, c2, n2, d2⟩ := tp
      rw [h1] at h2; cases h2
      rw [d1] at d2; cases d2
    have nea : e ≠ a := fun z => by
      subst z
      obtain ⟨o2, h2, c2, n2, d2⟩ := tp
      have he' : s.heap.get? e = _ := he
      rw [he'] at h2; cases h2; cases d2
    refine wpAny_pyNext_enum_itemD (Draws.tuple (A := X.A.in1) (I.ok.hd hc) it a nit its.toArray) he ⟨hit, tp⟩ (by rw [List.size_toArray, ← rv.length]; exact (List.getElem?_eq_some_iff.mp hx).1) hne (by simp [hne, nea]) fun y h' tk hy ho st' hT hsz hk => ?_
    have ey : y = u := by
      have : its[i]? = some y := by simpa using hy
      rw [hu] at this
      exact (Option.some.inj this).symm
    subst ey
    refine ⟨_, rfl, wpAny_letOwnedTupleGo_enum (s := { s with heap := h', toks := tk + 1 }) ho fun h2 he2 same => ?_⟩
    have hT2 : h2.get? s.heap.objs.size = some { cls := .type "tuple", data := .seq #[.int i tk, y] } := (same.2 _ (Nat.ne_of_gt hel)).trans hT
    have new : ObjOk X.prog X.w (upd H s.heap.objs.size (.tup [.int (i : Nat), x])) h2 s.heap.objs.size (.tup [.int (i : Nat), x]) :=
      ⟨(by decide : 2 ≤ sizeLine), [.int i tk, y], .cons ⟨_, rfl⟩ (.cons ru .nil), ⟨_, hT2, rfl, _, rfl⟩⟩
    have I1 := I.turnedNew (t' := tk + 1) (ch := [e, it]) (fun b ob hb q => by
      have hb1 : b ≠ e := fun z => hb (by simp [z])
      have hb2 : b ≠ it := fun z => hb (by simp [z])
      exact (same.2 b hb1).trans (hk b ob hb1 hb2 q)) hf (Nat.le_refl _) new
    refine ⟨.ref s.heap.objs.size, _, I1, rfl, ⟨_, x, rfl, I.hok.fresh (Nat.le_refl _), rfl, fun ys hy => by rw [I.tuple_inj hy hq]; exact hx⟩, ⟨⟨y, ?_⟩, st'.1.at fun o q => (same.2 it (Ne.symm hne)).trans q, hne⟩, fun b hb => ?_⟩
    · rw [show ((i + 1 : Nat) : Int) = (i : Int) + 1 by omega]
      exact he2
    · have small : b < s.heap.objs.size := by
        rcases List.mem_cons.mp hb with z | z
        · rw [z]; exact hel
        · rw [List.mem_singleton.mp z]; exact hil
      exact (upd_ne (Nat.ne_of_lt small)).trans (hf b hb).1
  done := by
    intro X hP hw hK hc i pins s σ H E I hf st hg
    subst hP hw hK
    obtain ⟨⟨old, he⟩, hit, hne⟩ := st
    obtain ⟨xs, hq, hx⟩ := hg
    obtain ⟨its, rv, tp, hz⟩ := I.tuple hq
    obtain ⟨f0, f1, f2, f3, f4, f5⟩ := hf it (by simp)
    have nit : a ≠ it := fun z => by
      subst z
      obtain ⟨o1, h1, c1, d1⟩ := hit
      obtain ⟨o2, h2, c2, n2, d2⟩ := tp
      rw [h1] at h2; cases h2
      rw [d1] at d2; cases d2
    have ei : its.toArray.size = i := by rw [List.size_toArray, ← rv.length]; exact hx
    rw [← ei] at hit
    refine wpAny_pyNext_enum_endD (Draws.tuple (A := X.A.in1) (I.ok.hd hc) it a nit its.toArray) he ⟨hit, tp⟩ fun h' eb => ?_
    exact ⟨rfl, I.turned (t' := s.toks) (fun b o hb q => eb b o hb q) f0 f1 f3 f4 f5⟩
  self := fun A i s Q E ⟨⟨_, he⟩, _⟩ h => wpAny_pyIter_enum he h

def iEnumT (K : PySem.W.Frag) (ta : TA) : TI := fun σ H R => ta σ H fun vs H1 => ∃ a xs, vs = [.ref a] ∧ SqT K H1 a xs ∧ R (Itet K a) H1
theorem pi_enumT {e : Expr} {ta : TA} {p pos tpos : Pos} {elts : List Expr} {kk : Nat} (hg : Gl X "enumerate") (hm : X.mg "enumerate" = none) (ha : PA X [e] ta) (hs : starEach [e] X.env = [(false, eval e X.env)] := by rfl) :
    PI X (.Tuple elts kk tpos) (.Call (.Name "enumerate" p) [e] [] pos) (iEnumT X.K ta) := by
  refine ⟨fun pins s σ H R I h => ?_⟩
  refine Call_ (ld_blt I hg hm boot_enumerate (PyProof.Rows.callWith_type1 (thn (ha.run pos pins s σ H _ I h) fun us s1 ⟨vs, H1, I1, r1, a, xs, ex, hq, q⟩ => ?_) hs rfl))
  subst ex
  rw [Vals.ref1 r1]
  obtain ⟨its, rv, tp, hz⟩ := I1.tuple hq
  refine call_enumT tp fun h' he hit hk => wpAny_pyIter_enum he ?_
  refine ⟨s1.heap.objs.size + 1, [s1.heap.objs.size + 1, s1.heap.objs.size], _, _, H1, rfl, I1.kept (t' := s1.toks) hk, turn_enumT a (s1.heap.objs.size + 1) s1.heap.objs.size, ⟨⟨.none, he⟩, hit, Nat.succ_ne_self _⟩, fun b hb => ?_, q⟩
  have big : s1.heap.objs.size ≤ b := by
    rcases List.mem_cons.mp hb with z | z
    · rw [z]; exact Nat.le_succ _
    · rw [List.mem_singleton.mp z]; exact Nat.le_refl _
  exact I1.fpOk big (I1.hok.fresh big)

theorem walk_enumT {K : PySem.W.Frag} {a : Addr} {xs : List V} : Walk (Itet K a) xs.length (fun H => SqT K H a xs) (YPair (fun i => some (.int (i : Nat))) (fun i => xs[i]?)) :=
  ⟨fun i H hi h => ⟨xs, xs[i], h, by simp [hi]⟩, fun H h => ⟨xs, h, rfl⟩, fun i H x H' hi h ⟨T, y, e, hT, e2, hy⟩ => ⟨T, _, y, e, hT, e2, rfl, hy xs h⟩⟩

/-- a clause's turns by an invariant -/
theorem cl_it {J : It} {n : Nat} {G : Hp → Prop} {Y : Nat → Hp → V → Hp → Prop} (w : Walk J n G Y) {g : TG} {tt : TT} {vs : List Nat} {tb : TB} {σ : St} {H1 : Hp} {Nx0 : Hp → Prop} (Pv : Nat → Hp → Prop) (h0 : Pv 0 H1) (hG : ∀ i H, i ≤ n → Pv i H → G H)
    (hs : ∀ i x H H', i < n → Pv i H → Y i H x H' → g x (wipe σ vs) H' fun σ2 H2 => wipe σ2 vs = wipe σ vs ∧ tt σ2 H2 fun b H3 => if b = true then tb σ2 H3 (Pv (i + 1)) else Pv (i + 1) H3) (hd : ∀ H, Pv n H → Nx0 H) :
    ∃ W : Nat → Nat → Hp → Prop, (∃ m, W 0 m H1) ∧ ClStep J g tt vs tb σ W Nx0 := by
  refine ⟨fun i m H => m = n - i ∧ i ≤ n ∧ Pv i H, ⟨n, rfl, Nat.zero_le _, h0⟩, fun i m H hw => ?_⟩
  obtain ⟨rfl, hi, p⟩ := hw
  rcases Nat.lt_or_eq_of_le hi with lt | e
  · refine .inr ⟨w.goes i H lt (hG i H hi p), Pv (i + 1), fun H' p' => ⟨n - (i + 1), by omega, rfl, lt, p'⟩, fun x H' y => hs i x H H' lt p (w.yields i H x H' lt (hG i H hi p) y)⟩
  · subst e
    exact .inl ⟨w.stops H (hG i H hi p), hd H p⟩
end
end L2.Px

/-! The law's own def, entered where no repr runs: its promise knows that. -/
namespace L2.Px
open PySem PySem.Spec PyProof.Rows

/-- the promise of a def that is entered where no repr runs -/
structure GFn (P : Program) (w : World) (K : PySem.W.Frag) (mg : Str → Option Value) (base : Heap) (k : Nat) (f : Addr) (fd : FuncData) (ps : List Str) (sp : Sp) : Prop where
  run : ∀ (A : Around) (outer : List Env) (s : Shared) (H : Hp) (args : Args) (us : List Value) (vs : List V) (Q : VK) (E : XK), A.guards = some [] → Room k A → Env0 P w K mg base A outer s H → BindsTo s fd args (ps.zip us) → Vals vs us → sp vs H Q E →
    codeAny (model P w) A (.call (.ref f) args) (CR CX0 outer P w H s Q E) s

theorem gfn_of {P : Program} {w : World} {K : PySem.W.Frag} {mg : Str → Option Value} {base : Heap} {k : Nat} {f : Addr} {x qual : Str} {st : Stmt} {fd : FuncData} {N ps : List Str} {sp : Sp} (F : Fun K x qual st f fd) (S : FnScope N ps (defScope st))
    (len : ∀ vs H Q E, sp vs H Q E → vs.length = ps.length)
    (body : ∀ (cdv : Value) (A : Around) (outer : List Env) (s : Shared) (H : Hp) (vs : List V) (Q : VK) (E : XK), A.guards = some [] → Room k (A.deeper (envOfC qual (defScope st) s.heap.objs.size f cdv)) → sp vs H Q E →
      ∃ t, PSs (cxOf CX0 P w K mg base N qual (defScope st) f cdv A outer s H E).nox (defBody st) t ∧ t { nx := fun _ H' => Q .non H', rt := Q } (start N vs) H) :
    GFn P w K mg base (k + 1) f fd ps sp := by
  obtain ⟨oc, od, kV, doc, pm, an, cdv, ct, osl, rfl, lk, hcd⟩ := F.ex
  refine ⟨fun A outer s H args us vs Q E hg hr e0 hb r q => ?_⟩
  have KX : K.In s.heap := e0.mod.kin.keeps fun b o e => (e0.bs b o e).1
  have lim := e0.mod.nolimit.keeps fun b o e => (e0.bs b o e).1
  refine codeAny_call_function hr.depth (KX _ _ lk) rfl S.co S.gen rfl (PySem.W.codeRec_of KX hcd) (hb _ _ _ _ (wpAny_newFunctionEnv_cells S.kind (fun y hy => ?_) fun env he s1 x => ?_))
  · rcases S.par y.1 (List.of_mem_zip (show (y.1, y.2) ∈ ps.zip us from hy)).1 with z | z
    · exact .inl z
    · exact .inr ⟨z, PySem.W.cellsFrom_some _ _ _ (.inl z)⟩
  · subst he
    refine ⟨lim.keeps x.toInCall.keep, codeAny_func ?_⟩
    obtain ⟨t, pt, tt⟩ := body cdv A outer s H vs Q E hg (hr.deeper _) q
    refine wpAny_mono (pt.nox.run [] s1 (start N vs) H _ (inv_start S hr.hd e0 (len _ _ _ _ q) r x) tt) (fun fl s' h => ?_) fun e s' h => h
    cases fl with
    | ret u => exact let ⟨v, _, H', J, rv, q'⟩ := h; ⟨v, H', J.os, J.bare, J.base, J.hok, rv, q'⟩
    | next => exact let ⟨_, H', J, q'⟩ := h; ⟨.non, H', J.os, J.bare, J.base, J.hok, rfl, q'⟩
    | brk => exact let ⟨_, _, _, q'⟩ := h; q'.elim
    | cont => exact let ⟨_, _, _, q'⟩ := h; q'.elim

/-- the heap that tracks the script alone, if it is not written -/
def scriptH (a : Addr) (o : Obj) (xs : List V) : Hp := fun b => if b = a then some (.frz o (.lst xs)) else none

theorem law_callG {P : Program} {w : World} {K : PySem.W.Frag} {mg mb : Str → Option Value} {k : Nat} {fa a : Addr} {fd : FuncData} {x : Str} {sp : Sp} {s : Shared} {vs : List Value} {ns : List Int}
    (KX : K.In s.heap) (hns : s.heap.Ns mainGlobals mg) (hb : s.heap.Ns builtinsNs mb) (hbb : ∀ x : Str, x ≠ "__name__" → mb x = bootBuiltins x) (hlim : s.heap.NoLimit) (hg : s.gens = #[])
    (ha : s.heap.get? a = some { cls := .type "list", data := .seq vs.toArray }) (hi : IntsAre vs ns) (hl : ns.length ≤ sizeLine) (hr : Room k callerA)
    (F : ∀ base : Heap, K.In base → base.Ns mainGlobals mg → GFn P w K mg base k fa fd [x] sp) (hbind : ∀ (s : Shared) (u : Value), BindsTo s fd ⟨[u], []⟩ [(x, u)])
    (hsp : ∀ H : Hp, SqL K H a (ns.map V.int) → sp [.ref a] H (fun v _ => v = .bl true) fun _ _ _ => False) :
    codeAny (model P w) callerA (.call (.ref fa) ⟨[.ref a], []⟩) (fun r s' => r = .ok (.ret (.bool true)) ∧ OldK s.heap s'.heap ∧ s'.os = s.os ∧ AllBare s'.gens) s := by
  have rv := vals_ints hi
  -- the tracked heap: what it needs
  suffices core : ∀ H : Hp, (∀ b u, H b = some u → b = a ∧ K.lookup a = none ∧ ∃ o xs, u = .frz o (.lst xs)) → SqL K H a (ns.map V.int) → HOk P w H s.heap →
      codeAny (model P w) callerA (.call (.ref fa) ⟨[.ref a], []⟩) (fun r s' => r = .ok (.ret (.bool true)) ∧ OldK s.heap s'.heap ∧ s'.os = s.os ∧ AllBare s'.gens) s by
    cases hk : K.lookup a with
    | some o =>
      have e := KX a o hk
      rw [ha] at e
      cases e
      exact core (fun _ => none) (fun b u z => by cases z) (.inr ⟨_, vs.toArray, _, hk, rfl, rfl, rfl, by rw [List.size_toArray, hi.length]; exact hl, by simpa using rv⟩) fun b u z => by cases z
    | none =>
      refine core (scriptH a { cls := .type "list", data := .seq vs.toArray } (ns.map V.int)) (fun b u z => ?_) (.inl (.inr ⟨_, if_pos rfl⟩)) fun b u z => ?_
      · unfold scriptH at z
        split at z
        · cases z
          rename_i e
          exact ⟨e, hk, _, _, rfl⟩
        · cases z
      · unfold scriptH at z
        split at z
        · cases z
          rename_i e
          subst e
          exact ⟨ha, by rw [List.length_map]; exact hl, vs, _, rv, ha⟩
        · cases z
  intro H hH hS hok
  have old : ∀ {b : Addr} {o : Obj}, s.heap.get? b = some o → (b = a → K.lookup a ≠ none) → H b = none := fun {b o} e n => by
    cases q : H b with
    | none => rfl
    | some u =>
      obtain ⟨e1, e2, _⟩ := hH b u q
      exact absurd e2 (n e1)
  have dict : ∀ {b : Addr} {o : Obj} {es : Array DictEntry} {ep : Nat}, s.heap.get? b = some o → o.data = .dict es ep → (hidT s.heap H).get? b = some o := fun {b o es ep} e d => by
    refine hidT_get e ?_
    cases q : H b with
    | none => rfl
    | some u =>
      obtain ⟨rfl, _, _⟩ := hH b u q
      rw [ha] at e
      cases e
      cases d
  have ns' : ∀ {b : Addr} {m : Str → Option Value}, s.heap.Ns b m → (hidT s.heap H).Ns b m := fun ⟨o, es, ep, e, d, r⟩ => ⟨o, es, ep, dict e d, d, r⟩
  have kin : K.In (hidT s.heap H) := fun b o e => hidT_get (KX b o e) (old (KX b o e) fun z n => by rw [z, n] at e; cases e)
  have e0 : Env0 P w K mg (hidT s.heap H) callerA [] s H := ⟨rfl, ⟨kin, ns' hns, ⟨mb, ns' hb, hbb⟩, let ⟨mc, h1, h2⟩ := hlim; ⟨mc, ns' h1, h2⟩⟩, fun b o e => of_hidT e, Nat.le_of_eq (hidT_size _ _), trivial, fun b z => (by cases z), hok, .of_eq hg⟩
  refine codeAny_mono ((F _ kin (ns' hns)).run callerA [] s H ⟨[.ref a], []⟩ [.ref a] [.ref a] _ _ rfl hr e0 (hbind s (.ref a)) (.cons rfl .nil) (hsp H hS)) fun r s' h => ?_
  match r, h with
  | .ok (.ret u), ⟨v, H', os, bare, un, hok', rr, q⟩ =>
    have q : v = .bl true := q
    subst q
    cases rr
    refine ⟨rfl, OldK.of_keep fun b o e => ?_, os, bare⟩
    cases z : H b with
    | none => exact un.keep b o e z (by intro y; cases y) (by simp)
    | some u =>
      obtain ⟨_, _, o2, xs, rfl⟩ := hH b u z
      have h1 := (hok b _ z).1
      have h2 := (hok' b _ (un.frzs b _ _ z)).1
      rw [e] at h1
      cases h1
      exact h2

/-- the goal that k_head leaves, from the law's promise -/
theorem walkG {l : PySem.W.OpenLaw} {n k : Nat} {q : Program} {loose : List Str} {XP : (Str → Option Value) → Heap → Prop} {YP : World → Heap → Prop} {d : DefRec} {K : Params → PySem.W.Frag} {sp : PySem.W.Frag → Sp} {x : Str}
    (hn : l.most = some n) (hn2 : n ≤ sizeLine) (hdf : d.params.defaults = []) (hr : Room k callerA) (hY : ∀ (w : World) (h : Heap), YP w h → (K w.params).In h)
    (F : ∀ (w : World) (mg : Str → Option Value) (fa : Addr) (h : Heap), (K w.params).In h → h.Ns mainGlobals mg → mg d.name = some (.ref fa) →
      ∃ fd : FuncData, (∀ (s : Shared) (u : Value), BindsTo s fd ⟨[u], []⟩ [(x, u)]) ∧ ∀ base : Heap, (K w.params).In base → base.Ns mainGlobals mg → GFn l.prog w (K w.params) mg base k fa fd [x] (sp (K w.params)))
    (hsp : ∀ (K : PySem.W.Frag) (H : Hp) (a : Addr) (ns : List Int), ns.length ≤ n → SqL K H a (ns.map V.int) → sp K [.ref a] H (fun v _ => v = .bl true) fun _ _ _ => False) :
    PySem.W.WalkO q loose XP YP l.row.toRowW d [] (fun f vs => PySem.call f vs) :=
  Att.attach_call hn hdf fun w s₀ s₁ mg mb fa o pm cd doc a vs ns G Y ho hd hcd hmg hobj hints hlen hg =>
    let ⟨_, hb, hF⟩ := F w mg fa _ (hY w _ Y) G.T.g hmg
    law_callG (hY w _ Y) G.T.g G.T.b G.T.builtins G.T.nolimit hg hobj hints (Nat.le_trans hlen hn2) hr hF hb fun H hS => hsp _ H a ns hlen hS
end L2.Px

/-! Several except clauses, each with a name of its own or without one. -/
namespace L2.Px
open PySem PySem.Spec PyProof.Rows
/-- a clause: the class that it names, the slot of its name, its suite -/
structure Cla where
  c : Value
  i : Option Nat
  ts : Addr → Value → Option Addr → TS
/-- the ends of a suite whose clause has a name -/
def endsAt (D : Ends) : Option Nat → Ends
  | none => D
  | some i => { nx := fun τ G => D.nx (τ.set i none) G, rt := D.rt, bk := fun τ G => D.bk (τ.set i none) G, ct := fun τ G => D.ct (τ.set i none) G }
def slotAt (τ : St) (a : Addr) : Option Nat → St
  | none => τ
  | some i => τ.set i (some (.ref a))
/-- what the clauses wish, one behind the other -/
def wCl (K : PySem.W.Frag) (Wo : WX) (D : Ends) : List Cla → WX
  | [] => Wo
  | q :: r => fun cls d τ G => ∃ b, PySem.W.exmOne K cls q.c = some b ∧ (b = true → ∀ a, G a = none → q.ts a cls d (endsAt D q.i) (slotAt τ a q.i) G) ∧ (b = false → wCl K Wo D r cls d τ G)
inductive ClOk (X : Cx) : List ExceptHandler → List Cla → Prop
  | nil : ClOk X [] []
  | bare {x : Str} {c : Value} {ts : Addr → Value → Option Addr → TS} {st : Stmt} {sts : List Stmt} {p1 p2 : Pos} {hs : List ExceptHandler} {l : List Cla} (nm : Names X x c)
      (sui : ∀ (a : Addr) (ob : Obj) (cls : Value) (d : Option Addr) (pn : List (Addr × Obj)), Zc cls d ob → (∃ vs, ob.data = .fields vs) → PSs (X.suite a ((a, ob) :: pn)) (st :: sts) (ts a cls d)) (r : ClOk X hs l) :
      ClOk X (.ExceptHandler (some (.Name x p1)) none (st :: sts) p2 :: hs) (⟨c, none, ts⟩ :: l)
  | named {x n : Str} {c : Value} {i : Nat} {ts : Addr → Value → Option Addr → TS} {st : Stmt} {sts : List Stmt} {p1 p2 : Pos} {hs : List ExceptHandler} {l : List Cla} (nm : Names X x c) (ni : X.N[i]? = some n) (nk : X.env.kindOf n = some .local)
      (sui : ∀ (a : Addr) (ob : Obj) (cls : Value) (d : Option Addr) (pn : List (Addr × Obj)), Zc cls d ob → (∃ vs, ob.data = .fields vs) → PSs (X.suite a ((a, ob) :: pn)) (st :: sts) (ts a cls d)) (r : ClOk X hs l) :
      ClOk X (.ExceptHandler (some (.Name x p1)) (some n) (st :: sts) p2 :: hs) (⟨c, some i, ts⟩ :: l)
section
variable {X : Cx} {bd : List Stmt} {hd0 : ExceptHandler} {hdr : List ExceptHandler} {cs : List Cla} {ps : Pos} {tb : WX → TS} {Wo : WX}
theorem ps_try_cl (e1 : X.stack = X.env :: X.outer) (e2 : X.env.frame = some X.env.locals) (nod : X.N.Nodup) (tko : Takes X Wo)
    (bod : ∀ (W : WX) (pn : List (Addr × Obj)) (xe : Value → Shared → Prop), Takes (X.tr pn xe) W → PassesOwn (model X.prog X.w) X.A X.env xe → PSs (X.tr pn xe) bd (tb W))
    (clo : ClOk X (hd0 :: hdr) cs) : PS X (.Try bd (hd0 :: hdr) [] [] ps) (fun D τ G => tb (wCl X.K Wo D cs) D τ G) := by
  refine ⟨fun pins s τ G D I wish => ?_⟩
  have okX := I.ok
  have frX : X.A.frames = some (X.env :: X.outer) := by rw [okX.frames, e1]
  refine wpAny_Try_except ?_
  refine wpAny_mono ((bod (wCl X.K Wo D cs) (X.pn ++ pins) (fun e t1 => wpAny (model X.prog X.w) X.A (noteFrame e X.env) (fun _ t2 => wpAny (model X.prog X.w) X.A (setFlight e none) (fun _ t3 =>
    wpAny (model X.prog X.w) X.A (handleBy e X.env (hd0 :: hdr)) (SP X pins D) X.xe t3) X.xe t2) X.xe t1) (fun u t' xx => ?_) PassesOwn.looking).run [] s τ G D (I.toTry _) wish) (fun fl t1 hsp => ?_) (fun _ _ z => z)
  · obtain ⟨a, B, t0, pins', τ', G', cls, d, rfl, J0, nb, up, sky, na, os, ag, w⟩ := xx
    have J : Inv X pins τ' G' t0 := J0.ofTry okX
    have skyX : Sky B (X.env :: X.outer) a (Zc cls d) X.env.locals t'.heap := by rw [← e1]; exact sky
    show wpAny (model X.prog X.w) X.A (noteFrame (.ref a) X.env) _ _ _
    refine Sky.land Zc.steady frX e2 skyX fun hp flp upp => ?_
    have Jp : Inv X pins τ' G' { t' with heap := hp } := J.landed nb flp.1 (up.trans upp) os ag
    obtain ⟨obp, vsp, hep, hzp, hdp⟩ := flp.there
    have nfr : a ∉ frs (X.env :: X.outer) := fun hm => by
      obtain ⟨_, o2, eo, hnf⟩ := flp.2.2.1.mem hm
      rw [hep] at eo
      cases eo
      exact hnf _ hdp
    have nL : a ≠ X.env.locals := fun z => nfr (List.mem_filterMap.mpr ⟨X.env, List.mem_cons_self, by rw [e2, z]⟩)
    have nF : a ∉ X.fs := fun hm => let ⟨y, hy, q⟩ := List.mem_filterMap.mp hm; nfr (List.mem_filterMap.mpr ⟨y, List.mem_cons_of_mem _ hy, q⟩)
    have Sp := Jp.suite hep hdp na nL nF
    have LTp : PySem.W.Looks (model X.prog X.w) hp (typeOf (.ref a)) cls := fun _ _ _ _ k q => wpAny_typeOf_ref (k _ _ hep) (by rw [hzp.1]; exact q)
    have tst : ∀ {x : Str} {c : Value} {np : Pos} {Q : Value → Shared → Prop} {E : Value → Shared → Prop}, Names X x c → Q c { t' with heap := hp } → wpAny (model X.prog X.w) (X.A.mark (some (.ref a))) (eval (.Name x np) X.env) Q E { t' with heap := hp } := fun {x c np Q E} hc q => by
      obtain ⟨hg, hdb, hm | ⟨hm, hv, hnn⟩⟩ := hc
      · exact ld_glob (X := X.suite a ((a, obp) :: (X.pn ++ pins))) Sp hg hm q hdb
      · exact ld_blt (X := X.suite a ((a, obp) :: (X.pn ++ pins))) Sp hg hm hv q hnn hdb
    have go : ∀ {hs' : List ExceptHandler} {l' : List Cla}, ClOk X hs' l' → wCl X.K Wo D l' cls d τ' G' → wpAny (model X.prog X.w) X.A (handleBy (.ref a) X.env hs') (SP X pins D) X.xe { t' with heap := hp } := by
      intro hs' l' hk
      induction hk with
      | nil =>
        intro w
        refine wpAny_handleBy_nil ?_
        obtain ⟨_, _, _, ob, vs, T, oT, _, he, _, hd, h1, _⟩ := id flp
        unfold PySem.passOn
        refine wpAny_bind (wpAny_field he hd h1 ?_)
        rw [if_neg (show ¬ ((Value.ref T == Value.none) = true) from by simp)]
        have fin : wpAny (model X.prog X.w) X.A (setFlight (.ref a) X.env.frame) (fun _ t4 => wpAny (model X.prog X.w) X.A (throw (.ref a) : Sem Flow) (SP X pins D) X.xe t4) X.xe { t' with heap := hp } := by
          rw [e2]
          exact HandSPX.setFlight_upZ flp fun hq flq upq => wpAny_throw (tko _ _ ⟨a, B, t0, pins, τ', G', cls, d, rfl, J, nb, (up.trans upp).trans upq, .inr (.inr (by rw [e1]; exact flq)), na, os, ag, w⟩)
        first
          | exact wpAny_bind (wpAny_pure (wpAny_bind fin))
          | exact wpAny_bind fin
      | @bare x c ts st sts p1 p2 hs2 l2 nm sui r ih =>
        rintro ⟨b, hb1, yes, no⟩
        refine wpAny_handleBy_cons (codeAny_handlers_test ?_) (by intro q; cases q)
        refine tst nm ((PySem.W.exm_one (M := model X.prog X.w) Jp.kIn LTp hb1).here ?_)
        cases b with
        | false => exact ih (no rfl)
        | true =>
          refine codeAny_handlers_suite (HandSPX.lands_againZ flp fun hq flq upq => ?_)
          have Jq : Inv X pins τ' G' { t' with heap := hq } := J.landed nb flq.1 ((up.trans upp).trans upq) os ag
          obtain ⟨obq, vsq, heq, hzq, hdq⟩ := flq.there
          refine wpAny_mono ((sui a obq cls d (X.pn ++ pins) hzq ⟨_, hdq⟩).run [] _ _ G' _ (Jq.suite heq hdq na nL nF) (yes rfl a na)) (fun f s6 hsp => ?_) (fun _ _ z => False.elim z)
          cases f with
          | next => exact let ⟨_, _, S6, q6⟩ := hsp; ⟨_, _, S6.unsuite okX, q6⟩
          | brk => exact let ⟨_, _, S6, q6⟩ := hsp; ⟨_, _, S6.unsuite okX, q6⟩
          | cont => exact let ⟨_, _, S6, q6⟩ := hsp; ⟨_, _, S6.unsuite okX, q6⟩
          | ret u => exact let ⟨_, _, _, S6, r6, q6⟩ := hsp; ⟨_, _, _, S6.unsuite okX, r6, q6⟩
      | @named x n c i ts st sts p1 p2 hs2 l2 nm ni nk sui r ih =>
        rintro ⟨b, hb1, yes, no⟩
        refine wpAny_handleBy_cons (codeAny_handlers_test ?_) (by intro q; cases q)
        refine tst nm ((PySem.W.exm_one (M := model X.prog X.w) Jp.kIn LTp hb1).here ?_)
        cases b with
        | false => exact ih (no rfl)
        | true =>
          refine codeAny_handlers_suite_as (HandSPX.lands_againZ flp fun hq flq upq => ?_)
          have Jq : Inv X pins τ' G' { t' with heap := hq } := J.landed nb flq.1 ((up.trans upp).trans upq) os ag
          obtain ⟨obq, vsq, heq, hzq, hdq⟩ := flq.there
          refine store_ok (X := X.suite a ((a, obq) :: (X.pn ++ pins))) (v := .ref a) (Jq.suite heq hdq na nL nF) nod ni (.inl nk) rfl (fun s5 S5 => ?_) (.inr nk)
          refine wpAny_mono ((sui a obq cls d (X.pn ++ pins) hzq ⟨_, hdq⟩).run [] s5 _ G' _ S5 (yes rfl a na)) (fun f s6 hsp => ?_) (fun _ _ z => False.elim z)
          have fin : ∀ {τ6 : St} {G6 : Hp} {Q : Shared → Prop}, Inv (X.suite a ((a, obq) :: (X.pn ++ pins))) [] τ6 G6 s6 → (∀ s7, Inv X pins (τ6.set i none) G6 s7 → Q s7) → wpAny (model X.prog X.w) X.A (do bindName X.env n .none; unbindBehindTheSuite X.env n p2) (fun _ s7 => Q s7) X.xe s6 :=
            fun {τ6 G6 Q} S6 hq => gone_ok (S6.unsuite okX) nod ni nk hq
          cases f with
          | next => exact let ⟨_, _, S6, q6⟩ := hsp; fin S6 fun _ J7 => ⟨_, _, J7, q6⟩
          | brk => exact let ⟨_, _, S6, q6⟩ := hsp; fin S6 fun _ J7 => ⟨_, _, J7, q6⟩
          | cont => exact let ⟨_, _, S6, q6⟩ := hsp; fin S6 fun _ J7 => ⟨_, _, J7, q6⟩
          | ret u => exact let ⟨_, _, _, S6, r6, q6⟩ := hsp; fin S6 fun _ J7 => ⟨_, _, _, J7, r6, q6⟩
    exact go clo w
  · cases fl with
    | next => exact let ⟨_, _, J0, q⟩ := hsp; wpAny_execs_nil ⟨_, _, J0.ofTry okX, q⟩
    | brk => exact let ⟨_, _, J0, q⟩ := hsp; ⟨_, _, J0.ofTry okX, q⟩
    | cont => exact let ⟨_, _, J0, q⟩ := hsp; ⟨_, _, J0.ofTry okX, q⟩
    | ret u => exact let ⟨_, _, _, J0, r, q⟩ := hsp; ⟨_, _, _, J0.ofTry okX, r, q⟩
end
end L2.Px

/-! What is general of the texts over gluings: ints, tuples of ints, small data, defs. -/
namespace L2.Px
open PySem PySem.Spec PyProof.Rows

/-- an int as a value; a tuple of ints -/
abbrev iV (ns : List Int) : List V := ns.map V.int

abbrev iD (ns : List Int) : List PyData := ns.map PyData.int

theorem dp_ints {K : PySem.W.Frag} {H : Hp} : ∀ ns : List Int, DpAll K H (iV ns) (iD ns)
  | [] => .nil
  | n :: r => .cons (.int n) (dp_ints r)

theorem lay_ints : ∀ ns : List Int, PyData.canLayAll0 (iD ns) = true
  | [] => rfl
  | n :: r => by
    show (PyData.canLay0 (.int n) && PyData.canLayAll0 (iD r)) = true
    rw [lay_ints r]
    rfl

theorem dep_ints : ∀ ns : List Int, PyData.depthAll (iD ns) = 0
  | [] => rfl
  | n :: r => by
    show max (PyData.depth (.int n)) (PyData.depthAll (iD r)) = 0
    rw [dep_ints r]
    rfl

theorem shaped_li (ns : List Int) : SeqAt.shaped (.list (iD ns)) = true := by
  show (PyData.canLayAll0 (iD ns) && decide (PyData.depthAll (iD ns) + 1 ≤ 64)) = true
  rw [lay_ints, dep_ints]
  rfl

theorem shaped_ti (ns : List Int) : SeqAt.shaped (.tuple (iD ns)) = true := by
  show (PyData.canLayAll0 (iD ns) && decide (PyData.depthAll (iD ns) + 1 ≤ 64)) = true
  rw [lay_ints, dep_ints]
  rfl

theorem _root_.L2.Same.upd {H : Hp} {p : Addr} {o : HO} (h : H p = none) : Same H (upd H p o) := fun b x e => (upd_ne (ne_of_none e h)).trans e

theorem _root_.L2.Same.tup {K : PySem.W.Frag} {H H' : Hp} {a : Addr} {xs : List V} (e : Same H H') (h : SqT K H a xs) : SqT K H' a xs := by
  rcases h with (h | ⟨o, h⟩) | h
  · exact .inl (.inl (e _ _ h))
  · exact .inl (.inr ⟨o, e _ _ h⟩)
  · exact .inr h

theorem getD_at {l : List Int} {n : Int} (h0 : 0 ≤ n) (h1 : n < (l.length : Int)) : atI (iV l) n = some (V.int (l.getD n.toNat 0)) := by
  obtain ⟨k, rfl⟩ : ∃ k : Nat, n = (k : Int) := ⟨n.toNat, by omega⟩
  refine atI_nat ?_
  have hk : k < l.length := by omega
  rw [List.getElem?_map, List.getElem?_eq_getElem hk, Int.toNat_natCast, List.getD_eq_getElem?_getD, List.getElem?_eq_getElem hk]
  rfl

theorem iV_get {l : List Int} {i : Nat} {x : V} (h : (iV l)[i]? = some x) : ∃ n, l[i]? = some n ∧ x = .int n := by
  rw [List.getElem?_map] at h
  cases e : l[i]? with
  | none => rw [e] at h; cases h
  | some n => rw [e] at h; exact ⟨n, rfl, (Option.some.inj h).symm⟩

theorem iV_app (a b : List Int) : iV (a ++ b) = iV a ++ iV b := List.map_append

theorem iV_set (a : List Int) (k : Nat) (n : Int) : iV (a.set k n) = (iV a).set k (.int n) := List.map_set

theorem take_snoc {α : Type} {l : List α} {i : Nat} {x : α} (h : l[i]? = some x) : l.take (i + 1) = l.take i ++ [x] := by
  rw [List.take_add_one, h]
  rfl

theorem ixN_nat {l k : Nat} (h : k < l) : ixN l (k : Int) = some k := by
  have h2 : atI (List.range l) (k : Int) = some k := atI_nat (by rw [List.getElem?_range h])
  unfold atI at h2
  cases e : ixN l (k : Int) with
  | none => rw [List.length_range, e] at h2; cases h2
  | some j =>
    rw [List.length_range, e] at h2
    have h3 : (List.range l)[j]? = some k := h2
    rw [List.getElem?_range] at h3
    · exact h3
    · exact Nat.lt_of_lt_of_eq (List.getElem?_eq_some_iff.mp h3).1 List.length_range

/-- a def of the text, where it stands -/
structure At (K : PySem.W.Frag) (mg : Str → Option Value) (x : Str) (st : Stmt) (ps : List Str) (f : Addr) (fd : FuncData) : Prop where
  F : Fun K x x st f fd
  g : mg x = some (.ref f)
  b : Binds K fd ps []

theorem paired_snoc {α β : Type} {R : α → β → Prop} {x : α} {y : β} (r : R x y) : ∀ {xs : List α} {ys : List β}, Paired R xs ys → Paired R (xs ++ [x]) (ys ++ [y])
  | _, _, .nil => .cons r .nil
  | _, _, .cons q t => .cons q (paired_snoc r t)

theorem paired_get {α β : Type} {R : α → β → Prop} : ∀ {xs : List α} {ys : List β} {i : Nat} {x : α}, Paired R xs ys → xs[i]? = some x → ∃ y, ys[i]? = some y ∧ R x y
  | _, _, _, _, .nil, e => by simp at e
  | _, _, 0, _, .cons r _, e => by simp at e; subst e; exact ⟨_, rfl, r⟩
  | _, _, i + 1, x, .cons _ t, e => by
    obtain ⟨u, h1, h2⟩ := paired_get (i := i) (x := x) t (by simpa using e)
    exact ⟨u, by simpa using h1, h2⟩

theorem eqv_tup (a b : List Int) : PyData.eqv (.tuple (iD a)) (.tuple (iD b)) = decide (a = b) := PySem.W.ked_eqvAll a b

theorem u65 {A : Around} {k : Nat} (hr : Room k A) : A.units + 65 < cLine := by have := hr.un; omega

theorem dp_ti {K : PySem.W.Frag} {H : Hp} {a : Addr} {ns : List Int} (h : SqT K H a (iV ns)) : Dp K H (.ref a) (.tuple (iD ns)) := .tup h (dp_ints ns)

/-- isinstance(e, c), e what the suite holds: its class and dict told apart -/
theorem call_isE2 {X : Cx} {a D : Addr} {oe : Obj} {cls : Value} {d : Option Addr} {pn : List (Addr × Obj)} (C : ExcC X.K D) (hz : Zc cls d oe) (hf : ∃ vs, oe.data = .fields vs) :
    CallR (X.suite a ((a, oe) :: pn)) (.builtin "isinstance") (fun xs H Q => cls = .ref D ∧ d = none ∧ rIsE X.K D a xs H Q) := by
  intro pins s σ H xs us Q I r h
  obtain ⟨e1, e2, q⟩ := h
  subst e1 e2
  exact call_isE C hz hf pins s σ H xs us Q I r q

mutual
def sm : PyData → Bool
  | .none => true
  | .bool _ => true
  | .int i => decide (i.natAbs < 1000000000)
  | .str x => x.cps.toList.all fun c => decide (c < 16 ^ 8)
  | .list xs => smAll xs
  | .tuple xs => smAll xs
  | .dict _ => false
def smAll : List PyData → Bool
  | [] => true
  | x :: r => sm x && smAll r
end

theorem int_short {i : Int} (h : i.natAbs < 1000000000) : (PyData.shown (.int i)).length ≤ 20 := by
  show (Str.ofString (toString i)).length ≤ 20
  rw [PySem.ofString_length]
  have := int_text_length_le10 (a := i) (k := 9) (by decide) h
  omega

mutual
theorem sm_ok : ∀ d : PyData, sm d = true → d.showable = true ∧ d.hasDict = false ∧ d.leavesShort 20 = true
  | .none, _ => ⟨rfl, rfl, rfl⟩
  | .bool _, _ => ⟨rfl, rfl, rfl⟩
  | .int i, h => by
    have h : i.natAbs < 1000000000 := of_decide_eq_true h
    refine ⟨decide_eq_true ?_, rfl, decide_eq_true (int_short h)⟩
    by_cases z : i.natAbs = 0
    · rw [z]
      decide
    · exact Nat.lt_of_lt_of_le ((Nat.log2_lt z).mpr (Nat.lt_of_lt_of_le h (by decide : 1000000000 ≤ 2 ^ 30))) (by decide)
  | .str x, h => ⟨rfl, rfl, h⟩
  | .list xs, h => smAll_ok xs h
  | .tuple xs, h => smAll_ok xs h
  | .dict _, h => by cases h
theorem smAll_ok : ∀ xs : List PyData, smAll xs = true → PyData.showableAll xs = true ∧ PyData.hasDictAll xs = false ∧ PyData.leavesShortAll 20 xs = true
  | [], _ => ⟨rfl, rfl, rfl⟩
  | x :: r, h => by
    have h : (sm x && smAll r) = true := h
    rw [Bool.and_eq_true] at h
    obtain ⟨a1, a2, a3⟩ := sm_ok x h.1
    obtain ⟨b1, b2, b3⟩ := smAll_ok r h.2
    refine ⟨?_, ?_, ?_⟩
    · show (PyData.showable x && PyData.showableAll r) = true
      rw [a1, b1]
      rfl
    · show (PyData.hasDict x || PyData.hasDictAll r) = false
      rw [a2, b2]
      rfl
    · show (PyData.leavesShort 20 x && PyData.leavesShortAll 20 r) = true
      rw [a3, b3]
      rfl
end

/-- repr(x) of small data -/
def rReprS (K : PySem.W.Frag) : List V → Hp → VK → Prop := fun vs H Q => ∃ (x : V) (d : PyData), vs = [x] ∧ Dp K H x d ∧ sm d = true ∧ d.depth ≤ 60 ∧ d.weight ≤ 700000 ∧ Q (.str d.shown) H

section
variable {X : Cx}
theorem cr_reprS (hg : X.A.guards = some []) (hu : X.A.units + 64 < cLine) : CallR X (.builtin "repr") (rReprS X.K) := by
  intro pins s σ H vs us Q I r h
  obtain ⟨x, d, e, hd, hs, hp, hw, q⟩ := h
  obtain ⟨s1, s2, s3⟩ := sm_ok d hs
  refine cr_reprD hg hu pins s σ H vs us Q I r ⟨x, d, e, hd, s1, s2, hp, ?_, q⟩
  have := PyData.shown_le 20 (by decide) d s3
  have z : sizeLine = 16777216 := sizeLine_eq
  omega
end

theorem sm_ints : ∀ ns : List Int, (∀ n ∈ ns, n.natAbs < 1000000000) → smAll (iD ns) = true
  | [], _ => rfl
  | n :: r, h => by
    show (decide (n.natAbs < 1000000000) && smAll (iD r)) = true
    rw [decide_eq_true (h n (by simp)), sm_ints r fun m hm => h m (by simp [hm])]
    rfl

theorem wt_int {n : Int} (h : n.natAbs < 1000000000) : PyData.weight (.int n) ≤ 30 := by
  show (if n == 0 then 0 else n.natAbs.log2 + 1) ≤ 30
  split
  · exact Nat.zero_le _
  · rename_i z
    have z : n.natAbs ≠ 0 := fun e => z (by have := Int.natAbs_eq_zero.mp e; simp [this])
    exact (Nat.log2_lt z).mpr (Nat.lt_of_lt_of_le h (by decide : 1000000000 ≤ 2 ^ 30))

theorem wt_ints : ∀ ns : List Int, (∀ n ∈ ns, n.natAbs < 1000000000) → PyData.weightAll (iD ns) ≤ 31 * ns.length
  | [], _ => Nat.le_refl _
  | n :: r, h => by
    have h1 := wt_ints r fun m hm => h m (by simp [hm])
    have h2 := wt_int (h n (by simp))
    show PyData.weight (.int n) + 1 + PyData.weightAll (iD r) ≤ _
    simp only [List.length_cons]
    omega

theorem sl_any {K : PySem.W.Frag} {H : Hp} {a : Addr} {xs : List V} {lo hi : Option Int} {Q : VK} (h : SqT K H a xs) (k : ∀ H' p, Same H H' → SqT K H' p (cutV xs lo hi) → Q (.ref p) H') : rSlA K (.ref a) lo hi H Q := by
  refine ⟨a, xs, rfl, h, fun c => k H a (Same.refl H) ?_, fun _ p hp => k _ p (Same.upd hp) (.of upd_same)⟩
  unfold cutV
  rw [c.1, c.2, List.drop_zero, Nat.sub_zero, List.take_length]
  exact h

theorem cat_any {K : PySem.W.Frag} {H : Hp} {a b : Addr} {xs ys : List V} {Q : VK} (h1 : SqT K H a xs) (h2 : SqT K H b ys) (hz : xs.length + ys.length ≤ sizeLine) (k : ∀ H' p, Same H H' → SqT K H' p (xs ++ ys) → Q (.ref p) H') : rCatA K (.ref a) (.ref b) H Q := by
  refine ⟨a, b, xs, ys, rfl, rfl, h1, h2, hz, fun e => k H b (Same.refl H) ?_, fun _ e => k H a (Same.refl H) ?_, fun _ _ p hp => k _ p (Same.upd hp) (.of upd_same)⟩
  · rw [e, List.nil_append]
    exact h2
  · rw [e, List.append_nil]
    exact h1

/-- t + u, in one: some tuple of both, all else as it was -/
def rCatS (K : PySem.W.Frag) : R2 := fun x y H Q => ∃ a b xs ys, x = .ref a ∧ y = .ref b ∧ SqT K H a xs ∧ SqT K H b ys ∧ xs.length + ys.length ≤ sizeLine ∧ ∀ H' p, Same H H' → SqT K H' p (xs ++ ys) → Q (.ref p) H'

section
variable {X : Cx}
theorem op_catS : OpR X (binaryOp .Add) (rCatS X.K) := by
  intro pins s σ H x y v u Q I rx ry h
  obtain ⟨a, b, xs, ys, rfl, rfl, h1, h2, hz, k⟩ := h
  exact op_catA pins s σ H _ _ v u Q I rx ry (cat_any h1 h2 hz k)
end

/-- t[lo:hi], in one -/
def rSlS (K : PySem.W.Frag) : V → Option Int → Option Int → Hp → VK → Prop := fun x lo hi H Q => ∃ a xs, x = .ref a ∧ SqT K H a xs ∧ ∀ H' p, Same H H' → SqT K H' p (cutV xs lo hi) → Q (.ref p) H'

section
variable {X : Cx}
theorem sl_tupS : SlR X (rSlS X.K) := by
  intro pins s σ H x v vl vu lo hi sl Q I rx hs pl pu h
  obtain ⟨a, xs, rfl, h1, k⟩ := h
  exact sl_tupA pins s σ H _ v vl vu lo hi sl Q I rx hs pl pu (sl_any h1 k)
end

structure Sml (d : PyData) : Prop where
  a : sm d = true
  b : d.depth ≤ 60
  c : d.weight ≤ 700000

mutual
theorem dp_same {K : PySem.W.Frag} {H H' : Hp} (h : Same H H') : ∀ {d : PyData} {v : V}, Dp K H v d → Dp K H' v d
  | .none, _, .non => .non
  | .bool _, _, .bl b => .bl b
  | .int _, _, .int i => .int i
  | .str _, _, .str x => .str x
  | .list _, _, .lst a b => .lst (h.seq a) (dpAll_same h b)
  | .tuple _, _, .tup a b => .tup (h.tup a) (dpAll_same h b)
theorem dpAll_same {K : PySem.W.Frag} {H H' : Hp} (h : Same H H') : ∀ {ds : List PyData} {vs : List V}, DpAll K H vs ds → DpAll K H' vs ds
  | [], _, .nil => .nil
  | _ :: _, _, .cons a b => .cons (dp_same h a) (dpAll_same h b)
end

/-- one more in a list that is one's own -/
theorem own_push {H H' : Hp} {D : Addr} {o : HO} (sm : Same H H') (h : H D = none) : Same H (upd H' D o) := fun c u e => (upd_ne (ne_of_none e h)).trans (sm c u e)

theorem mul_r {i j : Int} (h1 : -(2 ^ 64) < j) (h2 : j < 2 ^ 64) : CMul i j := .inr ⟨h1, h2⟩

theorem sq_over {K : PySem.W.Frag} {H : Hp} {D t : Addr} {l xs : List V} {o : HO} (hd : H D = some (.lst l)) (h : SqT K H t xs) : SqT K (upd H D o) t xs := by
  rcases h with (h | ⟨ob, h⟩) | h
  · exact .inl (.inl ((upd_ne fun z => by rw [z, hd] at h; cases h).trans h))
  · exact .inl (.inr ⟨ob, (upd_ne fun z => by rw [z, hd] at h; cases h).trans h⟩)
  · exact .inr h

/-- an own exception class of the text -/
structure ExN (K : PySem.W.Frag) (mg : Str → Option Value) (x : Str) (C : Addr) : Prop where
  g : mg x = some (.ref C)
  k : PySem.W.keepIn K (.ref C) = true
  x : PySem.W.excIn K C [.type "ValueError", .type "Exception", .type "BaseException", .type "object"] "ValueError.__new__" = true
  b : PySem.W.subIn K (.ref C) (.type "BaseException") = some true
  t : PySem.W.typeIn K (.ref C) = some (.type "type")

/-- tuple(l), l a list: the new tuple's object has no dict -/
theorem call_tuple_ofF {X : Cx} : CallR X (.type "tuple") (fun xs H Q => ∃ p ys, xs = [.ref p] ∧ SqL X.K H p ys ∧ ∀ l o, H l = none → o.dict = none → Q (.ref l) (upd H l (.frz o (.tup ys)))) := by
  intro pins s σ H xs us Q I r h
  obtain ⟨p, ys, rfl, hq, q⟩ := h
  rw [Vals.ref1 r]
  obtain ⟨its, rv, pl, hz⟩ := I.list hq
  refine call_tuple_list pl.isList (fun h1 kp => ?_) (by rw [List.size_toArray, ← rv.length]; exact hz)
  have I1 : Inv X pins σ H { s with heap := h1 } := I.kept (t' := s.toks) kp
  have e1 : (h1.push { cls := .type "tuple", data := .seq its.toArray }).get? h1.objs.size = some { cls := .type "tuple", data := .seq its.toArray } := Heap.get?_push_size _ rfl
  exact ⟨.ref h1.objs.size, _, I1.laid (t' := s.toks) (fun _ _ e => Heap.get?_push_of_some _ e) (Nat.le_refl _) (show ObjOk X.prog X.w _ _ _ (.frz { cls := .type "tuple", data := .seq its.toArray } (.tup ys)) from ⟨e1, hz, its, rv, _, e1, rfl, _, rfl⟩), rfl, q _ _ (I1.hok.fresh (Nat.le_refl _)) rfl⟩

/-- o.name(e, ..), a method of a tuple whose object has no dict -/
def tBMT (r : V → List V → Hp → VK → Prop) (to : TE) (t : TA) : TE := fun σ H Q => to σ H fun x H1 => (∃ p o xs, x = .ref p ∧ H1 p = some (.frz o (.tup xs)) ∧ o.dict = none) ∧ t σ H1 fun ys H2 => r x ys H2 Q

theorem pe_bmT {X : Cx} {o e : Expr} {es : List Expr} {to : TE} {t : TA} {name : Str} {apos cpos : Pos} {id : String} {r : V → List V → Hp → VK → Prop} (slot : Slot "tuple" name id) (ty : typeOf (.builtin id) = pure (.type "method_descriptor")) (hm : MtR X id r) (ho : PE X o to) (ha : PA X (e :: es) t)
    (hb : attributeBase o name X.env (eval o X.env) = eval o X.env := by rfl)
    (hf : ((backTo cpos (starEach (e :: es) X.env)).all (fun x => !x.1) && (backToKw cpos (keywordEach [] X.env)).all (fun x => x.1.isSome) && decide ((e :: es).length + ([] : List Keyword).length + (if ([] : List Keyword).isEmpty then 0 else 1) < 30)) = true := by rfl)
    (hl : (apos.endLine == cpos.line) = true := by rfl) (hs : starEach (e :: es) X.env = (false, eval e X.env) :: starEach es X.env := by rfl) (hp : (backTo cpos (starEach es X.env)).any (·.1) = false := by rfl) :
    PE X (.Call (.Attribute o name apos) (e :: es) [] cpos) (tBMT r to t) := by
  refine ⟨fun pins s σ H Q I h => wpAny_Call_method_late hb hf hl rfl (thn (ho.run pins s σ H _ I h) fun v s1 ⟨x, H1, I1, r1, ⟨p, ob, xs, ex, ep, ed⟩, q⟩ => ?_)⟩
  subst ex
  cases r1
  obtain ⟨e1, _, its, _, o2, e2, c2, _⟩ := I1.hok p _ ep
  have arg := ha.run cpos pins s1 σ H1 _ I1 q
  rw [hs] at arg ⊢
  refine ⟨"tuple", id, PySem.F.plainAttrs_tuple, slot, ty, ⟨o2, e2, c2⟩, fun a z => ?_, Calls.callWith_builtin ?_ (Calls.evalArgs_plain (thn arg fun us s2 ⟨ys, H2, I2, r2, q2⟩ => hm pins s2 σ H2 (.ref p) ys _ us Q I2 rfl r2 q2))⟩
  · cases z
    exact ⟨ob, e1, ed⟩
  · show (false || (backTo cpos (starEach es X.env)).any (·.1)) = false
    rw [hp]
    rfl

theorem cut_to (l : List Int) (k : Nat) (h : k ≤ l.length) : cutV (iV l) none (some (k : Int)) = iV (l.take k) := by
  unfold cutV
  rw [HT.sIx_none, HT.sIx_nat, List.drop_zero, List.length_map, Nat.min_eq_left h, Nat.sub_zero]
  exact List.map_take.symm

theorem cut_from (l : List Int) (k : Nat) (h : k ≤ l.length) : cutV (iV l) (some (k : Int)) none = iV (l.drop k) := by
  unfold cutV
  rw [HT.sIx_none, HT.sIx_nat, List.length_map, Nat.min_eq_left h]
  rw [List.take_of_length_le (by rw [List.length_drop, List.length_map]; omega)]
  exact List.map_drop.symm

theorem exm_of {K : PySem.W.Frag} {S T : Addr} {b : Bool} (h1 : PySem.W.subIn K (.ref T) (.type "BaseException") = some true) (h4 : PySem.W.kitCls K (.ref S) (.ref T) = some b) : PySem.W.exmOne K (.ref S) (.ref T) = some b := by
  have e1 : (PySem.W.subIn K (.ref T) (.type "BaseException") == some true) = true := by rw [h1] <;> rfl
  show (if (PySem.W.subIn K (.ref T) (.type "BaseException") == some true) = true then PySem.W.kitCls K (.ref S) (.ref T) else none) = some b
  rw [if_pos e1]
  exact h4

theorem ps_imq {X : Cx} {st : Stmt} {t u : TS} (h : PS X st t) (k : ∀ D σ H, u D σ H → t D σ H) : PS X st u := ⟨fun pins s σ H D I q => h.run pins s σ H D I (k D σ H q)⟩

theorem small1000x {n : Nat} (h : n ≤ 10000) : n < sizeLine := Nat.lt_of_le_of_lt h (by decide)

/-- l.index(n), a list of ints -/
theorem mt_lidxI {X : Cx} : MtR X "list.index" (fun x xs H Q => ∃ (p : Addr) (ys : List Int) (n : Int), x = .ref p ∧ xs = [.int n] ∧ SqL X.K H p (iV ys) ∧ n ∈ ys ∧ Q (.int (ys.idxOf n : Nat)) H) := by
  intro pins s σ H x xs v us Q I rx rs h
  obtain ⟨p, ys, n, rfl, rfl, hq, hn, q⟩ := h
  have lt := List.idxOf_lt_length_of_mem hn
  refine mt_index pins s σ H _ _ v us Q I rx rs ⟨p, iV ys, .int n, ys.idxOf n, .int n, rfl, rfl, hq, rfl, ?_, ?_, ?_, fun m z' hm e => ?_, q⟩
  · refine List.all_eq_true.mpr fun v hv => ?_
    obtain ⟨k, _, rfl⟩ := List.mem_map.mp hv
    rfl
  · rw [List.getElem?_map, List.getElem?_eq_getElem lt, List.getElem_idxOf]
    rfl
  · exact beq_self_eq_true n
  · obtain ⟨k, hk, rfl⟩ := iV_get e
    show (k == n) = false
    have := List.not_of_lt_findIdx (p := (· == n)) (xs := ys) (i := m) hm
    obtain ⟨lm, ek⟩ := List.getElem?_eq_some_iff.mp hk
    rw [ek] at this
    simpa using this

abbrev cI (l : List Nat) : List Int := l.map fun x : Nat => (x : Int)

theorem rg_nat (m : Nat) : rgV 0 (m : Int) = iV (cI (List.range m)) := by
  unfold rgV
  have : ((m : Int) - 0).toNat = m := by omega
  rw [this]
  unfold iV cI
  rw [List.map_map]
  refine List.map_congr_left fun i _ => ?_
  show V.int (0 + (i : Int)) = V.int (i : Int)
  rw [Int.zero_add]

theorem pass0x {P : Program} {w : World} {X : Cx} : Passes (L2.CX P w) X E0 := fun _ _ _ _ _ _ _ h => by
  obtain ⟨_, _, _, _, _, _, _, _, _, _, _, _, hE⟩ := h
  exact hE.elim

/-- t.index(n), a tuple of ints -/
theorem mt_tidxI {X : Cx} : MtR X "tuple.index" (fun x xs H Q => ∃ (p : Addr) (ys : List Int) (n : Int), x = .ref p ∧ xs = [.int n] ∧ SqT X.K H p (iV ys) ∧ n ∈ ys ∧ Q (.int (ys.idxOf n : Nat)) H) := by
  intro pins s σ H x xs v us Q I rx rs h
  obtain ⟨p, ys, n, rfl, rfl, hq, hn, q⟩ := h
  cases rx
  obtain ⟨its, r, tp, hz⟩ := I.tuple hq
  cases rs with
  | cons ru rn =>
    cases rn
    obtain ⟨t, rfl⟩ := ru
    exact PySem.SeqAt.tuple_index_ints tp r.ints hn ⟨.int _, H, I.tok _, ⟨_, rfl⟩, q⟩

end L2.Px

/-! What is new in a heap; comprehensions that make one item a turn. -/
namespace L2.Px
open PySem PySem.Spec PyProof.Rows
abbrev rLenSeq (K : PySem.W.Frag) : List V → Hp → VK → Prop := fun xs H Q => ∃ p ys, xs = [V.ref p] ∧ (SqL K H p ys ∨ SqT K H p ys) ∧ Q (.int ys.length) H
abbrev rListOf (K : PySem.W.Frag) : List V → Hp → VK → Prop := fun xs H Q => ∃ p ys, xs = [V.ref p] ∧ (SqL K H p ys ∨ SqT K H p ys) ∧ ∀ l, H l = none → Q (.ref l) (upd H l (.lst ys))
abbrev rTupOf (K : PySem.W.Frag) : List V → Hp → VK → Prop := fun xs H Q => ∃ p ys, xs = [V.ref p] ∧ ((SqL K H p ys ∧ ∀ l, H l = none → Q (.ref l) (upd H l (.tup ys))) ∨ (SqT K H p ys ∧ Q (.ref p) H))
abbrev rTupT (K : PySem.W.Frag) : List V → Hp → VK → Prop := fun xs H Q => ∃ a ys, xs = [V.ref a] ∧ SqT K H a ys ∧ Q (.ref a) H
abbrev rInt1 : List V → Hp → VK → Prop := fun xs H Q => (∃ i, xs = [V.int i] ∧ Q (.int i) H) ∨ ∃ k, xs = [V.bl k] ∧ Q (.int (if k then 1 else 0)) H
abbrev rAbs : List V → Hp → VK → Prop := fun xs H Q => ∃ i, xs = [V.int i] ∧ Q (.int (if i < 0 then -i else i)) H
/-- a body in two parts, the second one from its own state -/
theorem cut2 {X : Cx} {body : List Stmt} {D : Ends} {σ : St} {H : Hp} (tl : List Stmt) (P : St → Hp → Prop) (h2 : ∃ u, PSs X tl u ∧ ∀ σ' H', P σ' H' → u D σ' H')
    (h1 : ∀ u, PSs X tl u → (∀ σ' H', P σ' H' → u D σ' H') → ∃ t, PSs X body t ∧ t D σ H) : ∃ t, PSs X body t ∧ t D σ H :=
  let ⟨u, a, b⟩ := h2
  h1 u a b
/-- the heap without an address -/
def hid (D : Addr) (H : Hp) : Hp := fun b => if b = D then none else H b
/-- what is new in H' -/
def nw (H H' : Hp) : Hp := fun b => if H b = none then H' b else none
theorem hid_ne {D b : Addr} {H : Hp} (h : b ≠ D) : hid D H b = H b := if_neg h
theorem hid_some {D b : Addr} {H : Hp} {o : HO} (h : hid D H b = some o) : b ≠ D ∧ H b = some o := by
  unfold hid at h
  split at h
  · cases h
  · rename_i z
    exact ⟨z, h⟩
theorem hid_same {D : Addr} {H : Hp} : Same (hid D H) H := fun _ _ e => (hid_some e).2
theorem hid_self {D : Addr} {H : Hp} : hid D H D = none := if_pos rfl
theorem Same.hid {D : Addr} {H H' : Hp} (s : Same H H') : Same (hid D H) (hid D H') := fun b o e => by
  obtain ⟨n, e⟩ := hid_some e
  rw [hid_ne n]
  exact s b o e
theorem hid_upd {D : Addr} {H : Hp} {o : HO} : hid D (upd H D o) = hid D H := by
  funext b
  unfold hid
  split
  · rfl
  · rename_i z
    exact upd_ne z
theorem upd_hid {D p : Addr} {H : Hp} {o : HO} (n : p ≠ D) : hid D (upd H p o) = upd (hid D H) p o := by
  funext b
  by_cases e : b = p
  · subst e
    rw [hid_ne n, upd_same, upd_same]
  · rw [upd_ne e]
    unfold hid
    split
    · rfl
    · exact upd_ne e
theorem nw_some {H H' : Hp} {b : Addr} {o : HO} (h : nw H H' b = some o) : H b = none ∧ H' b = some o := by
  unfold nw at h
  split at h
  · rename_i z
    exact ⟨z, h⟩
  · cases h
theorem nw_of {H H' : Hp} {b : Addr} {o : HO} (h1 : H b = none) (h2 : H' b = some o) : nw H H' b = some o := by
  unfold nw
  rw [if_pos h1]
  exact h2
theorem nw_same {H H' : Hp} : Same (nw H H') H' := fun _ _ e => (nw_some e).2
theorem none_of_same {H H' : Hp} {b : Addr} (s : Same H H') (h : H' b = none) : H b = none := by
  cases e : H b with
  | none => rfl
  | some o => rw [s b o e] at h; cases h
/-- what is new later is new, and stays -/
theorem nw_mono {H0 H H' H'' : Hp} (s0 : Same H0 H) (s : Same H' H'') : Same (nw H H') (nw H0 H'') := fun b o e => by
  obtain ⟨e1, e2⟩ := nw_some e
  exact nw_of (none_of_same s0 e1) (s b o e2)
theorem nw_hid {H H' : Hp} {D : Addr} {o : HO} (h : H D = some o) : Same (nw H H') (hid D H') := fun b o e => by
  obtain ⟨e1, e2⟩ := nw_some e
  rw [hid_ne fun z => by rw [z, h] at e1; cases e1]
  exact e2
/-- a relation that lasts while objects stand -/
def Lasts {α : Type} (R : Hp → V → α → Prop) : Prop := ∀ H H' v a, Same H H' → R H v a → R H' v a
def RInt : Hp → V → Int → Prop := fun _ v a => v = .int a
theorem lasts_int : Lasts RInt := fun _ _ _ _ _ h => h
def RBl : Hp → V → Bool → Prop := fun _ v a => v = .bl a
theorem lasts_bl : Lasts RBl := fun _ _ _ _ _ h => h
theorem paired_mono {α β : Type} {R S : α → β → Prop} (k : ∀ x y, R x y → S x y) : ∀ {xs : List α} {ys : List β}, Paired R xs ys → Paired S xs ys
  | _, _, .nil => .nil
  | _, _, .cons h r => .cons (k _ _ h) (paired_mono k r)
theorem paired_at {α β : Type} {R : α → β → Prop} : ∀ {xs : List α} {ys : List β} {i : Nat} {y : β}, Paired R xs ys → ys[i]? = some y → ∃ x, xs[i]? = some x ∧ R x y
  | _, _, 0, _, .cons h r, e => by cases e; exact ⟨_, rfl, h⟩
  | _, _, i + 1, _, .cons h r, e => paired_at r (i := i) e
theorem paired_int {xs : List V} {ns : List Int} : ∀ {H : Hp}, Paired (RInt H) xs ns → xs = iV ns := fun {H} h => by
  induction h with
  | nil => rfl
  | cons h r ih => rw [h, ih]; rfl
theorem paired_bl {xs : List V} {ns : List Bool} : ∀ {H : Hp}, Paired (RBl H) xs ns → xs = ns.map V.bl := fun {H} h => by
  induction h with
  | nil => rfl
  | cons h r ih => rw [h, ih]; rfl
section
variable {J : It} {n : Nat} {G : Hp → Prop} {Y : Nat → Hp → V → Hp → Prop} {α : Type}
/-- a comprehension that makes at most one item a turn, and changes nothing else -/
theorem lc_filt (w : Walk J n G Y) (R : Hp → V → α → Prop) (last : Lasts R) (f : Nat → Option α) {g : TG} {tt : TT} {te : TE} {vs : List Nat} {σ : St} {H1 : Hp} {D : Addr} {Qd : Hp → Prop} (hD : H1 D = none) (hn : n ≤ 10000)
    (hG : ∀ H, Same H1 H → G H)
    (hs : ∀ i x H H', i < n → Same H1 H → Y i H x H' → ∀ Nx : Hp → Prop,
      (∀ H4 y a, f i = some a → Same H H4 → R (nw H H4) y a → ∃ acc, H4 D = some (.lst acc) ∧ acc.length < sizeLine ∧ Nx (upd H4 D (.lst (acc ++ [y])))) → (∀ H4, f i = none → Same H H4 → Nx H4) →
      g x (wipe σ vs) H' fun σ2 H2 => wipe σ2 vs = wipe σ vs ∧ tt σ2 H2 fun b H3 => if b = true then te σ2 H3 fun y H4 => ∃ acc, H4 D = some (.lst acc) ∧ acc.length < sizeLine ∧ Nx (upd H4 D (.lst (acc ++ [y]))) else Nx H3)
    (hd : ∀ H ws, Same H1 H → H D = some (.lst ws) → Paired (R (hid D (nw H1 H))) ws ((List.range n).filterMap f) → Qd H) :
    ∃ W : Nat → Nat → Hp → Prop, (∃ m, W 0 m (upd H1 D (.lst []))) ∧ ∀ i m H, W i m H →
      (J.stop i H ∧ Qd H) ∨ (J.go i H ∧ ∃ Nx : Hp → Prop, (∀ H', Nx H' → ∃ m', m' < m ∧ W (i + 1) m' H') ∧ ∀ x H', J.yld i H x H' → g x (wipe σ vs) H' fun σ2 H2 => wipe σ2 vs = wipe σ vs ∧ tt σ2 H2 fun b H3 =>
        if b = true then te σ2 H3 fun y H4 => ∃ acc, H4 D = some (.lst acc) ∧ acc.length < sizeLine ∧ Nx (upd H4 D (.lst (acc ++ [y]))) else Nx H3) := by
  refine lc_it w (fun i H => Same H1 H ∧ ∃ ws, H D = some (.lst ws) ∧ ws.length ≤ i ∧ Paired (R (hid D (nw H1 H))) ws ((List.range i).filterMap f)) ⟨Same.upd hD, [], upd_same, Nat.le_refl _, .nil⟩ (fun i H _ h => hG H h.1) ?_ (fun H ⟨sm, ws, hd', _, p⟩ => hd H ws sm hd' p)
  rintro i x H H' hi ⟨sm, ws, hD', lw, p⟩ y
  have size : ws.length < sizeLine := small1000x (by omega)
  have rng : (List.range (i + 1)).filterMap f = (List.range i).filterMap f ++ (f i).toList := by
    rw [List.range_succ, List.filterMap_append]
    congr 1
  have carry : ∀ H4, Same H H4 → ∀ v a, R (hid D (nw H1 H)) v a → R (hid D (nw H1 H4)) v a := fun H4 s v a h => last _ _ v a (Same.hid (nw_mono (Same.refl _) s)) h
  refine hs i x H H' hi sm y _ (fun H4 z a e s r => ⟨ws, s _ _ hD', size, own_push (sm.trans s) hD, ws ++ [z], upd_same, by rw [List.length_append]; simp only [List.length_cons, List.length_nil]; omega, ?_⟩) (fun H4 e s => ⟨sm.trans s, ws, s _ _ hD', by omega, ?_⟩)
  · have eq : hid D (nw H1 (upd H4 D (.lst (ws ++ [z])))) = hid D (nw H1 H4) := by
      funext b
      unfold hid nw
      split
      · rfl
      · rename_i nb
        rw [upd_ne nb]
    rw [eq, rng, e]
    refine paired_snoc (R := R (hid D (nw H1 H4))) (last _ _ _ _ ?_ r) (paired_mono (carry H4 s) p)
    intro b o hb
    obtain ⟨e1, e2⟩ := nw_some hb
    rw [hid_ne fun q => by rw [q, hD'] at e1; cases e1]
    exact nw_of (none_of_same sm e1) e2
  · rw [rng, e]
    show Paired _ _ (_ ++ [])
    rw [List.append_nil]
    exact paired_mono (carry H4 s) p
/-- a comprehension that makes one item a turn, and changes nothing else -/
theorem lc_map (w : Walk J n G Y) (R : Hp → V → α → Prop) (last : Lasts R) (f : Nat → α) {g : TG} {tt : TT} {te : TE} {vs : List Nat} {σ : St} {H1 : Hp} {D : Addr} {Qd : Hp → Prop} (hD : H1 D = none) (hn : n ≤ 10000)
    (hG : ∀ H, Same H1 H → G H)
    (hs : ∀ i x H H', i < n → Same H1 H → Y i H x H' → ∀ Nx : Hp → Prop,
      (∀ H4 y, Same H H4 → R (nw H H4) y (f i) → ∃ acc, H4 D = some (.lst acc) ∧ acc.length < sizeLine ∧ Nx (upd H4 D (.lst (acc ++ [y])))) →
      g x (wipe σ vs) H' fun σ2 H2 => wipe σ2 vs = wipe σ vs ∧ tt σ2 H2 fun b H3 => if b = true then te σ2 H3 fun y H4 => ∃ acc, H4 D = some (.lst acc) ∧ acc.length < sizeLine ∧ Nx (upd H4 D (.lst (acc ++ [y]))) else Nx H3)
    (hd : ∀ H ws, Same H1 H → H D = some (.lst ws) → Paired (R (hid D (nw H1 H))) ws ((List.range n).map f) → Qd H) :
    ∃ W : Nat → Nat → Hp → Prop, (∃ m, W 0 m (upd H1 D (.lst []))) ∧ ∀ i m H, W i m H →
      (J.stop i H ∧ Qd H) ∨ (J.go i H ∧ ∃ Nx : Hp → Prop, (∀ H', Nx H' → ∃ m', m' < m ∧ W (i + 1) m' H') ∧ ∀ x H', J.yld i H x H' → g x (wipe σ vs) H' fun σ2 H2 => wipe σ2 vs = wipe σ vs ∧ tt σ2 H2 fun b H3 =>
        if b = true then te σ2 H3 fun y H4 => ∃ acc, H4 D = some (.lst acc) ∧ acc.length < sizeLine ∧ Nx (upd H4 D (.lst (acc ++ [y]))) else Nx H3) := by
  refine lc_filt w R last (fun i => some (f i)) hD hn hG (fun i x H H' hi sm y Nx k _ => hs i x H H' hi sm y Nx fun H4 z s r => k H4 z (f i) rfl s r) (fun H ws sm h p => hd H ws sm h ?_)
  rw [List.filterMap_eq_map'] at p
  exact p
end
end L2.Px

/-! t[::-1] and t.count(n) of tuples; xs[i] += n of lists. -/
namespace HT
open PySem PySem.Spec PyProof.Rows L2
section
variable {prog : Program} {w : World} {A : Around} {E : Value → Shared → Prop} {s : Shared}
theorem px_adjust (n : Nat) : Builtin.Slice.sliceAdjust none none (-1) (n : Int) = ((n : Int) - 1, -1) := rfl
theorem px_places (n : Nat) : Builtin.Slice.slicePlaces ((n : Int) - 1) (-1) (-1) = n := by
  unfold Builtin.Slice.slicePlaces
  have h1 : ¬ ((-1 : Int) > 0) := by omega
  simp only [h1, if_false, Int.neg_neg, Int.ediv_one]
  split <;> omega
theorem px_applied {sl : Addr} {vl vu vs : Value} {n : Nat} {Q : Int × Int × Nat → Shared → Prop} (hs : s.heap.IsSliceOf sl vl vu vs) (pl : IsPart vl none) (pu : IsPart vu none) (ps : IsPart vs (some (-1)))
    (h : Q ((n : Int) - 1, -1, n) s) : wpAny (model prog w) A (Builtin.Slice.sliceApplied (.ref sl) (pure (n : Int))) Q E s := by
  obtain ⟨os, hos, hcs, hds⟩ := id hs
  unfold Builtin.Slice.sliceApplied Builtin.Slice.sliceFields
  refine wpAny_bind (wpAny_bind (wpAny_field hos hds (x := vl) rfl (wpAny_bind (wpAny_field hos hds (x := vu) rfl (wpAny_bind (wpAny_field hos hds (x := vs) rfl (wpAny_pure ?_)))))))
  refine wpAny_bind (slicePart_ ps ?_)
  show wpAny _ _ (if ((-1 : Int) == 0) = true then _ else _) _ _ s
  rw [if_neg (by decide)]
  refine wpAny_bind (slicePart_ pl (wpAny_bind (slicePart_ pu (wpAny_bind (wpAny_pure ?_)))))
  show wpAny _ _ (match Builtin.Slice.sliceAdjust none none (-1) (n : Int) with | (lo, hi) => pure (lo, (-1 : Int), Builtin.Slice.slicePlaces lo hi (-1))) _ _ s
  rw [px_adjust n]
  show wpAny _ _ (pure ((n : Int) - 1, (-1 : Int), Builtin.Slice.slicePlaces ((n : Int) - 1) (-1) (-1))) _ _ s
  rw [px_places]
  exact wpAny_pure h
theorem px_congr {α β : Type} {f g : α → Option β} : ∀ l : List α, (∀ x ∈ l, f x = g x) → l.filterMap f = l.filterMap g
  | [], _ => rfl
  | x :: l, h => by
    rw [List.filterMap_cons, List.filterMap_cons, h x List.mem_cons_self, px_congr l fun y hy => h y (List.mem_cons_of_mem _ hy)]
theorem px_pick (xs : Array Value) : ((List.range xs.size).filterMap fun (m : Nat) => xs[(((xs.size : Nat) : Int) - 1 + (m : Int) * -1).toNat]?).toArray = xs.toList.reverse.toArray := by
  refine congrArg List.toArray (List.ext_getElem? fun i => ?_)
  have e : ((List.range xs.size).filterMap fun (m : Nat) => xs[(((xs.size : Nat) : Int) - 1 + (m : Int) * -1).toNat]?) = (List.range xs.size).map fun m => xs[xs.size - 1 - m]?.getD .none := by
    rw [← List.filterMap_eq_map']
    refine px_congr _ fun m hm => ?_
    have hm := List.mem_range.mp hm
    have : (((xs.size : Nat) : Int) - 1 + (m : Int) * -1).toNat = xs.size - 1 - m := by omega
    rw [this, Array.getElem?_eq_getElem (by omega)]
    rfl
  rw [e]
  by_cases hi : i < xs.size
  · rw [List.getElem?_map, List.getElem?_range hi, List.getElem?_reverse (by rw [Array.length_toList]; exact hi), Array.length_toList, Array.getElem?_toList, Array.getElem?_eq_getElem (by omega)]
    show some ((xs[xs.size - 1 - i]?).getD .none) = _
    rw [Array.getElem?_eq_getElem (by omega)]
    rfl
  · rw [List.getElem?_eq_none (by rw [List.length_map, List.length_range]; omega), List.getElem?_eq_none (by rw [List.length_reverse, Array.length_toList]; omega)]
theorem getItem_tuple_rev {t sl : Addr} {items : Array Value} {vl vu vs : Value} {Q : Value → Shared → Prop} (ht : IsTup s.heap t items) (hs : s.heap.IsSliceOf sl vl vu vs) (pl : IsPart vl none) (pu : IsPart vu none) (ps : IsPart vs (some (-1)))
    (h : Q (.ref s.heap.objs.size) { s with heap := s.heap.push { cls := .type "tuple", data := .seq items.toList.reverse.toArray } })
    (hsz : items.size ≤ sizeLine) : wpAny (model prog w) A (getItem (.ref t) (.ref sl)) Q E s := by
  have htake : sizeOk (.seq items.toList.reverse.toArray) := by
    show items.toList.reverse.toArray.size ≤ sizeLine
    rw [List.size_toArray, List.length_reverse, Array.length_toList]
    omega
  obtain ⟨os, hos, hcs, hds⟩ := id hs
  have hTs : s.TypeIs (.ref sl) "slice" := ⟨os, hos, hcs⟩
  unfold getItem
  try with_reducible refine wpAny_holding ?_
  first | refine wpAny_bind (wpAny_pure ?_) | skip
  refine wpAny_bind (wpAny_sequenceKey ht.typeIs (by decide) ?_)
  refine wpAny_bind (wpAny_callSpecial?_slot (name := Str.ofString "__getitem__") ht.typeIs PyProof.Rows.slot_tuple_getitem
    (wpAny_call_entry PyProof.Rows.slot_tuple_getitem ht.typeIs entry_tuple_getitem ?_ (args_tuple_getitem _ _)))
  show wpAny _ _ (Builtin.Tuple.tupleItemsOf (.ref t) >>= _) _ _ s
  refine wpAny_bind (tupleItemsOf_ ht ?_)
  refine wpAny_bind (wpAny_typeOf hTs ?_)
  rw [if_pos (by decide)]
  refine wpAny_bind (px_applied hs pl pu ps ?_)
  have hno : ¬ ((((items.size : Int) - 1) == 0 && (-1 : Int) == 1 && items.size == items.size) = true) := by
    intro q
    rw [Bool.and_eq_true, Bool.and_eq_true] at q
    exact absurd q.1.2 (by decide)
  show wpAny _ _ (if ((((items.size : Int) - 1) == 0 && (-1 : Int) == 1 && items.size == items.size) = true) then _ else _) _ _ s
  rw [if_neg hno, px_pick]
  first
    | exact wpAny_bind (m := Builtin.Tuple.tupleExact _) (wpAny_newObj_type (wpAny_pure ⟨_, rfl, wpAny_pure h⟩) htake)
    | exact wpAny_bind (m := Builtin.Tuple.tupleExact _) (wpAny_newObj_type (wpAny_bind (wpAny_pure (wpAny_pure ⟨_, rfl, wpAny_pure h⟩))) htake)
    | exact wpAny_bind (wpAny_bind (m := Builtin.Tuple.tupleExact _) (wpAny_newObj_type (wpAny_pure (wpAny_pure ⟨_, rfl, wpAny_pure h⟩)) htake))
    | exact wpAny_bind (wpAny_bind (m := Builtin.Tuple.tupleExact _) (wpAny_newObj_type (wpAny_pure ⟨_, rfl, wpAny_pure h⟩) htake))
end
end HT
namespace L2.Px
open PySem PySem.Spec PyProof.Rows
section
variable {X : Cx}
/-- t[::-1] of a tuple -/
def tRevT (K : PySem.W.Frag) (te : TE) : TE := fun σ H Q => te σ H fun x H1 => ∃ a xs, x = .ref a ∧ SqT K H1 a xs ∧ ∀ p, H1 p = none → Q (.ref p) (upd H1 p (.tup xs.reverse))
theorem pe_revT {e : Expr} {te : TE} {k : Nat} {p1 p2 p3 pos : Pos} (he : PE X e te) : PE X (.Subscript e (.Slice none none (some (.UnaryOp .USub (.Constant (.int 1) k p1) p2)) p3) pos) (tRevT X.K te) := by
  refine ⟨fun pins s σ H Q I h => ?_⟩
  refine Subscript_ (thn (he.run pins s σ H _ I h) fun v s1 ⟨x, H1, I1, r1, q1⟩ => ?_)
  obtain ⟨a, xs, ex, hx, q⟩ := q1
  subst ex
  cases r1
  have hst : PO X (some (.UnaryOp .USub (.Constant (.int 1) k p1) p2)) (tPart (tUn (rU fun i => .int (-i)) (L2.tC (.int 1)))) := po_some (pe_un un_neg pe_int)
  refine wpAny_Slice (thn (po_none.run pins s1 σ H1 (fun o H2 => o = none ∧ H2 = H1) I1 ⟨rfl, rfl⟩) fun vl s2 ⟨l, H2, I2, pl, el, e2⟩ => ?_)
  subst el e2
  refine thn (po_none.run pins s2 σ H2 (fun o H3 => o = none ∧ H3 = H2) I2 ⟨rfl, rfl⟩) fun vu s3 ⟨u, H3, I3, pu, eu, e3⟩ => ?_
  subst eu e3
  refine thn (hst.run pins s3 σ H3 (fun o H4 => o = some (-1) ∧ H4 = H3) I3 ⟨1, rfl, -1, rfl, rfl, rfl⟩) fun vs s4 ⟨o, H4, I4, ps, eo, e4⟩ => ?_
  subst eo e4
  have I5 : Inv X pins σ H4 { s4 with heap := s4.heap.push { cls := .type "slice", data := .fields #[vl, vu, vs] } } := I4.kept (t' := s4.toks) fun b ob q => Heap.get?_push_of_some _ q
  obtain ⟨its, r, ht, hz⟩ := I5.tuple hx
  have hlen := r.length
  show wpAny (model X.prog X.w) X.A (subscriptTail e (.Slice none none (some (.UnaryOp .USub (.Constant (.int 1) k p1) p2)) p3) (.ref a) (.ref s4.heap.objs.size)) (EP X pins σ Q) X.xe { s4 with heap := s4.heap.push { cls := .type "slice", data := .fields #[vl, vu, vs] } }
  refine tail_any (ops := [.ref a, .ref s4.heap.objs.size]) ht.typeIs (PyProof.Rows.slot_tuple_getitem.lookup) ?_ (by with_unfolding_all rfl)
  refine HT.getItem_tuple_rev ht (Heap.IsSliceOf.new _ vl vu vs) pl pu ps ?_ (by rw [List.size_toArray]; omega)
  refine ⟨.ref _, _, I5.laid (t' := s4.toks) (o := .tup xs.reverse) (fun b ob q => Heap.get?_push_of_some _ q) (Nat.le_refl _) ?_, rfl, q _ (I5.hok.fresh (Nat.le_refl _))⟩
  exact ⟨by rw [List.length_reverse]; exact hz, _, r.reverse, IsTup.new _ _⟩
abbrev rTIdx (K : PySem.W.Frag) : V → List V → Hp → VK → Prop := fun x xs H Q => ∃ (p : Addr) (ys : List Int) (n : Int), x = .ref p ∧ xs = [.int n] ∧ SqT K H p (iV ys) ∧ n ∈ ys ∧ Q (.int (ys.idxOf n : Nat)) H
/-- t.count(n), a tuple of ints -/
abbrev rTCountI (K : PySem.W.Frag) : V → List V → Hp → VK → Prop := fun x xs H Q => ∃ (p : Addr) (ys : List Int) (n : Int), x = .ref p ∧ xs = [.int n] ∧ SqT K H p (iV ys) ∧ Q (.int (ys.count n : Nat)) H
theorem mt_tcountI : MtR X "tuple.count" (rTCountI X.K) := by
  intro pins s σ H x xs v us Q I rx rs h
  obtain ⟨p, ys, n, rfl, rfl, hq, q⟩ := h
  cases rx
  cases rs with
  | cons rn rr =>
    cases rr
    obtain ⟨its, rv, ht, hz⟩ := I.tuple hq
    obtain ⟨⟨cls, dd, data, sl⟩, ho, hc, m, hd⟩ := id ht
    simp only at hc hd
    subst hc hd
    have ia : IntsAre its ys := intsAre_of rv
    obtain ⟨t, rfl⟩ := rn
    refine call_meets PySem.F.slot_tuple_count ⟨_, ho, rfl⟩ PySem.F.entry_tuple_count (PySem.F.args_tuple_count_2 _ _) (SeqAt.tuple_countAt p its.toArray m dd sl (.int n t) (isInt n)) ⟨ho, fun y hy => (eq_isInt n t ia y (by simpa using hy)).at _ _, ?_⟩
    rw [show its.toArray.toList = its from rfl, countP_isInt n ia]
    exact ⟨.int _, H, I.tok _, ⟨_, rfl⟩, q⟩
/-- xs[i] += n -/
def rGetL (K : PySem.W.Frag) : V → V → Hp → VK → Prop := fun x y H Q => ∃ p xs i v, x = .ref p ∧ y = .int i ∧ SqL K H p xs ∧ 0 ≤ i ∧ atI xs i = some v ∧ Q v H
theorem pg_list : PGet X (rGetL X.K) := by
  intro pins s σ H o i ov iv Q I ro ri h
  obtain ⟨p, xs, j, v, rfl, rfl, hq, h0, he, q⟩ := h
  cases ro
  obtain ⟨t, rfl⟩ := ri
  obtain ⟨its, r, pl, hz⟩ := I.list hq
  obtain ⟨m, h1, h2, h3, h4, h5⟩ := atI_get he
  obtain ⟨w, ew, rw'⟩ := r.get h2
  have hl := r.length
  have hn := line63
  have hj : j.toNat = m := by
    rw [seqIndex_of h0 h5] at h1
    exact Option.some.inj h1
  exact wpAny_getItem_list pl.isList h0 (by omega) (by rw [hj]; simpa using ew) ⟨v, H, I, rw', q⟩
theorem ps_augL {o i e : Expr} {to ti te : TE} {tip : TIp} {op : Operator} {pos tpos : Pos} (ho : PE X o to) (hi : PE X i ti) (he : PE X e te) (hp : PIp X op tip)
    (ha : ∀ ov iv new, augStore i ov iv new = (do holding [new, ov, iv] (setItem ov iv new); release [new, ov, iv] []; pure .next) := by intros; rfl) : PS X (.AugAssign (.Subscript o i tpos) op e pos) (tAugS to ti te (rGetL X.K) tip rSetL) :=
  ps_augS ho hi pg_list he hp set_list ha
end
end L2.Px

/-! A list of draws that is popped while all else stands. -/
namespace L2.Px
open PySem PySem.Spec PyProof.Rows
/-- the list of what is left to be drawn -/
def Drw (H : Hp) (dr : Addr) : Prop := ∃ ds : List Int, H dr = some (.lst (iV ds)) ∧ (∀ d ∈ ds, 0 ≤ d ∧ d < 1000) ∧ ds.length ≤ 5000
abbrev SameX (dr : Addr) (H H' : Hp) : Prop := Same (hid dr H) (hid dr H')
theorem emod_bd (r : Int) : 0 ≤ r % 1000 ∧ r % 1000 < 1000 := ⟨Int.emod_nonneg _ (by decide), Int.emod_lt_of_pos _ (by decide)⟩
theorem Drw.ne {H : Hp} {dr : Addr} (h : Drw H dr) : H dr ≠ none := fun z => by
  obtain ⟨ds, e, _⟩ := h
  rw [e] at z
  cases z
theorem Drw.ne_new {H : Hp} {dr p : Addr} (h : Drw H dr) (n : H p = none) : p ≠ dr := fun z => h.ne (z ▸ n)
theorem none_x {dr b : Addr} {H H' : Hp} (s : SameX dr H H') (h : Drw H' dr) (n : H' b = none) : H b = none := by
  have nb := h.ne_new n
  cases e : H b with
  | none => rfl
  | some o =>
    have := (hid_some (s b o (by rw [hid_ne nb]; exact e))).2
    rw [n] at this
    cases this
/-- what is new when the draws are left out -/
theorem nw_x {dr : Addr} {H H1 H2 : Hp} (d : Drw H dr) (s : SameX dr H1 H2) : Same (nw H H1) (nw H H2) := fun b o e => by
  obtain ⟨e1, e2⟩ := nw_some e
  have nb := d.ne_new e1
  exact nw_of e1 (hid_some (s b o (by rw [hid_ne nb]; exact e2))).2
theorem nw_x0 {dr : Addr} {H0 H H1 : Hp} (d : Drw H dr) (s : SameX dr H0 H) : Same (nw H H1) (nw H0 H1) := fun b o e => by
  obtain ⟨e1, e2⟩ := nw_some e
  exact nw_of (none_x s d e1) e2
theorem x_own {dr D : Addr} {H H' : Hp} {o : HO} (s : SameX dr H H') (n : H D = none) : SameX dr H (upd H' D o) := fun b u e => by
  obtain ⟨nb, e1⟩ := hid_some e
  rw [hid_ne nb, upd_ne (ne_of_none e1 n)]
  exact (hid_some (s b u e)).2
theorem Drw.hid {H H' : Hp} {dr : Addr} (h : Drw H dr) : Same (nw H H') (Px.hid dr H') := by
  obtain ⟨ds, e, _⟩ := h
  exact nw_hid e
theorem Drw.upd {H : Hp} {dr p : Addr} {o : HO} (h : Drw H dr) (n : H p = none) : Drw (upd H p o) dr := by
  have ne := h.ne_new n
  obtain ⟨ds, e, z⟩ := h
  exact ⟨ds, (upd_ne (Ne.symm ne)).trans e, z⟩
theorem Drw.to {H H' : Hp} {dr : Addr} (h : Drw H dr) (s : Same H H') : Drw H' dr := by
  obtain ⟨ds, e, z⟩ := h
  exact ⟨ds, s _ _ e, z⟩
theorem Same.x {H H' : Hp} {dr : Addr} (s : Same H H') : SameX dr H H' := Same.hid s
/-- a tuple is not the draws -/
theorem sqt_x {K : PySem.W.Frag} {dr a : Addr} {H H' : Hp} {xs : List V} (d : Drw H dr) (s : SameX dr H H') (h : SqT K H a xs) : SqT K H' a xs := by
  obtain ⟨ds, e, _⟩ := d
  rcases h with (h | ⟨o, h⟩) | h
  · exact .inl (.inl (hid_some (s a _ (by rw [hid_ne fun z => by rw [z, e] at h; cases h]; exact h))).2)
  · exact .inl (.inr ⟨o, (hid_some (s a _ (by rw [hid_ne fun z => by rw [z, e] at h; cases h]; exact h))).2⟩)
  · exact .inr h
/-- what stands elsewhere stays -/
theorem get_x {dr b : Addr} {H H' : Hp} {o : HO} (s : SameX dr H H') (n : b ≠ dr) (h : H b = some o) : H' b = some o := (hid_some (s b o (by rw [hid_ne n]; exact h))).2
end L2.Px

/-! {e}: a set display of one key; a def whose code object is known. -/
namespace L2.Px
open PySem PySem.Spec PyProof.Rows
theorem kds_code {K : PySem.W.Frag} {cd : Value} {q : Str} (h : PySem.W.codeIn K cd q = true) : PySem.W.kdsCode K cd = true := by
  unfold PySem.W.codeIn at h
  unfold PySem.W.kdsCode
  cases cd with
  | ref c =>
    dsimp only at h ⊢
    split at h
    · rename_i e
      rw [e]
    · cases h
  | _ => cases h
section
variable {P : Program} {w : World} {K : PySem.W.Frag} {mg : Str → Option Value} {base : Heap}
/-- a def's body, where its code object is known -/
theorem fun_okC {x qual : Str} {st : Stmt} {f : Addr} {fd : FuncData} {N ps : List Str} {k : Nat} {sp : Sp} (F : Fun K x qual st f fd) (S : FnScope N ps (defScope st)) (lenC : ∀ vs H Q E, sp vs H Q E → vs.length = ps.length)
    (body : ∀ (cdv : Value) (A : Around) (outer : List Env) (s : Shared) (H : Hp) (vs : List V) (Q : VK) (E : XK), PySem.W.kdsCode K cdv = true → Room k (A.deeper (envOfC qual (defScope st) s.heap.objs.size f cdv)) → sp vs H Q E →
      ∃ t, PSs (cxOf CX0 P w K mg base N qual (defScope st) f cdv A outer s H E).nox (defBody st) t ∧ t { nx := fun _ H' => Q .non H', rt := Q } (start N vs) H) : FnOk P w K mg base CX0 (k + 1) f fd ps sp := by
  obtain ⟨oc, od, kV, doc, pm, an, cdv, ct, osl, rfl, lk, code⟩ := F.ex
  refine fn_of lk code S lenC fun A outer s H vs Q E hr hsp => ?_
  obtain ⟨t, pt, tq⟩ := body cdv A outer s H vs Q E (kds_code code) hr hsp
  exact ⟨t, pt.nox, tq⟩
end
section
variable {X : Cx}
theorem unledK {A : Around} {E : Value → Shared → Prop} {s : Shared} {D : Addr} {S : L2.Key → Bool} {n : Nat} {Q : Unit → Shared → Prop} (hS : s.heap.SetOf (mixKind X.prog X.w) D S n)
    (fin : ∀ h', h'.SetOf (mixKind X.prog X.w) D S n → (∀ b o, b ≠ D → s.heap.get? b = some o → h'.get? b = some o) → Q () { s with heap := h' }) : wpAny (model X.prog X.w) A (setUnled D) Q E s := by
  obtain ⟨ob, es, ep, tb, hob, hex, hdat, hel, hmem, hbd, hfit, hn⟩ := hS
  have fit2 : ({ tb with led := false } : SetTable).fits es.size = true := by cases tb; exact hfit
  unfold setUnled
  refine wpAny_bind (wpAny_setState_of hob hdat hfit ?_)
  dsimp only
  refine wpAny_storeSet_of hob hdat ?_ (fits_of_scanBound hbd)
  obtain ⟨_, new⟩ := SetOf_store (knd := mixKind X.prog X.w) hob hex hdat hel hmem hbd fit2
  rw [hn] at new
  exact fin _ new fun b o hb e => ((Heap.SameBut.update s.heap D (Obj.putSet es { tb with led := false })).2 b hb).trans e
/-- {e}, e a number or a text -/
def tSet1 (P : Program) (w : World) (te : TE) : TE := fun σ H Q => ∀ p, H p = none → te σ (upd H p (SetK P w p (fun _ => false) 0)) fun x H1 => ∃ k : L2.Key, x = kV k ∧ H1 p = some (SetK P w p (fun _ => false) 0) ∧ Q (.ref p) (upd H1 p (SetK P w p (fun j => decide (j = k)) 1))
theorem pe_set1 {e : Expr} {te : TE} {pos : Pos} (he : PE X e te) (hpl : PySem.W.kdsPlain e = true) (hcd : PySem.W.kdsCode X.K X.env.code = true) : PE X (.Set [e] 0 pos) (tSet1 X.prog X.w te) := by
  refine ⟨fun pins s σ H Q I h => ?_⟩
  rw [arm_eval_Set]
  refine wpAny_bind (wpAny_standAt (wpAny_bind (PySem.W.kds_main I.kIn hcd fun b => ?_)))
  rw [PySem.W.kds_star [e] (by rw [List.all_cons, hpl] <;> rfl), List.map_map]
  refine PySem.W.kds_core (ts := (evalEach [e] X.env).map fun t => do let v ← t; standAt pos; pure v) (road0 [e]) ?_ ?_ ?_ fun led => ?_
  · refine List.findIdx?_eq_none_iff.mpr fun y hy => ?_
    obtain ⟨_, _, rfl⟩ := List.mem_map.mp hy
    rfl
  · rw [List.length_map, PySem.W.kds_len]
    exact (by decide : 1 ≤ 30)
  · rw [List.map_map]
    try rfl
  · have new0 : (s.heap.push { cls := .type "set", dict := none, data := .set #[] 0 (.fresh 0 0 led) }).SetOf (mixKind X.prog X.w) s.heap.objs.size (fun _ => false) 0 :=
      ⟨_, #[], 0, _, Heap.get?_push_size _ rfl, ⟨rfl, rfl, rfl⟩, rfl, (fun y hy => by simp at hy), (fun j => by simp), (by decide), (by rfl), rfl⟩
    have I0 := I.laid (t' := s.toks) (a := s.heap.objs.size) (o := SetK X.prog X.w s.heap.objs.size (fun _ => false) 0) (fun b u e => Heap.get?_push_of_some _ e) (Nat.le_refl _) (setK_new new0)
    have free := I.hok.fresh (Nat.le_refl _)
    refine PySem.W.kds_all pos [e] _ _ ?_
    show wpAny _ _ (eval e X.env) _ _ _
    refine thn (he.run pins _ σ _ _ I0 (h _ free)) fun v s1 ⟨x, H1, I1, r1, k, ek, hk, q⟩ => ?_
    subst ek
    show PySem.W.KdsFill _ _ _ _ _ _ [v] s1
    refine PySem.W.kds_fill_cons ?_
    unfold setAdd
    refine wpAny_holding (wpAny_bind ((mixKind X.prog X.w).pyHash (k := k) (kV_is r1) ?_))
    refine wpAny_setAddHashed_of (knd := mixKind X.prog X.w) (s := { s1 with toks := s1.toks + 1 }) (kV_is r1) (key_scan r1) (setK_get (I1.tok (s1.toks + 1)) hk) (by decide) fun h' sb hS' => ?_
    have hS2 : h'.SetOf (mixKind X.prog X.w) s.heap.objs.size (fun j => decide (j = k)) 1 := by
      have z := hS'
      simp only [Bool.false_or] at z
      exact z
    have there : ∀ {h2 : Heap} {S : L2.Key → Bool} {n : Nat}, h2.SetOf (mixKind X.prog X.w) s.heap.objs.size S n → ∃ u, h2.get? s.heap.objs.size = some u := fun {h2 S n} R => by
      obtain ⟨o, _, _, _, ho, _⟩ := R
      exact ⟨o, ho⟩
    have I2 := I1.write (x := s.heap.objs.size) (e := s.heap.objs.size) (o := SetK X.prog X.w s.heap.objs.size (fun j => decide (j = k)) 1) (t' := s1.toks + 1) (by rw [hk]; trivial) (.inl rfl) (fun b u hb hu => (sb.2 b hb).trans hu) (there hS2) (setK_new hS2)
    cases hu : (displayRoad 0 [e] == DisplayRoad.unsure) with
    | false => exact PySem.W.kds_fill_nil rfl ⟨.ref s.heap.objs.size, _, I2, rfl, q⟩
    | true =>
      refine PySem.W.kds_fill_unled rfl (unledK (s := { s1 with heap := h', toks := s1.toks + 1 }) hS2 fun h2 hS3 k2 => ?_)
      have I3 := I2.write (x := s.heap.objs.size) (e := s.heap.objs.size) (o := SetK X.prog X.w s.heap.objs.size (fun j => decide (j = k)) 1) (t' := s1.toks + 1) (by rw [upd_same]; trivial) (.inl rfl) (fun b u hb hu => k2 b u hb hu) (there hS3) (setK_new hS3)
      have e2 : upd (upd H1 s.heap.objs.size (SetK X.prog X.w s.heap.objs.size (fun j => decide (j = k)) 1)) s.heap.objs.size (SetK X.prog X.w s.heap.objs.size (fun j => decide (j = k)) 1) = upd H1 s.heap.objs.size (SetK X.prog X.w s.heap.objs.size (fun j => decide (j = k)) 1) := upd_upd
      rw [e2] at I3
      exact ⟨.ref s.heap.objs.size, _, I3, rfl, q⟩
end
end L2.Px

namespace L2.Px
open PySem PySem.Spec PyProof.Rows PySem.OEX
/-! ### what can be reached -/
inductive Reach (adj : Nat → List Nat) (s : Nat) : Nat → Prop
  | refl : Reach adj s s
  | step {x y : Nat} : Reach adj s x → y ∈ adj x → Reach adj s y
theorem Reach.trans {adj : Nat → List Nat} {a b c : Nat} (h1 : Reach adj a b) (h2 : Reach adj b c) : Reach adj a c := by
  induction h2 with
  | refl => exact h1
  | step _ m ih => exact .step ih m
theorem Reach.lt {adj : Nat → List Nat} {n a b : Nat} (hb : ∀ x < n, ∀ y ∈ adj x, y < n) (ha : a < n) (h : Reach adj a b) : b < n := by
  induction h with
  | refl => exact ha
  | step _ m ih => exact hb _ ih _ m
theorem Reach.inn {adj : Nat → List Nat} {s x : Nat} {l : List Nat} (hs : s ∈ l) (hc : ∀ x ∈ l, ∀ y ∈ adj x, y ∈ l) (h : Reach adj s x) : x ∈ l := by
  induction h with
  | refl => exact hs
  | step _ m ih => exact hc _ ih _ m
theorem Reach.congr {adj adj' : Nat → List Nat} (h : ∀ x y, y ∈ adj x → y ∈ adj' x) {a b : Nat} (r : Reach adj a b) : Reach adj' a b := by
  induction r with
  | refl => exact .refl
  | step _ m ih => exact .step ih (h _ _ m)
open Classical in
noncomputable def clR (n : Nat) (adj : Nat → List Nat) (s : Nat) : List Nat := (List.range n).filter fun x => decide (Reach adj s x)
open Classical in
theorem mem_clR {n : Nat} {adj : Nat → List Nat} {s x : Nat} : x ∈ clR n adj s ↔ x < n ∧ Reach adj s x := by
  unfold clR
  rw [List.mem_filter, List.mem_range, decide_eq_true_iff]
theorem clR_nd (n : Nat) (adj : Nat → List Nat) (s : Nat) : (clR n adj s).Nodup := List.nodup_range.filter _
theorem clR_len (n : Nat) (adj : Nat → List Nat) (s : Nat) : (clR n adj s).length ≤ n := by
  refine Nat.le_trans (List.length_filter_le _ _) ?_
  rw [List.length_range]
  exact Nat.le_refl n
theorem clR_le (n : Nat) (adj : Nat → List Nat) (s : Nat) : (cI (clR n adj s)).Pairwise (· ≤ ·) := by
  refine List.pairwise_map.mpr ?_
  exact List.Pairwise.imp (fun {a b} h => by omega) (List.pairwise_lt_range.filter _)
structure Found (n : Nat) (adj : Nat → List Nat) (s : Nat) (l : List Nat) : Prop where
  nd : l.Nodup
  mem : ∀ x, x ∈ l ↔ x < n ∧ Reach adj s x
theorem Found.perm {n s : Nat} {adj : Nat → List Nat} {l : List Nat} (h : Found n adj s l) : l.Perm (clR n adj s) :=
  (List.perm_ext_iff_of_nodup h.nd (clR_nd n adj s)).mpr fun x => (h.mem x).trans mem_clR.symm
theorem Found.sorted {n s : Nat} {adj : Nat → List Nat} {l : List Nat} (h : Found n adj s l) {ms : List Int} (hp : ms.Perm (cI l)) (hs : ms.Pairwise (· ≤ ·)) : ms = cI (clR n adj s) :=
  PySem.W.ksm_same (hp.trans (h.perm.map _)) hs (clR_le n adj s)
open Classical in
noncomputable def clsR (n : Nat) (adj : Nat → List Nat) : Nat → List (List Nat)
  | 0 => []
  | k + 1 => if ∃ s, s < k ∧ Reach adj s k then clsR n adj k else clsR n adj k ++ [clR n adj k]
theorem clsR_len (n : Nat) (adj : Nat → List Nat) : ∀ k, (clsR n adj k).length ≤ k
  | 0 => Nat.le_refl 0
  | k + 1 => by
    have := clsR_len n adj k
    unfold clsR
    split
    · omega
    · rw [List.length_append]
      simp only [List.length_cons, List.length_nil]
      omega
theorem nd_len {n : Nat} {l : List Nat} (nd : l.Nodup) (h : ∀ x ∈ l, x < n) : l.length ≤ n := by
  have e : l.Perm ((List.range n).filter fun x => decide (x ∈ l)) := (List.perm_ext_iff_of_nodup nd (List.nodup_range.filter _)).mpr fun x => by
    rw [List.mem_filter, List.mem_range, decide_eq_true_iff]
    exact ⟨fun m => ⟨h x m, m⟩, fun m => m.2⟩
  rw [e.length_eq]
  refine Nat.le_trans (List.length_filter_le _ _) ?_
  rw [List.length_range]
  exact Nat.le_refl n
/-- the keys that stand for the numbers of a list -/
def memK (l : List Nat) : L2.Key → Bool := fun k => l.any fun x => decide (k = .inl (x : Int))
theorem memK_snoc (l : List Nat) (x : Nat) : (fun j => memK l j || decide (j = .inl (x : Int))) = memK (l ++ [x]) := by
  funext j
  unfold memK
  rw [List.any_append]
  simp
theorem memK_one (x : Nat) : (fun j : L2.Key => decide (j = .inl (x : Int))) = memK [x] := by
  funext j
  unfold memK
  simp
theorem memK_in (l : List Nat) (x : Nat) : memK l (.inl (x : Int)) = decide (x ∈ l) := by
  unfold memK
  by_cases h : x ∈ l
  · rw [decide_eq_true h]
    exact List.any_eq_true.mpr ⟨x, h, decide_eq_true rfl⟩
  · rw [decide_eq_false h]
    cases e : l.any fun y => decide ((.inl (x : Int) : L2.Key) = .inl (y : Int)) with
    | false => rfl
    | true =>
      obtain ⟨y, hy, q⟩ := List.any_eq_true.mp e
      have q := Sum.inl.inj (of_decide_eq_true q)
      have : x = y := by omega
      exact absurd (this ▸ hy) h
/-! ### links on the heap -/
structure LinksAt (K : PySem.W.Frag) (H : Hp) (L : Addr) (n : Nat) (adj : Nat → List Nat) (kvs : List (L2.Key × V)) : Prop where
  d : Rd H L (.dK kvs)
  len : kvs.length = n
  key : ∀ t < n, ∃ b, kvs[t]? = some (.inl (t : Int), .ref b) ∧ SqL K H b (iV (cI (adj t)))
  get : ∀ t < n, ∃ b, valV kvs (.inl (t : Int)) = some (.ref b) ∧ SqL K H b (iV (cI (adj t)))
theorem _root_.L2.Same.rd {H H' : Hp} {a : Addr} {u : HO} (e : Same H H') (h : Rd H a u) : Rd H' a u := by
  rcases h with h | ⟨o, h⟩
  · exact .inl (e _ _ h)
  · exact .inr ⟨o, e _ _ h⟩
theorem LinksAt.mono {K : PySem.W.Frag} {H H' : Hp} {L : Addr} {n : Nat} {adj : Nat → List Nat} {kvs : List (L2.Key × V)} (h : LinksAt K H L n adj kvs) (s : Same H H') : LinksAt K H' L n adj kvs :=
  ⟨s.rd h.d, h.len, fun t ht => let ⟨b, e, q⟩ := h.key t ht; ⟨b, e, s.seq q⟩, fun t ht => let ⟨b, e, q⟩ := h.get t ht; ⟨b, e, s.seq q⟩⟩
theorem dc_it {J : It} {n : Nat} {Gd : Hp → Prop} {Y : Nat → Hp → V → Hp → Prop} (w : Walk J n Gd Y) {g : TG} {tt : TT} {tk tv : TE} {vs : List Nat} {σ : St} {H1 : Hp} {D : Addr} {Qd : Hp → Prop} (Pv : Nat → Hp → Prop) (h0 : Pv 0 (upd H1 D (.dK []))) (hG : ∀ i H, i ≤ n → Pv i H → Gd H)
    (hs : ∀ i x H H', i < n → Pv i H → Y i H x H' → g x (wipe σ vs) H' fun σ2 H2 => wipe σ2 vs = wipe σ vs ∧ tt σ2 H2 fun b H3 =>
      if b = true then tk σ2 H3 fun y H4 => tv σ2 H4 fun z H5 => ∃ kvs k, y = kV k ∧ H5 D = some (.dK kvs) ∧ kvs.length < sizeLine ∧ Pv (i + 1) (upd H5 D (.dK (putK kvs k z))) else Pv (i + 1) H3) (hd : ∀ H, Pv n H → Qd H) :
    ∃ W : Nat → Nat → Hp → Prop, (∃ m, W 0 m (upd H1 D (.dK []))) ∧ ∀ i m H, W i m H →
      (J.stop i H ∧ Qd H) ∨ (J.go i H ∧ ∃ Nx : Hp → Prop, (∀ H', Nx H' → ∃ m', m' < m ∧ W (i + 1) m' H') ∧ ∀ x H', J.yld i H x H' → g x (wipe σ vs) H' fun σ2 H2 => wipe σ2 vs = wipe σ vs ∧ tt σ2 H2 fun b H3 =>
        if b = true then tk σ2 H3 fun y H4 => tv σ2 H4 fun z H5 => ∃ kvs k, y = kV k ∧ H5 D = some (.dK kvs) ∧ kvs.length < sizeLine ∧ Nx (upd H5 D (.dK (putK kvs k z))) else Nx H3) := by
  refine ⟨fun i m H => m = n - i ∧ i ≤ n ∧ Pv i H, ⟨n, rfl, Nat.zero_le _, h0⟩, fun i m H hw => ?_⟩
  obtain ⟨rfl, hi, p⟩ := hw
  rcases Nat.lt_or_eq_of_le hi with lt | e
  · exact .inr ⟨w.goes i H lt (hG i H hi p), Pv (i + 1), fun H' p' => ⟨n - (i + 1), by omega, rfl, lt, p'⟩, fun x H' y => hs i x H H' lt p (w.yields i H x H' lt (hG i H hi p) y)⟩
  · subst e
    exact .inl ⟨w.stops H (hG i H hi p), hd H p⟩
end L2.Px

/-! A dict comprehension that is assigned; t > u of data. -/
namespace L2.Px
open PySem PySem.Spec PyProof.Rows
section
variable {X : Cx}
theorem ps_setDc {i : Nat} {y : Str} {py : Pos} {kx vx tg iter : Expr} {ifs : List Expr} {scope : Scope} {own : List (Str × Nat)} {pos spos : Pos} {wi : TI} {g : TG} {tt : TT} {tk tv : TE} (hc : X.calm = true) (hN : X.N.Nodup) (hy : X.N[i]? = some y) (hyl : X.env.scope.names.lookup y = some .local)
    (hsw : swapsWith (.DictComp kx vx [⟨tg, iter, ifs, 0⟩] scope pos) (some (.Name y py)) spos.line X.env = pure true) (hi : PI X tg iter wi) (ok : BlkOk X.N X.env.scope scope own)
    (hg : ∀ (s : Shared) (H : Hp) (C : Addr) (cl : List (Str × Addr)) (fp : List Addr), PG (X.blk s H scope (compEnvC scope cl C X.env) fp) tg g)
    (ht : ∀ (s : Shared) (H : Hp) (C : Addr) (cl : List (Str × Addr)) (fp : List Addr), PTs (X.blk s H scope (compEnvC scope cl C X.env) fp) ifs tt)
    (hk : ∀ (s : Shared) (H : Hp) (C : Addr) (cl : List (Str × Addr)) (fp : List Addr), PE (X.blk s H scope (compEnvC scope cl C X.env) fp) kx tk)
    (he : ∀ (s : Shared) (H : Hp) (C : Addr) (cl : List (Str × Addr)) (fp : List Addr), PE (X.blk s H scope (compEnvC scope cl C X.env) fp) vx tv)
    (hs : ∀ x, foldedSetIterable iter X.env x = pure x := by intro _; rfl) :
    PS X (.Assign [.Name y py] (.DictComp kx vx [⟨tg, iter, ifs, 0⟩] scope pos) spos) (tAsg (tDc wi g tt tk tv (own.map (·.2))) (gName i)) := by
  refine ⟨fun pins s σ H D I wish => ?_⟩
  rw [exec_Assign_Name_used _ _ _ _ hsw]
  have wish : tDc wi g tt tk tv (own.map (·.2)) σ H (fun x H1 => gName i x σ H1 D.nx) := wish
  refine wpAny_bind (wpAny_standAt (wpAny_bind (wpAny_bind (thn (dc_core (Qf := fun _ s' => SP X pins D .next s') hc hN I hi ok hg ht hk he hs wish fun L C s' m H' I' q hn f => ?_) fun _ s' hq => wpAny_pure (wpAny_pure hq)))))
  refine wpAny_assign_Name (store_ok2 (v := V.ref L) I' hN hy (.inl hyl) rfl (fun s2 I2 ⟨a, same, ha⟩ => ?_) (.inr hyl))
  have apart : C ≠ a := ha.elim (fun z => z ▸ f.2.1) fun z e => f.2.2.2.2.1 y a z e.symm
  refine ⟨m, hn.sameBut same apart, fun h3 same3 => ?_⟩
  exact ⟨_, H', I2.turned (t' := s2.toks) (fun b o hb e => (same3.2 b hb).trans e) f.1 f.2.1 f.2.2.2.1 f.2.2.2.2.1 f.2.2.2.2.2, q⟩
/-- t > u, data that are alike -/
def rGtD (K : PySem.W.Frag) : R2 := fun x y H Q => ∃ d e, Dp K H x d ∧ Dp K H y e ∧ PySem.W.alike d e = true ∧ d ≠ .none ∧ d.depth ≤ 60 ∧ Q (.bl (PySem.W.dataLt e d)) H
theorem op_gtD (hu : X.A.units + 64 < cLine) : OpR X (compareOp .Gt) (rGtD X.K) := by
  intro pins s σ H x y v u Q I rx ry h
  obtain ⟨d, e, hd, he, al, nn, dp, q⟩ := h
  obtain ⟨as, r1⟩ := Dp.reads I d x v hd rx
  obtain ⟨bs, r2⟩ := Dp.reads I e y u he ry
  exact PySem.W.gt_data r1 r2 al nn (by have := Nat.min_le_left d.depth e.depth; omega) ⟨.bl _, H, I, rfl, q⟩
end
end L2.Px

/-! t * n of tuples, n = 1 too. -/
namespace L2.Px
open PySem PySem.Spec PyProof.Rows
theorem tuple_mulOne (l : Addr) (items : Array Value) (n : Nat) (sl : Array (Option Value)) (dd : Option Addr) (u : Tok) :
    Meets (Builtin.«tuple.__mul__» ⟨[.ref l, .int 1 u], []⟩) (fun _ R s => s.heap.get? l = some { cls := .type "tuple", dict := dd, data := .seq items n, slots := sl } ∧ R (.ok (.ret (.ref l))) s) :=
  .of_wp fun prog w A R s h => by
    obtain ⟨hp, g, d, tk, os⟩ := s
    obtain ⟨hl, h⟩ := h
    have f1 := AutoSeq1.idx_int
    have c1 : (items.isEmpty || (1 : Int) == 1) = true := by rw [Bool.or_eq_true]; exact .inr rfl
    wp_walk using wpAny_loadPart' hl
    repeat (first
      | (refine wpAny_ite_false (decide_eq_false (by decide)) ?_; wp_walk using wpAny_loadPart' hl)
      | (refine wpAny_ite_true (decide_eq_true (by rw [c1])) ?_; wp_walk using wpAny_loadPart' hl))
    exact ⟨_, rfl, h⟩
def rRepA (K : PySem.W.Frag) : R2 := fun x y H Q => ∃ l k xs, x = .ref l ∧ y = .int k ∧ SqT K H l xs ∧ xs ≠ [] ∧ 1 ≤ k ∧ k ≤ 1000 ∧ xs.length ≤ 1000 ∧ (k = 1 → Q (.ref l) H) ∧ (2 ≤ k → ∀ p, H p = none → Q (.ref p) (upd H p (.tup (List.replicate k.toNat xs).flatten)))
section
variable {X : Cx}
theorem op_repA : OpR X (binaryOp .Mult) (rRepA X.K) := by
  intro pins s σ H x y v u Q I rx ry h
  obtain ⟨l, k, xs, rfl, rfl, hT, hne, h1, h2, hz, q1, q2⟩ := h
  by_cases e : k = 1
  · subst e
    cases rx
    obtain ⟨t, rfl⟩ := ry
    obtain ⟨its, r, ⟨⟨cls, dd, data, sl⟩, ho, hc, n, hd⟩, hs⟩ := I.tuple hT
    simp only at hc hd
    subst hc hd
    refine wpAny_binaryOp_repeat_ref (T := "tuple") (U := "int") (by decide) ⟨_, ho, rfl⟩ (fun s' => typeIs_int s' 1 t) noFill_tuple_mul F.fills_int_mul F.slot_int_rmul repeat_tuple F.slot_int_index.lookup
      (call_meets F.slot_int_rmul (typeIs_int s 1 t) F.entry_int_rmul (F.args_int_rmul_2 _ _) (int_rmul_tuple 1 t l its.toArray n dd sl)
        ⟨ho, rfl, ⟨_, ho, rfl⟩, call_meets F.slot_tuple_mul ⟨_, ho, rfl⟩ F.entry_tuple_mul (F.args_tuple_mul_2 _ _) (tuple_mulOne l its.toArray n sl dd t) ⟨ho, ?_⟩⟩)
    exact ⟨.ref l, H, I, rfl, q1 rfl⟩
  · exact op_repT pins s σ H _ _ v u Q I rx ry ⟨l, k, xs, rfl, rfl, hT, hne, by omega, h2, hz, q2 (by omega)⟩
end
end L2.Px

namespace L2.Px
open PySem PySem.Spec PyProof.Rows
def top (i : Nat) : Stmt := PySem.Challenge.pw_wedgespace_k59_images_of_words.main.body.getD i (.Pass ⟨0, 0, 0, 0⟩)
abbrev s_reached : Stmt := top 6
abbrev s_are_letters : Stmt := top 8
abbrev s_check_images : Stmt := top 11
abbrev s_are_images : Stmt := top 12
abbrev s_permutation_of : Stmt := top 13
abbrev s_satisfies : Stmt := top 14
abbrev s_is_transitive : Stmt := top 15
abbrev s_check_group : Stmt := top 16
abbrev s_image_of_word : Stmt := top 17
abbrev s_moves_nothing : Stmt := top 18
abbrev s__law_number : Stmt := top 20
abbrev s__law_draws : Stmt := top 21
abbrev s__law_next : Stmt := top 22
abbrev s__law_arranged : Stmt := top 23
abbrev s__law_back : Stmt := top 24
abbrev s__law_act : Stmt := top 25
abbrev s__law_group : Stmt := top 26
abbrev s__law_fulfils : Stmt := top 27
abbrev s__law_rows : Stmt := top 28
abbrev s__law_all : Stmt := top 29
abbrev s__law_told : Stmt := top 30
abbrev s__law_transitive : Stmt := top 31
abbrev s__law_rest : Stmt := top 32
abbrev s_law : Stmt := top 33
/-- the built-in names that the text leaves alone -/
structure Nm (mg : Str → Option Value) : Prop where
  n_len : mg "len" = none
  n_all : mg "all" = none
  n_abs : mg "abs" = none
  n_list : mg "list" = none
  n_range : mg "range" = none
  n_sorted : mg "sorted" = none
  n_tuple : mg "tuple" = none
  n_int : mg "int" = none
  n_repr : mg "repr" = none
abbrev n_reached : List Str := ["links", "start", "found", "seen", "at", "here", "place"]
theorem sc_reached : FnScope n_reached ["links", "start"] (defScope s_reached) := ⟨rfl, rfl, rfl, by decide +kernel, rfl, by decide +kernel, by decide +kernel⟩
abbrev n_are_letters : List Str := ["count", "word", "letter"]
theorem sc_are_letters : FnScope n_are_letters ["count", "word"] (defScope s_are_letters) := ⟨rfl, rfl, rfl, by decide +kernel, rfl, by decide +kernel, by decide +kernel⟩
abbrev n_check_images : List Str := ["count", "images"]
theorem sc_check_images : FnScope n_check_images ["count", "images"] (defScope s_check_images) := ⟨rfl, rfl, rfl, by decide +kernel, rfl, by decide +kernel, by decide +kernel⟩
abbrev n_are_images : List Str := ["images", "numbers", "image"]
theorem sc_are_images : FnScope n_are_images ["images"] (defScope s_are_images) := ⟨rfl, rfl, rfl, by decide +kernel, rfl, by decide +kernel, by decide +kernel⟩
abbrev n_permutation_of : List Str := ["images", "word"]
theorem sc_permutation_of : FnScope n_permutation_of ["images", "word"] (defScope s_permutation_of) := ⟨rfl, rfl, rfl, by decide +kernel, rfl, by decide +kernel, by decide +kernel⟩
abbrev n_satisfies : List Str := ["group", "images", "count", "relators", "word"]
theorem sc_satisfies : FnScope n_satisfies ["group", "images"] (defScope s_satisfies) := ⟨rfl, rfl, rfl, by decide +kernel, rfl, by decide +kernel, by decide +kernel⟩
abbrev n_is_transitive : List Str := ["images", "degree", "links", "s", "image"]
theorem sc_is_transitive : FnScope n_is_transitive ["images"] (defScope s_is_transitive) := ⟨rfl, rfl, rfl, by decide +kernel, rfl, by decide +kernel, by decide +kernel⟩
abbrev n_check_group : List Str := ["group", "count", "relators", "word"]
theorem sc_check_group : FnScope n_check_group ["group"] (defScope s_check_group) := ⟨rfl, rfl, rfl, by decide +kernel, rfl, by decide +kernel, by decide +kernel⟩
abbrev n_image_of_word : List Str := ["images", "word", "numbers", "letter", "image", "s"]
theorem sc_image_of_word : FnScope n_image_of_word ["images", "word"] (defScope s_image_of_word) := ⟨rfl, rfl, rfl, by decide +kernel, rfl, by decide +kernel, by decide +kernel⟩
abbrev n_moves_nothing : List Str := ["images", "word"]
theorem sc_moves_nothing : FnScope n_moves_nothing ["images", "word"] (defScope s_moves_nothing) := ⟨rfl, rfl, rfl, by decide +kernel, rfl, by decide +kernel, by decide +kernel⟩
abbrev n__law_number : List Str := ["cell"]
theorem sc__law_number : FnScope n__law_number ["cell"] (defScope s__law_number) := ⟨rfl, rfl, rfl, by decide +kernel, rfl, by decide +kernel, by decide +kernel⟩
abbrev n__law_draws : List Str := ["script", "draws", "cell", "rest", "k", "once", "twice"]
theorem sc__law_draws : FnScope n__law_draws ["script"] (defScope s__law_draws) := ⟨rfl, rfl, rfl, by decide +kernel, rfl, by decide +kernel, by decide +kernel⟩
abbrev n__law_next : List Str := ["draws"]
theorem sc__law_next : FnScope n__law_next ["draws"] (defScope s__law_next) := ⟨rfl, rfl, rfl, by decide +kernel, rfl, by decide +kernel, by decide +kernel⟩
abbrev n__law_arranged : List Str := ["draws", "size", "left", "row", "k", "at"]
theorem sc__law_arranged : FnScope n__law_arranged ["draws", "size"] (defScope s__law_arranged) := ⟨rfl, rfl, rfl, by decide +kernel, rfl, by decide +kernel, by decide +kernel⟩
abbrev n__law_back : List Str := ["p", "point"]
theorem sc__law_back : FnScope n__law_back ["p"] (defScope s__law_back) := ⟨rfl, rfl, rfl, by decide +kernel, rfl, by decide +kernel, by decide +kernel⟩
abbrev n__law_act : List Str := ["images", "word", "points", "letter", "point"]
theorem sc__law_act : FnScope n__law_act ["images", "word"] (defScope s__law_act) := ⟨rfl, rfl, rfl, by decide +kernel, rfl, by decide +kernel, by decide +kernel⟩
abbrev n__law_group : List Str := ["draws", "count", "relators", "k", "word", "at", "draw"]
theorem sc__law_group : FnScope n__law_group ["draws"] (defScope s__law_group) := ⟨rfl, rfl, rfl, by decide +kernel, rfl, by decide +kernel, by decide +kernel⟩
abbrev n__law_fulfils : List Str := ["group", "images", "still", "relator"]
theorem sc__law_fulfils : FnScope n__law_fulfils ["group", "images"] (defScope s__law_fulfils) := ⟨rfl, rfl, rfl, by decide +kernel, rfl, by decide +kernel, by decide +kernel⟩
abbrev n__law_rows : List Str := ["degree", "rows", "k", "longer", "row", "point"]
theorem sc__law_rows : FnScope n__law_rows ["degree"] (defScope s__law_rows) := ⟨rfl, rfl, rfl, by decide +kernel, rfl, by decide +kernel, by decide +kernel⟩
abbrev n__law_all : List Str := ["group", "degree", "rows", "found", "k", "longer", "images", "row"]
theorem sc__law_all : FnScope n__law_all ["group", "degree"] (defScope s__law_all) := ⟨rfl, rfl, rfl, by decide +kernel, rfl, by decide +kernel, by decide +kernel⟩
abbrev n__law_told : List Str := ["which", "group", "images", "word"]
theorem sc__law_told : FnScope n__law_told ["which", "group", "images", "word"] (defScope s__law_told) := ⟨rfl, rfl, rfl, by decide +kernel, rfl, by decide +kernel, by decide +kernel⟩
abbrev n__law_transitive : List Str := ["images", "found", "k", "image", "point"]
theorem sc__law_transitive : FnScope n__law_transitive ["images"] (defScope s__law_transitive) := ⟨rfl, rfl, rfl, by decide +kernel, rfl, by decide +kernel, by decide +kernel⟩
abbrev n__law_rest : List Str := ["group", "images", "word", "at", "choice", "bad", "which", "count", "letter"]
theorem sc__law_rest : FnScope n__law_rest ["group", "images", "word", "at", "choice"] (defScope s__law_rest) := ⟨rfl, rfl, rfl, by decide +kernel, rfl, by decide +kernel, by decide +kernel⟩
abbrev n_law : List Str := ["script", "draws", "group", "count", "degree", "images", "word", "at", "draw", "due", "which", "k"]
theorem sc_law : FnScope n_law ["script"] (defScope s_law) := ⟨rfl, rfl, rfl, by decide +kernel, rfl, by decide +kernel, by decide +kernel⟩
end L2.Px

namespace L2.Px
open PySem PySem.Spec PyProof.Rows
/-! ### images as data -/
abbrev Wd := List Int
abbrev Im := List (List Int)
def TupV (K : PySem.W.Frag) (H : Hp) (v : V) (ns : List Int) : Prop := ∃ a, v = .ref a ∧ SqT K H a (iV ns)
def TupF (H : Hp) (v : V) (ns : List Int) : Prop := ∃ a o, v = .ref a ∧ H a = some (.frz o (.tup (iV ns))) ∧ o.dict = none
theorem lasts_tup {K : PySem.W.Frag} : Lasts (TupV K) := fun H H' v ns s h => by
  obtain ⟨a, rfl, h⟩ := h
  exact ⟨a, rfl, s.tup h⟩
theorem lasts_tupF : Lasts TupF := fun H H' v ns s h => by
  obtain ⟨a, o, rfl, h, z⟩ := h
  exact ⟨a, o, rfl, s _ _ h, z⟩
theorem TupF.v {K : PySem.W.Frag} {H : Hp} {v : V} {ns : List Int} (h : TupF H v ns) : TupV K H v ns := by
  obtain ⟨a, o, rfl, h, _⟩ := h
  exact ⟨a, rfl, .inl (.inr ⟨o, h⟩)⟩
def ImV (K : PySem.W.Frag) (H : Hp) (v : V) (ims : Im) : Prop := ∃ A vs, v = .ref A ∧ SqT K H A vs ∧ Paired (TupV K H) vs ims
def ImF (K : PySem.W.Frag) (H : Hp) (v : V) (ims : Im) : Prop := ∃ A vs, v = .ref A ∧ SqT K H A vs ∧ Paired (TupF H) vs ims
theorem lasts_im {K : PySem.W.Frag} : Lasts (ImV K) := fun H H' v ns s h => by
  obtain ⟨a, vs, rfl, h, p⟩ := h
  exact ⟨a, vs, rfl, s.tup h, paired_mono (fun _ _ q => lasts_tup _ _ _ _ s q) p⟩
theorem lasts_imF {K : PySem.W.Frag} : Lasts (ImF K) := fun H H' v ns s h => by
  obtain ⟨a, vs, rfl, h, p⟩ := h
  exact ⟨a, vs, rfl, s.tup h, paired_mono (fun _ _ q => lasts_tupF _ _ _ _ s q) p⟩
theorem ImV.to {K : PySem.W.Frag} {H H' : Hp} {v : V} {x : Im} (h : ImV K H v x) (s : Same H H') : ImV K H' v x := lasts_im _ _ _ _ s h
theorem ImF.to {K : PySem.W.Frag} {H H' : Hp} {v : V} {x : Im} (h : ImF K H v x) (s : Same H H') : ImF K H' v x := lasts_imF _ _ _ _ s h
theorem ImF.v {K : PySem.W.Frag} {H : Hp} {v : V} {x : Im} (h : ImF K H v x) : ImV K H v x := by
  obtain ⟨a, vs, rfl, h, p⟩ := h
  exact ⟨a, vs, rfl, h, paired_mono (fun _ _ q => q.v) p⟩
def GrV (K : PySem.W.Frag) (H : Hp) (v : V) (c : Int) (rel : Im) : Prop := ∃ G z, v = .ref G ∧ SqT K H G [.int c, z] ∧ ImV K H z rel
theorem GrV.to {K : PySem.W.Frag} {H H' : Hp} {v : V} {c : Int} {x : Im} (h : GrV K H v c x) (s : Same H H') : GrV K H' v c x := by
  obtain ⟨G, z, rfl, h, i⟩ := h
  exact ⟨G, z, rfl, s.tup h, i.to s⟩
abbrev rg (d : Nat) : List Int := cI (List.range d)
theorem rg_len (d : Nat) : (rg d).length = d := by rw [List.length_map, List.length_range]
theorem rg_mem {d : Nat} {x : Int} : x ∈ rg d ↔ 0 ≤ x ∧ x < d := by
  rw [List.mem_map]
  constructor
  · rintro ⟨k, hk, rfl⟩
    have := List.mem_range.mp hk
    omega
  · rintro ⟨h1, h2⟩
    exact ⟨x.toNat, List.mem_range.mpr (by omega), by omega⟩
theorem rg_le (d : Nat) : (rg d).Pairwise (· ≤ ·) := by
  refine List.pairwise_map.mpr ?_
  exact List.Pairwise.imp (fun {a b} h => by omega) (List.pairwise_lt_range (n := d))
def isPm (d : Nat) (im : List Int) : Bool := im.isPerm (rg d)
def isIm (ims : Im) : Bool := !ims.isEmpty && decide (1 ≤ (ims.getD 0 []).length ∧ (ims.getD 0 []).length ≤ 4) && ims.all (isPm (ims.getD 0 []).length)
theorem isPm_sorted {d : Nat} {ns ms : List Int} (hp : ms.Perm ns) (hs : ms.Pairwise (· ≤ ·)) : decide (ms = rg d) = isPm d ns := by
  unfold isPm
  cases e : ns.isPerm (rg d) with
  | true => exact decide_eq_true (PySem.W.ksm_same (hp.trans (List.isPerm_iff.mp e)) hs (rg_le d))
  | false =>
    refine decide_eq_false fun z => ?_
    subst z
    have := List.isPerm_iff.mpr hp.symm
    rw [e] at this
    cases this
theorem isPm_len {d : Nat} {im : List Int} (h : isPm d im = true) : im.length = d := (List.isPerm_iff.mp h).length_eq.trans (rg_len d)
theorem isPm_mem {d : Nat} {im : List Int} (h : isPm d im = true) {x : Int} : x ∈ im ↔ 0 ≤ x ∧ x < d := (List.isPerm_iff.mp h).mem_iff.trans rg_mem
/-- what holds of images -/
structure IsIm (ims : Im) (d : Nat) : Prop where
  pos : 0 < ims.length
  l : (ims.getD 0 []).length = d
  d1 : 1 ≤ d
  d4 : d ≤ 4
  p : ∀ im ∈ ims, isPm d im = true
theorem isIm_of {ims : Im} (h : isIm ims = true) : IsIm ims (ims.getD 0 []).length := by
  unfold isIm at h
  simp only [Bool.and_eq_true, decide_eq_true_eq, List.all_eq_true, Bool.not_eq_true'] at h
  obtain ⟨⟨h1, h2, h3⟩, h4⟩ := h
  refine ⟨?_, rfl, h2, h3, h4⟩
  cases ims with
  | nil => cases h1
  | cons _ _ => exact Nat.succ_pos _
theorem isIm_mk {ims : Im} {d : Nat} (h : IsIm ims d) : isIm ims = true := by
  unfold isIm
  simp only [Bool.and_eq_true, decide_eq_true_eq, List.all_eq_true, Bool.not_eq_true']
  obtain ⟨h1, h2, h3, h4, h5⟩ := h
  rw [h2]
  refine ⟨⟨?_, h3, h4⟩, h5⟩
  cases ims with
  | nil => cases h1
  | cons _ _ => rfl
def absI (x : Int) : Int := if x < 0 then -x else x
def okW (c : Int) (w : Wd) : Bool := w.all fun x => decide (x ≠ 0) && decide (absI x ≤ c)
/-- a letter's image of numbers -/
def actL (ims : Im) (pts : List Int) (x : Int) : List Int :=
  if 0 < x then pts.map fun s => (ims.getD (x - 1).toNat []).getD s.toNat 0 else pts.map fun s => (((ims.getD (-x - 1).toNat []).idxOf s : Nat) : Int)
def imgW (ims : Im) (w : Wd) : List Int := w.foldl (actL ims) (rg (ims.getD 0 []).length)
def movB (ims : Im) (w : Wd) : Bool := decide (imgW ims w = rg (ims.getD 0 []).length)
def grpB (c : Int) (rel : Im) : Bool := decide (1 ≤ c) && rel.all (okW c)
def adjI (ims : Im) (s : Nat) : List Nat := ims.map fun im => (im.getD s 0).toNat
def transP (ims : Im) : Prop := ∀ x < (ims.getD 0 []).length, Reach (adjI ims) 0 x
theorem im_at {ims : Im} {d : Nat} (h : IsIm ims d) {k : Nat} (hk : k < ims.length) : ims.getD k [] ∈ ims ∧ isPm d (ims.getD k []) = true := by
  rw [List.getD_eq_getElem?_getD, List.getElem?_eq_getElem hk]
  exact ⟨List.getElem_mem hk, h.p _ (List.getElem_mem hk)⟩
theorem act_bd {ims : Im} {d : Nat} (h : IsIm ims d) {pts : List Int} (hp : ∀ s ∈ pts, 0 ≤ s ∧ s < (d : Int)) {x : Int} (h0 : x ≠ 0) (h1 : absI x ≤ ims.length) : ∀ s ∈ actL ims pts x, 0 ≤ s ∧ s < (d : Int) := by
  unfold absI at h1
  unfold actL
  by_cases c : 0 < x
  · rw [if_pos c]
    rw [if_neg (by omega)] at h1
    obtain ⟨m, pm⟩ := im_at h (k := (x - 1).toNat) (by omega)
    intro s hs
    obtain ⟨t, ht, rfl⟩ := List.mem_map.mp hs
    have hb := hp t ht
    refine (isPm_mem pm).mp ?_
    rw [List.getD_eq_getElem?_getD (i := t.toNat), List.getElem?_eq_getElem (by rw [isPm_len pm]; omega)]
    exact List.getElem_mem _
  · rw [if_neg c]
    rw [if_pos (by omega)] at h1
    obtain ⟨m, pm⟩ := im_at h (k := (-x - 1).toNat) (by omega)
    intro s hs
    obtain ⟨t, ht, rfl⟩ := List.mem_map.mp hs
    have hb := (isPm_mem pm).mpr (hp t ht)
    have := List.idxOf_lt_length_of_mem hb
    rw [isPm_len pm] at this
    omega
theorem act_len (ims : Im) (pts : List Int) (x : Int) : (actL ims pts x).length = pts.length := by
  unfold actL
  split <;> rw [List.length_map]
theorem map_get {α β : Type} (l : List α) (f : α → β) (d : α) : l.map f = (List.range l.length).map fun i => f (l.getD i d) := by
  refine List.ext_getElem (by rw [List.length_map, List.length_map, List.length_range]) fun i h1 h2 => ?_
  rw [List.getElem_map, List.getElem_map, List.getElem_range, List.getD_eq_getElem?_getD, List.getElem?_eq_getElem (by rwa [List.length_map] at h1)]
  rfl
theorem map_all {α : Type} (l : List α) (f : α → Bool) (d : α) : l.all f = ((List.range l.length).map fun i => f (l.getD i d)).all id := by
  have e : l.map f = (List.range l.length).map fun i => f (l.getD i d) := by
    refine List.ext_getElem (by simp) fun i h1 h2 => ?_
    have hi : i < l.length := by simpa using h1
    simp only [List.getElem_map, List.getElem_range]
    rw [List.getD_eq_getElem?_getD, List.getElem?_eq_getElem hi]
    rfl
  rw [← e, List.all_map]
  rfl
section
variable {P : Program} {w : World} {K : PySem.W.Frag} {mg : Str → Option Value} {base : Heap}
def sp_are_letters (K : PySem.W.Frag) : Sp := fun vs H Q _ => ∃ (a : Addr) (w : Wd) (c : Int), vs = [.int c, .ref a] ∧ SqT K H a (iV w) ∧ w.length ≤ 1000 ∧ ∀ H', Same H H' → Q (.bl (okW c w)) H'
theorem ok_are_letters {f : Addr} {fd : FuncData} (F : Fun K "are_letters" "are_letters" s_are_letters f fd) (N : Nm mg) :
    FnOk P w K mg base CX0 1 f fd ["count", "word"] (sp_are_letters K) := by
  refine F.ok sc_are_letters (fun vs H Q E h => ?_) (fun cdv A outer s H vs Q E hr h => ?_)
  · obtain ⟨a, w, c, rfl, _⟩ := h
    rfl
  · obtain ⟨a, w, c, rfl, ha, hl, k⟩ := h
    refine ⟨_, pss_one (ps_ret (pe_callB (cr_all rfl) (by rfl) N.n_all (by decide +kernel) (pa_cons (pe_lc (own := [("letter", 2)]) (g := gName 2) (tt := tYes) (te := tAndV (tOp (rNe) (tVar 2) (L2.tC (.int 0))) (tOp (rI0 fun i j => .bl (decide (i ≤ j))) (tCB rAbs (tCons (tVar 2) (tNil))) (tVar 0))) rfl sc_are_letters.nd (pi_tup (pv 1)) (blkOk_by (N := n_are_letters) (sc := defScope s_are_letters) (by decide +kernel)) (fun _ _ _ _ _ => (pg_name (i := 2) sc_are_letters.nd rfl (.inl rfl))) (fun _ _ _ _ _ => pts_nil) (fun _ _ _ _ _ => (pe_and (pe_cmpR op_ne (pv 2) pe_int (nomark _)) (pe_one (pe_cmpR op_le (pe_callB call_abs (by rfl) N.n_abs (by decide +kernel) (pa_cons (pv 2) pa_nil)) (pv 0) (nomark _)))))) pa_nil))), ?_⟩
    refine ⟨.ref a, rfl, a, rfl, ⟨_, ha⟩, fun D hD => lc_map (walk_tup (K := K) (a := a) (xs := iV w)) RBl lasts_bl (fun i => decide (w.getD i 0 ≠ 0) && decide (absI (w.getD i 0) ≤ c)) hD (by rw [List.length_map]; omega) (fun H' s => s.tup ha) ?_ ?_⟩
    · rintro i x H1 H2 hi s1 ⟨rfl, hx⟩ Nx kk
      obtain ⟨n, hn, rfl⟩ := iV_get hx
      have e : w.getD i 0 = n := by rw [List.getD_eq_getElem?_getD, hn]; rfl
      rw [e] at kk
      refine ⟨rfl, .int n, rfl, rfl, _, rfl, ?_⟩
      by_cases z : n = 0
      · subst z
        exact iteF (kk _ _ (Same.refl _) rfl)
      · rw [decide_eq_false fun h => z (by injection h)]
        refine iteT ⟨.int n, rfl, n, rfl, .int c, rfl, _, _, rfl, rfl, kk _ _ (Same.refl _) ?_⟩
        rw [decide_eq_true z]
        rfl
    · intro H1 ws s1 hd p
      have e := paired_bl p
      subst e
      refine ⟨D, _, rfl, .of hd, ?_⟩
      have : okW c w = ((List.range (iV w).length).map fun i => decide (w.getD i 0 ≠ 0) && decide (absI (w.getD i 0) ≤ c)).all id := by
        rw [List.length_map, ← map_all w (fun x => decide (x ≠ 0) && decide (absI x ≤ c)) 0]
        rfl
      rw [← this]
      exact k H1 s1
/-! ### are_images, check_images -/
def sp_are_images (K : PySem.W.Frag) : Sp := fun vs H Q _ => ∃ (v : V) (ims : Im), vs = [v] ∧ ImV K H v ims ∧ ims.length ≤ 1000 ∧ ∀ H', Same H H' → Q (.bl (isIm ims)) H'
theorem ok_are_images {f : Addr} {fd : FuncData} {k_GREATEST_DEGREE : Tok} (F : Fun K "are_images" "are_images" s_are_images f fd) (N : Nm mg) (M_GREATEST_DEGREE : mg "GREATEST_DEGREE" = some (.int 4 k_GREATEST_DEGREE)) :
    FnOk P w K mg base CX0 1 f fd ["images"] (sp_are_images K) := by
  refine F.ok sc_are_images (fun vs H Q E h => ?_) (fun cdv A outer s H vs Q E hr h => ?_)
  · obtain ⟨v, ims, rfl, _⟩ := h
    rfl
  · obtain ⟨v, ims, rfl, hI, hl, k⟩ := h
    have hu := hr.units
    refine ⟨_, pss_cons (ps_if (PW.pt (pw_or (pt_cmpR op_eq (pe_callB call_len_seq (by rfl) N.n_len PySem.boot_len (pa_cons (pv 0) pa_nil)) pe_int (nomark _)) (pw_or1 (pt_not (pt_chain op_le op_le pe_int (pe_callB call_len_seq (by rfl) N.n_len PySem.boot_len (pa_cons (pe_ix ix_tup (pv 0) pe_int (fun _ _ => rfl)) pa_nil)) (pe_glob rfl M_GREATEST_DEGREE (v := .int 4) ⟨_, rfl⟩)))))) (pss_one (ps_ret pe_bl)) pss_nil)
      (pss_cons (ps_set (i := 1) sc_are_images.nd rfl (.inr rfl) (pe_listRg rfl (by rfl) N.n_list (prg_1 (by rfl) N.n_range (pe_callB call_len_seq (by rfl) N.n_len PySem.boot_len (pa_cons (pe_ix ix_tup (pv 0) pe_int (fun _ _ => rfl)) pa_nil)))))
      (pss_one (ps_ret (pe_callB (cr_all rfl) (by rfl) N.n_all (by decide +kernel) (pa_cons (pe_lc (own := [("image", 2)]) (g := gName 2) (tt := tYes) (te := tOp (rEqD K) (tCB (rSortedTI K) (tCons (tVar 2) (tNil))) (tVar 1)) rfl sc_are_images.nd (pi_tup (pv 0)) (blkOk_by (N := n_are_images) (sc := defScope s_are_images) (by decide +kernel)) (fun _ _ _ _ _ => (pg_name (i := 2) sc_are_images.nd rfl (.inl rfl))) (fun _ _ _ _ _ => pts_nil) (fun _ _ _ _ _ => (pe_cmpR (op_eqD hu) (pe_callB cr_sortedTI (by rfl) N.n_sorted (by decide +kernel) (pa_cons (pv 2) pa_nil)) (pv 1) (nomark _)))) pa_nil))))), ?_⟩
    obtain ⟨A, vs, rfl, hA, pA⟩ := hI
    have lv := Paired.length pA
    refine ⟨.ref A, rfl, A, vs, rfl, .inr hA, rfl, _, rfl, ?_⟩
    cases ims with
    | nil =>
      have : vs.length = 0 := lv
      rw [this]
      exact iteT (k H (Same.refl H))
    | cons im0 ims =>
      rw [decide_eq_false fun z => by injection z with z; rw [lv] at z; simp only [List.length_cons] at z; omega]
      obtain ⟨v0, h0, a0, rfl, ha0⟩ := paired_at pA (i := 0) rfl
      refine iteF ⟨.ref A, rfl, A, vs, 0, .ref a0, rfl, rfl, hA, atI_nat (j := 0) h0, a0, iV im0, rfl, .inr ha0, ?_⟩
      refine ⟨1, _, rfl, rfl, _, rfl, ?_⟩
      have bad : ¬ (1 ≤ im0.length ∧ im0.length ≤ 4) → isIm (im0 :: ims) = false := fun z => by
        unfold isIm
        show ((true && decide (1 ≤ im0.length ∧ im0.length ≤ 4)) && _) = false
        rw [decide_eq_false z]
        rfl
      refine ite2 (fun c1 => ⟨_, 4, rfl, rfl, _, rfl, ?_⟩) (fun c1 => ⟨_, rfl, iteT ?_⟩)
      · have c1 : (1 : Int) ≤ ((iV im0).length : Nat) := of_decide_eq_true c1
        rw [List.length_map] at c1
        by_cases c4 : im0.length ≤ 4
        · rw [decide_eq_true (show (((iV im0).length : Nat) : Int) ≤ 4 by rw [List.length_map]; omega)]
          refine iteF ⟨.ref A, rfl, A, vs, 0, .ref a0, rfl, rfl, hA, atI_nat (j := 0) h0, a0, iV im0, rfl, .inr ha0, _, rfl, RgOk.of_le (by decide) (by rw [List.length_map]; omega) (by decide) (by omega), fun D hD => ?_⟩
          rw [List.length_map, rg_nat]
          have sD := Same.upd (o := .lst (iV (rg im0.length))) hD
          refine ⟨.ref A, rfl, A, rfl, ⟨_, sD.tup hA⟩, fun D2 hD2 => lc_map (walk_tup (K := K) (a := A) (xs := vs)) RBl lasts_bl (fun i => isPm im0.length ((im0 :: ims).getD i [])) hD2 (by omega) (fun H' s => s.tup (sD.tup hA)) ?_ ?_⟩
          · rintro i x H1 H2 hi s1 ⟨rfl, hx⟩ Nx kk
            obtain ⟨im, hi', b, rfl, hb⟩ := paired_get pA hx
            refine ⟨rfl, .ref b, rfl, b, im, rfl, .inr (s1.tup (sD.tup hb)), fun ms p hp hs np => ?_⟩
            have sp := Same.upd (o := .lst (iV ms)) np
            refine ⟨.ref D, rfl, .list (iD ms), .list (iD (rg im0.length)), .lst (.of upd_same) (dp_ints ms), .lst (.of (sp _ _ (s1 _ _ upd_same))) (dp_ints _), shaped_li _, shaped_li _, kk _ _ sp ?_⟩
            show V.bl _ = V.bl _
            have e : PyData.eqv (.list (iD ms)) (.list (iD (rg im0.length))) = isPm im0.length im := (PySem.W.ked_eqvAll ms (rg im0.length)).trans (isPm_sorted hp hs)
            rw [e, List.getD_eq_getElem?_getD, hi']
            rfl
          · intro H1 ws s1 hd p
            have e := paired_bl p
            subst e
            refine ⟨D2, _, rfl, .of hd, ?_⟩
            have : isIm (im0 :: ims) = ((List.range vs.length).map fun i => isPm im0.length ((im0 :: ims).getD i [])).all id := by
              rw [lv, ← map_all (im0 :: ims) (isPm im0.length) []]
              unfold isIm
              show ((true && decide (1 ≤ im0.length ∧ im0.length ≤ 4)) && (im0 :: ims).all (isPm im0.length)) = _
              rw [decide_eq_true ⟨by omega, c4⟩]
              rfl
            rw [← this]
            exact k H1 (sD.trans s1)
        · rw [decide_eq_false (show ¬ (((iV im0).length : Nat) : Int) ≤ 4 by rw [List.length_map]; omega)]
          refine iteT ?_
          have g := k H (Same.refl H)
          rw [bad fun z => c4 z.2] at g
          exact g
      · have c1 : ¬ (1 : Int) ≤ ((iV im0).length : Nat) := fun z => c1 (decide_eq_true z)
        rw [List.length_map] at c1
        have g := k H (Same.refl H)
        rw [bad fun z => c1 (by omega)] at g
        exact g
def sp_check_images (K : PySem.W.Frag) (C : Addr) : Sp := fun vs H Q E => ∃ (v : V) (ims : Im) (c : Int), vs = [.int c, v] ∧ ImV K H v ims ∧ ims.length ≤ 1000 ∧ ((ims.length : Int) = c → isIm ims = true → ∀ H', Same H H' → Q .non H') ∧ (¬ ((ims.length : Int) = c ∧ isIm ims = true) → ∀ H', Same H H' → E (.ref C) none H')
theorem ok_check_images {f : Addr} {fd : FuncData} {f_are_images : Addr} {d_are_images : FuncData} {c_NotImages : Addr} (F : Fun K "check_images" "check_images" s_check_images f fd) (N : Nm mg) (B_NotImages : ExN K mg "NotImages" c_NotImages)
    (t_are_images : At K mg "are_images" s_are_images ["images"] f_are_images d_are_images) (G_are_images : FnOk P w K mg base CX0 1 f_are_images d_are_images ["images"] (sp_are_images K)) :
    FnOk P w K mg base (L2.CX P w) 2 f fd ["count", "images"] (sp_check_images K c_NotImages) := by
  refine F.okX sc_check_images (fun vs H Q E h => ?_) (fun cdv A outer s H vs Q E hr h => ?_)
  · obtain ⟨v, ims, c, rfl, _⟩ := h
    rfl
  · obtain ⟨v, ims, c, rfl, hI, hl, k1, k2⟩ := h
    refine ⟨_, pss_one (ps_if (PW.pt (pw_or (pt_cmpR op_ne (pe_callB call_len_seq (by rfl) N.n_len PySem.boot_len (pa_cons (pv 1) pa_nil)) (pv 0) (nomark _)) (pw_or1 (pt_not (pt_val (pe_call G_are_images (hr.mono (by decide)) rfl t_are_images.g t_are_images.F.kp t_are_images.b .nil pass0 (pa_cons (pv 1) pa_nil))))))) (pss_one (ps_raise rfl (takes_of rfl rfl rfl rfl) (pmk_own PySem.F.excBase_ValueError B_NotImages.x B_NotImages.g B_NotImages.k (raises_own B_NotImages.b B_NotImages.t) rfl))) pss_nil), ?_⟩
    have hI0 := hI
    obtain ⟨A, vs, rfl, hA, pA⟩ := hI
    have lv := Paired.length pA
    refine ⟨.ref A, rfl, A, vs, rfl, .inr hA, _, rfl, rfl, _, rfl, ?_⟩
    by_cases e : (ims.length : Int) = c
    · refine iteNS (by rw [lv, e]) ⟨.ref A, rfl, .ref A, ims, rfl, hI0, hl, fun H1 s1 => ⟨_, rfl, ?_⟩⟩
      cases ei : isIm ims with
      | true => exact iteF (k1 e ei H1 s1)
      | false => exact iteT (k2 (fun z => by rw [ei] at z; cases z.2) H1 s1)
    · rw [decide_eq_false fun z => e (by injection z with z; rw [← z, lv])]
      exact iteT (k2 (fun z => e z.1) H (Same.refl H))
end
end L2.Px

namespace L2.Px
open PySem PySem.Spec PyProof.Rows
section
variable {P : Program} {w : World} {K : PySem.W.Frag} {mg : Str → Option Value} {base : Heap}
theorem cI_app (a b : List Nat) : cI (a ++ b) = cI a ++ cI b := List.map_append
/-! ### reached -/
def sp_reached (K : PySem.W.Frag) : Sp := fun vs H Q _ => ∃ (L : Addr) (s n : Nat) (adj : Nat → List Nat) (kvs : List (L2.Key × V)), vs = [.ref L, .int (s : Int)] ∧ LinksAt K H L n adj kvs ∧ (∀ x < n, ∀ y ∈ adj x, y < n) ∧ s < n ∧ n ≤ 40 ∧
  ∀ H' p l, Same H H' → H' p = some (.lst (iV (cI l))) → Found n adj s l → Q (.ref p) H'
theorem ok_reached {f : Addr} {fd : FuncData} (F : Fun K "reached" "reached" s_reached f fd) (N : Nm mg) : FnOk P w K mg base CX0 1 f fd ["links", "start"] (sp_reached K) := by
  refine fun_okC F sc_reached (fun vs H Q E h => ?_) (fun cdv A outer s H vs Q E hcd hr h => ?_)
  · obtain ⟨L, s, n, adj, kvs, rfl, _⟩ := h
    rfl
  · obtain ⟨L, s0, n, adj, kvs, rfl, hL, hb, hs, hn, k⟩ := h
    have hu := hu_of hr
    refine ⟨_, pss_cons (ps_set (i := 2) sc_reached.nd rfl (.inl rfl) (pe_lst (pa_cons (pv 1) pa_nil)))
      (pss_cons (ps_set (i := 3) sc_reached.nd rfl (.inl rfl) (pe_set1 (pv 1) rfl hcd))
      (pss_cons (ps_set (i := 4) sc_reached.nd rfl (.inl rfl) pe_int)
      (pss_cons (ps_while PassesOwn.never (pt_cmpR op_lt (pv 4) (pe_callB call_len_seq (by rfl) N.n_len PySem.boot_len (pa_cons (pv 2) pa_nil)) (nomark _))
        (pss_cons (ps_set (i := 5) sc_reached.nd rfl (.inl rfl) (pe_ix ix_list (pv 2) (pv 4) (fun _ _ => rfl)))
        (pss_cons (ps_for PassesOwn.never rfl (pi_list (pe_dget hu (pv 0) (pv 5) (fun _ _ => rfl))) (pg_name (i := 6) sc_reached.nd rfl (.inl rfl))
          (pss_one (ps_if (pt_cmpR or_snotinK (pv 6) (pv 3) rfl) (pss_cons (ps_expr (pe_saddK (pv 3) (pa_cons (pv 6) pa_nil)))
            (pss_one (ps_expr (pe_bm PySem.F.plainAttrs_list PySem.F.slot_list_append PySem.F.type_list_append mt_append (pv 2) (pa_cons (pv 6) pa_nil))))) pss_nil)))
        (pss_one (ps_aug sc_reached.nd (i := 4) rfl (.inl rfl) pe_int ip_add)))))
      (pss_one (ps_ret (pv 2)))))), ?_⟩
    refine ⟨_, rfl, by show 1 ≤ sizeLine; decide, fun F0 hF => ?_⟩
    refine fun S0 hS => ⟨_, rfl, .inl (s0 : Int), rfl, upd_same, ?_⟩
    have nFS : F0 ≠ S0 := fun z => by
      rw [← z, upd_same] at hS
      cases hS
    rw [upd_upd, memK_one]
    have hS0 : H S0 = none := by rw [upd_ne nFS.symm] at hS; exact hS
    refine while_by (fun σ H' => ∃ (at_ : Nat) (l : List Nat) (y5 y6 : Option V), σ = [some (.ref L), some (.int (s0 : Int)), some (.ref F0), some (.ref S0), some (.int (at_ : Int)), y5, y6] ∧ Same H H' ∧ H' F0 = some (.lst (iV (cI l))) ∧ H' S0 = some (SetK P w S0 (memK l) l.length) ∧
        l.Nodup ∧ (∀ x ∈ l, x < n ∧ Reach adj s0 x) ∧ s0 ∈ l ∧ at_ ≤ l.length ∧ ∀ i x, i < at_ → l[i]? = some x → ∀ y ∈ adj x, y ∈ l)
      (fun σ _ => match σ with | _ :: _ :: _ :: _ :: some (.int a) :: _ => n - a.toNat | _ => 0) ⟨0, [s0], none, none, rfl, (Same.upd hF).trans (Same.upd hS), ?_, upd_same, by simp, fun x hx => by rw [List.mem_singleton.mp hx]; exact ⟨hs, .refl⟩, List.mem_singleton.mpr rfl, by simp, fun i x h => by omega⟩ ?_ ?_
    · rw [upd_ne nFS, upd_same]
      rfl
    · rintro σ H1 ⟨at_, l, y5, y6, rfl, sm, hf, hsn, nd, hin, hs0, hat, hcl⟩
      have ll := nd_len nd fun x hx => (hin x hx).1
      refine ⟨_, rfl, .ref F0, rfl, F0, _, rfl, .inl (.of hf), _, _, rfl, rfl, _, rfl, ?_⟩
      have lenE : ((iV (cI l)).length : Int) = (l.length : Int) := by rw [List.length_map, List.length_map]
      rw [lenE]
      by_cases c : at_ < l.length
      · rw [decide_eq_true (show (at_ : Int) < (l.length : Int) by omega)]
        refine iteT ?_
        obtain ⟨x, hx⟩ : ∃ x, l[at_]? = some x := ⟨_, List.getElem?_eq_getElem c⟩
        have hxl := hin x (List.mem_of_getElem? hx)
        refine ⟨.ref F0, rfl, _, rfl, F0, _, (at_ : Int), .int (x : Int), rfl, rfl, .of hf, atI_nat (by rw [List.getElem?_map, List.getElem?_map, hx]; rfl), ?_⟩
        obtain ⟨b, vb, sb⟩ := hL.get x hxl.1
        refine ⟨.ref L, rfl, _, rfl, L, .ref b, rfl, .inl ⟨kvs, .inl (x : Int), sm.rd hL.d, rfl, vb.symm⟩, b, rfl, ⟨_, sm.seq sb⟩, ?_⟩
        refine for_it (walk_list (K := K) (a := b) (xs := iV (cI (adj x)))) (fun i σ H' => ∃ (l' : List Nat) (y6 : Option V), σ = [some (.ref L), some (.int (s0 : Int)), some (.ref F0), some (.ref S0), some (.int (at_ : Int)), some (.int (x : Int)), y6] ∧ Same H H' ∧ H' F0 = some (.lst (iV (cI l'))) ∧ H' S0 = some (SetK P w S0 (memK l') l'.length) ∧
            l'.Nodup ∧ (∀ x ∈ l', x < n ∧ Reach adj s0 x) ∧ (∃ m, l' = l ++ m) ∧ ∀ y ∈ (adj x).take i, y ∈ l')
          ⟨l, y6, rfl, sm, hf, hsn, nd, hin, ⟨[], (List.append_nil l).symm⟩, fun y hy => by simp at hy⟩ (fun i σ H' _ ⟨_, _, _, sm2, _⟩ => sm2.seq sb) ?_ ?_
        · rintro i v σ H2 H3 hi ⟨l', y6, rfl, sm2, hf2, hsn2, nd2, hin2, ⟨m, hm⟩, htk⟩ ⟨rfl, hv⟩
          obtain ⟨z, hz, rfl⟩ := iV_get hv
          obtain ⟨y, hy, rfl⟩ : ∃ y : Nat, (adj x)[i]? = some y ∧ z = (y : Int) := by
            rw [List.getElem?_map] at hz
            cases e : (adj x)[i]? with
            | none => rw [e] at hz; cases hz
            | some y => rw [e] at hz; exact ⟨y, rfl, (Option.some.inj hz).symm⟩
          have ym := List.mem_of_getElem? hy
          have yn := hb x hxl.1 y ym
          have ll2 := nd_len nd2 fun x hx => (hin2 x hx).1
          refine ⟨_, rfl, _, rfl, .inl (y : Int), S0, memK l', l'.length, rfl, rfl, hsn2, _, rfl, ?_⟩
          show if (!memK l' (.inl (y : Int))) = true then _ else _
          rw [memK_in]
          by_cases c2 : y ∈ l'
          · rw [decide_eq_true c2]
            refine iteF ⟨l', _, rfl, sm2, hf2, hsn2, nd2, hin2, ⟨m, hm⟩, fun u hu => ?_⟩
            rw [take_snoc hy] at hu
            rcases List.mem_append.mp hu with h | h
            · exact htk u h
            · rw [List.mem_singleton.mp h]
              exact c2
          · rw [decide_eq_false c2]
            refine iteT ⟨.ref S0, rfl, ⟨S0, memK l', l'.length, rfl, hsn2⟩, _, rfl, S0, .inl (y : Int), memK l', l'.length, rfl, rfl, hsn2, by unfold scanBound; omega, ?_⟩
            rw [memK_in, decide_eq_false c2, if_neg Bool.false_ne_true, memK_snoc]
            have hf3 : (upd H3 S0 (SetK P w S0 (memK (l' ++ [y])) (l'.length + 1))) F0 = some (.lst (iV (cI l'))) := by rw [upd_ne nFS]; exact hf2
            refine ⟨.ref F0, rfl, .inl ⟨rfl, _, .of hf3⟩, _, rfl, F0, _, _, rfl, rfl, hf3, by rw [List.length_map, List.length_map]; exact small1000 (by omega), ?_⟩
            refine ⟨l' ++ [y], _, rfl, own_push (own_push sm2 hS0) hF, by rw [upd_same, cI_app, iV_app]; rfl, ?_, ?_, ?_, ⟨m ++ [y], by rw [hm, List.append_assoc]⟩, ?_⟩
            · rw [upd_ne nFS.symm, upd_same, List.length_append]
              rfl
            · exact List.nodup_append.mpr ⟨nd2, by simp, fun a ha b hb z => by rw [List.mem_singleton.mp hb] at z; exact c2 (z ▸ ha)⟩
            · intro u hu
              rcases List.mem_append.mp hu with h | h
              · exact hin2 u h
              · rw [List.mem_singleton.mp h]
                exact ⟨yn, .step hxl.2 ym⟩
            · intro u hu
              rw [take_snoc hy] at hu
              rcases List.mem_append.mp hu with h | h
              · exact List.mem_append_left _ (htk u h)
              · exact List.mem_append_right _ h
        · rintro σ H2 ⟨l', y6, rfl, sm2, hf2, hsn2, nd2, hin2, ⟨m, hm⟩, htk⟩
          rw [List.length_map, List.length_map, List.take_length] at htk
          have ll2 := nd_len nd2 fun x hx => (hin2 x hx).1
          refine ⟨_, rfl, _, _, rfl, rfl, ?_⟩
          have ea : ((at_ : Int) + 1) = ((at_ + 1 : Nat) : Int) := by omega
          have lm : l.length ≤ l'.length := by rw [hm, List.length_append]; omega
          refine ⟨⟨at_ + 1, l', _, _, by rw [← ea]; rfl, sm2, hf2, hsn2, nd2, hin2, by rw [hm]; exact List.mem_append_left _ hs0, by omega, fun i u hi hu y hy => ?_⟩, ?_⟩
          · by_cases c3 : i = at_
            · subst c3
              rw [hm, List.getElem?_append_left c, hx] at hu
              cases hu
              exact htk y hy
            · have hi2 : i < at_ := by omega
              rw [hm, List.getElem?_append_left (by omega)] at hu
              have := hcl i u hi2 hu y hy
              rw [hm]
              exact List.mem_append_left _ this
          · show n - ((at_ : Int) + 1).toNat < n - (at_ : Int).toNat
            omega
      · rw [decide_eq_false (show ¬ (at_ : Int) < (l.length : Int) by omega)]
        have e : at_ = l.length := by omega
        refine iteF ⟨_, rfl, k H1 F0 l sm hf ⟨nd, fun x => ⟨fun hx => hin x hx, fun ⟨_, hx⟩ => hx.inn hs0 fun a ha y hy => ?_⟩⟩⟩
        obtain ⟨i, hi, ei⟩ := List.getElem_of_mem ha
        exact hcl i a (by omega) (by rw [List.getElem?_eq_getElem hi, ei]) y hy
    · rintro σ H1 Q1 Q2 hq ⟨v, e1, x, e2, a, xs, e3, h4, i, j, e5, e6, b, e7, q⟩
      exact ⟨v, e1, x, e2, a, xs, e3, h4, i, j, e5, e6, b, e7, hq _ _ q⟩
/-! ### image_of_word -/
theorem img_bd {ims : Im} {d : Nat} (h : IsIm ims d) : ∀ (w : Wd) (pts : List Int), (∀ s ∈ pts, 0 ≤ s ∧ s < (d : Int)) → (∀ x ∈ w, x ≠ 0 ∧ absI x ≤ ims.length) → ∀ s ∈ w.foldl (actL ims) pts, 0 ≤ s ∧ s < (d : Int)
  | [], _, hp, _ => hp
  | x :: w, pts, hp, hw => img_bd h w (actL ims pts x) (act_bd h hp (hw x List.mem_cons_self).1 (hw x List.mem_cons_self).2) fun y hy => hw y (List.mem_cons_of_mem _ hy)
theorem img_len (ims : Im) : ∀ (w : Wd) (pts : List Int), (w.foldl (actL ims) pts).length = pts.length
  | [], _ => rfl
  | x :: w, pts => (img_len ims w (actL ims pts x)).trans (act_len ims pts x)
def sp_image_of_word (K : PySem.W.Frag) : Sp := fun vs H Q _ => ∃ (v : V) (a : Addr) (ims : Im) (w : Wd) (d : Nat), vs = [v, .ref a] ∧ ImF K H v ims ∧ SqT K H a (iV w) ∧ w.length ≤ 1000 ∧ ims.length ≤ 1000 ∧ IsIm ims d ∧ (∀ x ∈ w, x ≠ 0 ∧ absI x ≤ ims.length) ∧ ∀ H' p, Same H H' → H' p = some (.tup (iV (imgW ims w))) → Q (.ref p) H'
theorem ok_image_of_word {f : Addr} {fd : FuncData} (F : Fun K "image_of_word" "image_of_word" s_image_of_word f fd) (N : Nm mg) :
    FnOk P w K mg base CX0 1 f fd ["images", "word"] (sp_image_of_word K) := by
  refine F.ok sc_image_of_word (fun vs H Q E h => ?_) (fun cdv A outer s H vs Q E hr h => ?_)
  · obtain ⟨v, a, ims, w, d, rfl, _⟩ := h
    rfl
  · obtain ⟨v, a, ims, w, d, rfl, hI, ha, hl, hl2, hd, hw, k⟩ := h
    refine ⟨_, pss_cons (ps_set (i := 2) sc_image_of_word.nd rfl (.inl rfl) (pe_listRg rfl (by rfl) N.n_list (prg_1 (by rfl) N.n_range (pe_callB call_len_seq (by rfl) N.n_len PySem.boot_len (pa_cons (pe_ix ix_tup (pv 0) pe_int (fun _ _ => rfl)) pa_nil)))))
      (pss_cons (ps_for PassesOwn.never rfl (pi_tup (pv 1)) (pg_name (i := 3) sc_image_of_word.nd rfl (.inl rfl)) (pss_one (ps_if (pt_cmpR op_gt (pv 3) pe_int (nomark _)) (pss_cons (ps_set (i := 4) sc_image_of_word.nd rfl (.inr rfl) (pe_ix ix_tup (pv 0) (pe_op op_sub (pv 3) pe_int) (fun _ _ => rfl)))
      (pss_one (ps_setLc (i := 2) (own := [("s", 5)]) (g := gName 5) (tt := tYes) (te := tOp (rIxT K) (tVar 4) (tVar 5)) rfl sc_image_of_word.nd rfl rfl (sw_true rfl rfl rfl (by decide +kernel)) (pi_list (pv 2)) (blkOk_by (N := n_image_of_word) (sc := defScope s_image_of_word) (by decide +kernel)) (fun _ _ _ _ _ => (pg_name (i := 5) sc_image_of_word.nd rfl (.inl rfl))) (fun _ _ _ _ _ => pts_nil) (fun _ _ _ _ _ => (pe_ix ix_tup (pv 4) (pv 5) (fun _ _ => rfl)))))) (pss_cons (ps_set (i := 4) sc_image_of_word.nd rfl (.inr rfl) (pe_ix ix_tup (pv 0) (pe_op op_sub (pe_un un_neg (pv 3)) pe_int) (fun _ _ => rfl)))
      (pss_one (ps_setLc (i := 2) (own := [("s", 5)]) (g := gName 5) (tt := tYes) (te := tBMT (rTIdx K) (tVar 4) (tCons (tVar 5) (tNil))) rfl sc_image_of_word.nd rfl rfl (sw_true rfl rfl rfl (by decide +kernel)) (pi_list (pv 2)) (blkOk_by (N := n_image_of_word) (sc := defScope s_image_of_word) (by decide +kernel)) (fun _ _ _ _ _ => (pg_name (i := 5) sc_image_of_word.nd rfl (.inl rfl))) (fun _ _ _ _ _ => pts_nil) (fun _ _ _ _ _ => (pe_bmT PySem.F.slot_tuple_index PySem.F.type_tuple_index mt_tidxI (pv 4) (pa_cons (pv 5) pa_nil)))))))))
      (pss_one (ps_ret (pe_callTy call_tuple_of (by rfl) N.n_tuple (by decide +kernel) (pa_cons (pv 2) pa_nil))))), ?_⟩
    obtain ⟨A, vs, rfl, hA, pA⟩ := hI
    have lv := Paired.length pA
    have hd4 := hd.d4
    have ld := hd.l
    obtain ⟨v0, h0, hv0⟩ := paired_at pA (i := 0) (y := ims.getD 0 []) (by rw [List.getD_eq_getElem?_getD, List.getElem?_eq_getElem hd.pos]; rfl)
    obtain ⟨a0, o0, rfl, ha0, _⟩ := hv0
    have sa0 : SqT K H a0 (iV (ims.getD 0 [])) := .inl (.inr ⟨o0, ha0⟩)
    refine ⟨.ref A, rfl, A, vs, 0, .ref a0, rfl, rfl, hA, atI_nat (j := 0) h0, a0, _, rfl, .inr sa0, _, rfl, RgOk.of_le (by decide) (by rw [List.length_map, ld]; omega) (by decide) (by omega), fun D hD => ?_⟩
    rw [List.length_map, ld, rg_nat]
    have sD := Same.upd (o := .lst (iV (rg d))) hD
    refine ⟨.ref a, rfl, a, rfl, ⟨_, sD.tup ha⟩, ?_⟩
    refine for_it (walk_tup (K := K) (a := a) (xs := iV w)) (fun i σ H' => ∃ (D : Addr) (y3 y4 : Option V), σ = [some (.ref A), some (.ref a), some (.ref D), y3, y4, none] ∧ Same H H' ∧ H' D = some (.lst (iV ((w.take i).foldl (actL ims) (rg d))))) ⟨D, none, none, rfl, sD, upd_same⟩ (fun i σ H' _ ⟨_, _, _, _, s, _⟩ => s.tup ha) ?_ ?_
    · rintro i x σ H1 H2 hi ⟨D, y3, y4, rfl, s1, hD1⟩ ⟨rfl, hx⟩
      obtain ⟨x, hx', rfl⟩ := iV_get hx
      have hx := hx'
      obtain ⟨x0, x1⟩ := hw x (List.mem_of_getElem? hx)
      have stp : (w.take (i + 1)).foldl (actL ims) (rg d) = actL ims ((w.take i).foldl (actL ims) (rg d)) x := by
        rw [take_snoc hx, List.foldl_append]
        rfl
      have bd := img_bd hd (w.take i) (rg d) (fun s hs => rg_mem.mp hs) fun y hy => hw y (List.mem_of_mem_take hy)
      have ln := (img_len ims (w.take i) (rg d)).trans (rg_len d)
      generalize (w.take i).foldl (actL ims) (rg d) = pts at hD1 stp bd ln
      refine ⟨.int x, rfl, x, 0, rfl, rfl, _, rfl, ite2 (fun cp => ?_) (fun cp => ?_)⟩
      · have cp : 0 < x := of_decide_eq_true cp
        unfold absI at x1
        rw [if_neg (by omega)] at x1
        obtain ⟨j, hj⟩ : ∃ j : Nat, x = (j : Int) + 1 := ⟨(x - 1).toNat, by omega⟩
        subst hj
        have jn : j < ims.length := by omega
        have ej : ((j : Int) + 1 - 1) = (j : Int) := by omega
        obtain ⟨m, pm⟩ := im_at hd jn
        obtain ⟨vj, hj, hvj⟩ := paired_at pA (i := j) (y := ims.getD j []) (by rw [List.getD_eq_getElem?_getD, List.getElem?_eq_getElem jn]; rfl)
        obtain ⟨aj, oj, rfl, haj, zj⟩ := hvj
        have saj : SqT K H2 aj (iV (ims.getD j [])) := .inl (.inr ⟨oj, s1 _ _ haj⟩)
        refine ⟨.ref A, rfl, _, rfl, _, _, rfl, rfl, A, vs, _, .ref aj, rfl, rfl, s1.tup hA, by rw [ej]; exact atI_nat hj, ?_⟩
        refine ⟨.ref D, rfl, D, rfl, ⟨_, .of hD1⟩, fun D2 hD2 => lc_map (walk_list (K := K) (a := D) (xs := iV pts)) RInt lasts_int (fun i => (ims.getD j []).getD (pts.getD i 0).toNat 0) hD2 (by rw [List.length_map]; omega) (fun H' s => .of (s _ _ hD1)) ?_ ?_⟩
        · rintro i z H3 H4 hi s3 ⟨rfl, hz⟩ Nx kk
          obtain ⟨s, hs, rfl⟩ := iV_get hz
          have bs := bd s (List.mem_of_getElem? hs)
          refine ⟨rfl, .ref aj, rfl, .int s, rfl, aj, _, _, _, rfl, rfl, s3.tup saj, getD_at bs.1 (by rw [isPm_len pm]; exact bs.2), kk _ _ (Same.refl _) ?_⟩
          show V.int _ = V.int _
          rw [List.getD_eq_getElem?_getD (l := pts), hs]
          rfl
        · intro H3 ws s3 hd3 p
          have e := paired_int p
          have e2 : (List.range (iV pts).length).map (fun i => (ims.getD j []).getD (pts.getD i 0).toNat 0) = actL ims pts ((j : Int) + 1) := by
            unfold actL
            rw [if_pos cp, List.length_map, map_get pts (fun s => (ims.getD ((j : Int) + 1 - 1).toNat []).getD s.toNat 0) 0]
            have : ((j : Int) + 1 - 1).toNat = j := by omega
            rw [this]
          rw [e2, ← stp] at e
          subst e
          exact ⟨D2, _, _, rfl, s1.trans s3, hd3⟩
      · have cp : ¬ 0 < x := fun z => cp (decide_eq_true z)
        unfold absI at x1
        rw [if_pos (by omega)] at x1
        obtain ⟨j, hj⟩ : ∃ j : Nat, x = -((j : Int) + 1) := ⟨(-x - 1).toNat, by omega⟩
        subst hj
        have jn : j < ims.length := by omega
        have ej : (- -((j : Int) + 1) - 1) = (j : Int) := by omega
        obtain ⟨m, pm⟩ := im_at hd jn
        obtain ⟨vj, hj, hvj⟩ := paired_at pA (i := j) (y := ims.getD j []) (by rw [List.getD_eq_getElem?_getD, List.getElem?_eq_getElem jn]; rfl)
        obtain ⟨aj, oj, rfl, haj, zj⟩ := hvj
        have saj : SqT K H2 aj (iV (ims.getD j [])) := .inl (.inr ⟨oj, s1 _ _ haj⟩)
        refine ⟨.ref A, rfl, _, rfl, _, rfl, _, _, rfl, rfl, A, vs, _, .ref aj, rfl, rfl, s1.tup hA, by rw [ej]; exact atI_nat hj, ?_⟩
        refine ⟨.ref D, rfl, D, rfl, ⟨_, .of hD1⟩, fun D2 hD2 => lc_map (walk_list (K := K) (a := D) (xs := iV pts)) RInt lasts_int (fun i => (((ims.getD j []).idxOf (pts.getD i 0) : Nat) : Int)) hD2 (by rw [List.length_map]; omega) (fun H' s => .of (s _ _ hD1)) ?_ ?_⟩
        · rintro i z H3 H4 hi s3 ⟨rfl, hz⟩ Nx kk
          obtain ⟨s, hs, rfl⟩ := iV_get hz
          have bs := bd s (List.mem_of_getElem? hs)
          refine ⟨rfl, .ref aj, rfl, ⟨aj, oj, _, rfl, s3 _ _ (s1 _ _ haj), zj⟩, .int s, rfl, aj, _, s, rfl, rfl, s3.tup saj, (isPm_mem pm).mpr bs, kk _ _ (Same.refl _) ?_⟩
          show V.int _ = V.int _
          rw [List.getD_eq_getElem?_getD (l := pts), hs]
          rfl
        · intro H3 ws s3 hd3 p
          have e := paired_int p
          have e2 : (List.range (iV pts).length).map (fun i => (((ims.getD j []).idxOf (pts.getD i 0) : Nat) : Int)) = actL ims pts (-((j : Int) + 1)) := by
            unfold actL
            rw [if_neg cp, List.length_map, map_get pts (fun s => (((ims.getD (- -((j : Int) + 1) - 1).toNat []).idxOf s : Nat) : Int)) 0]
            have : (- -((j : Int) + 1) - 1).toNat = j := by omega
            rw [this]
          rw [e2, ← stp] at e
          subst e
          exact ⟨D2, _, _, rfl, s1.trans s3, hd3⟩
    · rintro σ H1 ⟨D, y3, y4, rfl, s1, hD1⟩
      rw [List.length_map, List.take_length] at hD1
      refine ⟨.ref D, rfl, D, _, rfl, .inl ⟨.of hD1, fun p np => k _ p (s1.trans (Same.upd np)) ?_⟩⟩
      rw [upd_same]
      unfold imgW
      rw [ld]
/-! ### moves_nothing -/
def sp_moves_nothing (K : PySem.W.Frag) : Sp := fun vs H Q _ => ∃ (v : V) (a : Addr) (ims : Im) (w : Wd) (d : Nat), vs = [v, .ref a] ∧ ImF K H v ims ∧ SqT K H a (iV w) ∧ w.length ≤ 1000 ∧ ims.length ≤ 1000 ∧ IsIm ims d ∧ (∀ x ∈ w, x ≠ 0 ∧ absI x ≤ ims.length) ∧ ∀ H', Same H H' → Q (.bl (movB ims w)) H'
theorem ok_moves_nothing {f : Addr} {fd : FuncData} {f_image_of_word : Addr} {d_image_of_word : FuncData} (F : Fun K "moves_nothing" "moves_nothing" s_moves_nothing f fd) (N : Nm mg)
    (t_image_of_word : At K mg "image_of_word" s_image_of_word ["images", "word"] f_image_of_word d_image_of_word) (G_image_of_word : FnOk P w K mg base CX0 1 f_image_of_word d_image_of_word ["images", "word"] (sp_image_of_word K)) :
    FnOk P w K mg base CX0 2 f fd ["images", "word"] (sp_moves_nothing K) := by
  refine F.ok sc_moves_nothing (fun vs H Q E h => ?_) (fun cdv A outer s H vs Q E hr h => ?_)
  · obtain ⟨v, a, ims, w, d, rfl, _⟩ := h
    rfl
  · obtain ⟨v, a, ims, w, d, rfl, hI, ha, hl, hl2, hd, hw, k⟩ := h
    have hu := hr.units
    refine ⟨_, pss_one (ps_ret (pe_cmpR (op_eqD hu) (pe_callTy call_list_of (by rfl) N.n_list (by decide +kernel) (pa_cons (pe_call G_image_of_word (hr.mono (by decide)) rfl t_image_of_word.g t_image_of_word.F.kp t_image_of_word.b .nil pass0 (pa_cons (pv 0) (pa_cons (pv 1) pa_nil))) pa_nil)) (pe_listRg rfl (by rfl) N.n_list (prg_1 (by rfl) N.n_range (pe_callB call_len_seq (by rfl) N.n_len PySem.boot_len (pa_cons (pe_ix ix_tup (pv 0) pe_int (fun _ _ => rfl)) pa_nil)))) (nomark _))), ?_⟩
    have ld := hd.l
    have hd4 := hd.d4
    refine ⟨v, rfl, .ref a, rfl, v, a, ims, w, d, rfl, hI, ha, hl, hl2, hd, hw, fun H1 p s1 hp => ?_⟩
    refine ⟨p, _, rfl, .inr (.of hp), fun l nl => ?_⟩
    have sl := Same.upd (o := .lst (iV (imgW ims w))) nl
    have S := s1.trans sl
    obtain ⟨A, vs, rfl, hA, pA⟩ := hI
    obtain ⟨v0, h0, hv0⟩ := paired_at pA (i := 0) (y := ims.getD 0 []) (by rw [List.getD_eq_getElem?_getD, List.getElem?_eq_getElem hd.pos]; rfl)
    obtain ⟨a0, o0, rfl, ha0, _⟩ := hv0
    have sa0 : SqT K H a0 (iV (ims.getD 0 [])) := .inl (.inr ⟨o0, ha0⟩)
    refine ⟨.ref A, rfl, A, vs, 0, .ref a0, rfl, rfl, S.tup hA, atI_nat (j := 0) h0, a0, _, rfl, .inr (S.tup sa0), _, rfl, RgOk.of_le (by decide) (by rw [List.length_map, ld]; omega) (by decide) (by omega), fun D hD => ?_⟩
    rw [List.length_map, ld, rg_nat]
    have sD := Same.upd (o := .lst (iV (rg d))) hD
    refine ⟨.list (iD (imgW ims w)), .list (iD (rg d)), .lst (.of (sD _ _ upd_same)) (dp_ints _), .lst (.of upd_same) (dp_ints _), shaped_li _, shaped_li _, ?_⟩
    have e : PyData.eqv (.list (iD (imgW ims w))) (.list (iD (rg d))) = movB ims w := by
      unfold movB
      rw [ld]
      exact PySem.W.ked_eqvAll _ _
    rw [e]
    exact k _ (S.trans sD)
/-! ### check_group -/
def sp_check_group (K : PySem.W.Frag) (C : Addr) : Sp := fun vs H Q E => ∃ (g : V) (c : Int) (rel : Im), vs = [g] ∧ GrV K H g c rel ∧ rel.length ≤ 1000 ∧ (∀ w ∈ rel, w.length ≤ 1000) ∧ (grpB c rel = true → ∀ H', Same H H' → Q .non H') ∧ (grpB c rel = false → ∀ H', Same H H' → E (.ref C) none H')
theorem ok_check_group {f : Addr} {fd : FuncData} {f_are_letters : Addr} {d_are_letters : FuncData} {c_NotGroup : Addr} (F : Fun K "check_group" "check_group" s_check_group f fd) (N : Nm mg) (B_NotGroup : ExN K mg "NotGroup" c_NotGroup)
    (t_are_letters : At K mg "are_letters" s_are_letters ["count", "word"] f_are_letters d_are_letters) (G_are_letters : FnOk P w K mg base CX0 1 f_are_letters d_are_letters ["count", "word"] (sp_are_letters K)) :
    FnOk P w K mg base (L2.CX P w) 2 f fd ["group"] (sp_check_group K c_NotGroup) := by
  refine F.okX sc_check_group (fun vs H Q E h => ?_) (fun cdv A outer s H vs Q E hr h => ?_)
  · obtain ⟨g, c, rel, rfl, _⟩ := h
    rfl
  · obtain ⟨g, c, rel, rfl, hg, hl, hl2, k1, k2⟩ := h
    refine ⟨_, pss_cons (ps_asg (pv 0) (pg_tup rfl (pgs_cons (pg_name (i := 1) sc_check_group.nd rfl (.inr rfl)) (pgs_cons (pg_name (i := 2) sc_check_group.nd rfl (.inl rfl)) pgs_nil))))
      (pss_one (ps_if (PW.pt (pw_or (pt_cmpR op_lt (pv 1) pe_int (nomark _)) (pw_or1 (pt_not (pt_val (pe_callB (cr_all rfl) (by rfl) N.n_all (by decide +kernel) (pa_cons (pe_lc (own := [("word", 3)]) (g := gName 3) (tt := tYes) (te := tCall (sp_are_letters K) [] E0 (tCons (tVar 1) (tCons (tVar 3) (tNil)))) rfl sc_check_group.nd (pi_tup (pv 2)) (blkOk_by (N := n_check_group) (sc := defScope s_check_group) (by decide +kernel)) (fun _ _ _ _ _ => (pg_name (i := 3) sc_check_group.nd rfl (.inl rfl))) (fun _ _ _ _ _ => pts_nil) (fun _ _ _ _ _ => (pe_call G_are_letters (hr.mono (by decide)) rfl t_are_letters.g t_are_letters.F.kp t_are_letters.b .nil pass0 (pa_cons (pv 1) (pa_cons (pv 3) pa_nil))))) pa_nil))))))) (pss_one (ps_raise rfl (takes_of rfl rfl rfl rfl) (pmk_own PySem.F.excBase_ValueError B_NotGroup.x B_NotGroup.g B_NotGroup.k (raises_own B_NotGroup.b B_NotGroup.t) rfl))) pss_nil)), ?_⟩
    obtain ⟨G, z, rfl, hG, hz⟩ := hg
    obtain ⟨Z, zs, rfl, hZ, pZ⟩ := hz
    have lz := Paired.length pZ
    refine ⟨.ref G, rfl, G, _, rfl, hG, rfl, _, _, rfl, _, _, rfl, rfl, ?_⟩
    refine ⟨.int c, rfl, c, 1, rfl, rfl, _, rfl, ?_⟩
    by_cases c1 : c < 1
    · rw [decide_eq_true c1]
      refine iteT (k2 ?_ H (Same.refl H))
      unfold grpB
      rw [decide_eq_false (by omega)]
      rfl
    · rw [decide_eq_false c1]
      refine iteF ⟨.ref Z, rfl, Z, rfl, ⟨_, hZ⟩, fun D hD => lc_map (walk_tup (K := K) (a := Z) (xs := zs)) RBl lasts_bl (fun i => okW c (rel.getD i [])) hD (by omega) (fun H' s => s.tup hZ) ?_ ?_⟩
      · rintro i x H1 H2 hi s1 ⟨rfl, hx⟩ Nx kk
        obtain ⟨u, hu', b, rfl, hb⟩ := paired_get pZ hx
        refine ⟨rfl, _, rfl, .ref b, rfl, b, u, c, rfl, s1.tup hb, hl2 u (List.mem_of_getElem? hu'), fun H3 s3 => kk H3 _ s3 ?_⟩
        show V.bl _ = V.bl _
        rw [List.getD_eq_getElem?_getD, hu']
        rfl
      · intro H1 ws s1 hd p
        have e := paired_bl p
        subst e
        rw [lz] at hd
        refine ⟨D, _, rfl, .of hd, _, rfl, ?_⟩
        rw [← map_all rel (okW c) []]
        have eg : grpB c rel = rel.all (okW c) := by
          unfold grpB
          rw [decide_eq_true (by omega)]
          rfl
        cases e : rel.all (okW c) with
        | true => exact iteF (k1 (eg.trans e) H1 s1)
        | false => exact iteT (k2 (eg.trans e) H1 s1)
end
end L2.Px

namespace L2.Px
open PySem PySem.Spec PyProof.Rows
section
variable {P : Program} {w : World} {K : PySem.W.Frag} {mg : Str → Option Value} {base : Heap}
theorem okW_at {c : Int} {w : Wd} (h : okW c w = true) : ∀ x ∈ w, x ≠ 0 ∧ absI x ≤ c := fun x hx => by
  have := List.all_eq_true.mp h x hx
  have this : (decide (x ≠ 0) && decide (absI x ≤ c)) = true := this
  rw [Bool.and_eq_true, decide_eq_true_eq, decide_eq_true_eq] at this
  exact this
def sp_permutation_of (K : PySem.W.Frag) (CI CW : Addr) : Sp := fun vs H Q E => ∃ (v : V) (a : Addr) (ims : Im) (w : Wd), vs = [v, .ref a] ∧ ImV K H v ims ∧ (isIm ims = true → ImF K H v ims) ∧ SqT K H a (iV w) ∧ w.length ≤ 1000 ∧ ims.length ≤ 1000 ∧
  (isIm ims = false → ∀ H', Same H H' → E (.ref CI) none H') ∧ (isIm ims = true → okW ims.length w = false → ∀ H', Same H H' → E (.ref CW) none H') ∧ (isIm ims = true → okW ims.length w = true → ∀ H' p, Same H H' → H' p = some (.tup (iV (imgW ims w))) → Q (.ref p) H')
theorem ok_permutation_of {f : Addr} {fd : FuncData} {f_check_images : Addr} {d_check_images : FuncData} {f_image_of_word : Addr} {d_image_of_word : FuncData} {f_are_letters : Addr} {d_are_letters : FuncData} {c_NotWord : Addr} {c_NotImages : Addr} (F : Fun K "permutation_of" "permutation_of" s_permutation_of f fd) (N : Nm mg) (B_NotWord : ExN K mg "NotWord" c_NotWord) (B_NotImages : ExN K mg "NotImages" c_NotImages)
    (t_check_images : At K mg "check_images" s_check_images ["count", "images"] f_check_images d_check_images) (G_check_images : FnOk P w K mg base (L2.CX P w) 2 f_check_images d_check_images ["count", "images"] (sp_check_images K c_NotImages))
    (t_image_of_word : At K mg "image_of_word" s_image_of_word ["images", "word"] f_image_of_word d_image_of_word) (G_image_of_word : FnOk P w K mg base CX0 1 f_image_of_word d_image_of_word ["images", "word"] (sp_image_of_word K))
    (t_are_letters : At K mg "are_letters" s_are_letters ["count", "word"] f_are_letters d_are_letters) (G_are_letters : FnOk P w K mg base CX0 1 f_are_letters d_are_letters ["count", "word"] (sp_are_letters K)) :
    FnOk P w K mg base (L2.CX P w) 3 f fd ["images", "word"] (sp_permutation_of K c_NotImages c_NotWord) := by
  refine F.okX sc_permutation_of (fun vs H Q E h => ?_) (fun cdv A outer s H vs Q E hr h => ?_)
  · obtain ⟨v, a, ims, w, rfl, _⟩ := h
    rfl
  · obtain ⟨v, a, ims, w, rfl, hI, hF, ha, hl, hl2, k1, k2, k3⟩ := h
    refine ⟨_, pss_cons (ps_expr (pe_call (E := E) G_check_images (hr.mono (by decide)) rfl t_check_images.g t_check_images.F.kp t_check_images.b .nil (passes_call (takes_of rfl rfl rfl rfl) fun _ _ _ _ z => z) (pa_cons (pe_callB call_len_seq (by rfl) N.n_len PySem.boot_len (pa_cons (pv 0) pa_nil)) (pa_cons (pv 0) pa_nil))))
      (pss_cons (ps_if (pt_not (pt_val (pe_call G_are_letters (hr.mono (by decide)) rfl t_are_letters.g t_are_letters.F.kp t_are_letters.b .nil pass0 (pa_cons (pe_callB call_len_seq (by rfl) N.n_len PySem.boot_len (pa_cons (pv 0) pa_nil)) (pa_cons (pv 1) pa_nil))))) (pss_one (ps_raise rfl (takes_of rfl rfl rfl rfl) (pmk_own PySem.F.excBase_ValueError B_NotWord.x B_NotWord.g B_NotWord.k (raises_own B_NotWord.b B_NotWord.t) rfl))) pss_nil)
      (pss_one (ps_ret (pe_call G_image_of_word (hr.mono (by decide)) rfl t_image_of_word.g t_image_of_word.F.kp t_image_of_word.b .nil pass0 (pa_cons (pv 0) (pa_cons (pv 1) pa_nil)))))), ?_⟩
    have hI0 := hI
    obtain ⟨A, vs, rfl, hA, pA⟩ := hI
    have lv := Paired.length pA
    refine ⟨.ref A, rfl, A, vs, rfl, .inr hA, .ref A, rfl, .ref A, ims, _, rfl, hI0, hl2, fun e1 e2 H1 s1 => ?_, fun hn H1 s1 => k1 ?_ H1 s1⟩
    · refine ⟨.ref A, rfl, A, vs, rfl, .inr (s1.tup hA), .ref a, rfl, a, w, _, rfl, s1.tup ha, hl, fun H2 s2 => ⟨_, rfl, ?_⟩⟩
      rw [lv]
      have S := s1.trans s2
      cases eo : okW ims.length w with
      | false => exact iteT (k2 e2 eo H2 S)
      | true =>
        exact iteF ⟨.ref A, rfl, .ref a, rfl, .ref A, a, ims, w, _, rfl, (hF e2).to S, S.tup ha, hl, hl2, isIm_of e2, okW_at eo, fun H3 p s3 hp => k3 e2 eo H3 p (S.trans s3) hp⟩
    · cases e : isIm ims with
      | false => rfl
      | true => exact absurd ⟨by rw [lv], e⟩ hn
theorem grp_at {c : Int} {rel : Im} (h : grpB c rel = true) : 1 ≤ c ∧ ∀ w ∈ rel, okW c w = true := by
  unfold grpB at h
  rw [Bool.and_eq_true, decide_eq_true_eq, List.all_eq_true] at h
  exact h
def sp_satisfies (K : PySem.W.Frag) (CG CI : Addr) : Sp := fun vs H Q E => ∃ (g v : V) (c : Int) (rel ims : Im), vs = [g, v] ∧ GrV K H g c rel ∧ rel.length ≤ 1000 ∧ (∀ w ∈ rel, w.length ≤ 1000) ∧ ImV K H v ims ∧ (isIm ims = true → ImF K H v ims) ∧ ims.length ≤ 1000 ∧
  (grpB c rel = false → ∀ H', Same H H' → E (.ref CG) none H') ∧ (grpB c rel = true → ¬ ((ims.length : Int) = c ∧ isIm ims = true) → ∀ H', Same H H' → E (.ref CI) none H') ∧
  (grpB c rel = true → (ims.length : Int) = c → isIm ims = true → ∀ H', Same H H' → Q (.bl (rel.all (movB ims))) H')
theorem ok_satisfies {f : Addr} {fd : FuncData} {f_check_group : Addr} {d_check_group : FuncData} {f_check_images : Addr} {d_check_images : FuncData} {f_moves_nothing : Addr} {d_moves_nothing : FuncData} {c_NotGroup : Addr} {c_NotImages : Addr} (F : Fun K "satisfies" "satisfies" s_satisfies f fd) (N : Nm mg) (B_NotGroup : ExN K mg "NotGroup" c_NotGroup) (B_NotImages : ExN K mg "NotImages" c_NotImages)
    (t_check_group : At K mg "check_group" s_check_group ["group"] f_check_group d_check_group) (G_check_group : FnOk P w K mg base (L2.CX P w) 2 f_check_group d_check_group ["group"] (sp_check_group K c_NotGroup))
    (t_check_images : At K mg "check_images" s_check_images ["count", "images"] f_check_images d_check_images) (G_check_images : FnOk P w K mg base (L2.CX P w) 2 f_check_images d_check_images ["count", "images"] (sp_check_images K c_NotImages))
    (t_moves_nothing : At K mg "moves_nothing" s_moves_nothing ["images", "word"] f_moves_nothing d_moves_nothing) (G_moves_nothing : FnOk P w K mg base CX0 2 f_moves_nothing d_moves_nothing ["images", "word"] (sp_moves_nothing K)) :
    FnOk P w K mg base (L2.CX P w) 3 f fd ["group", "images"] (sp_satisfies K c_NotGroup c_NotImages) := by
  refine F.okX sc_satisfies (fun vs H Q E h => ?_) (fun cdv A outer s H vs Q E hr h => ?_)
  · obtain ⟨g, v, c, rel, ims, rfl, _⟩ := h
    rfl
  · obtain ⟨g, v, c, rel, ims, rfl, hg, hl, hl2, hI, hF, hl3, k1, k2, k3⟩ := h
    refine ⟨_, pss_cons (ps_expr (pe_call (E := E) G_check_group (hr.mono (by decide)) rfl t_check_group.g t_check_group.F.kp t_check_group.b .nil (passes_call (takes_of rfl rfl rfl rfl) fun _ _ _ _ z => z) (pa_cons (pv 0) pa_nil)))
      (pss_cons (ps_asg (pv 0) (pg_tup rfl (pgs_cons (pg_name (i := 2) sc_satisfies.nd rfl (.inl rfl)) (pgs_cons (pg_name (i := 3) sc_satisfies.nd rfl (.inl rfl)) pgs_nil))))
      (pss_cons (ps_expr (pe_call (E := E) G_check_images (hr.mono (by decide)) rfl t_check_images.g t_check_images.F.kp t_check_images.b .nil (passes_call (takes_of rfl rfl rfl rfl) fun _ _ _ _ z => z) (pa_cons (pv 2) (pa_cons (pv 1) pa_nil))))
      (pss_one (ps_ret (pe_callB (cr_all rfl) (by rfl) N.n_all (by decide +kernel) (pa_cons (pe_lc (own := [("word", 4)]) (g := gName 4) (tt := tYes) (te := tCall (sp_moves_nothing K) [] E0 (tCons (tVar 1) (tCons (tVar 4) (tNil)))) rfl sc_satisfies.nd (pi_tup (pv 3)) (blkOk_by (N := n_satisfies) (sc := defScope s_satisfies) (by decide +kernel)) (fun _ _ _ _ _ => (pg_name (i := 4) sc_satisfies.nd rfl (.inl rfl))) (fun _ _ _ _ _ => pts_nil) (fun _ _ _ _ _ => (pe_call G_moves_nothing (hr.mono (by decide)) rfl t_moves_nothing.g t_moves_nothing.F.kp t_moves_nothing.b .nil pass0 (pa_cons (pv 1) (pa_cons (pv 4) pa_nil))))) pa_nil)))))), ?_⟩
    refine ⟨g, rfl, g, c, rel, rfl, hg, hl, hl2, fun e1 H1 s1 => ?_, fun e1 H1 s1 => k1 e1 H1 s1⟩
    obtain ⟨G, z, rfl, hG, hz⟩ := hg.to s1
    obtain ⟨Z, zs, rfl, hZ, pZ⟩ := hz
    have lz := Paired.length pZ
    refine ⟨.ref G, rfl, G, _, rfl, hG, rfl, _, _, rfl, _, _, rfl, rfl, ?_⟩
    refine ⟨_, rfl, v, rfl, v, ims, c, rfl, hI.to s1, hl3, fun e2 e3 H2 s2 => ?_, fun hn H2 s2 => k2 e1 hn H2 (s1.trans s2)⟩
    have S := s1.trans s2
    have gr := grp_at e1
    refine ⟨.ref Z, rfl, Z, rfl, ⟨_, s2.tup hZ⟩, fun D hD => lc_map (walk_tup (K := K) (a := Z) (xs := zs)) RBl lasts_bl (fun i => movB ims (rel.getD i [])) hD (by omega) (fun H' s => s.tup (s2.tup hZ)) ?_ ?_⟩
    · rintro i x H3 H4 hi s3 ⟨rfl, hx⟩ Nx kk
      obtain ⟨u, hu', b, rfl, hb⟩ := paired_get pZ hx
      have um := List.mem_of_getElem? hu'
      refine ⟨rfl, v, rfl, .ref b, rfl, v, b, ims, u, _, rfl, (hF e3).to (S.trans s3), s3.tup (s2.tup hb), hl2 u um, hl3, isIm_of e3, by rw [e2]; exact okW_at (gr.2 u um), fun H5 s5 => kk H5 _ s5 ?_⟩
      show V.bl _ = V.bl _
      rw [List.getD_eq_getElem?_getD, hu']
      rfl
    · intro H3 ws s3 hd p
      have e := paired_bl p
      subst e
      rw [lz] at hd
      refine ⟨D, _, rfl, .of hd, ?_⟩
      rw [← map_all rel (movB ims) []]
      exact k3 e1 e2 e3 H3 (S.trans s3)
/-! ### is_transitive -/
theorem adj_lt {ims : Im} {d : Nat} (h : IsIm ims d) : ∀ x < d, ∀ y ∈ adjI ims x, y < d := fun x hx y hy => by
  obtain ⟨im, hi, rfl⟩ := List.mem_map.mp hy
  have pm := h.p im hi
  have := (isPm_mem pm).mp (show im.getD x 0 ∈ im by
    rw [List.getD_eq_getElem?_getD, List.getElem?_eq_getElem (by rw [isPm_len pm]; exact hx)]
    exact List.getElem_mem _)
  omega
theorem found_all {n s : Nat} {adj : Nat → List Nat} {l : List Nat} (h : Found n adj s l) : l.length = n ↔ ∀ x < n, Reach adj s x := by
  constructor
  · intro e x hx
    have sub : ∀ y ∈ l, y < n := fun y hy => ((h.mem y).mp hy).1
    have p : l.Perm (List.range n) := by
      have e1 : l.Perm ((List.range n).filter fun y => decide (y ∈ l)) := (List.perm_ext_iff_of_nodup h.nd (List.nodup_range.filter _)).mpr fun y => by
        rw [List.mem_filter, List.mem_range, decide_eq_true_iff]
        exact ⟨fun m => ⟨sub y m, m⟩, fun m => m.2⟩
      have e2 : ((List.range n).filter fun y => decide (y ∈ l)) = List.range n := by
        refine List.Sublist.eq_of_length List.filter_sublist ?_
        rw [← e1.length_eq, e, List.length_range]
      rw [e2] at e1
      exact e1
    exact ((h.mem x).mp (p.mem_iff.mpr (List.mem_range.mpr hx))).2
  · intro r
    have p : l.Perm (List.range n) := (List.perm_ext_iff_of_nodup h.nd List.nodup_range).mpr fun y => by
      rw [h.mem, List.mem_range]
      exact ⟨fun z => z.1, fun z => ⟨z, r y z⟩⟩
    rw [p.length_eq, List.length_range]
def sp_is_transitive (K : PySem.W.Frag) (CI : Addr) : Sp := fun vs H Q E => ∃ (v : V) (ims : Im), vs = [v] ∧ ImV K H v ims ∧ ims.length ≤ 1000 ∧ (isIm ims = false → ∀ H', Same H H' → E (.ref CI) none H') ∧ (isIm ims = true → ∀ (b : Bool) H', Same H H' → (b = true ↔ transP ims) → Q (.bl b) H')
theorem ok_is_transitive {f : Addr} {fd : FuncData} {f_check_images : Addr} {d_check_images : FuncData} {f_reached : Addr} {d_reached : FuncData} {c_NotImages : Addr} (F : Fun K "is_transitive" "is_transitive" s_is_transitive f fd) (N : Nm mg) (B_NotImages : ExN K mg "NotImages" c_NotImages)
    (t_check_images : At K mg "check_images" s_check_images ["count", "images"] f_check_images d_check_images) (G_check_images : FnOk P w K mg base (L2.CX P w) 2 f_check_images d_check_images ["count", "images"] (sp_check_images K c_NotImages))
    (t_reached : At K mg "reached" s_reached ["links", "start"] f_reached d_reached) (G_reached : FnOk P w K mg base CX0 1 f_reached d_reached ["links", "start"] (sp_reached K)) :
    FnOk P w K mg base (L2.CX P w) 3 f fd ["images"] (sp_is_transitive K c_NotImages) := by
  refine F.okX sc_is_transitive (fun vs H Q E h => ?_) (fun cdv A outer s H vs Q E hr h => ?_)
  · obtain ⟨v, ims, rfl, _⟩ := h
    rfl
  · obtain ⟨v, ims, rfl, hI, hl, k1, k2⟩ := h
    have hu1 := hu_of hr
    refine ⟨_, pss_cons (ps_expr (pe_call (E := E) G_check_images (hr.mono (by decide)) rfl t_check_images.g t_check_images.F.kp t_check_images.b .nil (passes_call (takes_of rfl rfl rfl rfl) fun _ _ _ _ z => z) (pa_cons (pe_callB call_len_seq (by rfl) N.n_len PySem.boot_len (pa_cons (pv 0) pa_nil)) (pa_cons (pv 0) pa_nil))))
      (pss_cons (ps_set (i := 1) sc_is_transitive.nd rfl (.inl rfl) (pe_callB call_len_seq (by rfl) N.n_len PySem.boot_len (pa_cons (pe_ix ix_tup (pv 0) pe_int (fun _ _ => rfl)) pa_nil)))
      (pss_cons (ps_setDc (i := 2) (own := [("s", 3)]) (g := gName 3) (tt := tYes) (tk := tVar 3) (tv := tLc (iTup K (tVar 0)) (gName 4) (tYes) (tOp (rIxT K) (tVar 4) (tVar 3)) [4]) rfl sc_is_transitive.nd rfl rfl (by rfl) (pi_range1 (by rfl) N.n_range (pa_cons (pv 1) pa_nil)) (blkOk_by (N := n_is_transitive) (sc := defScope s_is_transitive) (by decide +kernel)) (fun _ _ _ _ _ => (pg_name (i := 3) sc_is_transitive.nd rfl (.inr rfl))) (fun _ _ _ _ _ => pts_nil) (fun _ _ _ _ _ => (pv 3)) (fun _ _ _ _ _ => (pe_lc (own := [("image", 4)]) (g := gName 4) (tt := tYes) (te := tOp (rIxT K) (tVar 4) (tVar 3)) rfl sc_is_transitive.nd (pi_tup (pv 0)) (by refine blkOk_by (N := n_is_transitive) (sc := { kind := .function, names := [(".0", .local), ("s", .cell), ("images", .cell)], isGenerator := false, isCoroutine := false }) ?_; decide +kernel) (fun _ _ _ _ _ => (pg_name (i := 4) sc_is_transitive.nd rfl (.inl rfl))) (fun _ _ _ _ _ => pts_nil) (fun _ _ _ _ _ => (pe_ix ix_tup (pv 4) (pv 3) (fun _ _ => rfl))))))
      (pss_one (ps_ret (pe_cmpR op_eq (pe_callB call_len_seq (by rfl) N.n_len PySem.boot_len (pa_cons (pe_call G_reached (hr.mono (by decide)) rfl t_reached.g t_reached.F.kp t_reached.b .nil pass0 (pa_cons (pv 2) (pa_cons pe_int pa_nil))) pa_nil)) (pv 1) (nomark _)))))), ?_⟩
    have hI0 := hI
    obtain ⟨A, vs, rfl, hA, pA⟩ := hI
    have lv := Paired.length pA
    refine ⟨.ref A, rfl, A, vs, rfl, .inr hA, .ref A, rfl, .ref A, ims, _, rfl, hI0, hl, fun e1 e2 H1 s1 => ?_, fun hn H1 s1 => k1 ?_ H1 s1⟩
    · have hd := isIm_of e2
      have k2 := k2 e2
      have hd' : (ims.getD 0 []).length ≤ 4 := hd.d4
      have d1 := hd.d1
      obtain ⟨v0, h0, a0, rfl, ha0⟩ := paired_at pA (i := 0) (y := ims.getD 0 []) (by rw [List.getD_eq_getElem?_getD, List.getElem?_eq_getElem hd.pos]; rfl)
      refine ⟨.ref A, rfl, A, vs, 0, .ref a0, rfl, rfl, s1.tup hA, atI_nat (j := 0) h0, a0, _, rfl, .inr (s1.tup ha0), ?_⟩
      rw [List.length_map]
      generalize hdd : (ims.getD 0 []).length = d at hd hd' d1
      refine ⟨_, rfl, (d : Int), rfl, by omega, by omega, ?_⟩
      rw [Int.toNat_natCast]
      intro D hD
      refine dc_it (walk_range (lo := 0)) (fun i H' => Same H1 H' ∧ ∃ kvs, H' D = some (.dK kvs) ∧ kvs.length = i ∧ (∀ t < i, ∃ b, kvs[t]? = some (.inl (t : Int), .ref b) ∧ valV kvs (.inl (t : Int)) = some (.ref b) ∧ H' b = some (.lst (iV (cI (adjI ims t))))) ∧ ∀ t : Nat, i ≤ t → valV kvs (.inl (t : Int)) = none)
        ⟨Same.upd hD, [], upd_same, rfl, fun t ht => by omega, fun t _ => rfl⟩ (fun _ _ _ _ => trivial) ?_ ?_
      · rintro i x H3 H4 hi ⟨sm, kvs, hd3, lk, ha, hno⟩ ⟨rfl, rfl⟩
        have hi : i < d := hi
        have ei : 0 + (i : Int) = (i : Int) := by omega
        refine ⟨rfl, _, rfl, .ref A, rfl, A, rfl, ⟨_, sm.tup (s1.tup hA)⟩, fun D2 hD2 => lc_map (walk_tup (K := K) (a := A) (xs := vs)) RInt lasts_int (fun j => (((ims.getD j []).getD i 0).toNat : Int)) hD2 (by omega) (fun H' s => s.tup (sm.tup (s1.tup hA))) ?_ ?_⟩
        · rintro j y H5 H6 hj s5 ⟨rfl, hy⟩ Nx kk
          obtain ⟨im, hi', b, rfl, hb⟩ := paired_get pA hy
          have pm := hd.p im (List.mem_of_getElem? hi')
          have lm := isPm_len pm
          have eim : ims.getD j [] = im := by rw [List.getD_eq_getElem?_getD, hi']; rfl
          refine ⟨rfl, .ref b, rfl, _, rfl, b, _, _, _, rfl, rfl, s5.tup (sm.tup (s1.tup hb)), getD_at (by omega) (by omega), kk _ _ (Same.refl _) ?_⟩
          show V.int _ = V.int _
          have e3 : (0 + (i : Int)).toNat = i := by omega
          rw [eim, e3]
          have := (isPm_mem pm).mp (show im.getD i 0 ∈ im by
            rw [List.getD_eq_getElem?_getD, List.getElem?_eq_getElem (by omega)]
            exact List.getElem_mem _)
          exact congrArg V.int (by omega)
        · intro H5 ws s5 hd5 p
          have e := paired_int p
          have e4 : (List.range vs.length).map (fun j => (((ims.getD j []).getD i 0).toNat : Int)) = cI (adjI ims i) := by
            rw [lv]
            unfold adjI cI
            rw [List.map_map]
            exact (map_get ims (fun im => (((im.getD i 0).toNat : Nat) : Int)) []).symm
          rw [e4] at e
          subst e
          have hD5 := s5 _ _ hd3
          refine ⟨kvs, .inl (0 + (i : Int)), rfl, hD5, small1000x (by omega), own_push (sm.trans s5) hD, ?_⟩
          rw [ei, putK_new _ (hno i (Nat.le_refl _))]
          have nDD : D2 ≠ D := fun z => by rw [z, hd3] at hD2; cases hD2
          refine ⟨_, upd_same, by rw [List.length_append, lk]; rfl, fun t ht => ?_, fun t ht => ?_⟩
          · have kp : ∀ {b : Addr} {ws : List V} {o : HO}, H5 b = some (.lst ws) → upd H5 D o b = some (.lst ws) := fun {b ws o} h => (upd_ne fun z => by rw [z, hD5] at h; cases h).trans h
            by_cases c : t = i
            · subst c
              refine ⟨D2, by rw [List.getElem?_append_right (by omega), lk, Nat.sub_self]; rfl, ?_, kp hd5⟩
              have := valV_put kvs (.inl (t : Int)) (.inl (t : Int)) (V.ref D2)
              rw [putK_new _ (hno t (Nat.le_refl _)), if_pos rfl] at this
              exact this
            · obtain ⟨b, e2, e3, e4⟩ := ha t (by omega)
              refine ⟨b, by rw [List.getElem?_append_left (by omega)]; exact e2, ?_, kp (s5 _ _ e4)⟩
              have := valV_put kvs (.inl (i : Int)) (.inl (t : Int)) (V.ref D2)
              rw [putK_new _ (hno i (Nat.le_refl _)), if_neg (fun z => c (by have := Sum.inl.inj z; omega))] at this
              exact this.trans e3
          · have := valV_put kvs (.inl (i : Int)) (.inl (t : Int)) (V.ref D2)
            rw [putK_new _ (hno i (Nat.le_refl _)), if_neg (fun z => by have := Sum.inl.inj z; omega)] at this
            exact this.trans (hno t (by omega))
      · rintro H3 ⟨sm, kvs, hd3, lk, ha, _⟩
        have hA3 := sm.tup (s1.tup hA)
        refine ⟨.ref D, rfl, D, 0, d, adjI ims, kvs, rfl, ⟨.inl hd3, lk, fun t ht => let ⟨b, e1, _, e3⟩ := ha t ht; ⟨b, e1, .of e3⟩, fun t ht => let ⟨b, _, e2, e3⟩ := ha t ht; ⟨b, e2, .of e3⟩⟩, adj_lt hd, by omega, by omega, fun H4 p l s4 hp hf => ?_⟩
        refine ⟨p, _, rfl, .inl (.of hp), _, rfl, rfl, k2 _ H4 (s1.trans (sm.trans s4)) ?_⟩
        unfold transP
        rw [hdd, decide_eq_true_iff, List.length_map, List.length_map]
        refine Iff.trans ?_ (found_all hf)
        exact ⟨fun z => by injection z with z; omega, fun z => by rw [z]⟩
    · cases e : isIm ims with
      | false => rfl
      | true => exact absurd ⟨by rw [lv], e⟩ hn
end
end L2.Px

namespace L2.Px
open PySem PySem.Spec PyProof.Rows
section
variable {P : Program} {w : World} {K : PySem.W.Frag} {mg : Str → Option Value} {base : Heap}
def sp__law_number (K : PySem.W.Frag) : Sp := fun vs H Q _ => ∃ c : Int, vs = [.int c] ∧ ∀ r : Int, 0 ≤ r → Q (.int r) H
theorem ok__law_number {f : Addr} {fd : FuncData} (F : Fun K "_law_number" "_law_number" s__law_number f fd) (N : Nm mg) :
    FnOk P w K mg base CX0 1 f fd ["cell"] (sp__law_number K) := by
  refine F.ok sc__law_number (fun vs H Q E h => ?_) (fun cdv A outer s H vs Q E hr h => ?_)
  · obtain ⟨c, rfl, _⟩ := h
    rfl
  · obtain ⟨c, rfl, k⟩ := h
    refine ⟨_, pss_cons (ps_if (pt_cmpR op_lt (pv 0) pe_int (nomark _)) (pss_one (ps_ret (pe_op op_sub pe_int (pv 0)))) pss_nil)
      (pss_one (ps_ret (pv 0))), ?_⟩
    refine ⟨.int c, rfl, c, 0, rfl, rfl, _, rfl, ite2 (fun c0 => ⟨_, rfl, 0, c, rfl, rfl, k _ (by have := of_decide_eq_true c0; omega)⟩) (fun c0 => ⟨_, rfl, k _ (by have : ¬ c < 0 := fun z => c0 (decide_eq_true z); omega)⟩)⟩
def sp__law_draws (K : PySem.W.Frag) : Sp := fun vs H Q _ => ∃ (a : Addr) (ns : List Int), vs = [.ref a] ∧ SqL K H a (iV ns) ∧ ns.length ≤ 63 ∧ ∀ H' p, Same H H' → H p = none → Drw H' p → Q (.ref p) H'
theorem ok__law_draws {f : Addr} {fd : FuncData} {f__law_number : Addr} {d__law_number : FuncData} (F : Fun K "_law_draws" "_law_draws" s__law_draws f fd) (N : Nm mg)
    (t__law_number : At K mg "_law_number" s__law_number ["cell"] f__law_number d__law_number) (G__law_number : FnOk P w K mg base CX0 1 f__law_number d__law_number ["cell"] (sp__law_number K)) :
    FnOk P w K mg base CX0 2 f fd ["script"] (sp__law_draws K) := by
  refine F.ok sc__law_draws (fun vs H Q E h => ?_) (fun cdv A outer s H vs Q E hr h => ?_)
  · obtain ⟨a, ns, rfl, _⟩ := h
    rfl
  · obtain ⟨a, ns, rfl, ha, hn, k⟩ := h
    refine ⟨_, pss_cons (ps_set (i := 1) sc__law_draws.nd rfl (.inl rfl) (pe_lst pa_nil))
      (pss_cons (ps_for PassesOwn.never rfl (pi_list (pv 0)) (pg_name (i := 2) sc__law_draws.nd rfl (.inl rfl)) (pss_cons (ps_set (i := 3) sc__law_draws.nd rfl (.inl rfl) (pe_call G__law_number (hr.mono (by decide)) rfl t__law_number.g t__law_number.F.kp t__law_number.b .nil pass0 (pa_cons (pv 2) pa_nil)))
      (pss_one (ps_if (pt_cmpR op_ge (pv 3) pe_int (nomark _)) (pss_one (ps_for PassesOwn.never rfl (pi_range1 (by rfl) N.n_range (pa_cons pe_int pa_nil)) (pg_name (i := 4) sc__law_draws.nd rfl (.inl rfl)) (pss_cons (ps_if (pt_cmpR op_eq (pv 3) pe_int (nomark _)) (pss_one (ps_break)) pss_nil)
      (pss_cons (ps_expr (pe_bm PySem.F.plainAttrs_list PySem.F.slot_list_append PySem.F.type_list_append mt_append (pv 1) (pa_cons (pe_op op_mod (pe_callTy call_int1 (by rfl) N.n_int (by decide +kernel) (pa_cons (pv 3) pa_nil)) pe_int) pa_nil)))
      (pss_one (ps_set (i := 3) sc__law_draws.nd rfl (.inl rfl) (pe_op op_fdiv (pv 3) pe_int))))))) (pss_cons (ps_set (i := 5) sc__law_draws.nd rfl (.inl rfl) (pe_op op_mod (pe_callTy call_int1 (by rfl) N.n_int (by decide +kernel) (pa_cons (pe_op op_add (pe_op op_mul (pv 3) pe_int) pe_int) pa_nil)) pe_int))
      (pss_cons (ps_set (i := 6) sc__law_draws.nd rfl (.inl rfl) (pe_op op_mod (pe_callTy call_int1 (by rfl) N.n_int (by decide +kernel) (pa_cons (pe_op op_add (pe_op op_mul (pv 5) pe_int) (pv 3)) pa_nil)) pe_int))
      (pss_one (ps_expr (pe_bm PySem.F.plainAttrs_list PySem.F.slot_list_extend PySem.F.type_list_extend mt_extend (pv 1) (pa_cons (pe_lst (pa_cons (pe_op op_mod (pe_callTy call_int1 (by rfl) N.n_int (by decide +kernel) (pa_cons (pv 3) pa_nil)) pe_int) (pa_cons (pe_op op_mod (pe_callTy call_int1 (by rfl) N.n_int (by decide +kernel) (pa_cons (pv 5) pa_nil)) pe_int) (pa_cons (pe_op op_mod (pe_callTy call_int1 (by rfl) N.n_int (by decide +kernel) (pa_cons (pv 6) pa_nil)) pe_int) pa_nil)))) pa_nil))))))))))
      (pss_one (ps_ret (pv 1)))), ?_⟩
    refine ⟨Nat.zero_le _, fun D hD => ?_⟩
    refine ⟨_, rfl, a, rfl, ⟨_, (Same.upd hD).seq ha⟩, ?_⟩
    refine for_it (walk_list (K := K) (a := a) (xs := iV ns)) (fun i σ H' => ∃ (y3 y4 y5 y6 y7 : Option V) (ds : List Int), σ = [some (.ref a), some (.ref D), y3, y4, y5, y6, y7] ∧ Same H H' ∧ H' D = some (.lst (iV ds)) ∧ (∀ d ∈ ds, 0 ≤ d ∧ d < 1000) ∧ ds.length ≤ 60 * i)
      ⟨none, none, none, none, none, [], rfl, Same.upd hD, upd_same, fun d hd => by (cases hd), Nat.le_refl _⟩ (fun i σ H' _ ⟨_, _, _, _, _, _, _, s, _⟩ => s.seq ha) ?_ ?_
    · rintro i x σ H1 H2 hi ⟨y3, y4, y5, y6, y7, ds, rfl, s1, hd, hb, hl⟩ ⟨rfl, hx⟩
      have hi : i < ns.length := by rw [List.length_map] at hi; exact hi
      obtain ⟨c, hc, rfl⟩ := iV_get hx
      refine ⟨_, rfl, c, rfl, fun r r0 => ?_⟩
      refine ⟨_, rfl, r, 1000000000000000000, rfl, rfl, _, rfl, ite2 (fun _ => ?_) (fun _ => ?_)⟩
      · refine ⟨60, rfl, by decide, by decide, ?_⟩
        refine for_it (walk_range (lo := 0)) (fun j σ H' => ∃ (rr : Int) (y5 : Option V) (es : List Int), σ = [some (.ref a), some (.ref D), some (.int c), some (.int rr), y5, y6, y7] ∧ Same H H' ∧ H' D = some (.lst (iV es)) ∧ (∀ d ∈ es, 0 ≤ d ∧ d < 1000) ∧ es.length ≤ 60 * i + j)
          ⟨r, y5, ds, rfl, s1, hd, hb, hl⟩ (fun _ _ _ _ _ => trivial) ?_ ?_
        · rintro j x σ H3 H4 hj ⟨rr, y5, es, rfl, s3, hd3, hb3, hl3⟩ ⟨rfl, rfl⟩
          have hj : j < 60 := hj
          refine ⟨_, rfl, rfl, _, rfl, ite2 (fun _ => ⟨_, _, _, _, _, es, rfl, s3, hd3, hb3, by omega⟩) (fun _ => ?_)⟩
          refine ⟨.ref D, rfl, .inl ⟨rfl, _, .of hd3⟩, _, rfl, .inl ⟨_, rfl, _, _, rfl, rfl, (by decide : (0 : Int) < 1000), D, _, _, rfl, rfl, hd3, by rw [List.length_map]; exact small1000x (by omega), ?_⟩⟩
          refine ⟨_, rfl, _, _, rfl, rfl, ⟨by decide, by decide⟩, ?_⟩
          refine ⟨_, _, es ++ [rr % 1000], rfl, own_push s3 hD, by rw [upd_same, iV_app]; rfl, fun d hd => ?_, by rw [List.length_append]; simp only [List.length_cons, List.length_nil]; omega⟩
          rcases List.mem_append.mp hd with h | h
          · exact hb3 d h
          · rw [List.mem_singleton.mp h]
            exact emod_bd rr
        · rintro σ H3 ⟨rr, y5, es, rfl, s3, hd3, hb3, hl3⟩
          exact ⟨_, _, _, _, _, es, rfl, s3, hd3, hb3, by omega⟩
      · refine ⟨_, rfl, _, _, rfl, rfl, mul_r (by decide) (by decide), _, _, rfl, rfl, .inl ⟨_, rfl, _, _, rfl, rfl, (by decide : (0 : Int) < 2147483647), ?_⟩⟩
        refine ⟨_, rfl, _, _, rfl, rfl, mul_r (by decide) (by decide), _, rfl, _, _, rfl, rfl, .inl ⟨_, rfl, _, _, rfl, rfl, (by decide : (0 : Int) < 2147483629), ?_⟩⟩
        refine ⟨.ref D, rfl, .inl ⟨rfl, _, .of hd⟩, ?_⟩
        refine ⟨_, rfl, .inl ⟨_, rfl, _, _, rfl, rfl, (by decide : (0 : Int) < 1000), _, rfl, .inl ⟨_, rfl, _, _, rfl, rfl, (by decide : (0 : Int) < 1000), _, rfl, .inl ⟨_, rfl, _, _, rfl, rfl, (by decide : (0 : Int) < 1000), by show 3 ≤ sizeLine; decide, fun p np => ?_⟩⟩⟩⟩
        have sp := Same.upd (o := .lst (iV [r % 1000, (r * 48271 + 11) % 2147483647 % 1000, ((r * 48271 + 11) % 2147483647 * 69621 + r) % 2147483629 % 1000])) np
        refine ⟨D, p, _, _, rfl, rfl, sp _ _ hd, upd_same, by rw [List.length_map]; exact Nat.le_of_lt (small1000x (by simp only [List.length_cons, List.length_nil]; omega)), ?_⟩
        refine ⟨_, _, _, _, _, ds ++ [r % 1000, (r * 48271 + 11) % 2147483647 % 1000, ((r * 48271 + 11) % 2147483647 * 69621 + r) % 2147483629 % 1000], rfl, own_push (s1.trans sp) hD, by rw [upd_same, iV_app]; rfl, fun d hd => ?_, by rw [List.length_append]; simp only [List.length_cons, List.length_nil]; omega⟩
        rcases List.mem_append.mp hd with h | h
        · exact hb d h
        · simp only [List.mem_cons, List.mem_nil_iff, or_false] at h
          rcases h with rfl | rfl | rfl <;> exact emod_bd _
    · rintro σ H1 ⟨y3, y4, y5, y6, y7, ds, rfl, s1, hd, hb, hl⟩
      have hl : ds.length ≤ 60 * ns.length := by rw [List.length_map] at hl; exact hl
      exact ⟨_, rfl, k H1 D s1 hD ⟨ds, hd, hb, by omega⟩⟩
def sp__law_next (K : PySem.W.Frag) : Sp := fun vs H Q _ => ∃ dr : Addr, vs = [.ref dr] ∧ Drw H dr ∧ ∀ (H' : Hp) (d : Int), SameX dr H H' → Drw H' dr → 0 ≤ d → d < 1000 → Q (.int d) H'
theorem ok__law_next {f : Addr} {fd : FuncData} (F : Fun K "_law_next" "_law_next" s__law_next f fd) (N : Nm mg) :
    FnOk P w K mg base CX0 1 f fd ["draws"] (sp__law_next K) := by
  refine F.ok sc__law_next (fun vs H Q E h => ?_) (fun cdv A outer s H vs Q E hr h => ?_)
  · obtain ⟨dr, rfl, _⟩ := h
    rfl
  · obtain ⟨dr, rfl, ⟨ds, hd, hb, hl⟩, k⟩ := h
    refine ⟨_, pss_cons (ps_if (pt_truth (pv 0) (by intro _; rfl)) (pss_one (ps_ret (pe_bm0 PySem.F.plainAttrs_list PySem.F.slot_list_pop PySem.F.type_list_pop mt_pop (pv 0)))) pss_nil)
      (pss_one (ps_ret pe_int)), ?_⟩
    refine ⟨.ref dr, rfl, !(iV ds).isEmpty, .inl ⟨_, .of hd, rfl⟩, ?_⟩
    cases e : ds.isEmpty with
    | true =>
      have : (!(iV ds).isEmpty) = false := by rw [List.isEmpty_map, e]; rfl
      rw [this]
      exact iteF (k H 0 (Same.refl _) ⟨ds, hd, hb, hl⟩ (by decide) (by decide))
    | false =>
      have ee : (!(iV ds).isEmpty) = true := by rw [List.isEmpty_map, e]; rfl
      rw [ee]
      have pos : 0 < ds.length := by
        cases ds with
        | nil => cases e
        | cons _ _ => exact Nat.succ_pos _
      have lt : ds.length - 1 < ds.length := by omega
      refine iteT ⟨.ref dr, rfl, .inl ⟨rfl, _, .of hd⟩, dr, iV ds, .int (ds[ds.length - 1]), rfl, rfl, hd, ?_, ?_⟩
      · rw [List.length_map, List.getElem?_map, List.getElem?_eq_getElem lt]
        rfl
      · obtain ⟨b1, b2⟩ := hb _ (List.getElem_mem lt)
        refine k _ _ ?_ ⟨ds.dropLast, by rw [upd_same]; exact congrArg (fun l => some (HO.lst l)) (by simp [List.map_dropLast]), fun d h => hb d ((List.dropLast_sublist ds).subset h), by rw [List.length_dropLast]; omega⟩ b1 b2
        rw [SameX, hid_upd]
        exact Same.refl _


/-! ### what stands while draws are made -/
theorem Drw.lst {H : Hp} {dr : Addr} (h : Drw H dr) : ∃ l, H dr = some (.lst l) := let ⟨ds, e, _⟩ := h; ⟨_, e⟩
theorem TupF.x {dr : Addr} {H H' : Hp} {v : V} {ns : List Int} (d : Drw H dr) (s : SameX dr H H') (h : TupF H v ns) : TupF H' v ns := by
  obtain ⟨a, o, rfl, h, z⟩ := h
  obtain ⟨l, e⟩ := d.lst
  exact ⟨a, o, rfl, get_x s (fun q => by rw [q, e] at h; cases h) h, z⟩
theorem TupF.over {D : Addr} {H : Hp} {l : List V} {o : HO} {v : V} {ns : List Int} (hD : H D = some (.lst l)) (h : TupF H v ns) : TupF (upd H D o) v ns := by
  obtain ⟨a, ob, rfl, h, z⟩ := h
  exact ⟨a, ob, rfl, (upd_ne fun q => by rw [q, hD] at h; cases h).trans h, z⟩
theorem sqt_over {D t : Addr} {H : Hp} {l xs : List V} {o : HO} (hd : H D = some (.lst l)) (h : SqT K H t xs) : SqT K (upd H D o) t xs := by
  rcases h with (h | ⟨ob, h⟩) | h
  · exact .inl (.inl ((upd_ne fun z => by rw [z, hd] at h; cases h).trans h))
  · exact .inl (.inr ⟨ob, (upd_ne fun z => by rw [z, hd] at h; cases h).trans h⟩)
  · exact .inr h
theorem TupV.over {D : Addr} {H : Hp} {l : List V} {o : HO} {v : V} {ns : List Int} (hD : H D = some (.lst l)) (h : TupV K H v ns) : TupV K (upd H D o) v ns := by
  obtain ⟨a, rfl, h⟩ := h
  exact ⟨a, rfl, sqt_over hD h⟩
theorem TupV.x {dr : Addr} {H H' : Hp} {v : V} {ns : List Int} (d : Drw H dr) (s : SameX dr H H') (h : TupV K H v ns) : TupV K H' v ns := by
  obtain ⟨a, rfl, h⟩ := h
  exact ⟨a, rfl, sqt_x d s h⟩
theorem ImF.x {dr : Addr} {H H' : Hp} {v : V} {x : Im} (d : Drw H dr) (s : SameX dr H H') (h : ImF K H v x) : ImF K H' v x := by
  obtain ⟨a, vs, rfl, h, p⟩ := h
  exact ⟨a, vs, rfl, sqt_x d s h, paired_mono (fun _ _ q => TupF.x d s q) p⟩
theorem ImV.x {dr : Addr} {H H' : Hp} {v : V} {x : Im} (d : Drw H dr) (s : SameX dr H H') (h : ImV K H v x) : ImV K H' v x := by
  obtain ⟨a, vs, rfl, h, p⟩ := h
  exact ⟨a, vs, rfl, sqt_x d s h, paired_mono (fun _ _ q => TupV.x d s q) p⟩
theorem GrV.x {dr : Addr} {H H' : Hp} {v : V} {c : Int} {x : Im} (d : Drw H dr) (s : SameX dr H H') (h : GrV K H v c x) : GrV K H' v c x := by
  obtain ⟨G, z, rfl, h, i⟩ := h
  exact ⟨G, z, rfl, sqt_x d s h, i.x d s⟩
theorem Drw.over {H : Hp} {dr D : Addr} {o : HO} (h : Drw H dr) (n : D ≠ dr) : Drw (L2.upd H D o) dr := by
  obtain ⟨ds, e, z⟩ := h
  exact ⟨ds, (upd_ne (Ne.symm n)).trans e, z⟩
/-! ### _law_arranged -/
def sp__law_arranged (K : PySem.W.Frag) : Sp := fun vs H Q _ => ∃ (dr : Addr) (d : Nat), vs = [.ref dr, .int (d : Int)] ∧ d ≤ 4 ∧ Drw H dr ∧ ∀ H' v im, SameX dr H H' → Drw H' dr → TupF H' v im → isPm d im = true → Q v H'
theorem ok__law_arranged {f : Addr} {fd : FuncData} {f__law_next : Addr} {d__law_next : FuncData} (F : Fun K "_law_arranged" "_law_arranged" s__law_arranged f fd) (N : Nm mg)
    (t__law_next : At K mg "_law_next" s__law_next ["draws"] f__law_next d__law_next) (G__law_next : FnOk P w K mg base CX0 1 f__law_next d__law_next ["draws"] (sp__law_next K)) :
    FnOk P w K mg base CX0 2 f fd ["draws", "size"] (sp__law_arranged K) := by
  refine F.ok sc__law_arranged (fun vs H Q E h => ?_) (fun cdv A outer s H vs Q E hr h => ?_)
  · obtain ⟨dr, d, rfl, _⟩ := h
    rfl
  · obtain ⟨dr, d, rfl, hd4, hd, k⟩ := h
    refine ⟨_, pss_cons (ps_set (i := 2) sc__law_arranged.nd rfl (.inl rfl) (pe_listRg rfl (by rfl) N.n_list (prg_1 (by rfl) N.n_range (pv 1))))
      (pss_cons (ps_set (i := 3) sc__law_arranged.nd rfl (.inl rfl) (pe_lst pa_nil))
      (pss_cons (ps_for PassesOwn.never rfl (pi_range1 (by rfl) N.n_range (pa_cons (pv 1) pa_nil)) (pg_name (i := 4) sc__law_arranged.nd rfl (.inl rfl)) (pss_cons (ps_set (i := 5) sc__law_arranged.nd rfl (.inl rfl) (pe_op op_mod (pe_callTy call_int1 (by rfl) N.n_int (by decide +kernel) (pa_cons (pe_call G__law_next (hr.mono (by decide)) rfl t__law_next.g t__law_next.F.kp t__law_next.b .nil pass0 (pa_cons (pv 0) pa_nil)) pa_nil)) (pe_callB call_len_seq (by rfl) N.n_len PySem.boot_len (pa_cons (pv 2) pa_nil))))
      (pss_cons (ps_expr (pe_bm PySem.F.plainAttrs_list PySem.F.slot_list_append PySem.F.type_list_append mt_append (pv 3) (pa_cons (pe_ix ix_list (pv 2) (pv 5) (fun _ _ => rfl)) pa_nil)))
      (pss_one (ps_set (i := 2) sc__law_arranged.nd rfl (.inl rfl) (pe_op op_cat (pe_slice sl_list (pv 2) po_none (po_some (pv 5))) (pe_slice sl_list (pv 2) (po_some (pe_op op_add (pv 5) pe_int)) po_none)))))))
      (pss_one (ps_ret (pe_callTy call_tuple_ofF (by rfl) N.n_tuple (by decide +kernel) (pa_cons (pv 3) pa_nil)))))), ?_⟩
    refine ⟨_, rfl, _, rfl, RgOk.of_le (by decide) (by omega) (by decide) (by omega), fun L0 hL0 => ?_⟩
    rw [rg_nat]
    refine ⟨Nat.zero_le _, fun R hR => ?_⟩
    have nL0 := hd.ne_new hL0
    have d1 := hd.upd (o := .lst (iV (rg d))) hL0
    have nR := d1.ne_new hR
    have s1 := Same.upd (o := .lst (iV (rg d))) hL0
    have nRL : L0 ≠ R := fun z => by rw [← z, upd_same] at hR; cases hR
    have hR0 : H R = none := none_of_same s1 hR
    have d2 := d1.upd (o := .lst []) hR
    refine ⟨_, rfl, (d : Int), rfl, by omega, by omega, ?_⟩
    rw [Int.toNat_natCast]
    refine for_it (walk_range (lo := 0)) (fun i σ H' => ∃ (L : Addr) (y4 y5 : Option V) (lf rw : List Int), σ = [some (.ref dr), some (.int (d : Int)), some (.ref L), some (.ref R), y4, y5] ∧ SameX dr H H' ∧ Drw H' dr ∧ H' L = some (.lst (iV lf)) ∧ H' R = some (.lst (iV rw)) ∧ L ≠ R ∧ L ≠ dr ∧ (rw ++ lf).Perm (rg d) ∧ rw.length = i)
      ⟨L0, none, none, rg d, [], rfl, x_own (Same.hid s1) hR0, d2, by rw [upd_ne nRL]; exact upd_same, upd_same, nRL, nL0, List.Perm.refl _, rfl⟩ (fun _ _ _ _ _ => trivial) ?_ ?_
    · rintro i x σ H1 H2 hi ⟨L, y4, y5, lf, rw, rfl, sx, dd, hL, hRr, nLR, nLd, pm, lr⟩ ⟨rfl, rfl⟩
      have hi : i < d := hi
      have ll : rw.length + lf.length = d := by
        have := pm.length_eq
        rw [List.length_append, rg_len] at this
        exact this
      refine ⟨.ref dr, rfl, dr, rfl, dd, fun H3 z s3 d3 z0 z1 => .inl ⟨_, rfl, .ref L, rfl, L, iV lf, rfl, .inl (.of (get_x s3 nLd hL)), _, _, rfl, rfl, by rw [List.length_map]; omega, ?_⟩⟩
      have hL3 := get_x s3 nLd hL
      have hR3 := get_x s3 nR hRr
      have b0 : 0 ≤ z % ((iV lf).length : Int) := Int.emod_nonneg _ (by rw [List.length_map]; omega)
      have b1 : z % ((iV lf).length : Int) < ((iV lf).length : Int) := Int.emod_lt_of_pos _ (by rw [List.length_map]; omega)
      obtain ⟨m, hm⟩ := Int.eq_ofNat_of_zero_le b0
      have lm : m < lf.length := by rw [hm, List.length_map] at b1; omega
      have em : V.int (z % ((iV lf).length : Int)) = V.int (m : Int) := congrArg V.int hm
      have at' : (iV lf)[m]? = some (.int lf[m]) := by rw [List.getElem?_map, List.getElem?_eq_getElem lm]; rfl
      refine ⟨.ref R, rfl, .inl ⟨rfl, _, .of hR3⟩, .ref L, rfl, _, rfl, L, iV lf, (m : Int), .int lf[m], rfl, em, .of hL3, atI_nat at', R, _, _, rfl, rfl, hR3, by rw [List.length_map]; exact small1000x (by omega), ?_⟩
      have hL4 : (upd H3 R (.lst (iV rw ++ [V.int lf[m]]))) L = some (.lst (iV lf)) := (upd_ne nLR).trans hL3
      refine ⟨.ref L, rfl, _, rfl, (m : Int), em, L, iV lf, rfl, .of hL4, fun p hp => ?_⟩
      have sp := Same.upd (o := .lst (cutV (iV lf) none (some (m : Int)))) hp
      have e1 : (m : Int) + 1 = ((m + 1 : Nat) : Int) := by omega
      refine ⟨.ref L, rfl, _, rfl, _, _, em, rfl, (m : Int) + 1, rfl, L, iV lf, rfl, .of (sp _ _ hL4), fun q hq => ?_⟩
      have sq := Same.upd (o := .lst (cutV (iV lf) (some ((m : Int) + 1)) none)) hq
      rw [e1, cut_to lf m (by omega), cut_from lf (m + 1) (by omega)] at *
      refine ⟨p, q, _, _, rfl, rfl, sq _ _ upd_same, upd_same, by rw [List.length_map, List.length_map, List.length_take, List.length_drop]; exact Nat.le_of_lt (small1000x (by omega)), fun r hr' => ?_⟩
      have sr := Same.upd (o := .lst (iV (lf.take m) ++ iV (lf.drop (m + 1)))) hr'
      have S := sp.trans (sq.trans sr)
      have hR5 := S R _ (upd_same (H := H3) (a := R) (o := .lst (iV rw ++ [V.int lf[m]])))
      have nrR : r ≠ R := fun z => by
        have := (sp.trans sq) R _ (upd_same (H := H3) (a := R) (o := .lst (iV rw ++ [V.int lf[m]])))
        rw [z] at hr'
        rw [hr'] at this
        cases this
      have d4 := d3.over (o := .lst (iV rw ++ [V.int lf[m]])) nR
      have nrd : r ≠ dr := (d4.to (sp.trans sq)).ne_new hr'
      refine ⟨r, _, _, lf.take m ++ lf.drop (m + 1), rw ++ [lf[m]], rfl, (x_own (sx.trans s3) hR0).trans (Same.hid S), d4.to S, by rw [upd_same, iV_app], by rw [hR5, iV_app]; rfl, nrR, nrd, ?_, by rw [List.length_append, lr]; rfl⟩
      refine List.Perm.trans ?_ pm
      rw [List.append_assoc]
      refine List.Perm.append_left rw ?_
      have e3 : lf = lf.take m ++ lf[m] :: lf.drop (m + 1) := by
        rw [← List.drop_eq_getElem_cons lm, List.take_append_drop]
      refine List.Perm.trans ?_ (List.Perm.of_eq e3.symm)
      exact (List.perm_middle (a := lf[m]) (l₁ := lf.take m) (l₂ := lf.drop (m + 1))).symm
    · rintro σ H1 ⟨L, y4, y5, lf, rw, rfl, sx, dd, hL, hRr, nLR, nLd, pm, lr⟩
      have lr : rw.length = d := lr
      refine ⟨.ref R, rfl, R, _, rfl, .of hRr, fun p o hp hz => ?_⟩
      have sp := Same.upd (o := .frz o (.tup (iV rw))) hp
      refine k _ _ rw (sx.trans (Same.hid sp)) (dd.to sp) ⟨p, o, rfl, upd_same, hz⟩ ?_
      have l0 : lf = [] := by
        have := pm.length_eq
        rw [List.length_append, rg_len] at this
        exact List.length_eq_zero_iff.mp (by omega)
      rw [l0, List.append_nil] at pm
      exact List.isPerm_iff.mpr pm
end
end L2.Px

namespace L2.Px
open PySem PySem.Spec PyProof.Rows
section
variable {P : Program} {w : World} {K : PySem.W.Frag} {mg : Str → Option Value} {base : Heap}
/-! ### _law_act -/
def sp__law_act (K : PySem.W.Frag) : Sp := fun vs H Q _ => ∃ (v : V) (a : Addr) (ims : Im) (w : Wd) (d : Nat), vs = [v, .ref a] ∧ ImF K H v ims ∧ SqT K H a (iV w) ∧ w.length ≤ 1000 ∧ ims.length ≤ 1000 ∧ IsIm ims d ∧ (∀ x ∈ w, x ≠ 0 ∧ absI x ≤ ims.length) ∧ ∀ H' p, Same H H' → H' p = some (.tup (iV (imgW ims w))) → Q (.ref p) H'
theorem ok__law_act {f : Addr} {fd : FuncData} (F : Fun K "_law_act" "_law_act" s__law_act f fd) (N : Nm mg) :
    FnOk P w K mg base CX0 1 f fd ["images", "word"] (sp__law_act K) := by
  refine F.ok sc__law_act (fun vs H Q E h => ?_) (fun cdv A outer s H vs Q E hr h => ?_)
  · obtain ⟨v, a, ims, w, d, rfl, _⟩ := h
    rfl
  · obtain ⟨v, a, ims, w, d, rfl, hI, ha, hl, hl2, hd, hw, k⟩ := h
    refine ⟨_, pss_cons (ps_set (i := 2) sc__law_act.nd rfl (.inl rfl) (pe_listRg rfl (by rfl) N.n_list (prg_1 (by rfl) N.n_range (pe_callB call_len_seq (by rfl) N.n_len PySem.boot_len (pa_cons (pe_ix ix_tup (pv 0) pe_int (fun _ _ => rfl)) pa_nil)))))
      (pss_cons (ps_for PassesOwn.never rfl (pi_tup (pv 1)) (pg_name (i := 3) sc__law_act.nd rfl (.inr rfl)) (pss_one (ps_if (pt_cmpR op_gt (pv 3) pe_int (nomark _)) (pss_one (ps_setLc (i := 2) (own := [("point", 4)]) (g := gName 4) (tt := tYes) (te := tOp (rIxT K) (tOp (rIxT K) (tVar 0) (tOp (rI0 fun i j => .int (i - j)) (tVar 3) (L2.tC (.int 1)))) (tVar 4)) rfl sc__law_act.nd rfl rfl (sw_true rfl rfl rfl (by decide +kernel)) (pi_list (pv 2)) (blkOk_by (N := n__law_act) (sc := defScope s__law_act) (by decide +kernel)) (fun _ _ _ _ _ => (pg_name (i := 4) sc__law_act.nd rfl (.inl rfl))) (fun _ _ _ _ _ => pts_nil) (fun _ _ _ _ _ => (pe_ix ix_tup (pe_ix ix_tup (pv 0) (pe_op op_sub (pv 3) pe_int) (fun _ _ => rfl)) (pv 4) (fun _ _ => rfl))))) (pss_one (ps_setLc (i := 2) (own := [("point", 4)]) (g := gName 4) (tt := tYes) (te := tBMT (rTIdx K) (tOp (rIxT K) (tVar 0) (tOp (rI0 fun i j => .int (i - j)) (tOp (rI0 fun i j => .int (i - j)) (L2.tC (.int 0)) (tVar 3)) (L2.tC (.int 1)))) (tCons (tVar 4) (tNil))) rfl sc__law_act.nd rfl rfl (sw_true rfl rfl rfl (by decide +kernel)) (pi_list (pv 2)) (blkOk_by (N := n__law_act) (sc := defScope s__law_act) (by decide +kernel)) (fun _ _ _ _ _ => (pg_name (i := 4) sc__law_act.nd rfl (.inl rfl))) (fun _ _ _ _ _ => pts_nil) (fun _ _ _ _ _ => (pe_bmT PySem.F.slot_tuple_index PySem.F.type_tuple_index mt_tidxI (pe_ix ix_tup (pv 0) (pe_op op_sub (pe_op op_sub pe_int (pv 3)) pe_int) (fun _ _ => rfl)) (pa_cons (pv 4) pa_nil))))))))
      (pss_one (ps_ret (pe_callTy call_tuple_of (by rfl) N.n_tuple (by decide +kernel) (pa_cons (pv 2) pa_nil))))), ?_⟩
    obtain ⟨A, vs, rfl, hA, pA⟩ := hI
    have lv := Paired.length pA
    have hd4 := hd.d4
    have ld := hd.l
    obtain ⟨v0, h0, hv0⟩ := paired_at pA (i := 0) (y := ims.getD 0 []) (by rw [List.getD_eq_getElem?_getD, List.getElem?_eq_getElem hd.pos]; rfl)
    obtain ⟨a0, o0, rfl, ha0, _⟩ := hv0
    have sa0 : SqT K H a0 (iV (ims.getD 0 [])) := .inl (.inr ⟨o0, ha0⟩)
    refine ⟨.ref A, rfl, A, vs, 0, .ref a0, rfl, rfl, hA, atI_nat (j := 0) h0, a0, _, rfl, .inr sa0, _, rfl, RgOk.of_le (by decide) (by rw [List.length_map, ld]; omega) (by decide) (by omega), fun D hD => ?_⟩
    rw [List.length_map, ld, rg_nat]
    have sD := Same.upd (o := .lst (iV (rg d))) hD
    refine ⟨.ref a, rfl, a, rfl, ⟨_, sD.tup ha⟩, ?_⟩
    refine for_it (walk_tup (K := K) (a := a) (xs := iV w)) (fun i σ H' => ∃ (D : Addr) (y3 : Option V), σ = [some (.ref A), some (.ref a), some (.ref D), y3, none] ∧ Same H H' ∧ H' D = some (.lst (iV ((w.take i).foldl (actL ims) (rg d))))) ⟨D, none, rfl, sD, upd_same⟩ (fun i σ H' _ ⟨_, _, _, s, _⟩ => s.tup ha) ?_ ?_
    · rintro i x σ H1 H2 hi ⟨D, y3, rfl, s1, hD1⟩ ⟨rfl, hx⟩
      obtain ⟨x, hx', rfl⟩ := iV_get hx
      have hx := hx'
      obtain ⟨x0, x1⟩ := hw x (List.mem_of_getElem? hx)
      have stp : (w.take (i + 1)).foldl (actL ims) (rg d) = actL ims ((w.take i).foldl (actL ims) (rg d)) x := by
        rw [take_snoc hx, List.foldl_append]
        rfl
      have bd := img_bd hd (w.take i) (rg d) (fun s hs => rg_mem.mp hs) fun y hy => hw y (List.mem_of_mem_take hy)
      have ln := (img_len ims (w.take i) (rg d)).trans (rg_len d)
      generalize (w.take i).foldl (actL ims) (rg d) = pts at hD1 stp bd ln
      refine ⟨.int x, rfl, x, 0, rfl, rfl, _, rfl, ite2 (fun cp => ?_) (fun cp => ?_)⟩
      · have cp : 0 < x := of_decide_eq_true cp
        unfold absI at x1
        rw [if_neg (by omega)] at x1
        obtain ⟨j, hj⟩ : ∃ j : Nat, x = (j : Int) + 1 := ⟨(x - 1).toNat, by omega⟩
        subst hj
        have jn : j < ims.length := by omega
        have ej : ((j : Int) + 1 - 1) = (j : Int) := by omega
        obtain ⟨m, pm⟩ := im_at hd jn
        obtain ⟨vj, hj, hvj⟩ := paired_at pA (i := j) (y := ims.getD j []) (by rw [List.getD_eq_getElem?_getD, List.getElem?_eq_getElem jn]; rfl)
        obtain ⟨aj, oj, rfl, haj, zj⟩ := hvj
        have saj : SqT K H2 aj (iV (ims.getD j [])) := .inl (.inr ⟨oj, s1 _ _ haj⟩)
        refine ⟨.ref D, rfl, D, rfl, ⟨_, .of hD1⟩, fun D2 hD2 => lc_map (walk_list (K := K) (a := D) (xs := iV pts)) RInt lasts_int (fun i => (ims.getD j []).getD (pts.getD i 0).toNat 0) hD2 (by rw [List.length_map]; omega) (fun H' s => .of (s _ _ hD1)) ?_ ?_⟩
        · rintro i z H3 H4 hi s3 ⟨rfl, hz⟩ Nx kk
          obtain ⟨s, hs, rfl⟩ := iV_get hz
          have bs := bd s (List.mem_of_getElem? hs)
          refine ⟨rfl, .ref A, rfl, _, rfl, _, _, rfl, rfl, A, vs, _, .ref aj, rfl, rfl, s3.tup (s1.tup hA), by rw [ej]; exact atI_nat hj, .int s, rfl, aj, _, _, _, rfl, rfl, s3.tup saj, getD_at bs.1 (by rw [isPm_len pm]; exact bs.2), kk _ _ (Same.refl _) ?_⟩
          show V.int _ = V.int _
          rw [List.getD_eq_getElem?_getD (l := pts), hs]
          rfl
        · intro H3 ws s3 hd3 p
          have e := paired_int p
          have e2 : (List.range (iV pts).length).map (fun i => (ims.getD j []).getD (pts.getD i 0).toNat 0) = actL ims pts ((j : Int) + 1) := by
            unfold actL
            rw [if_pos cp, List.length_map, map_get pts (fun s => (ims.getD ((j : Int) + 1 - 1).toNat []).getD s.toNat 0) 0]
            have : ((j : Int) + 1 - 1).toNat = j := by omega
            rw [this]
          rw [e2, ← stp] at e
          subst e
          exact ⟨D2, _, rfl, s1.trans s3, hd3⟩
      · have cp : ¬ 0 < x := fun z => cp (decide_eq_true z)
        unfold absI at x1
        rw [if_pos (by omega)] at x1
        obtain ⟨j, hj⟩ : ∃ j : Nat, x = -((j : Int) + 1) := ⟨(-x - 1).toNat, by omega⟩
        subst hj
        have jn : j < ims.length := by omega
        have ej : (0 - -((j : Int) + 1) - 1) = (j : Int) := by omega
        obtain ⟨m, pm⟩ := im_at hd jn
        obtain ⟨vj, hj, hvj⟩ := paired_at pA (i := j) (y := ims.getD j []) (by rw [List.getD_eq_getElem?_getD, List.getElem?_eq_getElem jn]; rfl)
        obtain ⟨aj, oj, rfl, haj, zj⟩ := hvj
        have saj : SqT K H2 aj (iV (ims.getD j [])) := .inl (.inr ⟨oj, s1 _ _ haj⟩)
        refine ⟨.ref D, rfl, D, rfl, ⟨_, .of hD1⟩, fun D2 hD2 => lc_map (walk_list (K := K) (a := D) (xs := iV pts)) RInt lasts_int (fun i => (((ims.getD j []).idxOf (pts.getD i 0) : Nat) : Int)) hD2 (by rw [List.length_map]; omega) (fun H' s => .of (s _ _ hD1)) ?_ ?_⟩
        · rintro i z H3 H4 hi s3 ⟨rfl, hz⟩ Nx kk
          obtain ⟨s, hs, rfl⟩ := iV_get hz
          have bs := bd s (List.mem_of_getElem? hs)
          refine ⟨rfl, .ref A, rfl, _, rfl, _, _, rfl, rfl, _, _, rfl, rfl, A, vs, _, .ref aj, rfl, rfl, s3.tup (s1.tup hA), by rw [ej]; exact atI_nat hj, ⟨aj, oj, _, rfl, s3 _ _ (s1 _ _ haj), zj⟩, .int s, rfl, aj, _, s, rfl, rfl, s3.tup saj, (isPm_mem pm).mpr bs, kk _ _ (Same.refl _) ?_⟩
          show V.int _ = V.int _
          rw [List.getD_eq_getElem?_getD (l := pts), hs]
          rfl
        · intro H3 ws s3 hd3 p
          have e := paired_int p
          have e2 : (List.range (iV pts).length).map (fun i => (((ims.getD j []).idxOf (pts.getD i 0) : Nat) : Int)) = actL ims pts (-((j : Int) + 1)) := by
            unfold actL
            rw [if_neg cp, List.length_map, map_get pts (fun s => (((ims.getD (- -((j : Int) + 1) - 1).toNat []).idxOf s : Nat) : Int)) 0]
            have : (- -((j : Int) + 1) - 1).toNat = j := by omega
            rw [this]
          rw [e2, ← stp] at e
          subst e
          exact ⟨D2, _, rfl, s1.trans s3, hd3⟩
    · rintro σ H1 ⟨D, y3, rfl, s1, hD1⟩
      rw [List.length_map, List.take_length] at hD1
      refine ⟨.ref D, rfl, D, _, rfl, .inl ⟨.of hD1, fun p np => k _ p (s1.trans (Same.upd np)) ?_⟩⟩
      rw [upd_same]
      unfold imgW
      rw [ld]
/-! ### _law_fulfils -/
def sp__law_fulfils (K : PySem.W.Frag) : Sp := fun vs H Q _ => ∃ (g v : V) (c : Int) (rel ims : Im) (d : Nat), vs = [g, v] ∧ GrV K H g c rel ∧ rel.length ≤ 1000 ∧ (∀ w ∈ rel, w.length ≤ 1000) ∧ ImF K H v ims ∧ ims.length ≤ 1000 ∧ IsIm ims d ∧ (∀ w ∈ rel, ∀ x ∈ w, x ≠ 0 ∧ absI x ≤ ims.length) ∧
  ∀ H', Same H H' → Q (.bl (rel.all (movB ims))) H'
theorem ok__law_fulfils {f : Addr} {fd : FuncData} {f__law_act : Addr} {d__law_act : FuncData} (F : Fun K "_law_fulfils" "_law_fulfils" s__law_fulfils f fd) (N : Nm mg)
    (t__law_act : At K mg "_law_act" s__law_act ["images", "word"] f__law_act d__law_act) (G__law_act : FnOk P w K mg base CX0 1 f__law_act d__law_act ["images", "word"] (sp__law_act K)) :
    FnOk P w K mg base CX0 2 f fd ["group", "images"] (sp__law_fulfils K) := by
  refine F.ok sc__law_fulfils (fun vs H Q E h => ?_) (fun cdv A outer s H vs Q E hr h => ?_)
  · obtain ⟨g, v, c, rel, ims, d, rfl, _⟩ := h
    rfl
  · obtain ⟨g, v, c, rel, ims, d, rfl, hg, hl, hl2, hF, hl3, hd, hw, k⟩ := h
    have hu := hr.units
    refine ⟨_, pss_cons (ps_set (i := 2) sc__law_fulfils.nd rfl (.inr rfl) (pe_tupRg rfl (by rfl) N.n_tuple (prg_1 (by rfl) N.n_range (pe_callB call_len_seq (by rfl) N.n_len PySem.boot_len (pa_cons (pe_ix ix_tup (pv 1) pe_int (fun _ _ => rfl)) pa_nil)))))
      (pss_one (ps_ret (pe_callB (cr_all rfl) (by rfl) N.n_all (by decide +kernel) (pa_cons (pe_lc (own := [("relator", 3)]) (g := gName 3) (tt := tYes) (te := tOp (rEqD K) (tCall (sp__law_act K) [] E0 (tCons (tVar 1) (tCons (tVar 3) (tNil)))) (tVar 2)) rfl sc__law_fulfils.nd (pi_tup (pe_ix ix_tup (pv 0) pe_int (fun _ _ => rfl))) (blkOk_by (N := n__law_fulfils) (sc := defScope s__law_fulfils) (by decide +kernel)) (fun _ _ _ _ _ => (pg_name (i := 3) sc__law_fulfils.nd rfl (.inl rfl))) (fun _ _ _ _ _ => pts_nil) (fun _ _ _ _ _ => (pe_cmpR (op_eqD hu) (pe_call G__law_act (hr.mono (by decide)) rfl t__law_act.g t__law_act.F.kp t__law_act.b .nil pass0 (pa_cons (pv 1) (pa_cons (pv 3) pa_nil))) (pv 2) (nomark _)))) pa_nil)))), ?_⟩
    have ld := hd.l
    have hd4 := hd.d4
    have hF0 := hF
    obtain ⟨A, vs, rfl, hA, pA⟩ := hF
    obtain ⟨v0, h0, hv0⟩ := paired_at pA (i := 0) (y := ims.getD 0 []) (by rw [List.getD_eq_getElem?_getD, List.getElem?_eq_getElem hd.pos]; rfl)
    obtain ⟨a0, o0, rfl, ha0, _⟩ := hv0
    have sa0 : SqT K H a0 (iV (ims.getD 0 [])) := .inl (.inr ⟨o0, ha0⟩)
    refine ⟨.ref A, rfl, A, vs, 0, .ref a0, rfl, rfl, hA, atI_nat (j := 0) h0, a0, _, rfl, .inr sa0, _, rfl, RgOk.of_le (by decide) (by rw [List.length_map, ld]; omega) (by decide) (by omega), fun D hD => ?_⟩
    rw [List.length_map, ld, rg_nat]
    have sD := Same.upd (o := .tup (iV (rg d))) hD
    obtain ⟨G, z, rfl, hG, hz⟩ := hg
    obtain ⟨Z, zs, rfl, hZ, pZ⟩ := hz
    have lz := Paired.length pZ
    refine ⟨.ref G, rfl, G, _, 1, .ref Z, rfl, rfl, sD.tup hG, atI_nat (j := 1) rfl, Z, rfl, ⟨_, sD.tup hZ⟩, fun D2 hD2 => lc_map (walk_tup (K := K) (a := Z) (xs := zs)) RBl lasts_bl (fun i => movB ims (rel.getD i [])) hD2 (by omega) (fun H' s => s.tup (sD.tup hZ)) ?_ ?_⟩
    · rintro i x H1 H2 hi s1 ⟨rfl, hx⟩ Nx kk
      obtain ⟨u, hu', b, rfl, hb⟩ := paired_get pZ hx
      have um := List.mem_of_getElem? hu'
      have S := sD.trans s1
      refine ⟨rfl, .ref A, rfl, .ref b, rfl, .ref A, b, ims, u, d, rfl, hF0.to S, S.tup hb, hl2 u um, hl3, hd, hw u um, fun H3 p s3 hp => ?_⟩
      refine ⟨.ref D, rfl, .tuple (iD (imgW ims u)), .tuple (iD (rg d)), dp_ti (.of hp), dp_ti (.of (s3 _ _ (s1 _ _ upd_same))), shaped_ti _, shaped_ti _, kk H3 _ s3 ?_⟩
      show V.bl _ = V.bl _
      rw [eqv_tup, List.getD_eq_getElem?_getD, hu']
      unfold movB
      rw [ld]
      rfl
    · intro H1 ws s1 hd1 p
      have e := paired_bl p
      subst e
      rw [lz] at hd1
      refine ⟨D2, _, rfl, .of hd1, ?_⟩
      rw [← map_all rel (movB ims) []]
      exact k H1 (sD.trans s1)
/-! ### _law_group -/
def sp__law_group (K : PySem.W.Frag) : Sp := fun vs H Q _ => ∃ dr : Addr, vs = [.ref dr] ∧ Drw H dr ∧ ∀ (H' : Hp) (g : V) (c : Nat) (rel : Im), SameX dr H H' → Drw H' dr → GrV K H' g c rel → 1 ≤ c → c ≤ 3 → rel.length ≤ 3 → (∀ w ∈ rel, w.length ≤ 5 ∧ okW c w = true) → Q g H'
theorem ok__law_group {f : Addr} {fd : FuncData} {f__law_next : Addr} {d__law_next : FuncData} (F : Fun K "_law_group" "_law_group" s__law_group f fd) (N : Nm mg)
    (t__law_next : At K mg "_law_next" s__law_next ["draws"] f__law_next d__law_next) (G__law_next : FnOk P w K mg base CX0 1 f__law_next d__law_next ["draws"] (sp__law_next K)) :
    FnOk P w K mg base CX0 2 f fd ["draws"] (sp__law_group K) := by
  refine F.ok sc__law_group (fun vs H Q E h => ?_) (fun cdv A outer s H vs Q E hr h => ?_)
  · obtain ⟨dr, rfl, _⟩ := h
    rfl
  · obtain ⟨dr, rfl, hd, k⟩ := h
    refine ⟨_, pss_cons (ps_set (i := 1) sc__law_group.nd rfl (.inl rfl) (pe_op op_add pe_int (pe_op op_mod (pe_callTy call_int1 (by rfl) N.n_int (by decide +kernel) (pa_cons (pe_call G__law_next (hr.mono (by decide)) rfl t__law_next.g t__law_next.F.kp t__law_next.b .nil pass0 (pa_cons (pv 0) pa_nil)) pa_nil)) pe_int)))
      (pss_cons (ps_set (i := 2) sc__law_group.nd rfl (.inl rfl) (pe_lst pa_nil))
      (pss_cons (ps_for PassesOwn.never rfl (pi_range1 (by rfl) N.n_range (pa_cons (pe_op op_mod (pe_callTy call_int1 (by rfl) N.n_int (by decide +kernel) (pa_cons (pe_call G__law_next (hr.mono (by decide)) rfl t__law_next.g t__law_next.F.kp t__law_next.b .nil pass0 (pa_cons (pv 0) pa_nil)) pa_nil)) pe_int) pa_nil)) (pg_name (i := 3) sc__law_group.nd rfl (.inl rfl)) (pss_cons (ps_set (i := 4) sc__law_group.nd rfl (.inl rfl) (pe_lst pa_nil))
      (pss_cons (ps_for PassesOwn.never rfl (pi_range1 (by rfl) N.n_range (pa_cons (pe_op op_mod (pe_callTy call_int1 (by rfl) N.n_int (by decide +kernel) (pa_cons (pe_call G__law_next (hr.mono (by decide)) rfl t__law_next.g t__law_next.F.kp t__law_next.b .nil pass0 (pa_cons (pv 0) pa_nil)) pa_nil)) pe_int) pa_nil)) (pg_name (i := 5) sc__law_group.nd rfl (.inl rfl)) (pss_cons (ps_set (i := 6) sc__law_group.nd rfl (.inl rfl) (pe_callTy call_int1 (by rfl) N.n_int (by decide +kernel) (pa_cons (pe_call G__law_next (hr.mono (by decide)) rfl t__law_next.g t__law_next.F.kp t__law_next.b .nil pass0 (pa_cons (pv 0) pa_nil)) pa_nil)))
      (pss_one (ps_expr (pe_bm PySem.F.plainAttrs_list PySem.F.slot_list_append PySem.F.type_list_append mt_append (pv 4) (pa_cons (pe_op op_mul (pe_op op_add pe_int (pe_op op_mod (pe_op op_fdiv (pv 6) pe_int) (pv 1))) (pe_op op_sub pe_int (pe_op op_mul pe_int (pe_op op_mod (pv 6) pe_int)))) pa_nil))))))
      (pss_one (ps_expr (pe_bm PySem.F.plainAttrs_list PySem.F.slot_list_append PySem.F.type_list_append mt_append (pv 2) (pa_cons (pe_callTy call_tuple_of (by rfl) N.n_tuple (by decide +kernel) (pa_cons (pv 4) pa_nil)) pa_nil)))))))
      (pss_one (ps_ret (pe_tup (pa_cons (pv 1) (pa_cons (pe_callTy call_tuple_of (by rfl) N.n_tuple (by decide +kernel) (pa_cons (pv 2) pa_nil)) pa_nil))))))), ?_⟩
    refine ⟨.ref dr, rfl, dr, rfl, hd, fun H1 z s1 d1 z0 z1 => .inl ⟨_, rfl, _, _, rfl, rfl, (by decide : (0 : Int) < 3), _, _, rfl, rfl, ?_⟩⟩
    have m0 : 0 ≤ z % 3 := Int.emod_nonneg _ (by decide)
    have m1 : z % 3 < 3 := Int.emod_lt_of_pos _ (by decide)
    obtain ⟨c, hc⟩ : ∃ c : Nat, 1 + z % 3 = (c : Int) := ⟨(1 + z % 3).toNat, by omega⟩
    refine ⟨Nat.zero_le _, fun R hR => ?_⟩
    have nR := d1.ne_new hR
    have hR0 := none_x s1 d1 hR
    have d2 := d1.upd (o := .lst []) hR
    refine ⟨.ref dr, rfl, dr, rfl, d2, fun H3 y s3 d3 y0 y1 => .inl ⟨_, rfl, _, _, rfl, rfl, (by decide : (0 : Int) < 4), ?_⟩⟩
    have e0 : 0 ≤ y % 4 := Int.emod_nonneg _ (by decide)
    have e1 : y % 4 < 4 := Int.emod_lt_of_pos _ (by decide)
    obtain ⟨m, hm⟩ := Int.eq_ofNat_of_zero_le e0
    refine ⟨(m : Int), by rw [← hm], by omega, by omega, ?_⟩
    rw [Int.toNat_natCast]
    have hR3 : H3 R = some (.lst []) := get_x s3 nR upd_same
    refine for_it (walk_range (lo := 0)) (fun i σ H' => ∃ (y3 y4 y5 y6 : Option V) (vs : List V) (ws : Im), σ = [some (.ref dr), some (.int (c : Int)), some (.ref R), y3, y4, y5, y6] ∧ SameX dr H H' ∧ Drw H' dr ∧ H' R = some (.lst vs) ∧ Paired (TupV K H') vs ws ∧ ws.length = i ∧ ∀ w ∈ ws, w.length ≤ 5 ∧ okW c w = true)
      ⟨none, none, none, none, [], [], by rw [← hc]; rfl, (x_own s1 hR0).trans s3, d3, hR3, .nil, rfl, fun w hw => by cases hw⟩ (fun _ _ _ _ _ => trivial) ?_ ?_
    · rintro i x σ H4 H5 hi ⟨y3, y4, y5, y6, vs, ws, rfl, s4, d4, hR4, pw, lw, bw⟩ ⟨rfl, rfl⟩
      refine ⟨Nat.zero_le _, fun W hW => ?_⟩
      have nW := d4.ne_new hW
      have nWR : W ≠ R := fun q => by rw [q, hR4] at hW; cases hW
      have hW0 := none_x s4 d4 hW
      have d5 := d4.upd (o := .lst []) hW
      refine ⟨.ref dr, rfl, dr, rfl, d5, fun H6 u s6 d6 u0 u1 => .inl ⟨_, rfl, _, _, rfl, rfl, (by decide : (0 : Int) < 6), ?_⟩⟩
      have f0 : 0 ≤ u % 6 := Int.emod_nonneg _ (by decide)
      have f1 : u % 6 < 6 := Int.emod_lt_of_pos _ (by decide)
      obtain ⟨n, hn⟩ := Int.eq_ofNat_of_zero_le f0
      refine ⟨(n : Int), by rw [← hn], by omega, by omega, ?_⟩
      rw [Int.toNat_natCast]
      have hW6 : H6 W = some (.lst (iV [])) := get_x s6 nW upd_same
      have s46 : SameX dr H5 H6 := (x_own (Same.refl _) hW).trans s6
      refine for_it (walk_range (lo := 0)) (fun j σ H' => ∃ (y5 y6 : Option V) (ls : Wd), σ = [some (.ref dr), some (.int (c : Int)), some (.ref R), some (.int (0 + (i : Int))), some (.ref W), y5, y6] ∧ SameX dr H5 H' ∧ Drw H' dr ∧ H' W = some (.lst (iV ls)) ∧ ls.length = j ∧ okW c ls = true)
        ⟨y5, y6, [], rfl, s46, d6, hW6, rfl, rfl⟩ (fun _ _ _ _ _ => trivial) ?_ ?_
      · rintro j x σ H7 H8 hj ⟨y5, y6, ls, rfl, s7, d7, hW7, ll, bl⟩ ⟨rfl, rfl⟩
        have hj : j < n := hj
        refine ⟨.ref dr, rfl, dr, rfl, d7, fun H9 t s9 d9 t0 t1 => .inl ⟨_, rfl, ?_⟩⟩
        have hW9 := get_x s9 nW hW7
        refine ⟨.ref W, rfl, .inl ⟨rfl, _, .of hW9⟩, ?_⟩
        refine ⟨_, rfl, _, _, rfl, rfl, ⟨by decide, by decide⟩, _, rfl, _, _, rfl, rfl, (by omega : (0 : Int) < c), _, _, rfl, rfl, _, rfl, _, _, rfl, rfl, (by decide : (0 : Int) < 2), _, _, rfl, rfl, .inl ⟨by decide, by decide⟩, _, _, rfl, rfl, ?_⟩
        have a0 : 0 ≤ t / 2 % (c : Int) := Int.emod_nonneg _ (by omega)
        have a1 : t / 2 % (c : Int) < c := Int.emod_lt_of_pos _ (by omega)
        have sgn : t % 2 = 0 ∨ t % 2 = 1 := by omega
        have lt0 : (1 + t / 2 % (c : Int)) * (1 - 2 * (t % 2)) ≠ 0 ∧ absI ((1 + t / 2 % (c : Int)) * (1 - 2 * (t % 2))) ≤ c := by
          rcases sgn with h | h <;> rw [h] <;> unfold absI <;> constructor
          · omega
          · split <;> omega
          · omega
          · split <;> omega
        refine ⟨_, _, rfl, rfl, .inl ⟨by omega, by omega⟩, W, _, _, rfl, rfl, hW9, by rw [List.length_map]; exact small1000x (by omega), ?_⟩
        refine ⟨_, _, ls ++ [_], rfl, x_own (s7.trans s9) hW, d9.over nW, by rw [upd_same, iV_app]; rfl, by rw [List.length_append, ll]; rfl, ?_⟩
        unfold okW at bl ⊢
        rw [List.all_append, bl, Bool.true_and]
        show ((decide (_ ≠ 0) && decide (absI _ ≤ _)) && true) = true
        rw [decide_eq_true lt0.1, decide_eq_true lt0.2]
        rfl
      · rintro σ H7 ⟨y5, y6, ls, rfl, s7, d7, hW7, ll, bl⟩
        have ll : ls.length = n := ll
        have hR7 := get_x s7 nR hR4
        refine ⟨.ref R, rfl, .inl ⟨rfl, _, .of hR7⟩, .ref W, rfl, W, _, rfl, .inl ⟨.of hW7, fun p hp => ?_⟩⟩
        have sp := Same.upd (o := .tup (iV ls)) hp
        have hR8 := sp _ _ hR7
        have lvs : vs.length ≤ 4 := by rw [Paired.length pw, lw]; have : i < m := hi; omega
        refine ⟨R, _, _, rfl, rfl, hR8, small1000x (by omega), ?_⟩
        have sx := (s4.trans s7).trans (Same.hid sp)
        refine ⟨_, _, _, _, vs ++ [.ref p], ws ++ [ls], rfl, x_own sx hR0, (d7.to sp).over nR, upd_same, ?_, by rw [List.length_append, lw]; rfl, fun w' hw' => ?_⟩
        · refine paired_snoc (R := TupV K _) (TupV.over hR8 ⟨p, rfl, .of upd_same⟩) (paired_mono (fun _ _ q => TupV.over hR8 (lasts_tup _ _ _ _ sp (TupV.x d4 s7 q))) pw)
        · rcases List.mem_append.mp hw' with h | h
          · exact bw w' h
          · rw [List.mem_singleton.mp h]
            exact ⟨by omega, bl⟩
    · rintro σ H4 ⟨y3, y4, y5, y6, vs, ws, rfl, s4, d4, hR4, pw, lw, bw⟩
      have lw : ws.length = m := lw
      refine ⟨_, rfl, .ref R, rfl, R, _, rfl, .inl ⟨.of hR4, fun p hp => ⟨by show 2 ≤ sizeLine; decide, fun G hG => ?_⟩⟩⟩
      have sp := Same.upd (o := .tup vs) hp
      have sG := Same.upd (o := .tup [V.int (c : Int), V.ref p]) hG
      have S := sp.trans sG
      exact k _ _ c ws (s4.trans (Same.hid S)) (d4.to S) ⟨G, .ref p, rfl, .of upd_same, p, vs, rfl, sG.tup (.of upd_same), paired_mono (fun _ _ q => lasts_tup _ _ _ _ S q) pw⟩ (by omega) (by omega) (by omega) bw
end
end L2.Px

namespace L2.Px
open PySem PySem.Spec PyProof.Rows
/-! ### rounds of images -/
theorem inV_nat59 (l : List Nat) (x : Nat) : inV (.int (x : Int)) (iV (cI l)) = decide (x ∈ l) := by
  unfold inV
  rw [List.any_map]
  apply Bool.eq_iff_iff.mpr
  rw [List.any_eq_true, decide_eq_true_eq]
  constructor
  · rintro ⟨y, hy, e⟩
    have e : (y == (x : Int)) = true := e
    obtain ⟨u, hu, rfl⟩ := List.mem_map.mp hy
    have := beq_iff_eq.mp e
    have : u = x := by omega
    exact this ▸ hu
  · intro h
    exact ⟨(x : Int), List.mem_map.mpr ⟨x, h, rfl⟩, beq_self_eq_true (x : Int)⟩
theorem flat_nat (l : List Nat) : (iV (cI l)).all flatV = true := List.all_eq_true.mpr fun y hy => by
  obtain ⟨z, hz, rfl⟩ := List.mem_map.mp hy
  rfl
def imN (im : List Int) (p : Nat) : Nat := (im.getD p 0).toNat
def nxtO (im : List Int) (l : List Nat) (p : Nat) : Option Nat := if imN im p ∈ l then none else some (imN im p)
def nxt (im : List Int) (l : List Nat) : List Nat := l ++ l.filterMap (nxtO im l)
theorem nxt_mem {im : List Int} {l : List Nat} {x : Nat} (h : x ∈ nxt im l) : x ∈ l ∨ ∃ p ∈ l, x = imN im p := by
  rcases List.mem_append.mp h with h | h
  · exact .inl h
  · obtain ⟨p, hp, e⟩ := List.mem_filterMap.mp h
    unfold nxtO at e
    split at e
    · cases e
    · exact .inr ⟨p, hp, (Option.some.inj e).symm⟩
theorem nxt_im {im : List Int} {l : List Nat} {p : Nat} (h : p ∈ l) : imN im p ∈ nxt im l := by
  by_cases c : imN im p ∈ l
  · exact List.mem_append_left _ c
  · refine List.mem_append_right _ (List.mem_filterMap.mpr ⟨p, h, ?_⟩)
    unfold nxtO
    rw [if_neg c]
theorem imN_inj {d : Nat} {im : List Int} (h : isPm d im = true) {p q : Nat} (hp : p < d) (hq : q < d) (e : imN im p = imN im q) : p = q := by
  have l := isPm_len h
  have nd : im.Nodup := (List.isPerm_iff.mp h).nodup_iff.mpr (by
    refine List.pairwise_map.mpr ?_
    exact List.Pairwise.imp (fun {a b} h z => by omega) (List.pairwise_lt_range (n := d)))
  have gp : ∀ u < d, ∃ hu : u < im.length, im.getD u 0 = im[u] := fun u hu => ⟨by omega, by rw [List.getD_eq_getElem?_getD, List.getElem?_eq_getElem (by omega)]; rfl⟩
  obtain ⟨h1, e1⟩ := gp p hp
  obtain ⟨h2, e2⟩ := gp q hq
  have b1 := (isPm_mem h).mp (List.getElem_mem h1)
  have b2 := (isPm_mem h).mp (List.getElem_mem h2)
  unfold imN at e
  rw [e1, e2] at e
  exact (List.getElem_inj nd).mp (show im[p] = im[q] by omega)
theorem nxt_nd {d : Nat} {im : List Int} (h : isPm d im = true) {l : List Nat} (nd : l.Nodup) (b : ∀ x ∈ l, x < d) : (nxt im l).Nodup := by
  refine List.nodup_append.mpr ⟨nd, ?_, ?_⟩
  · refine List.pairwise_filterMap.mpr (List.Pairwise.imp_of_mem (fun {p q} hp hq ne x hx y hy => ?_) nd)
    unfold nxtO at hx hy
    split at hx
    · cases hx
    · split at hy
      · cases hy
      · cases hx
        cases hy
        exact fun z => ne (imN_inj h (b p hp) (b q hq) z)
  · intro x hx y hy z
    subst z
    obtain ⟨p, hp, e⟩ := List.mem_filterMap.mp hy
    unfold nxtO at e
    split at e
    · cases e
    · rename_i c
      cases e
      exact c hx
structure Rnd (ims : Im) (d k : Nat) (l : List Nat) : Prop where
  nd : l.Nodup
  z : 0 ∈ l
  r : ∀ x ∈ l, x < d ∧ Reach (adjI ims) 0 x
  c : (∀ x ∈ l, ∀ y ∈ adjI ims x, y ∈ l) ∨ k + 1 ≤ l.length
structure Mid (ims : Im) (d j : Nat) (l0 l : List Nat) : Prop where
  nd : l.Nodup
  z : 0 ∈ l
  r : ∀ x ∈ l, x < d ∧ Reach (adjI ims) 0 x
  pre : ∃ m, l = l0 ++ m
  c : ∀ im ∈ ims.take j, ∀ p ∈ l0, imN im p ∈ l
theorem adj_im {ims : Im} {im : List Int} (h : im ∈ ims) (p : Nat) : imN im p ∈ adjI ims p := List.mem_map.mpr ⟨im, h, rfl⟩
theorem Mid.step {ims : Im} {d j : Nat} {l0 l : List Nat} {im : List Int} (hd : IsIm ims d) (h : Mid ims d j l0 l) (hj : ims[j]? = some im) : Mid ims d (j + 1) l0 (nxt im l) := by
  have hm := List.mem_of_getElem? hj
  obtain ⟨m, hm0⟩ := h.pre
  refine ⟨nxt_nd (hd.p im hm) h.nd fun x hx => (h.r x hx).1, List.mem_append_left _ h.z, fun x hx => ?_, ⟨m ++ l.filterMap (nxtO im l), by unfold nxt; rw [← List.append_assoc, ← hm0]⟩, fun i hi p hp => ?_⟩
  · rcases nxt_mem hx with h1 | ⟨p, hp, rfl⟩
    · exact h.r x h1
    · obtain ⟨a, b⟩ := h.r p hp
      exact ⟨adj_lt hd p a _ (adj_im hm p), .step b (adj_im hm p)⟩
  · rw [take_snoc hj] at hi
    rcases List.mem_append.mp hi with h1 | h1
    · exact List.mem_append_left _ (h.c i h1 p hp)
    · rw [List.mem_singleton.mp h1]
      exact nxt_im (by rw [hm0]; exact List.mem_append_left _ hp)
theorem Mid.done {ims : Im} {d k : Nat} {l0 l : List Nat} (h0 : Rnd ims d k l0) (h : Mid ims d ims.length l0 l) : Rnd ims d (k + 1) l := by
  obtain ⟨m, hm⟩ := h.pre
  have hc := h.c
  rw [List.take_length] at hc
  have cl : m = [] → ∀ x ∈ l, ∀ y ∈ adjI ims x, y ∈ l := fun e x hx y hy => by
    rw [e, List.append_nil] at hm
    obtain ⟨im, hi, rfl⟩ := List.mem_map.mp hy
    exact hc im hi x (by rw [← hm]; exact hx)
  refine ⟨h.nd, h.z, h.r, ?_⟩
  cases m with
  | nil => exact .inl (cl rfl)
  | cons u m =>
    rcases h0.c with q | q
    · have hu : u ∈ l := by rw [hm]; exact List.mem_append_right _ List.mem_cons_self
      have := (h.r u hu).2.inn h0.z q
      have nd := h.nd
      rw [hm] at nd
      exact absurd rfl ((List.nodup_append.mp nd).2.2 u this u List.mem_cons_self)
    · refine .inr ?_
      rw [hm, List.length_append, List.length_cons]
      omega
theorem Rnd.fin {ims : Im} {d : Nat} {l : List Nat} (hd : (ims.getD 0 []).length = d) (h : Rnd ims d d l) : (((List.range d).map fun i => decide (i ∈ l)).all id = true) ↔ transP ims := by
  have cl : ∀ x ∈ l, ∀ y ∈ adjI ims x, y ∈ l := by
    rcases h.c with q | q
    · exact q
    · have := nd_len h.nd fun x hx => (h.r x hx).1
      omega
  rw [List.all_map]
  unfold transP
  rw [hd, List.all_eq_true]
  constructor
  · intro z x hx
    exact (h.r x (of_decide_eq_true (z x (List.mem_range.mpr hx)))).2
  · intro z x hx
    exact decide_eq_true ((z x (List.mem_range.mp hx)).inn h.z cl)
section
variable {P : Program} {w : World} {K : PySem.W.Frag} {mg : Str → Option Value} {base : Heap}
/-! ### _law_transitive -/
def sp__law_transitive (K : PySem.W.Frag) : Sp := fun vs H Q _ => ∃ (v : V) (ims : Im) (d : Nat), vs = [v] ∧ ImV K H v ims ∧ ims.length ≤ 1000 ∧ IsIm ims d ∧ ∀ (b : Bool) H', Same H H' → (b = true ↔ transP ims) → Q (.bl b) H'
theorem ok__law_transitive {f : Addr} {fd : FuncData} (F : Fun K "_law_transitive" "_law_transitive" s__law_transitive f fd) (N : Nm mg) :
    FnOk P w K mg base CX0 1 f fd ["images"] (sp__law_transitive K) := by
  refine F.ok sc__law_transitive (fun vs H Q E h => ?_) (fun cdv A outer s H vs Q E hr h => ?_)
  · obtain ⟨v, ims, d, rfl, _⟩ := h
    rfl
  · obtain ⟨v, ims, d, rfl, hI, hl, hd, k⟩ := h
    refine ⟨_, pss_cons (ps_set (i := 1) sc__law_transitive.nd rfl (.inr rfl) (pe_lst (pa_cons pe_int pa_nil)))
      (pss_cons (ps_for PassesOwn.never rfl (pi_range1 (by rfl) N.n_range (pa_cons (pe_callB call_len_seq (by rfl) N.n_len PySem.boot_len (pa_cons (pe_ix ix_tup (pv 0) pe_int (fun _ _ => rfl)) pa_nil)) pa_nil)) (pg_name (i := 2) sc__law_transitive.nd rfl (.inl rfl)) (pss_one (ps_for PassesOwn.never rfl (pi_tup (pv 0)) (pg_name (i := 3) sc__law_transitive.nd rfl (.inr rfl)) (pss_one (ps_set (i := 1) sc__law_transitive.nd rfl (.inr rfl) (pe_op op_cat (pv 1) (pe_lc (own := [("point", 4)]) (g := gName 4) (tt := tTest (tOp (rIn K true) (tOp (rIxT K) (tVar 3) (tVar 4)) (tVar 1))) (te := tOp (rIxT K) (tVar 3) (tVar 4)) rfl sc__law_transitive.nd (pi_list (pv 1)) (blkOk_by (N := n__law_transitive) (sc := defScope s__law_transitive) (by decide +kernel)) (fun _ _ _ _ _ => (pg_name (i := 4) sc__law_transitive.nd rfl (.inl rfl))) (fun _ _ _ _ _ => (pts_one (pt_cmpR op_notIn_seq (pe_ix ix_tup (pv 3) (pv 4) (fun _ _ => rfl)) (pv 1) (by rfl)))) (fun _ _ _ _ _ => (pe_ix ix_tup (pv 3) (pv 4) (fun _ _ => rfl))))))))))
      (pss_one (ps_ret (pe_callB (cr_all rfl) (by rfl) N.n_all (by decide +kernel) (pa_cons (pe_lc (own := [("point", 4)]) (g := gName 4) (tt := tYes) (te := tOp (rIn K false) (tVar 4) (tVar 1)) rfl sc__law_transitive.nd (pi_range1 (by rfl) N.n_range (pa_cons (pe_callB call_len_seq (by rfl) N.n_len PySem.boot_len (pa_cons (pe_ix ix_tup (pv 0) pe_int (fun _ _ => rfl)) pa_nil)) pa_nil)) (blkOk_by (N := n__law_transitive) (sc := defScope s__law_transitive) (by decide +kernel)) (fun _ _ _ _ _ => (pg_name (i := 4) sc__law_transitive.nd rfl (.inl rfl))) (fun _ _ _ _ _ => pts_nil) (fun _ _ _ _ _ => (pe_cmpR op_in_seq (pv 4) (pv 1) (by rfl)))) pa_nil))))), ?_⟩
    have ld := hd.l
    have hd4 := hd.d4
    have hd1 := hd.d1
    obtain ⟨A, vs, rfl, hA, pA⟩ := hI
    have lv := Paired.length pA
    obtain ⟨v0, h0, a0, rfl, ha0⟩ := paired_at pA (i := 0) (y := ims.getD 0 []) (by rw [List.getD_eq_getElem?_getD, List.getElem?_eq_getElem hd.pos]; rfl)
    refine ⟨by show 1 ≤ sizeLine; decide, fun D0 hD0 => ?_⟩
    have s0 := Same.upd (o := .lst [V.int 0]) hD0
    refine ⟨.ref A, rfl, A, vs, 0, .ref a0, rfl, rfl, s0.tup hA, atI_nat (j := 0) h0, a0, _, rfl, .inr (s0.tup ha0), ?_⟩
    rw [List.length_map, ld]
    refine ⟨(d : Int), rfl, by omega, by omega, ?_⟩
    rw [Int.toNat_natCast]
    refine for_it (walk_range (lo := 0)) (fun i σ H' => ∃ (D : Addr) (y2 y3 : Option V) (l : List Nat), σ = [some (.ref A), some (.ref D), y2, y3, none] ∧ Same H H' ∧ H' D = some (.lst (iV (cI l))) ∧ Rnd ims d i l)
      ⟨D0, none, none, [0], rfl, s0, upd_same, ⟨by simp, List.mem_cons_self, fun x hx => by rw [List.mem_singleton.mp hx]; exact ⟨hd1, .refl⟩, .inr (Nat.le_refl _)⟩⟩ (fun _ _ _ _ _ => trivial) ?_ ?_
    · rintro i x σ H1 H2 hi ⟨D, y2, y3, l0, rfl, s1, hD1, R0⟩ ⟨rfl, rfl⟩
      refine ⟨.ref A, rfl, A, rfl, ⟨_, s1.tup hA⟩, ?_⟩
      refine for_it (walk_tup (K := K) (a := A) (xs := vs)) (fun j σ H' => ∃ (D : Addr) (y3 : Option V) (l : List Nat), σ = [some (.ref A), some (.ref D), some (.int (0 + (i : Int))), y3, none] ∧ Same H H' ∧ H' D = some (.lst (iV (cI l))) ∧ Mid ims d j l0 l)
        ⟨D, y3, l0, rfl, s1, hD1, ⟨R0.nd, R0.z, R0.r, ⟨[], (List.append_nil _).symm⟩, fun im h => by (cases h)⟩⟩ (fun _ _ _ _ ⟨_, _, _, _, s, _⟩ => s.tup hA) ?_ ?_
      · rintro j y σ H3 H4 hj ⟨D, y3, l, rfl, s3, hD3, M⟩ ⟨rfl, hy⟩
        obtain ⟨im, hi', b, rfl, hb⟩ := paired_get pA hy
        have pm := hd.p im (List.mem_of_getElem? hi')
        have lm := isPm_len pm
        have ll := nd_len M.nd fun x hx => (M.r x hx).1
        have at_ : ∀ {q : Nat}, q ∈ l → ∀ H', Same H H' → rIxT K (.ref b) (.int (q : Int)) H' = rIxT K (.ref b) (.int (q : Int)) H' := fun _ _ _ => rfl
        have gt : ∀ q ∈ l, im.getD q 0 = ((imN im q : Nat) : Int) ∧ q < im.length := fun q hq => by
          have := (M.r q hq).1
          have h1 := (isPm_mem pm).mp (show im.getD q 0 ∈ im by
            rw [List.getD_eq_getElem?_getD, List.getElem?_eq_getElem (by omega)]
            exact List.getElem_mem _)
          unfold imN
          exact ⟨by omega, by omega⟩
        refine ⟨.ref D, rfl, .ref D, rfl, D, rfl, ⟨_, .of hD3⟩, fun D2 hD2 => lc_filt (walk_list (K := K) (a := D) (xs := iV (cI l))) RInt lasts_int (fun i => Option.map (fun x : Nat => (x : Int)) (nxtO im l (l.getD i 0))) hD2 (by rw [List.length_map, List.length_map]; omega) (fun H' s => .of (s _ _ hD3)) ?_ ?_⟩
        · rintro i z H5 H6 hi s5 ⟨rfl, hz⟩ Nx k1 k2
          obtain ⟨u, hu, rfl⟩ := iV_get hz
          obtain ⟨q, hq, rfl⟩ : ∃ q : Nat, l[i]? = some q ∧ u = (q : Int) := by
            rw [List.getElem?_map] at hu
            cases e : l[i]? with
            | none => rw [e] at hu; cases hu
            | some y => rw [e] at hu; exact ⟨y, rfl, (Option.some.inj hu).symm⟩
          have qm := List.mem_of_getElem? hq
          obtain ⟨g1, g2⟩ := gt q qm
          have eq : l.getD i 0 = q := by rw [List.getD_eq_getElem?_getD, hq]; rfl
          rw [eq] at k1 k2
          have hb6 := s5.tup (s3.tup hb)
          have ix : ∀ {Q : VK}, Q (.int ((imN im q : Nat) : Int)) H6 → rIxT K (.ref b) (.int (q : Int)) H6 Q := fun h => ⟨b, _, _, _, rfl, rfl, hb6, by
            have h3 := getD_at (l := im) (n := (q : Int)) (by omega) (by omega)
            rwa [Int.toNat_natCast, g1] at h3, h⟩
          refine ⟨rfl, .ref b, rfl, _, rfl, ix ⟨.ref D, rfl, D, _, rfl, .inl (.of (s5 _ _ hD3)), rfl, flat_nat l, _, rfl, ?_⟩⟩
          show if (!inV (.int ((imN im q : Nat) : Int)) (iV (cI l))) = true then _ else _
          rw [inV_nat59]
          by_cases c : imN im q ∈ l
          · rw [decide_eq_true c]
            refine iteF (k2 _ ?_ (Same.refl _))
            unfold nxtO
            rw [if_pos c]
            rfl
          · rw [decide_eq_false c]
            refine iteT ⟨.ref b, rfl, _, rfl, ix (k1 _ _ ((imN im q : Nat) : Int) ?_ (Same.refl _) rfl)⟩
            unfold nxtO
            rw [if_neg c]
            rfl
        · intro H5 ws s5 hd5 p
          have e := paired_int p
          have e2 : (List.range (iV (cI l)).length).filterMap (fun i => Option.map (fun x : Nat => (x : Int)) (nxtO im l (l.getD i 0))) = cI (l.filterMap (nxtO im l)) := by
            rw [List.length_map, List.length_map]
            unfold cI
            rw [List.map_filterMap]
            have e3 : l = (List.range l.length).map fun i => l.getD i 0 := by
              have := map_get l (fun x => x) 0
              rwa [List.map_id'] at this
            exact ((congrArg (List.filterMap fun a => Option.map (fun x : Nat => (x : Int)) (nxtO im l a)) e3).trans List.filterMap_map).symm
          rw [e2] at e
          subst e
          have M2 := M.step hd hi'
          have l2 := nd_len M2.nd fun x hx => (M2.r x hx).1
          refine ⟨D, D2, _, _, rfl, rfl, s5 _ _ hD3, hd5, ?_, fun D4 hD4 => ?_⟩
          · unfold nxt at l2
            rw [List.length_append] at l2
            rw [List.length_map, List.length_map, List.length_map, List.length_map]
            exact Nat.le_of_lt (small1000x (by omega))
          · refine ⟨D4, _, nxt im l, rfl, s3.trans (s5.trans (Same.upd hD4)), ?_, M2⟩
            rw [upd_same]
            unfold nxt
            rw [cI_app, iV_app]
      · rintro σ H3 ⟨D, y3, l, rfl, s3, hD3, M⟩
        rw [lv] at M
        exact ⟨D, _, _, l, rfl, s3, hD3, Mid.done R0 M⟩
    · rintro σ H1 ⟨D, y2, y3, l, rfl, s1, hD1, R⟩
      have R : Rnd ims d d l := R
      have fin := R.fin ld
      refine ⟨.ref A, rfl, A, vs, 0, .ref a0, rfl, rfl, s1.tup hA, atI_nat (j := 0) h0, a0, _, rfl, .inr (s1.tup ha0), ?_⟩
      rw [List.length_map, ld]
      refine ⟨(d : Int), rfl, by omega, by omega, ?_⟩
      rw [Int.toNat_natCast]
      refine fun D2 hD2 => lc_map (walk_range (lo := 0)) RBl lasts_bl (fun i => decide (i ∈ l)) hD2 (by omega) (fun H' s => trivial) ?_ ?_
      · rintro i z H5 H6 hi s5 ⟨rfl, rfl⟩ Nx kk
        have ei : 0 + (i : Int) = (i : Int) := by omega
        refine ⟨rfl, _, rfl, .ref D, rfl, D, _, rfl, .inl (.of (s5 _ _ hD1)), rfl, flat_nat l, kk _ _ (Same.refl _) ?_⟩
        show V.bl (inV (.int (0 + (i : Int))) (iV (cI l))) = V.bl _
        rw [ei, inV_nat59]
      · intro H5 ws s5 hd5 p
        have e := paired_bl p
        subst e
        exact ⟨D2, _, rfl, .of hd5, k _ H5 (s1.trans s5) fin⟩
end
end L2.Px

namespace L2.Px
open PySem PySem.Spec PyProof.Rows
/-! ### _law_told -/
inductive ToldR (H : Hp) (c : Int) (rel ims : Im) (w : Wd) : Nat → V → Prop
  | img (p : Addr) : isIm ims = true → okW ims.length w = true → H p = some (.tup (iV (imgW ims w))) → ToldR H c rel ims w 0 (.ref p)
  | word : isIm ims = true → okW ims.length w = false → ToldR H c rel ims w 0 (.str "word")
  | im0 : isIm ims = false → ToldR H c rel ims w 0 (.str "images")
  | grp : grpB c rel = false → ToldR H c rel ims w 1 (.str "group")
  | im1 : grpB c rel = true → ¬ ((ims.length : Int) = c ∧ isIm ims = true) → ToldR H c rel ims w 1 (.str "images")
  | sat : grpB c rel = true → (ims.length : Int) = c → isIm ims = true → ToldR H c rel ims w 1 (.bl (rel.all (movB ims)))
  | im2 : isIm ims = false → ToldR H c rel ims w 2 (.str "images")
  | tr (b : Bool) : isIm ims = true → (b = true ↔ transP ims) → ToldR H c rel ims w 2 (.bl b)
  | im3 : ¬ ((ims.length : Int) = c ∧ isIm ims = true) → ToldR H c rel ims w 3 (.str "images")
  | non : (ims.length : Int) = c → isIm ims = true → ToldR H c rel ims w 3 .non
theorem nat_eq {a b : Nat} : decide (V.int (a : Int) = V.int (b : Int)) = decide (a = b) := by
  by_cases e : a = b
  · subst e; simp
  · rw [decide_eq_false e, decide_eq_false]
    intro z
    injection z with z
    omega
section
variable {P : Program} {w : World} {K : PySem.W.Frag} {mg : Str → Option Value} {base : Heap}
def sp__law_told (K : PySem.W.Frag) : Sp := fun vs H Q _ => ∃ (wh : Nat) (g v : V) (a : Addr) (c : Int) (rel ims : Im) (w : Wd), vs = [.int (wh : Int), g, v, .ref a] ∧ wh < 4 ∧ GrV K H g c rel ∧ rel.length ≤ 1000 ∧ (∀ w ∈ rel, w.length ≤ 1000) ∧ ImV K H v ims ∧ (isIm ims = true → ImF K H v ims) ∧ ims.length ≤ 1000 ∧ SqT K H a (iV w) ∧ w.length ≤ 1000 ∧
  ∀ H' r, Same H H' → ToldR H' c rel ims w wh r → Q r H'
theorem ok__law_told {f : Addr} {fd : FuncData} {f_check_images : Addr} {d_check_images : FuncData} {f_permutation_of : Addr} {d_permutation_of : FuncData} {f_satisfies : Addr} {d_satisfies : FuncData} {f_is_transitive : Addr} {d_is_transitive : FuncData} {c_NotGroup : Addr} {c_NotImages : Addr} {c_NotWord : Addr} (F : Fun K "_law_told" "_law_told" s__law_told f fd) (N : Nm mg) (B_NotGroup : ExN K mg "NotGroup" c_NotGroup) (B_NotImages : ExN K mg "NotImages" c_NotImages) (B_NotWord : ExN K mg "NotWord" c_NotWord)
    (t_check_images : At K mg "check_images" s_check_images ["count", "images"] f_check_images d_check_images) (G_check_images : FnOk P w K mg base (L2.CX P w) 2 f_check_images d_check_images ["count", "images"] (sp_check_images K c_NotImages))
    (t_permutation_of : At K mg "permutation_of" s_permutation_of ["images", "word"] f_permutation_of d_permutation_of) (G_permutation_of : FnOk P w K mg base (L2.CX P w) 3 f_permutation_of d_permutation_of ["images", "word"] (sp_permutation_of K c_NotImages c_NotWord))
    (t_satisfies : At K mg "satisfies" s_satisfies ["group", "images"] f_satisfies d_satisfies) (G_satisfies : FnOk P w K mg base (L2.CX P w) 3 f_satisfies d_satisfies ["group", "images"] (sp_satisfies K c_NotGroup c_NotImages))
    (t_is_transitive : At K mg "is_transitive" s_is_transitive ["images"] f_is_transitive d_is_transitive) (G_is_transitive : FnOk P w K mg base (L2.CX P w) 3 f_is_transitive d_is_transitive ["images"] (sp_is_transitive K c_NotImages)) (m_GG : PySem.W.exmOne K (.ref c_NotGroup) (.ref c_NotGroup) = some true) (m_IG : PySem.W.exmOne K (.ref c_NotImages) (.ref c_NotGroup) = some false) (m_II : PySem.W.exmOne K (.ref c_NotImages) (.ref c_NotImages) = some true) (m_WG : PySem.W.exmOne K (.ref c_NotWord) (.ref c_NotGroup) = some false) (m_WI : PySem.W.exmOne K (.ref c_NotWord) (.ref c_NotImages) = some false) (m_WW : PySem.W.exmOne K (.ref c_NotWord) (.ref c_NotWord) = some true) :
    FnOk P w K mg base CX0 4 f fd ["which", "group", "images", "word"] (sp__law_told K) := by
  refine F.ok sc__law_told (fun vs H Q E h => ?_) (fun cdv A outer s H vs Q E hr h => ?_)
  · obtain ⟨wh, g, v, a, c, rel, ims, w, rfl, _⟩ := h
    rfl
  · obtain ⟨wh, g, v, a, c, rel, ims, w, rfl, hw4, hg, hl, hl2, hI, hF, hl3, ha, hl4, k⟩ := h
    refine ⟨_, pss_one (ps_try_cl (tb := fun W => tSeq (tIfS (tTest (tOp (rEq) (tVar 0) (L2.tC (.int 0)))) (tRet (tCallS (sp_permutation_of K c_NotImages c_NotWord) (WE W) (tCons (tVar 2) (tCons (tVar 3) (tNil))))) (tNext)) (tSeq (tIfS (tTest (tOp (rEq) (tVar 0) (L2.tC (.int 1)))) (tRet (tCallS (sp_satisfies K c_NotGroup c_NotImages) (WE W) (tCons (tVar 1) (tCons (tVar 2) (tNil))))) (tNext)) (tSeq (tIfS (tTest (tOp (rEq) (tVar 0) (L2.tC (.int 2)))) (tRet (tCallS (sp_is_transitive K c_NotImages) (WE W) (tCons (tVar 2) (tNil)))) (tNext)) (tRet (tCallS (sp_check_images K c_NotImages) (WE W) (tCons (tOp (rIxT K) (tVar 1) (L2.tC (.int 0))) (tCons (tVar 2) (tNil)))))))) (Wo := fun _ _ _ _ => False) (cs := [⟨.ref c_NotGroup, none, fun a cls d => tRet (L2.tC (.str "group"))⟩, ⟨.ref c_NotImages, none, fun a cls d => tRet (L2.tC (.str "images"))⟩, ⟨.ref c_NotWord, none, fun a cls d => tRet (L2.tC (.str "word"))⟩]) rfl rfl sc__law_told.nd takes0
      (fun W pn xe tk _ => pss_cons (ps_if (pt_cmpR op_eq (pv 0) pe_int (nomark _)) (pss_one (ps_ret (by exact (pe_callS G_permutation_of (hr.mono (by decide)) rfl t_permutation_of.g t_permutation_of.F.kp t_permutation_of.b (fun σ => passAt tk σ) (pa_cons (pv 2) (pa_cons (pv 3) pa_nil)))))) pss_nil)
      (pss_cons (ps_if (pt_cmpR op_eq (pv 0) pe_int (nomark _)) (pss_one (ps_ret (by exact (pe_callS G_satisfies (hr.mono (by decide)) rfl t_satisfies.g t_satisfies.F.kp t_satisfies.b (fun σ => passAt tk σ) (pa_cons (pv 1) (pa_cons (pv 2) pa_nil)))))) pss_nil)
      (pss_cons (ps_if (pt_cmpR op_eq (pv 0) pe_int (nomark _)) (pss_one (ps_ret (by exact (pe_callS G_is_transitive (hr.mono (by decide)) rfl t_is_transitive.g t_is_transitive.F.kp t_is_transitive.b (fun σ => passAt tk σ) (pa_cons (pv 2) pa_nil))))) pss_nil)
      (pss_one (ps_ret (by exact (pe_callS G_check_images (hr.mono (by decide)) rfl t_check_images.g t_check_images.F.kp t_check_images.b (fun σ => passAt tk σ) (pa_cons (pe_ix ix_tup (pv 1) pe_int (fun _ _ => rfl)) (pa_cons (pv 2) pa_nil)))))))))
      (.bare ⟨rfl, by decide, .inl B_NotGroup.g⟩ (fun a ob cls d pn hz hf => pss_one (ps_ret pe_str)) (.bare ⟨rfl, by decide, .inl B_NotImages.g⟩ (fun a ob cls d pn hz hf => pss_one (ps_ret pe_str)) (.bare ⟨rfl, by decide, .inl B_NotWord.g⟩ (fun a ob cls d pn hz hf => pss_one (ps_ret pe_str)) .nil)))), ?_⟩
    refine ⟨_, rfl, rfl, _, rfl, ?_⟩
    rw [show decide (V.int (wh : Int) = V.int 0) = decide (wh = 0) from nat_eq (b := 0)]
    refine ite2 (fun c0 => ?_) (fun c0 => ?_)
    · have c0 : wh = 0 := of_decide_eq_true c0
      subst c0
      refine ⟨v, rfl, .ref a, rfl, v, a, ims, w, rfl, hI, hF, ha, hl4, hl3, fun e H1 s1 => ?_, fun e1 e2 H1 s1 => ?_, fun e1 e2 H1 p s1 hp => k H1 _ s1 (.img p e1 e2 hp)⟩
      · exact ⟨false, m_IG, (fun z => by cases z), fun _ => ⟨true, m_II, fun _ x hx => k H1 _ s1 (.im0 e), fun z => by cases z⟩⟩
      · exact ⟨false, m_WG, (fun z => by cases z), fun _ => ⟨false, m_WI, (fun z => by cases z), fun _ => ⟨true, m_WW, fun _ x hx => k H1 _ s1 (.word e1 e2), fun z => by cases z⟩⟩⟩
    · have c0 : ¬ wh = 0 := fun z => c0 (decide_eq_true z)
      refine ⟨_, rfl, rfl, _, rfl, ?_⟩
      rw [show decide (V.int (wh : Int) = V.int 1) = decide (wh = 1) from nat_eq (b := 1)]
      refine ite2 (fun c1 => ?_) (fun c1 => ?_)
      · have c1 : wh = 1 := of_decide_eq_true c1
        subst c1
        refine ⟨g, rfl, v, rfl, g, v, c, rel, ims, rfl, hg, hl, hl2, hI, hF, hl3, fun e H1 s1 => ?_, fun e1 e2 H1 s1 => ?_, fun e1 e2 e3 H1 s1 => k H1 _ s1 (.sat e1 e2 e3)⟩
        · exact ⟨true, m_GG, fun _ x hx => k H1 _ s1 (.grp e), fun z => by cases z⟩
        · exact ⟨false, m_IG, (fun z => by cases z), fun _ => ⟨true, m_II, fun _ x hx => k H1 _ s1 (.im1 e1 e2), fun z => by cases z⟩⟩
      · have c1 : ¬ wh = 1 := fun z => c1 (decide_eq_true z)
        refine ⟨_, rfl, rfl, _, rfl, ?_⟩
        rw [show decide (V.int (wh : Int) = V.int 2) = decide (wh = 2) from nat_eq (b := 2)]
        refine ite2 (fun c2 => ?_) (fun c2 => ?_)
        · have c2 : wh = 2 := of_decide_eq_true c2
          subst c2
          refine ⟨v, rfl, v, ims, rfl, hI, hl3, fun e H1 s1 => ?_, fun e b H1 s1 hb => k H1 _ s1 (.tr b e hb)⟩
          exact ⟨false, m_IG, (fun z => by cases z), fun _ => ⟨true, m_II, fun _ x hx => k H1 _ s1 (.im2 e), fun z => by cases z⟩⟩
        · have c2 : ¬ wh = 2 := fun z => c2 (decide_eq_true z)
          have c3 : wh = 3 := by omega
          subst c3
          obtain ⟨G, z, rfl, hG, hz⟩ := hg
          refine ⟨.ref G, rfl, G, _, 0, .int c, rfl, rfl, hG, atI_nat (j := 0) rfl, v, rfl, v, ims, c, rfl, hI, hl3, fun e1 e2 H1 s1 => k H1 _ s1 (.non e1 e2), fun e H1 s1 => ?_⟩
          exact ⟨false, m_IG, (fun z => by cases z), fun _ => ⟨true, m_II, fun _ x hx => k H1 _ s1 (.im3 e), fun z => by cases z⟩⟩
end
end L2.Px

namespace L2.Px
open PySem PySem.Spec PyProof.Rows
/-! ### _law_rest -/
theorem cutV_to59 (l : List V) (k : Nat) (h : k ≤ l.length) : cutV l none (some (k : Int)) = l.take k := by
  unfold cutV
  rw [HT.sIx_none, HT.sIx_nat, List.drop_zero, Nat.min_eq_left h, Nat.sub_zero]
theorem cutV_from59 (l : List V) (k : Nat) (h : k ≤ l.length) : cutV l (some (k : Int)) none = l.drop k := by
  unfold cutV
  rw [HT.sIx_none, HT.sIx_nat, Nat.min_eq_left h]
  rw [List.take_of_length_le (by rw [List.length_drop]; omega)]
theorem paired_take59 {α β : Type} {R : α → β → Prop} : ∀ {xs : List α} {ys : List β} (i : Nat), Paired R xs ys → Paired R (xs.take i) (ys.take i)
  | _, _, 0, _ => .nil
  | _, _, _ + 1, .nil => .nil
  | _, _, i + 1, .cons a b => .cons a (paired_take59 i b)
theorem paired_drop59 {α β : Type} {R : α → β → Prop} : ∀ {xs : List α} {ys : List β} (i : Nat), Paired R xs ys → Paired R (xs.drop i) (ys.drop i)
  | _, _, 0, h => h
  | _, _, _ + 1, .nil => .nil
  | _, _, i + 1, .cons a b => paired_drop59 i b
theorem paired_app59 {α β : Type} {R : α → β → Prop} : ∀ {xs xs' : List α} {ys ys' : List β}, Paired R xs ys → Paired R xs' ys' → Paired R (xs ++ xs') (ys ++ ys')
  | _, _, _, _, .nil, h => h
  | _, _, _, _, .cons a b, h => .cons a (paired_app59 b h)
def badI : Nat → List Int
  | 0 => [0, 0]
  | 1 => [1]
  | 2 => [0, 1, 2, 3, 4]
  | 3 => []
  | _ => [-1, 0]
def badIm (ims : Im) (at_ ch : Nat) : Im := ims.take at_ ++ [badI ch] ++ ims.drop (at_ + 1)
theorem badI_no : ∀ ch < 5, ∀ d, 1 ≤ d → d ≤ 4 → isPm d (badI ch) = false := by
  intro ch h d h1 h4
  have e : ∀ ch : Fin 5, ∀ d : Fin 5, 1 ≤ d.val → isPm d.val (badI ch.val) = false := by decide
  exact e ⟨ch, h⟩ ⟨d, by omega⟩ h1
theorem bad_no (ims : Im) (at_ : Nat) {ch : Nat} (h : ch < 5) : isIm (badIm ims at_ ch) = false := by
  cases e : isIm (badIm ims at_ ch) with
  | false => rfl
  | true =>
    have hd := isIm_of e
    have := hd.p (badI ch) (List.mem_append_left _ (List.mem_append_right _ (List.mem_singleton.mpr rfl)))
    rw [badI_no ch h _ hd.d1 hd.d4] at this
    cases this
theorem told_bad {H : Hp} {c : Int} {rel ims : Im} {w : Wd} {wh : Nat} {r : V} (h : ToldR H c rel ims w wh r) (hg : grpB c rel = true) (hi : isIm ims = false) : r = .str "images" := by
  cases h <;> first | rfl | (rename_i e _ _; rw [hi] at e; cases e) | (rename_i e _; rw [hi] at e; cases e) | (rename_i e; rw [hg] at e; cases e) | (rename_i e; rw [hi] at e; cases e)
theorem told_len {H : Hp} {c : Int} {rel ims : Im} {w : Wd} {wh : Nat} {r : V} (h : ToldR H c rel ims w wh r) (hg : grpB c rel = true) (hi : ¬ (ims.length : Int) = c) (hw : wh = 1 ∨ wh = 3) : r = .str "images" := by
  cases h <;> first | rfl | omega | (rename_i e; rw [hg] at e; cases e) | (rename_i e _; exact absurd e hi)
theorem told_word {H : Hp} {c : Int} {rel ims : Im} {w : Wd} {r : V} (h : ToldR H c rel ims w 0 r) (hi : isIm ims = true) (hw : okW ims.length w = false) : r = .str "word" := by
  cases h with
  | img p _ e => rw [hw] at e; cases e
  | word => rfl
  | im0 e => rw [hi] at e; cases e
theorem told_grp {H : Hp} {c : Int} {rel ims : Im} {w : Wd} {r : V} (h : ToldR H c rel ims w 1 r) (hg : grpB c rel = false) : r = .str "group" := by
  cases h with
  | grp => rfl
  | im1 e => rw [hg] at e; cases e
  | sat e => rw [hg] at e; cases e
theorem ok_app {c : Int} {w : Wd} {x : Int} (h : x = 0 ∨ c < absI x) : okW c (w ++ [x]) = false := by
  unfold okW
  rw [List.all_append]
  have : ([x].all fun x => decide (x ≠ 0) && decide (absI x ≤ c)) = false := by
    show ((decide (x ≠ 0) && decide (absI x ≤ c)) && true) = false
    rcases h with h | h
    · rw [decide_eq_false (not_not_intro h)]
      rfl
    · rw [decide_eq_false (show ¬ absI x ≤ c by omega), Bool.and_false]
      rfl
  rw [this, Bool.and_false]
theorem grp_app {c : Int} {rel : Im} {x : Int} (h : x = 0 ∨ c < absI x) : grpB c (rel ++ [[x]]) = false := by
  unfold grpB
  rw [List.all_append]
  have : ([[x]].all (okW c)) = false := by
    show (okW c [x] && true) = false
    have := ok_app (w := []) h
    rw [List.nil_append] at this
    rw [this]
    rfl
  rw [this, Bool.and_false, Bool.and_false]
section
variable {P : Program} {w : World} {K : PySem.W.Frag} {mg : Str → Option Value} {base : Heap}
def sp__law_rest (K : PySem.W.Frag) : Sp := fun vs H Q _ => ∃ (g v : V) (a : Addr) (c : Nat) (at_ ch : Nat) (rel ims : Im) (w : Wd) (d : Nat), vs = [g, v, .ref a, .int (at_ : Int), .int (ch : Int)] ∧ GrV K H g c rel ∧ rel.length ≤ 3 ∧ (∀ w ∈ rel, w.length ≤ 5) ∧ grpB c rel = true ∧ ImF K H v ims ∧ IsIm ims d ∧ ims.length = c ∧ c ≤ 3 ∧ SqT K H a (iV w) ∧ w.length ≤ 8 ∧ at_ < c ∧ ch < 5 ∧ ∀ H', Q (.bl true) H'
theorem ok__law_rest {f : Addr} {fd : FuncData} {f__law_told : Addr} {d__law_told : FuncData} (F : Fun K "_law_rest" "_law_rest" s__law_rest f fd) (N : Nm mg)
    (t__law_told : At K mg "_law_told" s__law_told ["which", "group", "images", "word"] f__law_told d__law_told) (G__law_told : FnOk P w K mg base CX0 4 f__law_told d__law_told ["which", "group", "images", "word"] (sp__law_told K)) :
    FnOk P w K mg base CX0 5 f fd ["group", "images", "word", "at", "choice"] (sp__law_rest K) := by
  refine F.ok sc__law_rest (fun vs H Q E h => ?_) (fun cdv A outer s H vs Q E hr h => ?_)
  · obtain ⟨g, v, a, c, at_, ch, rel, ims, w, d, rfl, _⟩ := h
    rfl
  · obtain ⟨g, v, a, c, at_, ch, rel, ims, w, d, rfl, hg, hl, hl2, hgb, hF, hd, hc, hc3, ha, hl4, hat, hch, k⟩ := h
    have hu := hr.units
    refine ⟨_, pss_cons (ps_set (i := 5) sc__law_rest.nd rfl (.inl rfl) (pe_op op_catS (pe_op op_catS (pe_slice sl_tupS (pv 1) po_none (po_some (pv 3))) (pe_tup (pa_cons (pe_ix ix_list (pe_lst (pa_cons (pe_tup (pa_cons pe_int (pa_cons pe_int pa_nil))) (pa_cons (pe_tup (pa_cons pe_int pa_nil)) (pa_cons (pe_tup (pa_cons pe_int (pa_cons pe_int (pa_cons pe_int (pa_cons pe_int (pa_cons pe_int pa_nil)))))) (pa_cons (pe_tup pa_nil) (pa_cons (pe_tup (pa_cons (pe_un un_neg pe_int) (pa_cons pe_int pa_nil))) pa_nil)))))) (pv 4) (fun _ _ => rfl)) pa_nil))) (pe_slice sl_tupS (pv 1) (po_some (pe_op op_add (pv 3) pe_int)) po_none)))
      (pss_cons (ps_for PassesOwn.never rfl (pi_range1 (by rfl) N.n_range (pa_cons pe_int pa_nil)) (pg_name (i := 6) sc__law_rest.nd rfl (.inl rfl)) (pss_one (ps_if (pt_cmpR op_ne (pe_call G__law_told (hr.mono (by decide)) rfl t__law_told.g t__law_told.F.kp t__law_told.b .nil pass0 (pa_cons (pv 6) (pa_cons (pv 0) (pa_cons (pv 5) (pa_cons (pe_op op_catS (pv 2) (pe_tup (pa_cons pe_int pa_nil))) pa_nil))))) pe_str (nomark _)) (pss_one (ps_ret pe_bl)) pss_nil)))
      (pss_cons (ps_for PassesOwn.never rfl (pi_list (pe_lst (pa_cons pe_int (pa_cons pe_int pa_nil)))) (pg_name (i := 6) sc__law_rest.nd rfl (.inl rfl)) (pss_one (ps_if (pt_cmpR op_ne (pe_call G__law_told (hr.mono (by decide)) rfl t__law_told.g t__law_told.F.kp t__law_told.b .nil pass0 (pa_cons (pv 6) (pa_cons (pv 0) (pa_cons (pe_op op_catS (pv 1) (pe_slice sl_tupS (pv 1) po_none (po_some pe_int))) (pa_cons (pv 2) pa_nil))))) pe_str (nomark _)) (pss_one (ps_ret pe_bl)) pss_nil)))
      (pss_cons (ps_set (i := 7) sc__law_rest.nd rfl (.inl rfl) (pe_ix ix_tup (pv 0) pe_int (fun _ _ => rfl)))
      (pss_cons (ps_for PassesOwn.never rfl (pi_list (pe_lst (pa_cons pe_int (pa_cons (pe_op op_add (pv 7) pe_int) (pa_cons (pe_op op_sub (pe_un un_neg pe_int) (pv 7)) pa_nil))))) (pg_name (i := 8) sc__law_rest.nd rfl (.inl rfl)) (pss_cons (ps_if (pt_cmpR op_ne (pe_call G__law_told (hr.mono (by decide)) rfl t__law_told.g t__law_told.F.kp t__law_told.b .nil pass0 (pa_cons pe_int (pa_cons (pv 0) (pa_cons (pv 1) (pa_cons (pe_op op_catS (pv 2) (pe_tup (pa_cons (pv 8) pa_nil))) pa_nil))))) pe_str (nomark _)) (pss_one (ps_ret pe_bl)) pss_nil)
      (pss_one (ps_if (pt_cmpR op_ne (pe_call G__law_told (hr.mono (by decide)) rfl t__law_told.g t__law_told.F.kp t__law_told.b .nil pass0 (pa_cons pe_int (pa_cons (pe_tup (pa_cons (pv 7) (pa_cons (pe_op op_catS (pe_ix ix_tup (pv 0) pe_int (fun _ _ => rfl)) (pe_tup (pa_cons (pe_tup (pa_cons (pv 8) pa_nil)) pa_nil))) pa_nil))) (pa_cons (pv 5) (pa_cons (pv 2) pa_nil))))) pe_str (nomark _)) (pss_one (ps_ret pe_bl)) pss_nil))))
      (pss_one (ps_ret (pe_and (pe_cmpR op_eq (pe_call G__law_told (hr.mono (by decide)) rfl t__law_told.g t__law_told.F.kp t__law_told.b .nil pass0 (pa_cons pe_int (pa_cons (pe_tup (pa_cons pe_int (pa_cons (pe_tup pa_nil) pa_nil))) (pa_cons (pv 5) (pa_cons (pv 2) pa_nil))))) pe_str (nomark _)) (pe_one (pe_cmpR op_eq (pe_call G__law_told (hr.mono (by decide)) rfl t__law_told.g t__law_told.F.kp t__law_told.b .nil pass0 (pa_cons pe_int (pa_cons (pv 0) (pa_cons (pe_tup pa_nil) (pa_cons (pv 2) pa_nil))))) pe_str (nomark _)))))))))), ?_⟩
    have hF0 := hF
    have hg0 := hg
    obtain ⟨A, vs, rfl, hA, pA⟩ := hF
    have lv := Paired.length pA
    obtain ⟨G, gz, rfl, hG, hz⟩ := hg
    obtain ⟨Z, zs, rfl, hZ, pZ⟩ := hz
    have lz := Paired.length pZ
    have lsm : ∀ {n : Nat}, n ≤ 9 → n ≤ sizeLine := fun h => Nat.le_of_lt (small1000x (by omega))
    refine ⟨.ref A, rfl, _, rfl, (at_ : Int), rfl, A, _, rfl, hA, fun H1 p1 s1 hp1 => ?_⟩
    rw [cutV_to59 vs at_ (by omega)] at hp1
    refine ⟨lsm (by decide), fun q1 n1 => ⟨lsm (by decide), fun q2 n2 => ⟨lsm (by decide), fun q3 n3 => ⟨lsm (by decide), fun q4 n4 => ⟨_, rfl, lsm (by decide), fun q5 n5 => ⟨lsm (show 5 ≤ 9 by decide), fun L nL => ?_⟩⟩⟩⟩⟩⟩
    have u1 := Same.upd (o := .tup [V.int 0, .int 0]) n1
    have u2 := Same.upd (o := .tup [V.int 1]) n2
    have u3 := Same.upd (o := .tup [V.int 0, .int 1, .int 2, .int 3, .int 4]) n3
    have u4 := Same.upd (o := .tup []) n4
    have u5 := Same.upd (o := .tup [V.int (-1), .int 0]) n5
    have uL := Same.upd (o := .lst [V.ref q1, .ref q2, .ref q3, .ref q4, .ref q5]) nL
    obtain ⟨b, hb, hbT⟩ : ∃ b, [V.ref q1, .ref q2, .ref q3, .ref q4, .ref q5][ch]? = some b ∧ TupV K _ b (badI ch) := by
      have : ch = 0 ∨ ch = 1 ∨ ch = 2 ∨ ch = 3 ∨ ch = 4 := by omega
      rcases this with rfl | rfl | rfl | rfl | rfl
      · exact ⟨_, rfl, q1, rfl, (u2.trans (u3.trans (u4.trans (u5.trans uL)))).tup (.inl (.of upd_same))⟩
      · exact ⟨_, rfl, q2, rfl, (u3.trans (u4.trans (u5.trans uL))).tup (.inl (.of upd_same))⟩
      · exact ⟨_, rfl, q3, rfl, (u4.trans (u5.trans uL)).tup (.inl (.of upd_same))⟩
      · exact ⟨_, rfl, q4, rfl, (u5.trans uL).tup (.inl (.of upd_same))⟩
      · exact ⟨_, rfl, q5, rfl, uL.tup (.inl (.of upd_same))⟩
    have s2 := s1.trans (u1.trans (u2.trans (u3.trans (u4.trans (u5.trans uL)))))
    have hp2 := (u1.trans (u2.trans (u3.trans (u4.trans (u5.trans uL))))).tup hp1
    refine ⟨_, rfl, L, _, (ch : Int), b, rfl, rfl, .of upd_same, atI_nat hb, lsm (show 1 ≤ 9 by decide), fun p3 np3 => ?_⟩
    have s3 := Same.upd (o := .tup [b]) np3
    refine ⟨p1, p3, _, _, rfl, rfl, s3.tup hp2, .inl (.of upd_same), lsm (by rw [List.length_take]; show _ + 1 ≤ 9; omega), fun H4 p4 s4 hp4 => ?_⟩
    have S4 := s2.trans (s3.trans s4)
    have hbT4 := lasts_tup _ _ _ _ (s3.trans s4) hbT
    clear hbT hp2 u1 u2 u3 u4 u5 uL
    refine ⟨.ref A, rfl, _, rfl, _, _, rfl, rfl, (at_ : Int) + 1, rfl, A, _, rfl, S4.tup hA, fun H5 p5 s5 hp5 => ?_⟩
    rw [show (at_ : Int) + 1 = ((at_ + 1 : Nat) : Int) by omega, cutV_from59 vs (at_ + 1) (by omega)] at hp5
    refine ⟨p4, p5, _, _, rfl, rfl, s5.tup hp4, hp5, lsm (by rw [List.length_append, List.length_take, List.length_drop]; show _ + 1 + _ ≤ 9; omega), fun H6 B s6 hB => ?_⟩
    have S6 := S4.trans (s5.trans s6)
    have hbT6 := lasts_tup _ _ _ _ (s5.trans s6) hbT4
    have hBI : ImV K H6 (.ref B) (badIm ims at_ ch) := by
      have pT := paired_mono (fun _ _ q => (lasts_tupF _ _ _ _ S6 q).v (K := K)) pA
      exact ⟨B, _, rfl, hB, paired_app59 (paired_app59 (paired_take59 at_ pT) (.cons hbT6 .nil)) (paired_drop59 (at_ + 1) pT)⟩
    have bno := bad_no ims at_ hch
    have lbad : (badIm ims at_ ch).length ≤ 1000 := by
      unfold badIm
      rw [List.length_append, List.length_append, List.length_take, List.length_drop]
      show _ + 1 + _ ≤ 1000
      omega
    have hl' : rel.length ≤ 1000 := by omega
    have hl2' : ∀ w ∈ rel, w.length ≤ 1000 := fun w hw => Nat.le_trans (hl2 w hw) (by decide)
    have hF6 := hF0.to S6
    have hg6 := hg0.to S6
    have hZ6 := S6.tup hZ
    have hG6 := S6.tup hG
    have hA6 := S6.tup hA
    have ha6 := S6.tup ha
    have pZ6 := paired_mono (fun _ _ q => lasts_tup _ _ _ _ S6 q) pZ
    have pA6 := paired_mono (fun _ _ q => lasts_tupF _ _ _ _ S6 q) pA
    have iim := isIm_mk hd
    clear hbT4 hbT6 hF0 hg0 S6 S4
    have lapp : ∀ x : Int, (w ++ [x]).length ≤ 1000 := fun x => by rw [List.length_append]; show _ + 1 ≤ 1000; omega
    have lapv : ∀ x : Int, (iV w).length + [V.int x].length ≤ sizeLine := fun x => lsm (by rw [List.length_map]; show _ + 1 ≤ 9; omega)
    refine ⟨4, rfl, by decide, by decide, ?_⟩
    refine for_it (walk_range (lo := 0)) (fun i σ H' => ∃ y6 : Option V, σ = [some (.ref G), some (.ref A), some (.ref a), some (.int (at_ : Int)), some (.int (ch : Int)), some (.ref B), y6, none, none] ∧ Same H6 H') ⟨none, rfl, Same.refl _⟩ (fun _ _ _ _ _ => trivial) ?_ ?_
    · rintro i x σ H7 H8 hi ⟨y6, rfl, s7⟩ ⟨rfl, rfl⟩
      have hi : i < 4 := hi
      refine ⟨_, rfl, _, rfl, _, rfl, _, rfl, lsm (by decide), fun t nt => ?_⟩
      have st := Same.upd (o := .tup [V.int 0]) nt
      refine ⟨a, t, _, _, rfl, rfl, st.tup (s7.tup ha6), .inl (.of upd_same), lapv 0, fun H9 p s9 hp => ?_⟩
      have S := s7.trans (st.trans s9)
      refine ⟨i, .ref G, .ref B, p, c, rel, badIm ims at_ ch, w ++ [0], by show [V.int (0 + (i : Int)), V.ref G, V.ref B, V.ref p] = _; rw [Int.zero_add], hi, hg6.to S, hl', hl2', hBI.to S, (fun e => by rw [bno] at e; cases e), lbad, by rw [iV_app]; exact hp, lapp 0, fun H10 r s10 ht => ?_⟩
      have e := told_bad ht hgb bno
      subst e
      exact ⟨rfl, _, rfl, iteNS rfl ⟨_, rfl, S.trans s10⟩⟩
    · rintro σ H7 ⟨y6, rfl, s7⟩
      refine ⟨lsm (show 2 ≤ 9 by decide), fun L2 nL2 => ?_⟩
      have s8 := s7.trans (Same.upd (o := .lst (iV [1, 3])) nL2)
      refine ⟨L2, rfl, ⟨_, .of (upd_same (o := .lst (iV [1, 3])))⟩, ?_⟩
      refine for_it (walk_list (K := K) (a := L2) (xs := iV [1, 3])) (fun i σ H' => ∃ y6 : Option V, σ = [some (.ref G), some (.ref A), some (.ref a), some (.int (at_ : Int)), some (.int (ch : Int)), some (.ref B), y6, none, none] ∧ Same (upd H7 L2 (.lst (iV [1, 3]))) H') ⟨y6, rfl, Same.refl _⟩ (fun _ _ _ _ ⟨_, _, s⟩ => .of (s _ _ upd_same)) ?_ ?_
      · rintro i x σ H9 H10 hi ⟨y6, rfl, s9⟩ ⟨rfl, hx⟩
        obtain ⟨n, hn, rfl⟩ := iV_get hx
        obtain ⟨wh, e, hwh⟩ : ∃ wh : Nat, n = (wh : Int) ∧ (wh = 1 ∨ wh = 3) := by
          have hn := List.mem_of_getElem? hn
          simp only [List.mem_cons, List.mem_nil_iff, or_false] at hn
          rcases hn with rfl | rfl
          · exact ⟨1, rfl, .inl rfl⟩
          · exact ⟨3, rfl, .inr rfl⟩
        subst e
        have S := s8.trans s9
        refine ⟨_, rfl, _, rfl, .ref A, rfl, .ref A, rfl, (1 : Int), rfl, A, _, rfl, S.tup hA6, fun H11 p1 s11 hp1 => ?_⟩
        rw [show (1 : Int) = ((1 : Nat) : Int) from rfl, cutV_to59 vs 1 (by omega)] at hp1
        refine ⟨A, p1, _, _, rfl, rfl, s11.tup (S.tup hA6), hp1, lsm (by rw [List.length_take]; omega), fun H12 p2 s12 hp2 => ?_⟩
        have S2 := S.trans (s11.trans s12)
        have pF := paired_mono (fun _ _ q => lasts_tupF _ _ _ _ S2 q) pA6
        have p3 := paired_mono (fun _ _ q => q.v (K := K)) pF
        have hlen : (ims ++ ims.take 1).length = c + 1 := by rw [List.length_append, List.length_take]; omega
        refine ⟨_, rfl, wh, .ref G, .ref p2, a, c, rel, ims ++ ims.take 1, w, rfl, by omega, hg6.to S2, hl', hl2', ⟨p2, _, rfl, hp2, paired_app59 p3 (paired_take59 1 p3)⟩, fun _ => ⟨p2, _, rfl, hp2, paired_app59 pF (paired_take59 1 pF)⟩, by omega, S2.tup ha6, by omega, fun H13 r s13 ht => ?_⟩
        · have e := told_len ht hgb (by omega) hwh
          subst e
          exact ⟨rfl, _, rfl, iteNS rfl ⟨_, rfl, s9.trans (s11.trans (s12.trans s13))⟩⟩
      · rintro σ H9 ⟨y6, rfl, s9⟩
        have S9 := s8.trans s9
        refine ⟨.ref G, rfl, G, _, 0, .int (c : Int), rfl, rfl, S9.tup hG6, atI_nat (j := 0) rfl, ?_⟩
        refine ⟨_, rfl, _, _, rfl, rfl, _, rfl, _, rfl, _, _, rfl, rfl, lsm (show 3 ≤ 9 by decide), fun L3 nL3 => ?_⟩
        have s10 := S9.trans (Same.upd (o := .lst (iV [0, (c : Int) + 1, -1 - (c : Int)])) nL3)
        refine ⟨L3, rfl, ⟨_, .of (upd_same (o := .lst (iV [0, (c : Int) + 1, -1 - (c : Int)])))⟩, ?_⟩
        refine for_it (walk_list (K := K) (a := L3) (xs := iV [0, (c : Int) + 1, -1 - (c : Int)])) (fun i σ H' => ∃ y8 : Option V, σ = [some (.ref G), some (.ref A), some (.ref a), some (.int (at_ : Int)), some (.int (ch : Int)), some (.ref B), y6, some (.int (c : Int)), y8] ∧ Same (upd H9 L3 (.lst (iV [0, (c : Int) + 1, -1 - (c : Int)]))) H') ⟨none, rfl, Same.refl _⟩ (fun _ _ _ _ ⟨_, _, s⟩ => .of (s _ _ upd_same)) ?_ ?_
        · rintro i x σ H11 H12 hi ⟨y8, rfl, s11⟩ ⟨rfl, hx⟩
          obtain ⟨n, hn, rfl⟩ := iV_get hx
          have bn : n = 0 ∨ (c : Int) < absI n := by
            have hn := List.mem_of_getElem? hn
            simp only [List.mem_cons, List.mem_nil_iff, or_false] at hn
            unfold absI
            rcases hn with rfl | rfl | rfl
            · exact .inl rfl
            · refine .inr ?_
              rw [if_neg (by omega)]
              omega
            · refine .inr ?_
              rw [if_pos (by omega)]
              omega
          have S := s10.trans s11
          refine ⟨.ref G, rfl, .ref A, rfl, .ref a, rfl, _, rfl, lsm (show 1 ≤ 9 by decide), fun t nt => ?_⟩
          have st := Same.upd (o := .tup [V.int n]) nt
          refine ⟨a, t, _, _, rfl, rfl, st.tup (S.tup ha6), .inl (.of upd_same), lapv n, fun H13 p s13 hp => ?_⟩
          have S2 := S.trans (st.trans s13)
          refine ⟨0, .ref G, .ref A, p, c, rel, ims, w ++ [n], rfl, by decide, hg6.to S2, hl', hl2', (hF6.to S2).v, fun _ => hF6.to S2, by omega, by rw [iV_app]; exact hp, lapp n, fun H14 r s14 ht => ?_⟩
          have e := told_word ht iim (by rw [hc]; exact ok_app bn)
          subst e
          refine ⟨rfl, _, rfl, iteNS rfl ?_⟩
          have S3 := S2.trans s14
          have s15 := s11.trans (st.trans (s13.trans s14))
          refine ⟨_, rfl, .ref G, rfl, G, _, 1, .ref Z, rfl, rfl, S3.tup hG6, atI_nat (j := 1) rfl, _, rfl, lsm (show 1 ≤ 9 by decide), fun t1 n1 => ⟨lsm (show 1 ≤ 9 by decide), fun t2 n2 => ?_⟩⟩
          have r1 := Same.upd (o := .tup [V.int n]) n1
          have r2 := Same.upd (o := .tup [V.ref t1]) n2
          refine ⟨Z, t2, _, _, rfl, rfl, r2.tup (r1.tup (S3.tup hZ6)), .inl (.of upd_same), lsm (by rw [lz]; show _ + 1 ≤ 9; omega), fun H15 Z2 r3 hZ2 => ⟨lsm (show 2 ≤ 9 by decide), fun G2 nG2 => ?_⟩⟩
          have r4 := Same.upd (o := .tup [V.int (c : Int), V.ref Z2]) nG2
          have S4 := S3.trans (r1.trans (r2.trans (r3.trans r4)))
          have hz2 : ImV K _ (.ref Z2) (rel ++ [[n]]) := ⟨Z2, _, rfl, r4.tup hZ2, paired_app59 (paired_mono (fun _ _ q => lasts_tup _ _ _ _ S4 q) pZ6) (.cons ⟨t1, rfl, (r2.trans (r3.trans r4)).tup (.inl (.of upd_same))⟩ .nil)⟩
          refine ⟨.ref B, rfl, .ref a, rfl, 1, .ref G2, .ref B, a, c, rel ++ [[n]], badIm ims at_ ch, w, rfl, by decide, ⟨G2, .ref Z2, rfl, .inl (.of upd_same), hz2⟩, by rw [List.length_append]; show _ + 1 ≤ 1000; omega, fun u hu => ?_, hBI.to S4, (fun e => by rw [bno] at e; cases e), lbad, S4.tup ha6, by omega, fun H16 r s16 ht => ?_⟩
          · rcases List.mem_append.mp hu with h | h
            · exact hl2' u h
            · rw [List.mem_singleton.mp h]
              show 1 ≤ 1000
              decide
          · have e := told_grp ht (grp_app bn)
            subst e
            exact ⟨rfl, _, rfl, iteNS rfl ⟨_, rfl, s15.trans (r1.trans (r2.trans (r3.trans (r4.trans s16))))⟩⟩
        · rintro σ H11 ⟨y8, rfl, s11⟩
          have S := s10.trans s11
          refine ⟨lsm (show 0 ≤ 9 by decide), fun t nt => ⟨lsm (show 2 ≤ 9 by decide), fun G2 nG2 => ?_⟩⟩
          have r1 := Same.upd (o := .tup []) nt
          have r2 := Same.upd (o := .tup [V.int 0, V.ref t]) nG2
          have S2 := S.trans (r1.trans r2)
          refine ⟨.ref B, rfl, .ref a, rfl, 1, .ref G2, .ref B, a, 0, [], badIm ims at_ ch, w, rfl, by decide, ⟨G2, .ref t, rfl, .inl (.of upd_same), t, [], rfl, r2.tup (.inl (.of upd_same)), .nil⟩, by decide, fun u hu => (by cases hu), hBI.to S2, (fun e => by rw [bno] at e; cases e), lbad, S2.tup ha6, by omega, fun H16 r s16 ht => ?_⟩
          have e := told_grp ht rfl
          subst e
          refine ⟨rfl, true, congrArg V.bl (decide_eq_true (rfl : V.str "group" = V.str "group")), iteT ⟨.ref G, rfl, lsm (show 0 ≤ 9 by decide), fun t2 nt2 => ?_⟩⟩
          have r3 := Same.upd (o := .tup []) nt2
          have S3 := S2.trans (s16.trans r3)
          refine ⟨.ref a, rfl, 0, .ref G, .ref t2, a, c, rel, [], w, rfl, by decide, hg6.to S3, hl', hl2', ⟨t2, [], rfl, .inl (.of upd_same), .nil⟩, (fun e => by cases e), by decide, S3.tup ha6, by omega, fun H17 r s17 ht => ?_⟩
          have e := told_bad ht hgb rfl
          subst e
          have g := k H17
          refine ⟨rfl, ?_⟩
          rw [decide_eq_true rfl]
          exact g
end
end L2.Px

namespace L2.Px
open PySem PySem.Spec PyProof.Rows
/-! ### what the law holds -/
structure LS (K : PySem.W.Frag) (H : Hp) (dr : Addr) (g v : V) (c d : Nat) (rel ims : Im) : Prop where
  dd : Drw H dr
  g : GrV K H g c rel
  c1 : 1 ≤ c
  c3 : c ≤ 3
  l : rel.length ≤ 3
  w : ∀ w ∈ rel, w.length ≤ 5 ∧ okW c w = true
  v : ImF K H v ims
  i : IsIm ims d
  n : ims.length = c
theorem LS.to {K : PySem.W.Frag} {H H' : Hp} {dr : Addr} {g v : V} {c d : Nat} {rel ims : Im} (h : LS K H dr g v c d rel ims) (s : Same H H') : LS K H' dr g v c d rel ims := ⟨h.dd.to s, h.g.to s, h.c1, h.c3, h.l, h.w, h.v.to s, h.i, h.n⟩
theorem LS.tox {K : PySem.W.Frag} {H H' : Hp} {dr : Addr} {g v : V} {c d : Nat} {rel ims : Im} (h : LS K H dr g v c d rel ims) (s : SameX dr H H') (e : Drw H' dr) : LS K H' dr g v c d rel ims := ⟨e, h.g.x h.dd s, h.c1, h.c3, h.l, h.w, h.v.x h.dd s, h.i, h.n⟩
theorem LS.grp {K : PySem.W.Frag} {H : Hp} {dr : Addr} {g v : V} {c d : Nat} {rel ims : Im} (h : LS K H dr g v c d rel ims) : grpB c rel = true := by
  unfold grpB
  rw [decide_eq_true (show (1 : Int) ≤ (c : Int) by have := h.c1; omega), Bool.true_and, List.all_eq_true]
  exact fun w hw => (h.w w hw).2
theorem sml_ti59 {ns : List Int} (hl : ns.length ≤ 1000) (hb : ∀ n ∈ ns, n.natAbs < 1000000000) : Sml (.tuple (iD ns)) := by
  refine ⟨sm_ints ns hb, ?_, ?_⟩
  · show PyData.depthAll (iD ns) + 1 ≤ 60
    rw [dep_ints]
    decide
  · have := wt_ints ns hb
    show PyData.weightAll (iD ns) ≤ 700000
    omega
theorem rep_paired {α β : Type} {R : α → β → Prop} {xs : List α} {ys : List β} (h : Paired R xs ys) : ∀ n : Nat, Paired R (List.replicate n xs).flatten (List.replicate n ys).flatten
  | 0 => .nil
  | n + 1 => by
    rw [List.replicate_succ, List.replicate_succ, List.flatten_cons, List.flatten_cons]
    exact paired_app59 h (rep_paired h n)
theorem rep_len {α : Type} {xs : List α} (h : xs.length = 1) (n : Nat) : (List.replicate n xs).flatten.length = n := by
  simp [h]
theorem rep_mem {α : Type} {xs : List α} {x : α} {n : Nat} (h : x ∈ (List.replicate n xs).flatten) : x ∈ xs := by
  obtain ⟨l, hl, hx⟩ := List.mem_flatten.mp h
  rw [(List.mem_replicate.mp hl).2] at hx
  exact hx
theorem rep_im {ims : Im} {d : Nat} (h : IsIm ims d) {n : Nat} (hn : 1 ≤ n) : IsIm (List.replicate n (ims.take 1)).flatten d := by
  have l1 : (ims.take 1).length = 1 := by rw [List.length_take]; have := h.pos; omega
  refine ⟨by rw [rep_len l1]; omega, ?_, h.d1, h.d4, fun im hi => h.p im (List.mem_of_mem_take (rep_mem hi))⟩
  obtain ⟨m, rfl⟩ : ∃ m, n = m + 1 := ⟨n - 1, by omega⟩
  have e : (List.replicate (m + 1) (ims.take 1)).flatten.getD 0 [] = ims.getD 0 [] := by
    rw [List.replicate_succ, List.flatten_cons]
    have := h.pos
    cases ims with
    | nil => cases this
    | cons x ims => rfl
  rw [e]
  exact h.l
section
variable {P : Program} {w : World} {K : PySem.W.Frag} {mg : Str → Option Value} {base : Heap}
abbrev PG5 (K : PySem.W.Frag) (σ : St) (H : Hp) : Prop := ∃ (a dr : Addr) (g v : V) (c d : Nat) (rel ims : Im), σ = [some (.ref a), some (.ref dr), some g, some (.int (c : Int)), some (.int (d : Int)), some v, none, none, none, none, none, none] ∧ LS K H dr g v c d rel ims
abbrev PG10 (K : PySem.W.Frag) (σ : St) (H : Hp) : Prop := ∃ (a dr : Addr) (g v : V) (c d : Nat) (rel ims : Im) (pw : Addr) (w : Wd) (y7 y8 : Option V), σ = [some (.ref a), some (.ref dr), some g, some (.int (c : Int)), some (.int (d : Int)), some v, some (.ref pw), y7, y8, none, none, none] ∧ LS K H dr g v c d rel ims ∧ SqT K H pw (iV w) ∧ w.length ≤ 8 ∧ okW c w = true
abbrev PG12 (K : PySem.W.Frag) (σ : St) (H : Hp) : Prop := ∃ (a dr : Addr) (g v : V) (c d : Nat) (rel ims : Im) (pw : Addr) (w : Wd) (y7 y8 y9 y10 : Option V), σ = [some (.ref a), some (.ref dr), some g, some (.int (c : Int)), some (.int (d : Int)), some v, some (.ref pw), y7, y8, y9, y10, none] ∧ LS K H dr g v c d rel ims ∧ SqT K H pw (iV w) ∧ w.length ≤ 8
def sp_law (K : PySem.W.Frag) : Sp := fun vs H Q _ => ∃ (a : Addr) (ns : List Int), vs = [.ref a] ∧ SqL K H a (iV ns) ∧ ns.length ≤ 63 ∧ ∀ H', Q (.bl true) H'
theorem ok_law {f : Addr} {fd : FuncData} {f__law_draws : Addr} {d__law_draws : FuncData} {f__law_group : Addr} {d__law_group : FuncData} {f__law_rest : Addr} {d__law_rest : FuncData} {f__law_act : Addr} {d__law_act : FuncData} {f__law_fulfils : Addr} {d__law_fulfils : FuncData} {f__law_transitive : Addr} {d__law_transitive : FuncData} {f__law_arranged : Addr} {d__law_arranged : FuncData} {f__law_next : Addr} {d__law_next : FuncData} {f__law_told : Addr} {d__law_told : FuncData} (F : Fun K "law" "law" s_law f fd) (N : Nm mg)
    (t__law_draws : At K mg "_law_draws" s__law_draws ["script"] f__law_draws d__law_draws) (G__law_draws : FnOk P w K mg base CX0 2 f__law_draws d__law_draws ["script"] (sp__law_draws K))
    (t__law_group : At K mg "_law_group" s__law_group ["draws"] f__law_group d__law_group) (G__law_group : FnOk P w K mg base CX0 2 f__law_group d__law_group ["draws"] (sp__law_group K))
    (t__law_rest : At K mg "_law_rest" s__law_rest ["group", "images", "word", "at", "choice"] f__law_rest d__law_rest) (G__law_rest : FnOk P w K mg base CX0 5 f__law_rest d__law_rest ["group", "images", "word", "at", "choice"] (sp__law_rest K))
    (t__law_act : At K mg "_law_act" s__law_act ["images", "word"] f__law_act d__law_act) (G__law_act : FnOk P w K mg base CX0 1 f__law_act d__law_act ["images", "word"] (sp__law_act K))
    (t__law_fulfils : At K mg "_law_fulfils" s__law_fulfils ["group", "images"] f__law_fulfils d__law_fulfils) (G__law_fulfils : FnOk P w K mg base CX0 2 f__law_fulfils d__law_fulfils ["group", "images"] (sp__law_fulfils K))
    (t__law_transitive : At K mg "_law_transitive" s__law_transitive ["images"] f__law_transitive d__law_transitive) (G__law_transitive : FnOk P w K mg base CX0 1 f__law_transitive d__law_transitive ["images"] (sp__law_transitive K))
    (t__law_arranged : At K mg "_law_arranged" s__law_arranged ["draws", "size"] f__law_arranged d__law_arranged) (G__law_arranged : FnOk P w K mg base CX0 2 f__law_arranged d__law_arranged ["draws", "size"] (sp__law_arranged K))
    (t__law_next : At K mg "_law_next" s__law_next ["draws"] f__law_next d__law_next) (G__law_next : FnOk P w K mg base CX0 1 f__law_next d__law_next ["draws"] (sp__law_next K))
    (t__law_told : At K mg "_law_told" s__law_told ["which", "group", "images", "word"] f__law_told d__law_told) (G__law_told : FnOk P w K mg base CX0 4 f__law_told d__law_told ["which", "group", "images", "word"] (sp__law_told K)) :
    GFn P w K mg base 6 f fd ["script"] (sp_law K) := by
  refine gfn_of F sc_law (fun vs H Q E h => ?_) (fun cdv A outer s H vs Q E hg hr h => ?_)
  · obtain ⟨a, ns, rfl, _⟩ := h
    rfl
  · obtain ⟨a, ns, rfl, hS, hl, k⟩ := h
    have hu := hr.units
    refine cut2 ((defBody s_law).drop 12) (PG12 K) ?_ fun u12 p12 q12 => ?_
    · refine ⟨_, pss_cons (ps_set (i := 7) sc_law.nd rfl (.inl rfl) (pe_op op_mod (pe_callTy call_int1 (by rfl) N.n_int (by decide +kernel) (pa_cons (pe_call G__law_next (hr.mono (by decide)) rfl t__law_next.g t__law_next.F.kp t__law_next.b .nil pass0 (pa_cons (pv 1) pa_nil)) pa_nil)) (pv 3)))
      (pss_one (ps_ret (pe_call G__law_rest (hr.mono (by decide)) rfl t__law_rest.g t__law_rest.F.kp t__law_rest.b .nil pass0 (pa_cons (pv 2) (pa_cons (pv 5) (pa_cons (pv 6) (pa_cons (pv 7) (pa_cons (pe_op op_mod (pe_callTy call_int1 (by rfl) N.n_int (by decide +kernel) (pa_cons (pe_call G__law_next (hr.mono (by decide)) rfl t__law_next.g t__law_next.F.kp t__law_next.b .nil pass0 (pa_cons (pv 1) pa_nil)) pa_nil)) pe_int) pa_nil)))))))), ?_⟩
      rintro σ H1 ⟨a, dr, g, v, c, d, rel, ims, pw, w, y7, y8, y9, y10, rfl, ls, hw, lw⟩
      have c1 := ls.c1
      refine ⟨.ref dr, rfl, dr, rfl, ls.dd, fun H2 z s2 d2 z0 z1 => .inl ⟨_, rfl, _, rfl, _, _, rfl, rfl, (by omega : (0 : Int) < (c : Int)), ?_⟩⟩
      have ls2 := ls.tox s2 d2
      have hw2 := sqt_x ls.dd s2 hw
      have b0 : 0 ≤ z % (c : Int) := Int.emod_nonneg _ (by omega)
      have b1 : z % (c : Int) < (c : Int) := Int.emod_lt_of_pos _ (by omega)
      obtain ⟨at_, hat⟩ := Int.eq_ofNat_of_zero_le b0
      refine ⟨g, rfl, v, rfl, .ref pw, rfl, _, rfl, .ref dr, rfl, dr, rfl, ls2.dd, fun H3 y s3 d3 y0 y1 => .inl ⟨_, rfl, _, _, rfl, rfl, (by decide : (0 : Int) < 5), ?_⟩⟩
      have ls3 := ls2.tox s3 d3
      have hw3 := sqt_x ls2.dd s3 hw2
      have e0 : 0 ≤ y % 5 := Int.emod_nonneg _ (by decide)
      have e1 : y % 5 < 5 := Int.emod_lt_of_pos _ (by decide)
      obtain ⟨ch, hch⟩ := Int.eq_ofNat_of_zero_le e0
      exact ⟨g, v, pw, c, at_, ch, rel, ims, w, d, by show [g, v, V.ref pw, V.int (z % (c : Int)), V.int (y % 5)] = _; rw [hat, hch], ls3.g, ls3.l, fun u hu => (ls3.w u hu).1, ls3.grp, ls3.v, ls3.i, ls3.n, ls3.c3, hw3, lw, by omega, by omega, fun H' => k H'⟩
    refine cut2 ((defBody s_law).drop 10) (PG10 K) ?_ fun u10 p10 q10 => ?_
    · refine ⟨_, pss_cons (ps_set (i := 9) sc_law.nd rfl (.inl rfl) (pe_lst (pa_cons (pe_call G__law_act (hr.mono (by decide)) rfl t__law_act.g t__law_act.F.kp t__law_act.b .nil pass0 (pa_cons (pv 5) (pa_cons (pv 6) pa_nil))) (pa_cons (pe_call G__law_fulfils (hr.mono (by decide)) rfl t__law_fulfils.g t__law_fulfils.F.kp t__law_fulfils.b .nil pass0 (pa_cons (pv 2) (pa_cons (pv 5) pa_nil))) (pa_cons (pe_call G__law_transitive (hr.mono (by decide)) rfl t__law_transitive.g t__law_transitive.F.kp t__law_transitive.b .nil pass0 (pa_cons (pv 5) pa_nil)) (pa_cons pe_non pa_nil))))))
      (pss_cons (ps_for PassesOwn.never rfl (pi_range1 (by rfl) N.n_range (pa_cons pe_int pa_nil)) (pg_name (i := 10) sc_law.nd rfl (.inl rfl)) (pss_one (ps_if (pt_cmpR op_ne (pe_callB (cr_reprS hg hu) (by rfl) N.n_repr (by decide +kernel) (pa_cons (pe_call G__law_told (hr.mono (by decide)) rfl t__law_told.g t__law_told.F.kp t__law_told.b .nil pass0 (pa_cons (pv 10) (pa_cons (pv 2) (pa_cons (pv 5) (pa_cons (pv 6) pa_nil))))) pa_nil)) (pe_callB (cr_reprS hg hu) (by rfl) N.n_repr (by decide +kernel) (pa_cons (pe_ix ix_list (pv 9) (pv 10) (fun _ _ => rfl)) pa_nil)) (nomark _)) (pss_one (ps_ret pe_bl)) pss_nil)))
      (p12)), ?_⟩
      rintro σ H1 ⟨a, dr, g, v, c, d, rel, ims, pw, w, y7, y8, rfl, ls, hw, lw, ow⟩
      have c1 := ls.c1
      have c3 := ls.c3
      have ln := ls.n
      have hrel := ls.l
      have hd := ls.i
      have d4 := hd.d4
      have sz : ∀ {n : Nat}, n ≤ 1000 → n ≤ 1000 := fun h => h
      refine ⟨v, rfl, .ref pw, rfl, v, pw, ims, w, d, rfl, ls.v, hw, by omega, by omega, hd, by rw [ln]; exact okW_at ow, fun H2 pd s2 hpd => ?_⟩
      have ls2 := ls.to s2
      refine ⟨g, rfl, v, rfl, g, v, c, rel, ims, d, rfl, ls2.g, by omega, fun u hu => by have := (ls.w u hu).1; omega, ls2.v, by omega, hd, fun u hu => by rw [ln]; exact okW_at (ls.w u hu).2, fun H3 s3 => ?_⟩
      have ls3 := ls2.to s3
      refine ⟨v, rfl, v, ims, d, rfl, ls3.v.v, by omega, hd, fun b H4 s4 hb => ⟨by show 4 ≤ sizeLine; decide, fun D hD => ?_⟩⟩
      have sD := Same.upd (o := .lst [V.ref pd, .bl (rel.all (movB ims)), .bl b, .non]) hD
      have S := s2.trans (s3.trans (s4.trans sD))
      have ls5 := ls.to S
      have hpd5 := (s3.trans (s4.trans sD)) _ _ hpd
      have hw5 := S.tup hw
      have iim := isIm_mk hd
      refine ⟨4, rfl, by decide, by decide, ?_⟩
      refine for_it (walk_range (lo := 0)) (fun i σ H' => ∃ y10 : Option V, σ = [some (.ref a), some (.ref dr), some g, some (.int (c : Int)), some (.int (d : Int)), some v, some (.ref pw), y7, y8, some (.ref D), y10, none] ∧ Same (upd H4 D (.lst [V.ref pd, .bl (rel.all (movB ims)), .bl b, .non])) H') ⟨none, rfl, Same.refl _⟩ (fun _ _ _ _ _ => trivial) ?_ ?_
      · rintro i x σ H6 H7 hi ⟨y10, rfl, s6⟩ ⟨rfl, rfl⟩
        have hi : i < 4 := hi
        have ls6 := ls5.to s6
        refine ⟨_, rfl, g, rfl, v, rfl, .ref pw, rfl, i, g, v, pw, c, rel, ims, w, by show [V.int (0 + (i : Int)), g, v, V.ref pw] = _; rw [Int.zero_add], hi, ls6.g, by omega, fun u hu => by have := (ls.w u hu).1; omega, ls6.v.v, fun _ => ls6.v, by omega, s6.tup hw5, by omega, fun H8 r s8 ht => ?_⟩
        have hD8 := s8 _ _ (s6 _ _ (upd_same (H := H4) (a := D) (o := .lst [V.ref pd, .bl (rel.all (movB ims)), .bl b, .non])))
        have hpd8 := s8 _ _ (s6 _ _ hpd5)
        obtain ⟨dv, D2, e1, e2, e3, e4⟩ : ∃ dv D2, Dp K H8 r D2 ∧ [V.ref pd, .bl (rel.all (movB ims)), .bl b, .non][i]? = some dv ∧ Dp K H8 dv D2 ∧ Sml D2 := by
          cases ht with
          | img p _ _ hp =>
            refine ⟨_, .tuple (iD (imgW ims w)), dp_ti (.of hp), rfl, dp_ti (.of hpd8), sml_ti59 ?_ fun n hn => ?_⟩
            · unfold imgW
              rw [img_len, hd.l, rg_len]
              omega
            · have := img_bd hd w (rg (ims.getD 0 []).length) (fun s hs => by rw [hd.l] at hs; exact rg_mem.mp hs) (by rw [ln]; exact okW_at ow) n hn
              omega
          | word _ e => rw [ln, ow] at e; cases e
          | im0 e => rw [iim] at e; cases e
          | grp e => rw [ls.grp] at e; cases e
          | im1 _ e => exact absurd ⟨by rw [ln], iim⟩ e
          | sat => exact ⟨_, .bool (rel.all (movB ims)), .bl _, rfl, .bl _, ⟨rfl, by cases rel.all (movB ims) <;> decide, by cases rel.all (movB ims) <;> decide⟩⟩
          | im2 e => rw [iim] at e; cases e
          | tr b2 _ h2 =>
            have : b2 = b := Bool.eq_iff_iff.mpr (h2.trans hb.symm)
            subst this
            exact ⟨_, .bool b2, .bl _, rfl, .bl _, ⟨rfl, by cases b2 <;> decide, by cases b2 <;> decide⟩⟩
          | im3 e => exact absurd ⟨by rw [ln], iim⟩ e
          | non => exact ⟨_, .none, .non, rfl, .non, ⟨rfl, by decide, by decide⟩⟩
        refine ⟨r, _, rfl, e1, e4.a, e4.b, e4.c, ?_⟩
        have ei : 0 + (i : Int) = (i : Int) := Int.zero_add _
        refine ⟨.ref D, rfl, _, rfl, D, _, (i : Int), dv, rfl, congrArg V.int ei, .of hD8, atI_nat e2, dv, _, rfl, e3, e4.a, e4.b, e4.c, ?_⟩
        exact ⟨rfl, _, rfl, iteNS rfl ⟨_, rfl, s6.trans s8⟩⟩
      · rintro σ H6 ⟨y10, rfl, s6⟩
        exact q12 _ _ ⟨_, _, _, _, _, _, _, _, _, _, _, _, _, _, rfl, ls5.to s6, s6.tup hw5, lw⟩
    refine cut2 ((defBody s_law).drop 7) (PG5 K) ?_ fun u7 p7 q7 => ?_
    · refine ⟨_, pss_cons (ps_set (i := 6) sc_law.nd rfl (.inl rfl) (pe_lst pa_nil))
      (pss_cons (ps_for PassesOwn.never rfl (pi_range1 (by rfl) N.n_range (pa_cons (pe_op op_mod (pe_callTy call_int1 (by rfl) N.n_int (by decide +kernel) (pa_cons (pe_call G__law_next (hr.mono (by decide)) rfl t__law_next.g t__law_next.F.kp t__law_next.b .nil pass0 (pa_cons (pv 1) pa_nil)) pa_nil)) pe_int) pa_nil)) (pg_name (i := 7) sc_law.nd rfl (.inl rfl)) (pss_cons (ps_set (i := 8) sc_law.nd rfl (.inl rfl) (pe_callTy call_int1 (by rfl) N.n_int (by decide +kernel) (pa_cons (pe_call G__law_next (hr.mono (by decide)) rfl t__law_next.g t__law_next.F.kp t__law_next.b .nil pass0 (pa_cons (pv 1) pa_nil)) pa_nil)))
      (pss_one (ps_expr (pe_bm PySem.F.plainAttrs_list PySem.F.slot_list_append PySem.F.type_list_append mt_append (pv 6) (pa_cons (pe_op op_mul (pe_op op_add pe_int (pe_op op_mod (pe_op op_fdiv (pv 8) pe_int) (pv 3))) (pe_op op_sub pe_int (pe_op op_mul pe_int (pe_op op_mod (pv 8) pe_int)))) pa_nil))))))
      (pss_cons (ps_set (i := 6) sc_law.nd rfl (.inl rfl) (pe_callTy call_tuple_of (by rfl) N.n_tuple (by decide +kernel) (pa_cons (pv 6) pa_nil)))
      (p10))), ?_⟩
      rintro σ H1 ⟨a, dr, g, v, c, d, rel, ims, rfl, ls⟩
      have c1 := ls.c1
      have c3 := ls.c3
      refine ⟨Nat.zero_le _, fun W hW => ?_⟩
      have nW := ls.dd.ne_new hW
      have ls2 := ls.to (Same.upd (o := .lst []) hW)
      refine ⟨.ref dr, rfl, dr, rfl, ls2.dd, fun H6 u s6 d6 u0 u1 => .inl ⟨_, rfl, _, _, rfl, rfl, (by decide : (0 : Int) < 9), ?_⟩⟩
      have f0 : 0 ≤ u % 9 := Int.emod_nonneg _ (by decide)
      have f1 : u % 9 < 9 := Int.emod_lt_of_pos _ (by decide)
      obtain ⟨n, hn⟩ := Int.eq_ofNat_of_zero_le f0
      have ls6 := ls2.tox s6 d6
      refine ⟨(n : Int), by rw [← hn], by omega, by omega, ?_⟩
      rw [Int.toNat_natCast]
      have hW6 : H6 W = some (.lst (iV [])) := get_x s6 nW upd_same
      refine for_it (walk_range (lo := 0)) (fun j σ H' => ∃ (y7 y8 : Option V) (w : Wd), σ = [some (.ref a), some (.ref dr), some g, some (.int (c : Int)), some (.int (d : Int)), some v, some (.ref W), y7, y8, none, none, none] ∧ SameX dr H1 H' ∧ Drw H' dr ∧ H' W = some (.lst (iV w)) ∧ w.length = j ∧ okW c w = true)
        ⟨none, none, [], rfl, (x_own (Same.refl _) hW).trans s6, d6, hW6, rfl, rfl⟩ (fun _ _ _ _ _ => trivial) ?_ ?_
      · rintro j x σ H7 H8 hj ⟨y7, y8, w, rfl, s7, d7, hW7, lw, bw⟩ ⟨rfl, rfl⟩
        have hj : j < n := hj
        refine ⟨.ref dr, rfl, dr, rfl, d7, fun H9 t s9 d9 t0 t1 => .inl ⟨_, rfl, ?_⟩⟩
        have hW9 := get_x s9 nW hW7
        refine ⟨.ref W, rfl, .inl ⟨rfl, _, .of hW9⟩, ?_⟩
        refine ⟨_, rfl, _, _, rfl, rfl, ⟨by decide, by decide⟩, _, rfl, _, _, rfl, rfl, (by omega : (0 : Int) < c), _, _, rfl, rfl, _, rfl, _, _, rfl, rfl, (by decide : (0 : Int) < 2), _, _, rfl, rfl, .inl ⟨by decide, by decide⟩, _, _, rfl, rfl, ?_⟩
        have a0 : 0 ≤ t / 2 % (c : Int) := Int.emod_nonneg _ (by omega)
        have a1 : t / 2 % (c : Int) < c := Int.emod_lt_of_pos _ (by omega)
        have sgn : t % 2 = 0 ∨ t % 2 = 1 := by omega
        have lt0 : (1 + t / 2 % (c : Int)) * (1 - 2 * (t % 2)) ≠ 0 ∧ absI ((1 + t / 2 % (c : Int)) * (1 - 2 * (t % 2))) ≤ c := by
          rcases sgn with h | h <;> rw [h] <;> unfold absI <;> constructor
          · omega
          · split <;> omega
          · omega
          · split <;> omega
        refine ⟨_, _, rfl, rfl, .inl ⟨by omega, by omega⟩, W, _, _, rfl, rfl, hW9, by rw [List.length_map]; exact small1000x (by omega), ?_⟩
        refine ⟨_, _, w ++ [_], rfl, x_own (s7.trans s9) hW, d9.over nW, by rw [upd_same, iV_app]; rfl, by rw [List.length_append, lw]; rfl, ?_⟩
        unfold okW at bw ⊢
        rw [List.all_append, bw, Bool.true_and]
        show ((decide (_ ≠ 0) && decide (absI _ ≤ _)) && true) = true
        rw [decide_eq_true lt0.1, decide_eq_true lt0.2]
        rfl
      · rintro σ H7 ⟨y7, y8, w, rfl, s7, d7, hW7, lw, bw⟩
        have lw : w.length = n := lw
        refine ⟨.ref W, rfl, W, _, rfl, .inl ⟨.of hW7, fun p hp => ?_⟩⟩
        have sp := Same.upd (o := .tup (iV w)) hp
        exact q10 _ _ ⟨_, _, _, _, _, _, _, _, p, w, _, _, rfl, (ls.tox s7 d7).to sp, .inl (.of upd_same), by omega, bw⟩
    -- group and images
    refine ⟨_, pss_cons (ps_set (i := 1) sc_law.nd rfl (.inr rfl) (pe_call G__law_draws (hr.mono (by decide)) rfl t__law_draws.g t__law_draws.F.kp t__law_draws.b .nil pass0 (pa_cons (pv 0) pa_nil)))
      (pss_cons (ps_expr (pe_bm0 PySem.F.plainAttrs_list PySem.F.slot_list_reverse PySem.F.type_list_reverse mt_reverse (pv 1)))
      (pss_cons (ps_set (i := 2) sc_law.nd rfl (.inl rfl) (pe_call G__law_group (hr.mono (by decide)) rfl t__law_group.g t__law_group.F.kp t__law_group.b .nil pass0 (pa_cons (pv 1) pa_nil)))
      (pss_cons (ps_set (i := 3) sc_law.nd rfl (.inl rfl) (pe_ix ix_tup (pv 2) pe_int (fun _ _ => rfl)))
      (pss_cons (ps_set (i := 4) sc_law.nd rfl (.inr rfl) (pe_op op_add pe_int (pe_op op_mod (pe_callTy call_int1 (by rfl) N.n_int (by decide +kernel) (pa_cons (pe_call G__law_next (hr.mono (by decide)) rfl t__law_next.g t__law_next.F.kp t__law_next.b .nil pass0 (pa_cons (pv 1) pa_nil)) pa_nil)) pe_int)))
      (pss_cons (ps_set (i := 5) sc_law.nd rfl (.inl rfl) (pe_callTy call_tuple_of (by rfl) N.n_tuple (by decide +kernel) (pa_cons (pe_lc (own := [("k", 11)]) (g := gName 11) (tt := tYes) (te := tCall (sp__law_arranged K) [] E0 (tCons (tVar 1) (tCons (tVar 4) (tNil)))) rfl sc_law.nd (pi_range1 (by rfl) N.n_range (pa_cons (pv 3) pa_nil)) (blkOk_by (N := n_law) (sc := defScope s_law) (by decide +kernel)) (fun _ _ _ _ _ => (pg_name (i := 11) sc_law.nd rfl (.inl rfl))) (fun _ _ _ _ _ => pts_nil) (fun _ _ _ _ _ => (pe_call G__law_arranged (hr.mono (by decide)) rfl t__law_arranged.g t__law_arranged.F.kp t__law_arranged.b .nil pass0 (pa_cons (pv 1) (pa_cons (pv 4) pa_nil))))) pa_nil)))
      (pss_cons (ps_if (pt_cmpR op_eq (pe_op op_mod (pe_callTy call_int1 (by rfl) N.n_int (by decide +kernel) (pa_cons (pe_call G__law_next (hr.mono (by decide)) rfl t__law_next.g t__law_next.F.kp t__law_next.b .nil pass0 (pa_cons (pv 1) pa_nil)) pa_nil)) pe_int) pe_int (nomark _)) (pss_one (ps_set (i := 5) sc_law.nd rfl (.inl rfl) (pe_op op_repA (pe_slice sl_tupS (pv 5) po_none (po_some pe_int)) (pv 3)))) pss_nil)
      (p7))))))), ?_⟩
    refine ⟨.ref a, rfl, a, ns, rfl, hS, hl, fun H1 dr s1 n1 d1 => ?_⟩
    obtain ⟨ds, hds, bds, lds⟩ := id d1
    refine ⟨.ref dr, rfl, .inl ⟨rfl, _, .of hds⟩, dr, _, rfl, rfl, hds, ?_⟩
    have d2 : Drw (upd H1 dr (.lst (iV ds).reverse)) dr := ⟨ds.reverse, by rw [upd_same]; exact congrArg (fun l => some (HO.lst l)) List.map_reverse.symm, fun d hd => bds d (List.mem_reverse.mp hd), by rw [List.length_reverse]; exact lds⟩
    refine ⟨.ref dr, rfl, dr, rfl, d2, fun H3 g c rel s3 d3 hg0 c1 c3 l3 w5 => ?_⟩
    obtain ⟨G, gz, rfl, hG, hz⟩ := id hg0
    refine ⟨.ref G, rfl, G, _, 0, .int (c : Int), rfl, rfl, hG, atI_nat (j := 0) rfl, ?_⟩
    refine ⟨.ref dr, rfl, dr, rfl, d3, fun H4 z s4 d4 z0 z1 => .inl ⟨_, rfl, _, _, rfl, rfl, (by decide : (0 : Int) < 4), _, _, rfl, rfl, ?_⟩⟩
    have m0 : 0 ≤ z % 4 := Int.emod_nonneg _ (by decide)
    have m1 : z % 4 < 4 := Int.emod_lt_of_pos _ (by decide)
    obtain ⟨d, hd⟩ : ∃ d : Nat, 1 + z % 4 = (d : Int) := ⟨(1 + z % 4).toNat, by omega⟩
    have hg4 := hg0.x d3 s4
    refine ⟨_, rfl, (c : Int), rfl, by omega, by omega, ?_⟩
    rw [Int.toNat_natCast]
    intro D hD
    have nD := d4.ne_new hD
    refine lc_it (walk_range (lo := 0)) (fun i H' => SameX dr H4 H' ∧ Drw H' dr ∧ ∃ (vs : List V) (ims : Im), H' D = some (.lst vs) ∧ Paired (TupF H') vs ims ∧ ims.length = i ∧ ∀ im ∈ ims, isPm d im = true) ⟨x_own (Same.refl _) hD, d4.upd hD, [], [], upd_same, .nil, rfl, fun f h => by cases h⟩ (fun _ _ _ _ => trivial) ?_ ?_
    · rintro i x H7 H8 hi ⟨s7, d7, vs, ims, hDv, pv, li, bi⟩ ⟨rfl, rfl⟩
      have hi : i < c := hi
      refine ⟨rfl, .ref dr, rfl, _, rfl, dr, d, by show [V.ref dr, V.int (1 + z % 4)] = _; rw [hd], by omega, d7, fun H9 v im s9 d9 hv hp => ⟨vs, ?_, ?_, ?_⟩⟩
      · exact get_x s9 nD hDv
      · have := Paired.length pv
        exact small1000x (by omega)
      · have hD9 := get_x s9 nD hDv
        refine ⟨x_own (s7.trans s9) hD, d9.over nD, vs ++ [v], ims ++ [im], upd_same, ?_, by rw [List.length_append, li]; rfl, fun f hf => ?_⟩
        · exact paired_snoc (R := TupF _) (TupF.over hD9 hv) (paired_mono (fun _ _ q => TupF.over hD9 (TupF.x d7 s9 q)) pv)
        · rcases List.mem_append.mp hf with h | h
          · exact bi f h
          · rw [List.mem_singleton.mp h]
            exact hp
    rintro H7 ⟨s7, d7, vs, ims, hDv, pv, li, bi⟩
    have li : ims.length = c := li
    have lv := Paired.length pv
    refine ⟨D, _, rfl, .inl ⟨.of hDv, fun A hA => ?_⟩⟩
    have sA := Same.upd (o := .tup vs) hA
    have hd' : IsIm ims d := by
      refine ⟨by omega, ?_, by omega, by omega, bi⟩
      have := bi (ims.getD 0 []) (by rw [List.getD_eq_getElem?_getD, List.getElem?_eq_getElem (by omega)]; exact List.getElem_mem _)
      exact isPm_len this
    have ls : LS K (upd H7 A (.tup vs)) dr (.ref G) (.ref A) c d rel ims := ⟨d7.to sA, (hg4.x d4 s7).to sA, c1, c3, l3, w5, ⟨A, vs, rfl, .inl (.of upd_same), paired_mono (fun _ _ q => lasts_tupF _ _ _ _ sA q) pv⟩, hd', li⟩
    refine ⟨.ref dr, rfl, dr, rfl, ls.dd, fun H8 y s8 d8 y0 y1 => .inl ⟨_, rfl, _, _, rfl, rfl, (by decide : (0 : Int) < 3), rfl, _, rfl, ?_⟩⟩
    have ls8 := ls.tox s8 d8
    obtain ⟨A', vs', eA, hA8, pA8⟩ := id ls8.v
    cases eA
    refine ite2 (fun _ => ?_) (fun _ => ?_)
    · refine ⟨.ref A, rfl, (1 : Int), rfl, A, _, rfl, hA8, fun H9 p1 s9 hp1 => ?_⟩
      have lv8 := Paired.length pA8
      rw [show (1 : Int) = ((1 : Nat) : Int) from rfl, cutV_to59 vs' 1 (by omega)] at hp1
      have ls9 := ls8.to s9
      have pA9 := paired_mono (fun _ _ q => lasts_tupF _ _ _ _ s9 q) pA8
      have l1 : (vs'.take 1).length = 1 := by rw [List.length_take]; omega
      refine ⟨_, rfl, p1, (c : Int), vs'.take 1, rfl, rfl, hp1, (fun e => by rw [e] at l1; cases l1), by omega, by omega, by omega, fun e1 => ?_, fun e2 p np => ?_⟩
      · have e1 : c = 1 := by omega
        have et : ims.take 1 = ims := List.take_of_length_le (by omega)
        have pt := paired_take59 1 pA9
        rw [et] at pt
        exact q7 _ _ ⟨_, _, _, _, _, _, _, _, by rw [← hd]; rfl, ⟨ls9.dd, ls9.g, c1, c3, l3, w5, ⟨p1, _, rfl, hp1, pt⟩, hd', li⟩⟩
      · have sp := Same.upd (o := .tup (List.replicate (c : Int).toNat (vs'.take 1)).flatten) np
        have lsp := ls9.to sp
        have pt := rep_paired (paired_mono (fun _ _ q => lasts_tupF _ _ _ _ sp q) (paired_take59 1 pA9)) c
        rw [Int.toNat_natCast] at *
        exact q7 _ _ ⟨_, _, _, _, _, _, _, (List.replicate c (ims.take 1)).flatten, by rw [← hd]; rfl, ⟨lsp.dd, lsp.g, c1, c3, l3, w5, ⟨p, _, rfl, .inl (.of upd_same), pt⟩, rep_im hd' c1, rep_len (by rw [List.length_take]; omega) c⟩⟩
    · exact q7 _ _ ⟨_, _, _, _, _, _, _, _, by rw [← hd]; rfl, ls8⟩
end
end L2.Px

namespace L2.Px
open PySem PySem.Spec PyProof.Rows
/-- a def of the text, from what the table of the program says of it -/
theorem at_mk {K : PySem.W.Frag} {h : Heap} {mg : Str → Option Value} (X : K.In h) (G : h.Ns mainGlobals mg) {x : Str} {st : Stmt} {ps : List Str} {f : Addr} {oc kV doc pm cdv ct : Value} {od an : Option Addr} {osl : Array (Option Value)}
    (g : PySem.W.nsIn K mainGlobals x = some (some (.ref f)))
    (l : K.lookup f = some ⟨oc, od, .func (PySem.W.fnOf x x (defArgs st) (defBody st) (defScope st) .none kV doc pm an cdv ct), osl⟩)
    (c : PySem.W.codeIn K cdv x = true) (k : PySem.W.keepIn K (.ref f) = true)
    (hb : ∀ (kV doc pm : Value) (an : Option Addr) (cdv ct : Value) (us : List Value), us.length = ps.length → bindArgs (PySem.W.fnOf x x (defArgs st) (defBody st) (defScope st) .none kV doc pm an cdv ct) ⟨us, []⟩ = pure (ps.zip us)) :
    At K mg x st ps f (PySem.W.fnOf x x (defArgs st) (defBody st) (defScope st) .none kV doc pm an cdv ct) :=
  ⟨fun_mk l c k, PySem.W.mg_of X G g, (fun_mk l c k).binds hb⟩
theorem kit_own {K : PySem.W.Frag} {S T : Addr} {b : Bool} (h2 : PySem.W.isClsIn K T = true) (h3 : PySem.W.typeIn K (.ref T) = some (.type "type")) (h4 : PySem.W.subIn K (.ref S) (.ref T) = some b) : PySem.W.kitCls K (.ref S) (.ref T) = some b := by
  have e2 : ((PySem.W.clsIn K T).isSome && PySem.W.typeIn K (.ref T) == some (.type "type")) = true := by
    have h2' : (PySem.W.clsIn K T).isSome = true := h2
    rw [h2', h3] <;> rfl
  show (if ((PySem.W.clsIn K T).isSome && PySem.W.typeIn K (.ref T) == some (.type "type")) = true then PySem.W.subIn K (.ref S) (.ref T) else none) = some b
  rw [if_pos e2]
  exact h4
theorem exm_self {K : PySem.W.Frag} {S : Addr} (h1 : PySem.W.subIn K (.ref S) (.type "BaseException") = some true) (h4 : PySem.W.kitCls K (.ref S) (.ref S) = some true) : PySem.W.exmOne K (.ref S) (.ref S) = some true := by
  have e1 : (PySem.W.subIn K (.ref S) (.type "BaseException") == some true) = true := by rw [h1] <;> rfl
  show (if (PySem.W.subIn K (.ref S) (.type "BaseException") == some true) = true then PySem.W.kitCls K (.ref S) (.ref S) else none) = some true
  rw [if_pos e1]
  exact h4
theorem kit_yes {K : PySem.W.Frag} {S T : Addr} (h : PySem.W.kitCls K (.ref S) (.ref T) = some true) : PySem.W.kitOne K (.ref S) (.ref T) = some true := by
  show (if ((Value.ref S) == (.ref T)) = true then some true else PySem.W.kitCls K (.ref S) (.ref T)) = some true
  split
  · rfl
  · exact h
theorem kit_no {K : PySem.W.Frag} {S T : Addr} (n : (S == T) = false) (h : PySem.W.kitCls K (.ref S) (.ref T) = some false) : PySem.W.kitOne K (.ref S) (.ref T) = some false := by
  show (if ((Value.ref S) == (.ref T)) = true then some true else PySem.W.kitCls K (.ref S) (.ref T)) = some false
  rw [if_neg, h]
  intro z
  have : S = T := Value.ref.inj (beq_iff_eq.mp z)
  subst this
  rw [show (S == S) = true from beq_self_eq_true S] at n
  cases n
/-- a tuple of four ints at the top -/
theorem idn_mk {K : PySem.W.Frag} {a : Addr} {od : Option Addr} {osl : Array (Option Value)} {n : Nat} {y0 y1 y2 y3 : Tok} (l : K.lookup a = some ⟨.type "tuple", od, .seq #[.int 0 y0, .int 1 y1, .int 2 y2, .int 3 y3] n, osl⟩) : ∀ H, SqT K H a (iV [0, 1, 2, 3]) := fun H => by
  have r : ∀ (i : Int) (t : Tok), RelV (.int i) (.int i t) := fun i t => by first | exact rfl | exact ⟨t, rfl⟩
  exact .inr ⟨_, _, n, l, rfl, rfl, by show 4 ≤ sizeLine; decide, .cons (r _ _) (.cons (r _ _) (.cons (r _ _) (.cons (r _ _) .nil)))⟩

open PySem.OEX in
theorem all_mk {P : Program} {w : World} {K : PySem.W.Frag} {h : Heap} {mg : Str → Option Value} {fa : Addr} (X : K.In h) (G : h.Ns mainGlobals mg) (hfa : mg "law" = some (.ref fa))
    {k_GREATEST_DEGREE : Tok}
    {c_NotImages : Addr}
    {c_NotWord : Addr}
    {c_NotGroup : Addr}
    {f0 : Addr} {oc0 kV0 doc0 pm0 cd0 ct0 : Value} {od0 an0 : Option Addr} {sl0 : Array (Option Value)}
    {f1 : Addr} {oc1 kV1 doc1 pm1 cd1 ct1 : Value} {od1 an1 : Option Addr} {sl1 : Array (Option Value)}
    {f2 : Addr} {oc2 kV2 doc2 pm2 cd2 ct2 : Value} {od2 an2 : Option Addr} {sl2 : Array (Option Value)}
    {f3 : Addr} {oc3 kV3 doc3 pm3 cd3 ct3 : Value} {od3 an3 : Option Addr} {sl3 : Array (Option Value)}
    {f4 : Addr} {oc4 kV4 doc4 pm4 cd4 ct4 : Value} {od4 an4 : Option Addr} {sl4 : Array (Option Value)}
    {f5 : Addr} {oc5 kV5 doc5 pm5 cd5 ct5 : Value} {od5 an5 : Option Addr} {sl5 : Array (Option Value)}
    {f6 : Addr} {oc6 kV6 doc6 pm6 cd6 ct6 : Value} {od6 an6 : Option Addr} {sl6 : Array (Option Value)}
    {f7 : Addr} {oc7 kV7 doc7 pm7 cd7 ct7 : Value} {od7 an7 : Option Addr} {sl7 : Array (Option Value)}
    {f8 : Addr} {oc8 kV8 doc8 pm8 cd8 ct8 : Value} {od8 an8 : Option Addr} {sl8 : Array (Option Value)}
    {f9 : Addr} {oc9 kV9 doc9 pm9 cd9 ct9 : Value} {od9 an9 : Option Addr} {sl9 : Array (Option Value)}
    {f10 : Addr} {oc10 kV10 doc10 pm10 cd10 ct10 : Value} {od10 an10 : Option Addr} {sl10 : Array (Option Value)}
    {f11 : Addr} {oc11 kV11 doc11 pm11 cd11 ct11 : Value} {od11 an11 : Option Addr} {sl11 : Array (Option Value)}
    {f12 : Addr} {oc12 kV12 doc12 pm12 cd12 ct12 : Value} {od12 an12 : Option Addr} {sl12 : Array (Option Value)}
    {f13 : Addr} {oc13 kV13 doc13 pm13 cd13 ct13 : Value} {od13 an13 : Option Addr} {sl13 : Array (Option Value)}
    {f14 : Addr} {oc14 kV14 doc14 pm14 cd14 ct14 : Value} {od14 an14 : Option Addr} {sl14 : Array (Option Value)}
    {f15 : Addr} {oc15 kV15 doc15 pm15 cd15 ct15 : Value} {od15 an15 : Option Addr} {sl15 : Array (Option Value)}
    {f16 : Addr} {oc16 kV16 doc16 pm16 cd16 ct16 : Value} {od16 an16 : Option Addr} {sl16 : Array (Option Value)}
    {f17 : Addr} {oc17 kV17 doc17 pm17 cd17 ct17 : Value} {od17 an17 : Option Addr} {sl17 : Array (Option Value)}
    {f18 : Addr} {oc18 kV18 doc18 pm18 cd18 ct18 : Value} {od18 an18 : Option Addr} {sl18 : Array (Option Value)}
    {f19 : Addr} {oc19 kV19 doc19 pm19 cd19 ct19 : Value} {od19 an19 : Option Addr} {sl19 : Array (Option Value)}
    {fl : Addr} {ocl kVl docl pml cdl ctl : Value} {odl anl : Option Addr} {sll : Array (Option Value)}
    (gM_GREATEST_DEGREE : PySem.W.nsIn K mainGlobals "GREATEST_DEGREE" = some (some (.int 4 k_GREATEST_DEGREE)))
    (gBc_NotImages : PySem.W.nsIn K mainGlobals "NotImages" = some (some (.ref c_NotImages)))
    (kBc_NotImages : PySem.W.keepIn K (.ref c_NotImages) = true)
    (xBc_NotImages : PySem.W.excIn K c_NotImages [.type "ValueError", .type "Exception", .type "BaseException", .type "object"] "ValueError.__new__" = true)
    (bBc_NotImages : PySem.W.subIn K (.ref c_NotImages) (.type "BaseException") = some true)
    (tBc_NotImages : PySem.W.typeIn K (.ref c_NotImages) = some (.type "type"))
    (gBc_NotWord : PySem.W.nsIn K mainGlobals "NotWord" = some (some (.ref c_NotWord)))
    (kBc_NotWord : PySem.W.keepIn K (.ref c_NotWord) = true)
    (xBc_NotWord : PySem.W.excIn K c_NotWord [.type "ValueError", .type "Exception", .type "BaseException", .type "object"] "ValueError.__new__" = true)
    (bBc_NotWord : PySem.W.subIn K (.ref c_NotWord) (.type "BaseException") = some true)
    (tBc_NotWord : PySem.W.typeIn K (.ref c_NotWord) = some (.type "type"))
    (gBc_NotGroup : PySem.W.nsIn K mainGlobals "NotGroup" = some (some (.ref c_NotGroup)))
    (kBc_NotGroup : PySem.W.keepIn K (.ref c_NotGroup) = true)
    (xBc_NotGroup : PySem.W.excIn K c_NotGroup [.type "ValueError", .type "Exception", .type "BaseException", .type "object"] "ValueError.__new__" = true)
    (bBc_NotGroup : PySem.W.subIn K (.ref c_NotGroup) (.type "BaseException") = some true)
    (tBc_NotGroup : PySem.W.typeIn K (.ref c_NotGroup) = some (.type "type"))
    (iBc_NotGroup : PySem.W.isClsIn K c_NotGroup = true)
    (sc_NotGroupc_NotGroup : PySem.W.subIn K (.ref c_NotGroup) (.ref c_NotGroup) = some true)
    (iBc_NotImages : PySem.W.isClsIn K c_NotImages = true)
    (sc_NotImagesc_NotImages : PySem.W.subIn K (.ref c_NotImages) (.ref c_NotImages) = some true)
    (iBc_NotWord : PySem.W.isClsIn K c_NotWord = true)
    (sc_NotWordc_NotWord : PySem.W.subIn K (.ref c_NotWord) (.ref c_NotWord) = some true)
    (sc_NotImagesc_NotGroup : PySem.W.subIn K (.ref c_NotImages) (.ref c_NotGroup) = some false)
    (sc_NotWordc_NotGroup : PySem.W.subIn K (.ref c_NotWord) (.ref c_NotGroup) = some false)
    (sc_NotWordc_NotImages : PySem.W.subIn K (.ref c_NotWord) (.ref c_NotImages) = some false)
    (g0 : PySem.W.nsIn K mainGlobals "reached" = some (some (.ref f0)))
    (l0 : K.lookup f0 = some ⟨oc0, od0, .func (PySem.W.fnOf "reached" "reached" (defArgs s_reached) (defBody s_reached) (defScope s_reached) .none kV0 doc0 pm0 an0 cd0 ct0), sl0⟩)
    (c0 : PySem.W.codeIn K cd0 "reached" = true)
    (k0 : PySem.W.keepIn K (.ref f0) = true)
    (g1 : PySem.W.nsIn K mainGlobals "are_letters" = some (some (.ref f1)))
    (l1 : K.lookup f1 = some ⟨oc1, od1, .func (PySem.W.fnOf "are_letters" "are_letters" (defArgs s_are_letters) (defBody s_are_letters) (defScope s_are_letters) .none kV1 doc1 pm1 an1 cd1 ct1), sl1⟩)
    (c1 : PySem.W.codeIn K cd1 "are_letters" = true)
    (k1 : PySem.W.keepIn K (.ref f1) = true)
    (g2 : PySem.W.nsIn K mainGlobals "check_images" = some (some (.ref f2)))
    (l2 : K.lookup f2 = some ⟨oc2, od2, .func (PySem.W.fnOf "check_images" "check_images" (defArgs s_check_images) (defBody s_check_images) (defScope s_check_images) .none kV2 doc2 pm2 an2 cd2 ct2), sl2⟩)
    (c2 : PySem.W.codeIn K cd2 "check_images" = true)
    (k2 : PySem.W.keepIn K (.ref f2) = true)
    (g3 : PySem.W.nsIn K mainGlobals "are_images" = some (some (.ref f3)))
    (l3 : K.lookup f3 = some ⟨oc3, od3, .func (PySem.W.fnOf "are_images" "are_images" (defArgs s_are_images) (defBody s_are_images) (defScope s_are_images) .none kV3 doc3 pm3 an3 cd3 ct3), sl3⟩)
    (c3 : PySem.W.codeIn K cd3 "are_images" = true)
    (k3 : PySem.W.keepIn K (.ref f3) = true)
    (g4 : PySem.W.nsIn K mainGlobals "permutation_of" = some (some (.ref f4)))
    (l4 : K.lookup f4 = some ⟨oc4, od4, .func (PySem.W.fnOf "permutation_of" "permutation_of" (defArgs s_permutation_of) (defBody s_permutation_of) (defScope s_permutation_of) .none kV4 doc4 pm4 an4 cd4 ct4), sl4⟩)
    (c4 : PySem.W.codeIn K cd4 "permutation_of" = true)
    (k4 : PySem.W.keepIn K (.ref f4) = true)
    (g5 : PySem.W.nsIn K mainGlobals "satisfies" = some (some (.ref f5)))
    (l5 : K.lookup f5 = some ⟨oc5, od5, .func (PySem.W.fnOf "satisfies" "satisfies" (defArgs s_satisfies) (defBody s_satisfies) (defScope s_satisfies) .none kV5 doc5 pm5 an5 cd5 ct5), sl5⟩)
    (c5 : PySem.W.codeIn K cd5 "satisfies" = true)
    (k5 : PySem.W.keepIn K (.ref f5) = true)
    (g6 : PySem.W.nsIn K mainGlobals "is_transitive" = some (some (.ref f6)))
    (l6 : K.lookup f6 = some ⟨oc6, od6, .func (PySem.W.fnOf "is_transitive" "is_transitive" (defArgs s_is_transitive) (defBody s_is_transitive) (defScope s_is_transitive) .none kV6 doc6 pm6 an6 cd6 ct6), sl6⟩)
    (c6 : PySem.W.codeIn K cd6 "is_transitive" = true)
    (k6 : PySem.W.keepIn K (.ref f6) = true)
    (g7 : PySem.W.nsIn K mainGlobals "check_group" = some (some (.ref f7)))
    (l7 : K.lookup f7 = some ⟨oc7, od7, .func (PySem.W.fnOf "check_group" "check_group" (defArgs s_check_group) (defBody s_check_group) (defScope s_check_group) .none kV7 doc7 pm7 an7 cd7 ct7), sl7⟩)
    (c7 : PySem.W.codeIn K cd7 "check_group" = true)
    (k7 : PySem.W.keepIn K (.ref f7) = true)
    (g8 : PySem.W.nsIn K mainGlobals "image_of_word" = some (some (.ref f8)))
    (l8 : K.lookup f8 = some ⟨oc8, od8, .func (PySem.W.fnOf "image_of_word" "image_of_word" (defArgs s_image_of_word) (defBody s_image_of_word) (defScope s_image_of_word) .none kV8 doc8 pm8 an8 cd8 ct8), sl8⟩)
    (c8 : PySem.W.codeIn K cd8 "image_of_word" = true)
    (k8 : PySem.W.keepIn K (.ref f8) = true)
    (g9 : PySem.W.nsIn K mainGlobals "moves_nothing" = some (some (.ref f9)))
    (l9 : K.lookup f9 = some ⟨oc9, od9, .func (PySem.W.fnOf "moves_nothing" "moves_nothing" (defArgs s_moves_nothing) (defBody s_moves_nothing) (defScope s_moves_nothing) .none kV9 doc9 pm9 an9 cd9 ct9), sl9⟩)
    (c9 : PySem.W.codeIn K cd9 "moves_nothing" = true)
    (k9 : PySem.W.keepIn K (.ref f9) = true)
    (g10 : PySem.W.nsIn K mainGlobals "_law_number" = some (some (.ref f10)))
    (l10 : K.lookup f10 = some ⟨oc10, od10, .func (PySem.W.fnOf "_law_number" "_law_number" (defArgs s__law_number) (defBody s__law_number) (defScope s__law_number) .none kV10 doc10 pm10 an10 cd10 ct10), sl10⟩)
    (c10 : PySem.W.codeIn K cd10 "_law_number" = true)
    (k10 : PySem.W.keepIn K (.ref f10) = true)
    (g11 : PySem.W.nsIn K mainGlobals "_law_draws" = some (some (.ref f11)))
    (l11 : K.lookup f11 = some ⟨oc11, od11, .func (PySem.W.fnOf "_law_draws" "_law_draws" (defArgs s__law_draws) (defBody s__law_draws) (defScope s__law_draws) .none kV11 doc11 pm11 an11 cd11 ct11), sl11⟩)
    (c11 : PySem.W.codeIn K cd11 "_law_draws" = true)
    (k11 : PySem.W.keepIn K (.ref f11) = true)
    (g12 : PySem.W.nsIn K mainGlobals "_law_next" = some (some (.ref f12)))
    (l12 : K.lookup f12 = some ⟨oc12, od12, .func (PySem.W.fnOf "_law_next" "_law_next" (defArgs s__law_next) (defBody s__law_next) (defScope s__law_next) .none kV12 doc12 pm12 an12 cd12 ct12), sl12⟩)
    (c12 : PySem.W.codeIn K cd12 "_law_next" = true)
    (k12 : PySem.W.keepIn K (.ref f12) = true)
    (g13 : PySem.W.nsIn K mainGlobals "_law_arranged" = some (some (.ref f13)))
    (l13 : K.lookup f13 = some ⟨oc13, od13, .func (PySem.W.fnOf "_law_arranged" "_law_arranged" (defArgs s__law_arranged) (defBody s__law_arranged) (defScope s__law_arranged) .none kV13 doc13 pm13 an13 cd13 ct13), sl13⟩)
    (c13 : PySem.W.codeIn K cd13 "_law_arranged" = true)
    (k13 : PySem.W.keepIn K (.ref f13) = true)
    (g14 : PySem.W.nsIn K mainGlobals "_law_act" = some (some (.ref f14)))
    (l14 : K.lookup f14 = some ⟨oc14, od14, .func (PySem.W.fnOf "_law_act" "_law_act" (defArgs s__law_act) (defBody s__law_act) (defScope s__law_act) .none kV14 doc14 pm14 an14 cd14 ct14), sl14⟩)
    (c14 : PySem.W.codeIn K cd14 "_law_act" = true)
    (k14 : PySem.W.keepIn K (.ref f14) = true)
    (g15 : PySem.W.nsIn K mainGlobals "_law_group" = some (some (.ref f15)))
    (l15 : K.lookup f15 = some ⟨oc15, od15, .func (PySem.W.fnOf "_law_group" "_law_group" (defArgs s__law_group) (defBody s__law_group) (defScope s__law_group) .none kV15 doc15 pm15 an15 cd15 ct15), sl15⟩)
    (c15 : PySem.W.codeIn K cd15 "_law_group" = true)
    (k15 : PySem.W.keepIn K (.ref f15) = true)
    (g16 : PySem.W.nsIn K mainGlobals "_law_fulfils" = some (some (.ref f16)))
    (l16 : K.lookup f16 = some ⟨oc16, od16, .func (PySem.W.fnOf "_law_fulfils" "_law_fulfils" (defArgs s__law_fulfils) (defBody s__law_fulfils) (defScope s__law_fulfils) .none kV16 doc16 pm16 an16 cd16 ct16), sl16⟩)
    (c16 : PySem.W.codeIn K cd16 "_law_fulfils" = true)
    (k16 : PySem.W.keepIn K (.ref f16) = true)
    (g17 : PySem.W.nsIn K mainGlobals "_law_told" = some (some (.ref f17)))
    (l17 : K.lookup f17 = some ⟨oc17, od17, .func (PySem.W.fnOf "_law_told" "_law_told" (defArgs s__law_told) (defBody s__law_told) (defScope s__law_told) .none kV17 doc17 pm17 an17 cd17 ct17), sl17⟩)
    (c17 : PySem.W.codeIn K cd17 "_law_told" = true)
    (k17 : PySem.W.keepIn K (.ref f17) = true)
    (g18 : PySem.W.nsIn K mainGlobals "_law_transitive" = some (some (.ref f18)))
    (l18 : K.lookup f18 = some ⟨oc18, od18, .func (PySem.W.fnOf "_law_transitive" "_law_transitive" (defArgs s__law_transitive) (defBody s__law_transitive) (defScope s__law_transitive) .none kV18 doc18 pm18 an18 cd18 ct18), sl18⟩)
    (c18 : PySem.W.codeIn K cd18 "_law_transitive" = true)
    (k18 : PySem.W.keepIn K (.ref f18) = true)
    (g19 : PySem.W.nsIn K mainGlobals "_law_rest" = some (some (.ref f19)))
    (l19 : K.lookup f19 = some ⟨oc19, od19, .func (PySem.W.fnOf "_law_rest" "_law_rest" (defArgs s__law_rest) (defBody s__law_rest) (defScope s__law_rest) .none kV19 doc19 pm19 an19 cd19 ct19), sl19⟩)
    (c19 : PySem.W.codeIn K cd19 "_law_rest" = true)
    (k19 : PySem.W.keepIn K (.ref f19) = true)
    (gl : PySem.W.nsIn K mainGlobals "law" = some (some (.ref fl)))
    (ll : K.lookup fl = some ⟨ocl, odl, .func (PySem.W.fnOf "law" "law" (defArgs s_law) (defBody s_law) (defScope s_law) .none kVl docl pml anl cdl ctl), sll⟩)
    (cl : PySem.W.codeIn K cdl "law" = true)
    (kl : PySem.W.keepIn K (.ref fl) = true)
    (n0 : PySem.W.nsIn K mainGlobals "len" = some none)
    (n1 : PySem.W.nsIn K mainGlobals "all" = some none)
    (n2 : PySem.W.nsIn K mainGlobals "abs" = some none)
    (n3 : PySem.W.nsIn K mainGlobals "list" = some none)
    (n4 : PySem.W.nsIn K mainGlobals "range" = some none)
    (n5 : PySem.W.nsIn K mainGlobals "sorted" = some none)
    (n6 : PySem.W.nsIn K mainGlobals "tuple" = some none)
    (n7 : PySem.W.nsIn K mainGlobals "int" = some none)
    (n8 : PySem.W.nsIn K mainGlobals "repr" = some none) :
    ∃ fd : FuncData, (∀ (s : Shared) (u : Value), BindsTo s fd ⟨[u], []⟩ [("script", u)]) ∧ ∀ base : Heap, K.In base → base.Ns mainGlobals mg → GFn P w K mg base 6 fa fd ["script"] (sp_law K) := by
  have e := hfa.symm.trans (PySem.W.mg_of X G gl)
  cases e
  have N : Nm mg := ⟨PySem.W.mg_none_of X G n0, PySem.W.mg_none_of X G n1, PySem.W.mg_none_of X G n2, PySem.W.mg_none_of X G n3, PySem.W.mg_none_of X G n4, PySem.W.mg_none_of X G n5, PySem.W.mg_none_of X G n6, PySem.W.mg_none_of X G n7, PySem.W.mg_none_of X G n8⟩
  have A0 := at_mk (st := s_reached) (ps := ["links", "start"]) X G g0 l0 c0 k0 (fun _ _ _ _ _ _ us hl => match us, hl with | [_, _], _ => rfl)
  have A1 := at_mk (st := s_are_letters) (ps := ["count", "word"]) X G g1 l1 c1 k1 (fun _ _ _ _ _ _ us hl => match us, hl with | [_, _], _ => rfl)
  have A2 := at_mk (st := s_check_images) (ps := ["count", "images"]) X G g2 l2 c2 k2 (fun _ _ _ _ _ _ us hl => match us, hl with | [_, _], _ => rfl)
  have A3 := at_mk (st := s_are_images) (ps := ["images"]) X G g3 l3 c3 k3 (fun _ _ _ _ _ _ us hl => match us, hl with | [_], _ => rfl)
  have A4 := at_mk (st := s_permutation_of) (ps := ["images", "word"]) X G g4 l4 c4 k4 (fun _ _ _ _ _ _ us hl => match us, hl with | [_, _], _ => rfl)
  have A5 := at_mk (st := s_satisfies) (ps := ["group", "images"]) X G g5 l5 c5 k5 (fun _ _ _ _ _ _ us hl => match us, hl with | [_, _], _ => rfl)
  have A6 := at_mk (st := s_is_transitive) (ps := ["images"]) X G g6 l6 c6 k6 (fun _ _ _ _ _ _ us hl => match us, hl with | [_], _ => rfl)
  have A7 := at_mk (st := s_check_group) (ps := ["group"]) X G g7 l7 c7 k7 (fun _ _ _ _ _ _ us hl => match us, hl with | [_], _ => rfl)
  have A8 := at_mk (st := s_image_of_word) (ps := ["images", "word"]) X G g8 l8 c8 k8 (fun _ _ _ _ _ _ us hl => match us, hl with | [_, _], _ => rfl)
  have A9 := at_mk (st := s_moves_nothing) (ps := ["images", "word"]) X G g9 l9 c9 k9 (fun _ _ _ _ _ _ us hl => match us, hl with | [_, _], _ => rfl)
  have A10 := at_mk (st := s__law_number) (ps := ["cell"]) X G g10 l10 c10 k10 (fun _ _ _ _ _ _ us hl => match us, hl with | [_], _ => rfl)
  have A11 := at_mk (st := s__law_draws) (ps := ["script"]) X G g11 l11 c11 k11 (fun _ _ _ _ _ _ us hl => match us, hl with | [_], _ => rfl)
  have A12 := at_mk (st := s__law_next) (ps := ["draws"]) X G g12 l12 c12 k12 (fun _ _ _ _ _ _ us hl => match us, hl with | [_], _ => rfl)
  have A13 := at_mk (st := s__law_arranged) (ps := ["draws", "size"]) X G g13 l13 c13 k13 (fun _ _ _ _ _ _ us hl => match us, hl with | [_, _], _ => rfl)
  have A14 := at_mk (st := s__law_act) (ps := ["images", "word"]) X G g14 l14 c14 k14 (fun _ _ _ _ _ _ us hl => match us, hl with | [_, _], _ => rfl)
  have A15 := at_mk (st := s__law_group) (ps := ["draws"]) X G g15 l15 c15 k15 (fun _ _ _ _ _ _ us hl => match us, hl with | [_], _ => rfl)
  have A16 := at_mk (st := s__law_fulfils) (ps := ["group", "images"]) X G g16 l16 c16 k16 (fun _ _ _ _ _ _ us hl => match us, hl with | [_, _], _ => rfl)
  have A17 := at_mk (st := s__law_told) (ps := ["which", "group", "images", "word"]) X G g17 l17 c17 k17 (fun _ _ _ _ _ _ us hl => match us, hl with | [_, _, _, _], _ => rfl)
  have A18 := at_mk (st := s__law_transitive) (ps := ["images"]) X G g18 l18 c18 k18 (fun _ _ _ _ _ _ us hl => match us, hl with | [_], _ => rfl)
  have A19 := at_mk (st := s__law_rest) (ps := ["group", "images", "word", "at", "choice"]) X G g19 l19 c19 k19 (fun _ _ _ _ _ _ us hl => match us, hl with | [_, _, _, _, _], _ => rfl)
  have M_GREATEST_DEGREE := PySem.W.mg_of X G gM_GREATEST_DEGREE
  have B_NotImages : ExN K mg "NotImages" c_NotImages := ⟨PySem.W.mg_of X G gBc_NotImages, kBc_NotImages, xBc_NotImages, bBc_NotImages, tBc_NotImages⟩
  have B_NotWord : ExN K mg "NotWord" c_NotWord := ⟨PySem.W.mg_of X G gBc_NotWord, kBc_NotWord, xBc_NotWord, bBc_NotWord, tBc_NotWord⟩
  have B_NotGroup : ExN K mg "NotGroup" c_NotGroup := ⟨PySem.W.mg_of X G gBc_NotGroup, kBc_NotGroup, xBc_NotGroup, bBc_NotGroup, tBc_NotGroup⟩
  have m_GG : PySem.W.exmOne K (.ref c_NotGroup) (.ref c_NotGroup) = some true := exm_of bBc_NotGroup (kit_own iBc_NotGroup tBc_NotGroup sc_NotGroupc_NotGroup)
  have m_IG : PySem.W.exmOne K (.ref c_NotImages) (.ref c_NotGroup) = some false := exm_of bBc_NotGroup (kit_own iBc_NotGroup tBc_NotGroup sc_NotImagesc_NotGroup)
  have m_II : PySem.W.exmOne K (.ref c_NotImages) (.ref c_NotImages) = some true := exm_of bBc_NotImages (kit_own iBc_NotImages tBc_NotImages sc_NotImagesc_NotImages)
  have m_WG : PySem.W.exmOne K (.ref c_NotWord) (.ref c_NotGroup) = some false := exm_of bBc_NotGroup (kit_own iBc_NotGroup tBc_NotGroup sc_NotWordc_NotGroup)
  have m_WI : PySem.W.exmOne K (.ref c_NotWord) (.ref c_NotImages) = some false := exm_of bBc_NotImages (kit_own iBc_NotImages tBc_NotImages sc_NotWordc_NotImages)
  have m_WW : PySem.W.exmOne K (.ref c_NotWord) (.ref c_NotWord) = some true := exm_of bBc_NotWord (kit_own iBc_NotWord tBc_NotWord sc_NotWordc_NotWord)
  exact ⟨_, fun s u => .of_eq rfl, fun base _ _ => 
    have G__law_number : FnOk P w K mg base CX0 1 f10 _ ["cell"] (sp__law_number K) := ok__law_number (A10).F N
    have G__law_draws : FnOk P w K mg base CX0 2 f11 _ ["script"] (sp__law_draws K) := ok__law_draws (A11).F N A10 G__law_number
    have G__law_next : FnOk P w K mg base CX0 1 f12 _ ["draws"] (sp__law_next K) := ok__law_next (A12).F N
    have G__law_group : FnOk P w K mg base CX0 2 f15 _ ["draws"] (sp__law_group K) := ok__law_group (A15).F N A12 G__law_next
    have G_are_images : FnOk P w K mg base CX0 1 f3 _ ["images"] (sp_are_images K) := ok_are_images (A3).F N M_GREATEST_DEGREE
    have G_check_images : FnOk P w K mg base (L2.CX P w) 2 f2 _ ["count", "images"] (sp_check_images K c_NotImages) := ok_check_images (A2).F N B_NotImages A3 G_are_images
    have G_image_of_word : FnOk P w K mg base CX0 1 f8 _ ["images", "word"] (sp_image_of_word K) := ok_image_of_word (A8).F N
    have G_are_letters : FnOk P w K mg base CX0 1 f1 _ ["count", "word"] (sp_are_letters K) := ok_are_letters (A1).F N
    have G_permutation_of : FnOk P w K mg base (L2.CX P w) 3 f4 _ ["images", "word"] (sp_permutation_of K c_NotImages c_NotWord) := ok_permutation_of (A4).F N B_NotWord B_NotImages A2 G_check_images A8 G_image_of_word A1 G_are_letters
    have G_check_group : FnOk P w K mg base (L2.CX P w) 2 f7 _ ["group"] (sp_check_group K c_NotGroup) := ok_check_group (A7).F N B_NotGroup A1 G_are_letters
    have G_moves_nothing : FnOk P w K mg base CX0 2 f9 _ ["images", "word"] (sp_moves_nothing K) := ok_moves_nothing (A9).F N A8 G_image_of_word
    have G_satisfies : FnOk P w K mg base (L2.CX P w) 3 f5 _ ["group", "images"] (sp_satisfies K c_NotGroup c_NotImages) := ok_satisfies (A5).F N B_NotGroup B_NotImages A7 G_check_group A2 G_check_images A9 G_moves_nothing
    have G_reached : FnOk P w K mg base CX0 1 f0 _ ["links", "start"] (sp_reached K) := ok_reached (A0).F N
    have G_is_transitive : FnOk P w K mg base (L2.CX P w) 3 f6 _ ["images"] (sp_is_transitive K c_NotImages) := ok_is_transitive (A6).F N B_NotImages A2 G_check_images A0 G_reached
    have G__law_told : FnOk P w K mg base CX0 4 f17 _ ["which", "group", "images", "word"] (sp__law_told K) := ok__law_told (A17).F N B_NotGroup B_NotImages B_NotWord A2 G_check_images A4 G_permutation_of A5 G_satisfies A6 G_is_transitive m_GG m_IG m_II m_WG m_WI m_WW
    have G__law_rest : FnOk P w K mg base CX0 5 f19 _ ["group", "images", "word", "at", "choice"] (sp__law_rest K) := ok__law_rest (A19).F N A17 G__law_told
    have G__law_act : FnOk P w K mg base CX0 1 f14 _ ["images", "word"] (sp__law_act K) := ok__law_act (A14).F N
    have G__law_fulfils : FnOk P w K mg base CX0 2 f16 _ ["group", "images"] (sp__law_fulfils K) := ok__law_fulfils (A16).F N A14 G__law_act
    have G__law_transitive : FnOk P w K mg base CX0 1 f18 _ ["images"] (sp__law_transitive K) := ok__law_transitive (A18).F N
    have G__law_arranged : FnOk P w K mg base CX0 2 f13 _ ["draws", "size"] (sp__law_arranged K) := ok__law_arranged (A13).F N A12 G__law_next
    ok_law (fun_mk ll cl kl) N A11 G__law_draws A15 G__law_group A19 G__law_rest A14 G__law_act A16 G__law_fulfils A18 G__law_transitive A13 G__law_arranged A12 G__law_next A17 G__law_told⟩
end L2.Px

open PySem PySem.W PyProof.Rows
set_option maxRecDepth 100000 in
set_option maxHeartbeats 8000000 in
theorem PySem.Challenge.cw_wedgespace_k59_images_of_words_holds : PySem.Challenge.rw_wedgespace_k59_images_of_words.Holds := by
  w_on; o_law; k_head; (case hw => w_witness2)
  k_fill
  refine L2.Px.walkG (l := PySem.Challenge.rw_wedgespace_k59_images_of_words) (n := 63) (k := 6) (x := "script") (sp := L2.Px.sp_law) rfl (by decide) rfl ⟨rfl, by decide, by decide⟩ (fun w h Y => PySem.W.kIn_of Y) ?F ?S
  case F =>
    intro w mg fa h KX G hmg
    refine' L2.Px.all_mk KX G hmg ?zgM_GREATEST_DEGREE ?zgBc_NotImages ?zkBc_NotImages ?zxBc_NotImages ?zbBc_NotImages ?ztBc_NotImages ?zgBc_NotWord ?zkBc_NotWord ?zxBc_NotWord ?zbBc_NotWord ?ztBc_NotWord ?zgBc_NotGroup ?zkBc_NotGroup ?zxBc_NotGroup ?zbBc_NotGroup ?ztBc_NotGroup ?ziBc_NotGroup ?zsc_NotGroupc_NotGroup ?ziBc_NotImages ?zsc_NotImagesc_NotImages ?ziBc_NotWord ?zsc_NotWordc_NotWord ?zsc_NotImagesc_NotGroup ?zsc_NotWordc_NotGroup ?zsc_NotWordc_NotImages ?zg0 ?zl0 ?zc0 ?zk0 ?zg1 ?zl1 ?zc1 ?zk1 ?zg2 ?zl2 ?zc2 ?zk2 ?zg3 ?zl3 ?zc3 ?zk3 ?zg4 ?zl4 ?zc4 ?zk4 ?zg5 ?zl5 ?zc5 ?zk5 ?zg6 ?zl6 ?zc6 ?zk6 ?zg7 ?zl7 ?zc7 ?zk7 ?zg8 ?zl8 ?zc8 ?zk8 ?zg9 ?zl9 ?zc9 ?zk9 ?zg10 ?zl10 ?zc10 ?zk10 ?zg11 ?zl11 ?zc11 ?zk11 ?zg12 ?zl12 ?zc12 ?zk12 ?zg13 ?zl13 ?zc13 ?zk13 ?zg14 ?zl14 ?zc14 ?zk14 ?zg15 ?zl15 ?zc15 ?zk15 ?zg16 ?zl16 ?zc16 ?zk16 ?zg17 ?zl17 ?zc17 ?zk17 ?zg18 ?zl18 ?zc18 ?zk18 ?zg19 ?zl19 ?zc19 ?zk19 ?zgl ?zll ?zcl ?zkl ?zn0 ?zn1 ?zn2 ?zn3 ?zn4 ?zn5 ?zn6 ?zn7 ?zn8

    (case zgM_GREATEST_DEGREE => k_is)
    (case zgBc_NotImages => k_is)
    (case zkBc_NotImages => k_is)
    (case zxBc_NotImages => k_exc)
    (case zbBc_NotImages => k_is)
    (case ztBc_NotImages => k_is)
    (case zgBc_NotWord => k_is)
    (case zkBc_NotWord => k_is)
    (case zxBc_NotWord => k_exc)
    (case zbBc_NotWord => k_is)
    (case ztBc_NotWord => k_is)
    (case zgBc_NotGroup => k_is)
    (case zkBc_NotGroup => k_is)
    (case zxBc_NotGroup => k_exc)
    (case zbBc_NotGroup => k_is)
    (case ztBc_NotGroup => k_is)
    (case ziBc_NotGroup => k_is)
    (case zsc_NotGroupc_NotGroup => first | rfl | k_is)
    (case ziBc_NotImages => k_is)
    (case zsc_NotImagesc_NotImages => first | rfl | k_is)
    (case ziBc_NotWord => k_is)
    (case zsc_NotWordc_NotWord => first | rfl | k_is)
    (case zsc_NotImagesc_NotGroup => k_is)
    (case zsc_NotWordc_NotGroup => k_is)
    (case zsc_NotWordc_NotImages => k_is)
    (case zg0 => k_is)
    (case zl0 => k_is)
    (case zc0 => k_is)
    (case zk0 => k_is)
    (case zg1 => k_is)
    (case zl1 => k_is)
    (case zc1 => k_is)
    (case zk1 => k_is)
    (case zg2 => k_is)
    (case zl2 => k_is)
    (case zc2 => k_is)
    (case zk2 => k_is)
    (case zg3 => k_is)
    (case zl3 => k_is)
    (case zc3 => k_is)
    (case zk3 => k_is)
    (case zg4 => k_is)
    (case zl4 => k_is)
    (case zc4 => k_is)
    (case zk4 => k_is)
    (case zg5 => k_is)
    (case zl5 => k_is)
    (case zc5 => k_is)
    (case zk5 => k_is)
    (case zg6 => k_is)
    (case zl6 => k_is)
    (case zc6 => k_is)
    (case zk6 => k_is)
    (case zg7 => k_is)
    (case zl7 => k_is)
    (case zc7 => k_is)
    (case zk7 => k_is)
    (case zg8 => k_is)
    (case zl8 => k_is)
    (case zc8 => k_is)
    (case zk8 => k_is)
    (case zg9 => k_is)
    (case zl9 => k_is)
    (case zc9 => k_is)
    (case zk9 => k_is)
    (case zg10 => k_is)
    (case zl10 => k_is)
    (case zc10 => k_is)
    (case zk10 => k_is)
    (case zg11 => k_is)
    (case zl11 => k_is)
    (case zc11 => k_is)
    (case zk11 => k_is)
    (case zg12 => k_is)
    (case zl12 => k_is)
    (case zc12 => k_is)
    (case zk12 => k_is)
    (case zg13 => k_is)
    (case zl13 => k_is)
    (case zc13 => k_is)
    (case zk13 => k_is)
    (case zg14 => k_is)
    (case zl14 => k_is)
    (case zc14 => k_is)
    (case zk14 => k_is)
    (case zg15 => k_is)
    (case zl15 => k_is)
    (case zc15 => k_is)
    (case zk15 => k_is)
    (case zg16 => k_is)
    (case zl16 => k_is)
    (case zc16 => k_is)
    (case zk16 => k_is)
    (case zg17 => k_is)
    (case zl17 => k_is)
    (case zc17 => k_is)
    (case zk17 => k_is)
    (case zg18 => k_is)
    (case zl18 => k_is)
    (case zc18 => k_is)
    (case zk18 => k_is)
    (case zg19 => k_is)
    (case zl19 => k_is)
    (case zc19 => k_is)
    (case zk19 => k_is)
    (case zgl => k_is)
    (case zll => k_is)
    (case zcl => k_is)
    (case zkl => k_is)
    (case zn0 => k_is)
    (case zn1 => k_is)
    (case zn2 => k_is)
    (case zn3 => k_is)
    (case zn4 => k_is)
    (case zn5 => k_is)
    (case zn6 => k_is)
    (case zn7 => k_is)
    (case zn8 => k_is)
  case S =>
    intro K H a ns hl hS
    exact ⟨a, ns, rfl, hS, hl, fun _ => rfl⟩


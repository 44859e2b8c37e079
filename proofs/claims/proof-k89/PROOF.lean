import PyProof.Rows.All
import Wide.All
import OpenK.AllK
import Wide.FinOn
import PxPl
import HandS.Text
import PxIs
import PxNG
import PxDc
import HandS.ForExc
import HandS.Comp
import HandS.Iter
import HandS.Walk
import HandS.SortInts
import HandS.Deep
import HandS.ExcIs
import HandS.IsInst
import HandS.TupSets
import HandS.TupAny
import KE.KSortedM
import KE.KEqDeep
import KE.KIndexOf
import PyProof.ReprLen
import HandS.Style
import HandS.Zip
import PySem.Challenge.RW_wedgespace_k89_words_of_lines
set_option Elab.async false
set_option linter.all false
set_option maxRecDepth 100000
set_option maxHeartbeats 4000000
namespace L2.Px
open PySem PySem.Spec PyProof.Rows
/-! PxStr: texts: names for the rules of the hand layer; splitting at a space; numbers below 100 -/
abbrev rSplit : V → List V → Hp → VK → Prop := fun x xs H Q => ∃ a b, x = .str a ∧ xs = [.str b] ∧ (b.length == 0) = false ∧ a.length + 2 ≤ sizeLine ∧ rNewStrs (Txt.split a b) H Q
abbrev rJoin (K : PySem.W.Frag) : V → List V → Hp → VK → Prop := fun x xs H Q => ∃ a p, ∃ ys : List Str, x = .str a ∧ xs = [.ref p] ∧ (SqL K H p (ys.map V.str) ∨ SqT K H p (ys.map V.str)) ∧ (ys.map (·.length)).sum + ys.length * a.length ≤ 16777216 ∧ Q (.str (Txt.join a ys)) H
abbrev rInSg : V → V → Hp → VK → Prop := fun x y H Q => ∃ (c : Nat) (z : Str), x = .str ⟨#[c]⟩ ∧ y = .str z ∧ Q (.bl (decide (c ∈ z.cps.toList))) H
abbrev rInSgN : V → V → Hp → VK → Prop := fun x y H Q => ∃ (c : Nat) (z : Str), x = .str ⟨#[c]⟩ ∧ y = .str z ∧ Q (.bl (!decide (c ∈ z.cps.toList))) H
abbrev rLeS : V → V → Hp → VK → Prop := fun x y H Q => ∃ i j, x = .str i ∧ y = .str j ∧ Q (.bl (!decide (j.cps.toList < i.cps.toList))) H
abbrev rIntS : List V → Hp → VK → Prop := fun xs H Q => ∃ a n, xs = [.str a] ∧ PySem.intText? a = some n ∧ a.length ≤ 640 ∧ Q (.int n) H
abbrev rStrI : List V → Hp → VK → Prop := fun xs H Q => ∃ i : Int, xs = [.int i] ∧ i.natAbs.log2 < 1920 ∧ Q (.str (toString i)) H
abbrev rOrd : List V → Hp → VK → Prop := fun xs H Q => ∃ x, xs = [.str x] ∧ x.length = 1 ∧ Q (.int (x.cps.getD 0 0 : Nat)) H
theorem lt_one (c d : Nat) : decide ([c] < [d]) = decide (c < d) := by
  refine decide_eq_decide.mpr ⟨fun h => ?_, fun h => List.Lex.rel h⟩
  cases h with
  | rel h => exact h
  | cons h => cases h
theorem pre1 (s c : Nat) (r : List Nat) : TL.pre [s] (c :: r) = (c == s) := by
  show ([c] == [s]) = (c == s)
  by_cases e : c = s
  · subst e
    rw [beq_self_eq_true, beq_self_eq_true]
  · rw [beq_eq_false_iff_ne.mpr e, beq_eq_false_iff_ne.mpr fun z => e (List.cons.inj z).1]
theorem spl1 (s : Nat) (acc : List Nat) (c : Nat) (r : List Nat) : TL.spl [s] 0 acc (c :: r) = if c = s then acc :: TL.spl [s] 0 [] r else TL.spl [s] 0 (acc ++ [c]) r := by
  by_cases e : c = s
  · rw [if_pos e, TL.spl_hit (by rw [pre1, e, beq_self_eq_true])]
    rfl
  · rw [if_neg e, TL.spl_miss (by rw [pre1]; exact beq_eq_false_iff_ne.mpr e)]
/-- what all words say, all signs of the line say -/
theorem spl_all (s : Nat) (g : Nat → Bool) : ∀ (l acc : List Nat), (TL.spl [s] 0 acc l).all (·.all g) = (acc.all g && l.all fun c => c == s || g c)
  | [], acc => by
    rw [TL.spl_nil]
    simp
  | c :: r, acc => by
    rw [spl1]
    by_cases e : c = s
    · rw [if_pos e, List.all_cons, spl_all s g r [], List.all_cons, e, beq_self_eq_true]
      simp
    · rw [if_neg e, spl_all s g r, List.all_append, List.all_cons, List.all_cons, beq_eq_false_iff_ne.mpr e]
      simp [Bool.and_assoc]
theorem spl_free (s : Nat) : ∀ (l acc : List Nat), s ∉ acc → ∀ p ∈ TL.spl [s] 0 acc l, s ∉ p
  | [], acc, h, p, hp => by
    rw [TL.spl_nil] at hp
    rw [List.mem_singleton.mp hp]
    exact h
  | c :: r, acc, h, p, hp => by
    rw [spl1] at hp
    by_cases e : c = s
    · rw [if_pos e] at hp
      rcases List.mem_cons.mp hp with q | q
      · rw [q]; exact h
      · exact spl_free s r [] (fun z => by cases z) p q
    · rw [if_neg e] at hp
      refine spl_free s r _ (fun z => ?_) p hp
      rcases List.mem_append.mp z with q | q
      · exact h q
      · exact e (List.mem_singleton.mp q).symm
theorem spl_size (s : Nat) : ∀ (l acc : List Nat), ((TL.spl [s] 0 acc l).map List.length).sum ≤ acc.length + l.length ∧ (TL.spl [s] 0 acc l).length ≤ l.length + 1
  | [], acc => by
    rw [TL.spl_nil]
    simp
  | c :: r, acc => by
    rw [spl1]
    by_cases e : c = s
    · rw [if_pos e, List.map_cons, List.sum_cons, List.length_cons, List.length_cons]
      have := spl_size s r []
      rw [List.length_nil] at this
      omega
    · rw [if_neg e]
      have := spl_size s r (acc ++ [c])
      rw [List.length_append, List.length_singleton] at this
      rw [List.length_cons]
      omega
theorem split_tl (x : Str) : (Txt.split x " ").map TL.tl = TL.spl [32] 0 [] (TL.tl x) :=
  TL.split_spl x " " (by decide +kernel) (TL.kind_ok (by decide +kernel))
theorem split_size (x : Str) : ((Txt.split x " ").map (·.length)).sum ≤ x.length ∧ (Txt.split x " ").length ≤ x.length + 1 := by
  have h := spl_size 32 (TL.tl x) []
  rw [← split_tl, List.map_map, List.length_map, List.length_nil, ← TL.len_tl, Nat.zero_add] at h
  refine ⟨?_, h.2⟩
  have e : (Txt.split x " ").map (·.length) = (Txt.split x " ").map (List.length ∘ TL.tl) := List.map_congr_left fun y _ => TL.len_tl y
  rw [e]
  exact h.1
theorem split_all (g : Nat → Bool) (x : Str) : ((Txt.split x " ").all fun y => (TL.tl y).all g) = (TL.tl x).all fun c => c == 32 || g c := by
  have h := spl_all 32 g (TL.tl x) []
  rw [← split_tl, List.all_map, List.all_nil, Bool.true_and] at h
  exact h
theorem sum_mem : ∀ {l : List Nat} {x : Nat}, x ∈ l → x ≤ l.sum
  | y :: l, x, h => by
    rw [List.sum_cons]
    rcases List.mem_cons.mp h with h | h
    · omega
    · have := sum_mem h
      omega
theorem sum_filter (p : Str → Bool) : ∀ l : List Str, ((l.filter p).map (·.length)).sum ≤ (l.map (·.length)).sum
  | [] => Nat.le_refl _
  | y :: l => by
    rw [List.filter_cons]
    have := sum_filter p l
    split
    · simp only [List.map_cons, List.sum_cons]
      omega
    · simp only [List.map_cons, List.sum_cons]
      omega
theorem split_len {x y : Str} (h : y ∈ Txt.split x " ") : y.length ≤ x.length := Nat.le_trans (sum_mem (List.mem_map.mpr ⟨y, h, rfl⟩)) (split_size x).1
theorem join_len (a : Str) (ys : List Str) : (Txt.join a ys).length ≤ (ys.map (·.length)).sum + ys.length * a.length := by
  rw [TL.join_eq]
  exact StrLaws.join_length_le a ys
/-! ### numbers below 100 -/
def numS (n : Nat) : Str := Str.ofString (toString ((n : Nat) : Int))
def isNum (l : List Nat) : Bool := (decide (1 ≤ l.length) && decide (l.length ≤ 2) && l.all fun c => decide (48 ≤ c) && decide (c ≤ 57)) && !(decide (l.length = 2) && decide (l.getD 0 0 = 48))
theorem num_tab : ∀ n < 100, TL.tl (numS n) = if n < 10 then [48 + n] else [48 + n / 10, 48 + n % 10] := by decide +kernel
theorem isNum_iff (x : Str) : isNum (TL.tl x) = true ↔ ∃ n < 100, x = numS n := by
  constructor
  · intro h
    have inj : ∀ n < 100, TL.tl x = TL.tl (numS n) → ∃ n < 100, x = numS n := fun n hn e => ⟨n, hn, TL.ext_tl e⟩
    generalize TL.tl x = l at h inj
    unfold isNum at h
    simp only [Bool.and_eq_true, decide_eq_true_eq, Bool.not_eq_true', Bool.and_eq_false_iff, decide_eq_false_iff_not, List.all_eq_true] at h
    obtain ⟨⟨⟨h1, h2⟩, h3⟩, h4⟩ := h
    match l, h1, h2, h3, h4 with
    | [c], _, _, h3, _ =>
      have hc := h3 c List.mem_cons_self
      refine inj (c - 48) (by omega) ?_
      rw [num_tab _ (by omega), if_pos (by omega)]
      congr 1
      omega
    | [c, d], _, _, h3, h4 =>
      have hc := h3 c List.mem_cons_self
      have hd := h3 d (List.mem_cons_of_mem _ List.mem_cons_self)
      have hz : ¬ c = 48 := by
        rcases h4 with h4 | h4
        · exact absurd rfl h4
        · exact h4
      refine inj (10 * (c - 48) + (d - 48)) (by omega) ?_
      rw [num_tab _ (by omega), if_neg (by omega)]
      congr 1
      · omega
      · congr 1
        omega
    | [], h1, _, _, _ => exact absurd h1 (by decide)
    | _ :: _ :: _ :: _, _, h2, _, _ => simp at h2
  · rintro ⟨n, hn, rfl⟩
    revert n
    decide +kernel
theorem num_val : ∀ n < 100, PySem.intText? (numS n) = some (n : Int) := fun n hn => TL.int_num (by have := TL.numL_len (n := n) (k := 2) (by decide) (by omega); omega)
theorem num_str (n : Nat) (s : Str) : decide (V.str (numS n) = V.str s) = decide (s = numS n) := by
  by_cases e : s = numS n
  · subst e; simp
  · rw [decide_eq_false e, decide_eq_false]
    intro z
    injection z with z
    exact e z.symm
end L2.Px

namespace L2.Px
open PySem PySem.Spec PyProof.Rows
def top (i : Nat) : Stmt := PySem.Challenge.pw_wedgespace_k89_words_of_lines.main.body.getD i (.Pass ⟨0, 0, 0, 0⟩)
abbrev s_words_of : Stmt := top 5
abbrev s_is_plain : Stmt := top 6
abbrev s_is_name : Stmt := top 7
abbrev s_number_in : Stmt := top 8
abbrev s__law_cell : Stmt := top 10
abbrev s__law_values : Stmt := top 11
abbrev s__law_signs : Stmt := top 12
abbrev s__law_words : Stmt := top 13
abbrev s__law_is_name : Stmt := top 14
abbrev s__law_number : Stmt := top 15
abbrev s_law : Stmt := top 16
/-- the built-in names that the text leaves alone -/
structure Nm (mg : Str → Option Value) : Prop where
  n_all : mg "all" = none
  n_ord : mg "ord" = none
  n_len : mg "len" = none
  n_int : mg "int" = none
  n_range : mg "range" = none
  n_str : mg "str" = none
  n_repr : mg "repr" = none
abbrev n_words_of : List Str := ["line", "words"]
theorem sc_words_of : FnScope n_words_of ["line"] (defScope s_words_of) := ⟨rfl, rfl, rfl, by decide +kernel, rfl, by decide +kernel, by decide +kernel⟩
abbrev n_is_plain : List Str := ["line", "character"]
theorem sc_is_plain : FnScope n_is_plain ["line"] (defScope s_is_plain) := ⟨rfl, rfl, rfl, by decide +kernel, rfl, by decide +kernel, by decide +kernel⟩
abbrev n_is_name : List Str := ["word", "letter"]
theorem sc_is_name : FnScope n_is_name ["word"] (defScope s_is_name) := ⟨rfl, rfl, rfl, by decide +kernel, rfl, by decide +kernel, by decide +kernel⟩
abbrev n_number_in : List Str := ["word", "digit"]
theorem sc_number_in : FnScope n_number_in ["word"] (defScope s_number_in) := ⟨rfl, rfl, rfl, by decide +kernel, rfl, by decide +kernel, by decide +kernel⟩
abbrev n__law_cell : List Str := ["script", "k"]
theorem sc__law_cell : FnScope n__law_cell ["script", "k"] (defScope s__law_cell) := ⟨rfl, rfl, rfl, by decide +kernel, rfl, by decide +kernel, by decide +kernel⟩
abbrev n__law_values : List Str := ["cell", "count", "size", "values", "rest", "k", "mixed"]
theorem sc__law_values : FnScope n__law_values ["cell", "count", "size"] (defScope s__law_values) := ⟨rfl, rfl, rfl, by decide +kernel, rfl, by decide +kernel, by decide +kernel⟩
abbrev n__law_signs : List Str := ["signs"]
theorem sc__law_signs : FnScope n__law_signs [] (defScope s__law_signs) := ⟨rfl, rfl, rfl, by decide +kernel, rfl, by decide +kernel, by decide +kernel⟩
abbrev n__law_words : List Str := ["line", "words", "word", "char"]
theorem sc__law_words : FnScope n__law_words ["line"] (defScope s__law_words) := ⟨rfl, rfl, rfl, by decide +kernel, rfl, by decide +kernel, by decide +kernel⟩
abbrev n__law_is_name : List Str := ["word", "char"]
theorem sc__law_is_name : FnScope n__law_is_name ["word"] (defScope s__law_is_name) := ⟨rfl, rfl, rfl, by decide +kernel, rfl, by decide +kernel, by decide +kernel⟩
abbrev n__law_number : List Str := ["word", "number"]
theorem sc__law_number : FnScope n__law_number ["word"] (defScope s__law_number) := ⟨rfl, rfl, rfl, by decide +kernel, rfl, by decide +kernel, by decide +kernel⟩
abbrev n_law : List Str := ["script", "chars", "values", "line", "word", "long", "figures", "digits", "words", "value"]
theorem sc_law : FnScope n_law ["script"] (defScope s_law) := ⟨rfl, rfl, rfl, by decide +kernel, rfl, by decide +kernel, by decide +kernel⟩
end L2.Px

namespace L2.Px
open PySem PySem.Spec PyProof.Rows
/-! ### what is true of data of ints -/
/-! ### the mirror -/
/-- is a list of ints a permutation of 0, 1, 2, 3 -/
def isP (ns : List Int) : Bool := ns.isPerm [0, 1, 2, 3]
theorem isP_sorted {ns ms : List Int} (hp : ms.Perm ns) (hs : ms.Pairwise (· ≤ ·)) : decide (ms = [0, 1, 2, 3]) = isP ns := by
  unfold isP
  cases e : ns.isPerm [0, 1, 2, 3] with
  | true => exact decide_eq_true (PySem.W.ksm_same (hp.trans (List.isPerm_iff.mp e)) hs (by decide))
  | false =>
    refine decide_eq_false fun z => ?_
    subst z
    have := List.isPerm_iff.mpr hp.symm
    rw [e] at this
    cases this
section
variable {P : Program} {w : World} {K : PySem.W.Frag} {mg : Str → Option Value} {base : Heap}
/-- an argument that is a tuple of ints -/
def spIsPerm (K : PySem.W.Frag) : Sp := fun vs H Q _ => ∃ (a : Addr) (ns : List Int), vs = [.ref a] ∧ SqT K H a (iV ns) ∧ ∀ H', Same H H' → Q (.bl (isP ns)) H'
/-- the built-in names that the text leaves alone -/
structure NmJ (mg : Str → Option Value) : Prop where
  srt : mg "sorted" = none
  rng : mg "range" = none
  ln : mg "len" = none
  enm : mg "enumerate" = none
  tpl : mg "tuple" = none

/-! ### product_of -/
def prodL (one other : List Int) : List Int := one.map fun i => other.getD i.toNat 0
def spProd (K : PySem.W.Frag) : Sp := fun vs H Q _ => ∃ (a b : Addr) (ns ms : List Int), vs = [.ref a, .ref b] ∧ SqT K H a (iV ns) ∧ SqT K H b (iV ms) ∧ ns.length ≤ 1000 ∧ (∀ n ∈ ns, 0 ≤ n ∧ n < (ms.length : Int)) ∧
  ∀ H' p, Same H H' → H' p = some (.tup (iV (prodL ns ms))) → Q (.ref p) H'
/-! ### taking -/
def takeL (ns ms : List Int) : Nat → List Int
  | 0 => [0, 0, 0, 0]
  | i + 1 => (takeL ns ms i).set (ns.getD i 0).toNat (ms.getD i 0)
theorem takeL_len (ns ms : List Int) : ∀ i, (takeL ns ms i).length = 4
  | 0 => rfl
  | i + 1 => (List.length_set ..).trans (takeL_len ns ms i)
def spTaking (K : PySem.W.Frag) : Sp := fun vs H Q _ => ∃ (a b : Addr) (ns ms : List Int), vs = [.ref a, .ref b] ∧ SqT K H a (iV ns) ∧ SqT K H b (iV ms) ∧ ns.length ≤ ms.length ∧ (∀ n ∈ ns, 0 ≤ n ∧ n < 4) ∧
  ∀ H' p, Same H H' → H' p = some (.tup (iV (takeL ns ms ns.length))) → Q (.ref p) H'
end
end L2.Px

namespace L2.Px
open PySem PySem.Spec PyProof.Rows
section
variable {P : Program} {w : World} {K : PySem.W.Frag} {mg : Str → Option Value} {base : Heap}
/-! ### has_odd_sign -/
/-- how many k below i have a greater entry than j has -/
def cIn (ns : List Int) (j : Nat) : Nat → Nat
  | 0 => 0
  | i + 1 => cIn ns j i + (if ns.getD j 0 < ns.getD i 0 then 1 else 0)
def cOut (ns : List Int) : Nat → Nat
  | 0 => 0
  | j + 1 => cOut ns j + cIn ns j j
theorem cIn_le (ns : List Int) (j : Nat) : ∀ i, cIn ns j i ≤ i
  | 0 => Nat.le_refl _
  | i + 1 => by
    have := cIn_le ns j i
    unfold cIn
    split <;> omega
theorem cOut_le (ns : List Int) : ∀ j, j ≤ 4 → cOut ns j ≤ 4 * j
  | 0, _ => Nat.le_refl _
  | j + 1, h => by
    have h1 := cOut_le ns j (by omega)
    have h2 := cIn_le ns j j
    unfold cOut
    omega
def oddL (ns : List Int) : Bool := decide (((cOut ns 4 : Nat) : Int) % 2 = 1)
def spOdd (K : PySem.W.Frag) : Sp := fun vs H Q _ => ∃ (a : Addr) (ns : List Int), vs = [.ref a] ∧ SqT K H a (iV ns) ∧ ns.length = 4 ∧ ∀ H', Same H H' → Q (.bl (oddL ns)) H'
abbrev rGt : R2 := rI0 fun i j => .bl (decide (j < i))
end
end L2.Px

namespace L2.Px
open PySem PySem.Spec PyProof.Rows
/-- the class BadNumber, at C -/
structure Bad (K : PySem.W.Frag) (mg : Str → Option Value) (C : Addr) : Prop where
  g : mg "BadNumber" = some (.ref C)
  k : PySem.W.keepIn K (.ref C) = true
  x : PySem.W.excIn K C [.type "ValueError", .type "Exception", .type "BaseException", .type "object"] "ValueError.__new__" = true
  b : PySem.W.subIn K (.ref C) (.type "BaseException") = some true
  t : PySem.W.typeIn K (.ref C) = some (.type "type")
/-- the constant IDENTITY, at a -/
structure Idn (K : PySem.W.Frag) (mg : Str → Option Value) (a : Addr) : Prop where
  g : mg "IDENTITY" = some (.ref a)
  t : ∀ H, SqT K H a (iV [0, 1, 2, 3])
/-- the inverse, as `taking` makes it -/
def invL (ns : List Int) : List Int := takeL ns [0, 1, 2, 3] ns.length
theorem isP_len {ns : List Int} (h : isP ns = true) : ns.length = 4 := (List.isPerm_iff.mp h).length_eq
theorem isP_bd {ns : List Int} (h : isP ns = true) : ∀ n ∈ ns, 0 ≤ n ∧ n < 4 := fun n hn => by
  have := (List.isPerm_iff.mp h).mem_iff.mp hn
  simp at this
  omega
section
variable {P : Program} {w : World} {K : PySem.W.Frag} {mg : Str → Option Value} {base : Heap}
/-! ### inverse_of -/
def spInvOf (K : PySem.W.Frag) : Sp := fun vs H Q _ => ∃ (a : Addr) (ns : List Int), vs = [.ref a] ∧ SqT K H a (iV ns) ∧ isP ns = true ∧ ∀ H' p, Same H H' → H' p = some (.tup (iV (invL ns))) → Q (.ref p) H'
/-! ### check_permutation -/
def spCheck (K : PySem.W.Frag) (C : Addr) : Sp := fun vs H Q E => ∃ (a : Addr) (ns : List Int), vs = [.ref a] ∧ SqT K H a (iV ns) ∧ (isP ns = true → ∀ H', Same H H' → Q .non H') ∧ (isP ns = false → ∀ H', Same H H' → E (.ref C) none H')
/-! ### after, inverse, is_odd -/
def spAfter (K : PySem.W.Frag) (C : Addr) : Sp := fun vs H Q E => ∃ (a b : Addr) (ns ms : List Int), vs = [.ref a, .ref b] ∧ SqT K H a (iV ns) ∧ SqT K H b (iV ms) ∧
  (isP ns = true → isP ms = true → ∀ H' p, Same H H' → H' p = some (.tup (iV (prodL ns ms))) → Q (.ref p) H') ∧ (¬ (isP ns = true ∧ isP ms = true) → ∀ H', Same H H' → E (.ref C) none H')
def spInverse (K : PySem.W.Frag) (C : Addr) : Sp := fun vs H Q E => ∃ (a : Addr) (ns : List Int), vs = [.ref a] ∧ SqT K H a (iV ns) ∧
  (isP ns = true → ∀ H' p, Same H H' → H' p = some (.tup (iV (invL ns))) → Q (.ref p) H') ∧ (isP ns = false → ∀ H', Same H H' → E (.ref C) none H')
def spIsOdd (K : PySem.W.Frag) (C : Addr) : Sp := fun vs H Q E => ∃ (a : Addr) (ns : List Int), vs = [.ref a] ∧ SqT K H a (iV ns) ∧
  (isP ns = true → ∀ H', Same H H' → Q (.bl (oddL ns)) H') ∧ (isP ns = false → ∀ H', Same H H' → E (.ref C) none H')
end
end L2.Px

namespace L2.Px
open PySem PySem.Spec PyProof.Rows
/-! ### all_permutations -/
def t3 (a b : Nat) : Nat → List (List Int)
  | 0 => []
  | c + 1 => t3 a b c ++ [[0 + (a : Int), 0 + (b : Int), 0 + (c : Int), 6 - (0 + (a : Int)) - (0 + (b : Int)) - (0 + (c : Int))]]
def t2 (a : Nat) : Nat → List (List Int)
  | 0 => []
  | b + 1 => t2 a b ++ t3 a b 4
def t1 : Nat → List (List Int)
  | 0 => []
  | a + 1 => t1 a ++ t2 a 4
def allP : List (List Int) := (t1 4).filter isP
theorem t3_len (a b : Nat) : ∀ c, (t3 a b c).length = c
  | 0 => rfl
  | c + 1 => by
    show (t3 a b c ++ [_]).length = c + 1
    rw [List.length_append, t3_len a b c]
    rfl
theorem t2_len (a : Nat) : ∀ b, (t2 a b).length = 4 * b
  | 0 => rfl
  | b + 1 => by
    show (t2 a b ++ t3 a b 4).length = 4 * (b + 1)
    rw [List.length_append, t2_len a b, t3_len]
    omega
theorem t1_len : ∀ a, (t1 a).length = 16 * a
  | 0 => rfl
  | a + 1 => by
    show (t1 a ++ t2 a 4).length = 16 * (a + 1)
    rw [List.length_append, t1_len a, t2_len]
    omega
/-- tuples of ints at the addresses ts -/
abbrev TupsAt (H : Hp) (ts : List Addr) (nss : List (List Int)) : Prop := Paired (fun (t : Addr) (ns : List Int) => H t = some (.tup (iV ns))) ts nss
theorem TupsAt.mono {H H' : Hp} {ts : List Addr} {nss : List (List Int)} (h : TupsAt H ts nss) (k : ∀ t xs, H t = some (.tup xs) → H' t = some (.tup xs)) : TupsAt H' ts nss := Paired.mapP h fun _ _ e => k _ _ e
theorem upd_tup {H : Hp} {D : Addr} {l : List V} {o : HO} (hd : H D = some (.lst l)) {t : Addr} {xs : List V} (h : H t = some (.tup xs)) : upd H D o t = some (.tup xs) := by
  rw [upd_ne (fun z => by rw [z, hd] at h; cases h)]
  exact h
/-- a list of tuples of ints at D -/
structure LT (H : Hp) (D : Addr) (nss : List (List Int)) : Prop where
  ex : ∃ ts : List Addr, H D = some (.lst (ts.map V.ref)) ∧ TupsAt H ts nss
theorem LT.push {H : Hp} {D T : Addr} {nss : List (List Int)} {ns : List Int} (h : LT H D nss) (hT : H T = some (.tup (iV ns))) : ∃ l, H D = some (.lst l) ∧ l.length = nss.length ∧ LT (upd H D (.lst (l ++ [V.ref T]))) D (nss ++ [ns]) := by
  obtain ⟨ts, hd, hp⟩ := h.ex
  refine ⟨_, hd, by rw [List.length_map, Paired.length hp], ⟨ts ++ [T], ?_, ?_⟩⟩
  · rw [upd_same, List.map_append]
    rfl
  · exact paired_snoc (R := fun (t : Addr) (ns : List Int) => upd H D _ t = some (.tup (iV ns))) (upd_tup hd hT) (TupsAt.mono hp fun _ _ e => upd_tup hd e)
theorem LT.mono {H H' : Hp} {D : Addr} {nss : List (List Int)} (h : LT H D nss) (k : Same H H') : LT H' D nss := by
  obtain ⟨ts, hd, hp⟩ := h.ex
  exact ⟨ts, k _ _ hd, TupsAt.mono hp fun _ _ e => k _ _ e⟩
section
variable {P : Program} {w : World} {K : PySem.W.Frag} {mg : Str → Option Value} {base : Heap}
def spAll : Sp := fun vs H Q _ => vs = [] ∧ ∀ H' p, Same H H' → LT H' p allP → Q (.ref p) H'
abbrev rSub : R2 := rI0 fun i j => .int (i - j)
abbrev wR4 : TI := iRng1 (tCons (tC (.int 4)) tNil)
end
end L2.Px

namespace L2.Px
open PySem PySem.Spec PyProof.Rows
/-! ### data: a list of tuples of ints -/
abbrev tD (nss : List (List Int)) : List PyData := nss.map fun ns => .tuple (iD ns)
theorem dp_tups {K : PySem.W.Frag} {H : Hp} : ∀ {ts : List Addr} {nss : List (List Int)}, TupsAt H ts nss → DpAll K H (ts.map V.ref) (tD nss)
  | _, _, .nil => .nil
  | _, _, .cons h t => .cons (.tup (.of h) (dp_ints _)) (dp_tups t)
theorem LT.dp {K : PySem.W.Frag} {H : Hp} {D : Addr} {nss : List (List Int)} (h : LT H D nss) : Dp K H (.ref D) (.list (tD nss)) := by
  obtain ⟨ts, hd, hp⟩ := h.ex
  exact .lst (.of hd) (dp_tups hp)
theorem lay_tups : ∀ nss : List (List Int), PyData.canLayAll0 (tD nss) = true
  | [] => rfl
  | n :: r => by
    show (PyData.canLayAll0 (iD n) && PyData.canLayAll0 (tD r)) = true
    rw [lay_tups r, lay_ints]
    rfl
theorem dep_tups : ∀ nss : List (List Int), PyData.depthAll (tD nss) ≤ 1
  | [] => Nat.zero_le _
  | n :: r => by
    show max (PyData.depthAll (iD n) + 1) (PyData.depthAll (tD r)) ≤ 1
    rw [dep_ints]
    have := dep_tups r
    omega
theorem shaped_lt (nss : List (List Int)) : SeqAt.shaped (.list (tD nss)) = true := by
  show (PyData.canLayAll0 (tD nss) && decide (PyData.depthAll (tD nss) + 1 ≤ 64)) = true
  rw [lay_tups, decide_eq_true (by have := dep_tups nss; omega)]
  rfl
/-! ### every permutation is among them -/
theorem perm_in {ns : List Int} (h : isP ns = true) : ns ∈ allP := by
  have l := isP_len h
  have b := isP_bd h
  match ns, l with
  | [x, y, z, u], _ =>
    have m : ∀ n ∈ [x, y, z, u], n ∈ [(0 : Int), 1, 2, 3] := fun n hn => by
      have := b n hn
      simp
      omega
    have all : ∀ x ∈ [(0 : Int), 1, 2, 3], ∀ y ∈ [(0 : Int), 1, 2, 3], ∀ z ∈ [(0 : Int), 1, 2, 3], ∀ u ∈ [(0 : Int), 1, 2, 3], isP [x, y, z, u] = true → [x, y, z, u] ∈ allP := by decide +kernel
    exact all x (m x (by simp)) y (m y (by simp)) z (m z (by simp)) u (m u (by simp)) h
theorem in_perm {ns : List Int} (h : ns ∈ allP) : isP ns = true := (List.mem_filter.mp h).2
def idxL (ns : List Int) : Nat := allP.idxOf ns
theorem idx_all : ∀ ns ∈ allP, allP[idxL ns]? = some ns ∧ ∀ m < idxL ns, allP[m]? ≠ some ns := by decide +kernel
section
variable {P : Program} {w : World} {K : PySem.W.Frag} {mg : Str → Option Value} {base : Heap}
/-! ### index_of -/
def spIdx (K : PySem.W.Frag) (C : Addr) : Sp := fun vs H Q E => ∃ (a : Addr) (ns : List Int), vs = [.ref a] ∧ SqT K H a (iV ns) ∧
  (isP ns = true → ∀ H', Same H H' → Q (.int (idxL ns : Nat)) H') ∧ (isP ns = false → ∀ H', Same H H' → E (.ref C) none H')
theorem index_ok {K : PySem.W.Frag} {H : Hp} {D a : Addr} {ns : List Int} {Q : VK} (hD : LT H D allP) (ha : SqT K H a (iV ns)) (hp : isP ns = true) (q : Q (.int (idxL ns : Nat)) H) : rIndexD K (.ref D) [.ref a] H Q := by
  obtain ⟨i1, i2⟩ := idx_all ns (perm_in hp)
  refine ⟨D, .ref a, .tuple (iD ns), tD allP, idxL ns, .tuple (iD ns), rfl, rfl, hD.dp, dp_ti ha, shaped_lt _, shaped_ti _, ?_, ?_, fun m z hm hz => ?_, q⟩
  · rw [List.getElem?_map, i1]
    rfl
  · rw [eqv_tup]
    exact decide_eq_true rfl
  · rw [List.getElem?_map] at hz
    cases e : allP[m]? with
    | none => rw [e] at hz; cases hz
    | some ms =>
      rw [e] at hz
      cases hz
      show PyData.eqv (.tuple (iD ms)) (.tuple (iD ns)) = false
      rw [eqv_tup]
      exact decide_eq_false fun z => i2 m hm (by rw [e, z])
end
end L2.Px

namespace L2.Px
open PySem PySem.Spec PyProof.Rows
abbrev sCell : Stmt := top 10
abbrev sLaw : Stmt := top 16
section
variable {P : Program} {w : World} {K : PySem.W.Frag} {mg : Str → Option Value} {base : Heap}
/-! ### _law_cell -/
def spCell (K : PySem.W.Frag) : Sp := fun vs H Q _ => ∃ (a : Addr) (ns : List Int) (k : Nat), vs = [.ref a, .int (k : Int)] ∧ SqL K H a (iV ns) ∧ Q (.int (ns.getD k 0)) H
theorem scCell : FnScope ["script", "k"] ["script", "k"] (defScope sCell) := ⟨rfl, rfl, rfl, by decide +kernel, rfl, by decide +kernel, by decide +kernel⟩
theorem ok_cell {f : Addr} {fd : FuncData} (F : Fun K "_law_cell" "_law_cell" sCell f fd) (N : NmJ mg) : FnOk P w K mg base CX0 1 f fd ["script", "k"] (spCell K) := by
  refine F.ok scCell (fun vs H Q E h => ?_) (fun cdv A outer s H vs Q E hr h => ?_)
  · obtain ⟨a, ns, k, rfl, _⟩ := h
    rfl
  · obtain ⟨a, ns, k, rfl, hS, q⟩ := h
    refine ⟨_, pss_cons (ps_if (pt_cmpR op_lt (pv 1) (pe_callB call_len_seq (by rfl) N.ln PySem.boot_len (pa_cons (pv 0) pa_nil)) (nomark _)) (pss_one (ps_ret (pe_ix ix_list (pv 0) (pv 1) (fun _ _ => rfl)))) pss_nil)
      (pss_one (ps_ret pe_int)), ?_⟩
    refine ⟨_, rfl, .ref a, rfl, a, _, rfl, .inl hS, _, _, rfl, rfl, _, rfl, ?_⟩
    rw [List.length_map]
    refine ite2 (fun c => ?_) (fun c => ?_)
    · have c : (k : Int) < (ns.length : Int) := of_decide_eq_true c
      refine ⟨.ref a, rfl, _, rfl, a, _, (k : Int), _, rfl, rfl, hS, getD_at (by omega) c, ?_⟩
      rw [Int.toNat_natCast]
      exact q
    · have c : ¬ (k : Int) < (ns.length : Int) := fun z => c (decide_eq_true z)
      have e : ns.getD k 0 = 0 := by
        rw [List.getD_eq_getElem?_getD, List.getElem?_eq_none (by omega)]
        rfl
      rw [e] at q
      exact q

/-! ### _law_permutation -/
/-- behind k turns: what is left of the value, the entries, the corners left -/
def pst (v : Int) : Nat → Int × List Int × List Int
  | 0 => (v, [], [0, 1, 2, 3])
  | k + 1 =>
    let s := pst v k
    let i := (s.1 % (s.2.2.length : Int)).toNat
    (s.1 / (s.2.2.length : Int), s.2.1 ++ [s.2.2.getD i 0], s.2.2.take i ++ s.2.2.drop (i + 1))
def lawP (v : Int) : List Int := (pst v 4).2.1
theorem pst_left (v : Int) : ∀ k, k ≤ 4 → (pst v k).2.2.length = 4 - k
  | 0, _ => rfl
  | k + 1, h => by
    have ih := pst_left v k (by omega)
    show (List.take _ (pst v k).2.2 ++ List.drop _ (pst v k).2.2).length = 4 - (k + 1)
    have h1 : (pst v k).1 % ((pst v k).2.2.length : Int) < ((pst v k).2.2.length : Int) := Int.emod_lt_of_pos _ (by omega)
    have h0 : 0 ≤ (pst v k).1 % ((pst v k).2.2.length : Int) := Int.emod_nonneg _ (by omega)
    rw [List.length_append, List.length_take, List.length_drop]
    omega
theorem pst_made (v : Int) : ∀ k, (pst v k).2.1.length = k
  | 0 => rfl
  | k + 1 => by
    show ((pst v k).2.1 ++ [_]).length = k + 1
    rw [List.length_append, pst_made v k]
    rfl
def spPerm : Sp := fun vs H Q _ => ∃ (v : Int), vs = [.int v] ∧ ∀ H' p o, Same H H' → H' p = some (.frz o (.tup (iV (lawP v)))) → o.dict = none → Q (.ref p) H'
end
end L2.Px

namespace L2.Px
open PySem PySem.Spec PyProof.Rows
section
variable {P : Program} {w : World} {K : PySem.W.Frag} {mg : Str → Option Value} {base : Heap}
/-! ### _law_after -/
/-! ### _law_turned -/
def turnedL (ns : List Int) (k : Nat) : List Int := (List.range k).map fun (i : Nat) => ((ns.idxOf (0 + (i : Int)) : Nat) : Int)
def spTurned (K : PySem.W.Frag) : Sp := fun vs H Q _ => ∃ (a : Addr) (ns : List Int), ∃ o, vs = [.ref a] ∧ H a = some (.frz o (.tup (iV ns))) ∧ o.dict = none ∧ isP ns = true ∧ ∀ H' p, Same H H' → H' p = some (.tup (iV (turnedL ns 4))) → Q (.ref p) H'
theorem isP_all {ns : List Int} (h : isP ns = true) {i : Nat} (hi : i < 4) : (0 + (i : Int)) ∈ ns := by
  refine (List.isPerm_iff.mp h).mem_iff.mpr ?_
  simp
  omega
end
end L2.Px

namespace L2.Px
open PySem PySem.Spec PyProof.Rows
section
variable {P : Program} {w : World} {K : PySem.W.Frag} {mg : Str → Option Value} {base : Heap}
/-! ### _law_is_odd -/
def cLess (ns : List Int) (i : Nat) : Nat := (ns.drop (i + 1)).countP fun n => decide (n < ns.getD i 0)
def cSum (ns : List Int) : Nat → Nat
  | 0 => 0
  | i + 1 => cSum ns i + cLess ns i
def lawOdd (ns : List Int) : Bool := decide (((cSum ns 4 : Nat) : Int) % 2 = 1)
def spLOdd (K : PySem.W.Frag) : Sp := fun vs H Q _ => ∃ (a : Addr) (ns : List Int), vs = [.ref a] ∧ SqT K H a (iV ns) ∧ ns.length = 4 ∧ ∀ H', Same H H' → Q (.bl (lawOdd ns)) H'
abbrev rLt : R2 := rI0 fun i j => .bl (decide (i < j))
/-! ### _law_told -/
def toldD (wh : Nat) (ns ms : List Int) : PyData :=
  if wh = 0 then (if isP ns = true ∧ isP ms = true then .tuple (iD (prodL ns ms)) else .str "bad")
  else if isP ns = true then (if wh = 1 then .tuple (iD (invL ns)) else if wh = 2 then .bool (oddL ns) else .int (idxL ns : Nat)) else .str "bad"
def spTold (K : PySem.W.Frag) : Sp := fun vs H Q _ => ∃ (a b : Addr) (ns ms : List Int) (wh : Nat), vs = [.int (wh : Int), .ref a, .ref b] ∧ SqT K H a (iV ns) ∧ SqT K H b (iV ms) ∧ ∀ H' v, Same H H' → Dp K H' v (toldD wh ns ms) → Q v H'
/-- the classes for the except clause -/
structure Wed (K : PySem.W.Frag) (mg : Str → Option Value) (C W G : Addr) : Prop where
  e : ExcC K C
  m : PySem.W.exmOne K (.ref C) (.ref C) = some true
  gW : mg "WedgeError" = some (.ref W)
  gG : mg "NotGluing" = some (.ref G)
  kW : PySem.W.kitOne K (.ref C) (.ref W) = some true
  kG : PySem.W.kitOne K (.ref C) (.ref G) = some false
  mi : mg "isinstance" = none
abbrev rEqV : R2 := fun x y H Q => flatV x = true ∧ flatV y = true ∧ Q (.bl (decide (x = y))) H
end
end L2.Px

namespace L2.Px
open PySem PySem.Spec PyProof.Rows
section
variable {P : Program} {w : World} {K : PySem.W.Frag} {mg : Str → Option Value} {base : Heap}
/-- the suite: which text is told -/
def sTold0 (K : PySem.W.Frag) (C W G : Addr) : Addr → Value → Option Addr → TS := fun a cls d =>
  tRet (tIf (tAnd (tB (tCB (fun xs H Q => cls = .ref C ∧ d = none ∧ rIsE K C a xs H Q) (tCons (tVar 3) (tCons (L2.tC (.ref W)) tNil)))) (tNot (tB (tCB (fun xs H Q => cls = .ref C ∧ d = none ∧ rIsE K C a xs H Q) (tCons (tVar 3) (tCons (L2.tC (.ref G)) tNil)))))) (L2.tC (.str "bad")) (L2.tC (.str "other")))
def bTold0 (K : PySem.W.Frag) (C : Addr) : WX → TS := fun W =>
  tSeq (tIfS (tTest (tOp rEq (tVar 0) (L2.tC (.int 0)))) (tRet (tCallS (spAfter K C) (WE W) (tCons (tVar 1) (tCons (tVar 2) tNil)))) tNext)
  (tSeq (tIfS (tTest (tOp rEq (tVar 0) (L2.tC (.int 1)))) (tRet (tCallS (spInverse K C) (WE W) (tCons (tVar 1) tNil))) tNext)
  (tSeq (tIfS (tTest (tOp rEq (tVar 0) (L2.tC (.int 2)))) (tRet (tCallS (spIsOdd K C) (WE W) (tCons (tVar 1) tNil))) tNext)
  (tRet (tCallS (spIdx K C) (WE W) (tCons (tVar 1) tNil)))))
theorem nat_eq0 (wh : Nat) (n : Nat) : decide (V.int (wh : Int) = V.int (n : Int)) = decide (wh = n) := by
  by_cases e : wh = n
  · subst e; simp
  · rw [decide_eq_false e, decide_eq_false]
    intro z
    injection z with z
    omega
end
end L2.Px

namespace L2.Px
open PySem PySem.Spec PyProof.Rows
/-! ### small data and their texts -/
section
variable {X : Cx}
end
/-! ### the mathematics of the law -/
theorem law_perm : ∀ v : Nat, v < 24 → isP (lawP (v : Int)) = true := by decide +kernel
theorem law_turned : ∀ ns ∈ allP, turnedL ns 4 = invL ns := by decide +kernel
theorem law_odd : ∀ ns ∈ allP, lawOdd ns = oddL ns := by decide +kernel
theorem law_count : ∀ ns ∈ allP, (allP.countP fun m => decide (m = ns)) = 1 := by decide +kernel
theorem allP_len : allP.length = 24 := by decide +kernel
theorem allP_bd : ∀ ns ∈ allP, ns.length = 4 ∧ ∀ n ∈ ns, 0 ≤ n ∧ n < 4 := by decide +kernel
theorem allP_codes : ∀ i < 24, ∀ j < i, TS.code 4 (allP.getD j []) < TS.code 4 (allP.getD i []) := by decide +kernel
theorem allP_sm : smAll (tD allP) = true := by decide +kernel
theorem allP_wt : PyData.weightAll (tD allP) ≤ 1000 := by decide +kernel
end L2.Px

namespace L2.Px
open PySem PySem.Spec PyProof.Rows
theorem index_parts {ns : List Int} (hp : isP ns = true) : (tD allP)[idxL ns]? = some (.tuple (iD ns)) ∧ PyData.eqv (.tuple (iD ns)) (.tuple (iD ns)) = true ∧ ∀ (m : Nat) (z : PyData), m < idxL ns → (tD allP)[m]? = some z → PyData.eqv z (.tuple (iD ns)) = false := by
  obtain ⟨i1, i2⟩ := idx_all ns (perm_in hp)
  refine ⟨by rw [List.getElem?_map, i1]; rfl, by rw [eqv_tup]; exact decide_eq_true rfl, fun m z hm hz => ?_⟩
  rw [List.getElem?_map] at hz
  cases e : allP[m]? with
  | none => rw [e] at hz; cases hz
  | some ms =>
    rw [e] at hz
    cases hz
    show PyData.eqv (.tuple (iD ms)) (.tuple (iD ns)) = false
    rw [eqv_tup]
    exact decide_eq_false fun z => i2 m hm (by rw [e, z])
/-! ### slices and sums of tuples, whatever they are -/
section
variable {X : Cx}
end
theorem small_cat {xs ys : List Int} (h : xs.length + ys.length ≤ 100) : (iV xs).length + (iV ys).length ≤ sizeLine := by
  rw [List.length_map, List.length_map]
  exact Nat.le_of_lt (small1000 (by omega))
/-! ### what is told, and that it is small -/
theorem prod_bd : ∀ ns ∈ allP, ∀ ms ∈ allP, (prodL ns ms).length = 4 ∧ ∀ n ∈ prodL ns ms, 0 ≤ n ∧ n < 4 := by decide +kernel
theorem inv_bd : ∀ ns ∈ allP, (invL ns).length = 4 ∧ ∀ n ∈ invL ns, 0 ≤ n ∧ n < 4 := by decide +kernel
theorem idx_bd : ∀ ns ∈ allP, idxL ns < 24 := by decide +kernel
theorem sml_tup {ns : List Int} (hl : ns.length = 4) (hb : ∀ n ∈ ns, 0 ≤ n ∧ n < 4) : Sml (.tuple (iD ns)) := by
  have h : ∀ n ∈ ns, n.natAbs < 1000000000 := fun n hn => by have := hb n hn; omega
  refine ⟨sm_ints ns h, ?_, ?_⟩
  · show PyData.depthAll (iD ns) + 1 ≤ 60
    rw [dep_ints]
    decide
  · have := wt_ints ns h
    show PyData.weightAll (iD ns) ≤ 700000
    omega
theorem told0 {ns ms : List Int} (h1 : isP ns = true) (h2 : isP ms = true) : toldD 0 ns ms = .tuple (iD (prodL ns ms)) := by
  unfold toldD
  rw [if_pos rfl, if_pos ⟨h1, h2⟩]
theorem toldS {ns ms : List Int} {i : Nat} (hi : i ≠ 0) (h1 : isP ns = true) : toldD i ns ms = (if i = 1 then .tuple (iD (invL ns)) else if i = 2 then .bool (oddL ns) else .int (idxL ns : Nat)) := by
  unfold toldD
  rw [if_neg hi, if_pos h1]
theorem sml_told {ns ms : List Int} (h1 : ns ∈ allP) (h2 : ms ∈ allP) (i : Nat) : Sml (toldD i ns ms) := by
  by_cases hi : i = 0
  · subst hi
    rw [told0 (in_perm h1) (in_perm h2)]
    exact sml_tup (prod_bd ns h1 ms h2).1 (prod_bd ns h1 ms h2).2
  · rw [toldS hi (in_perm h1)]
    split
    · exact sml_tup (inv_bd ns h1).1 (inv_bd ns h1).2
    · split
      · exact ⟨rfl, (by decide : 0 ≤ 60), Nat.zero_le _⟩
      · have := idx_bd ns h1
        refine ⟨decide_eq_true (by omega), (by decide : 0 ≤ 60), ?_⟩
        have := wt_int (n := (idxL ns : Nat)) (by omega)
        omega
theorem told_bad0 {S ms : List Int} (h : isP S = false) (i : Nat) : toldD i S ms = .str "bad" := by
  unfold toldD
  have h1 : ¬ isP S = true := by rw [h]; decide
  by_cases hi : i = 0
  · rw [if_pos hi, if_neg fun z => h1 z.1]
  · rw [if_neg hi, if_neg h1]
theorem told_bad1 {S ms : List Int} (h : isP S = false) : toldD 0 ms S = .str "bad" := by
  have h1 : ¬ isP S = true := by rw [h]; decide
  unfold toldD
  rw [if_pos rfl, if_neg fun z => h1 z.2]
theorem dp_bad {K : PySem.W.Frag} {H : Hp} {v : V} {d : PyData} (h : Dp K H v d) (e : d = .str "bad") : v = .str "bad" := by
  subst e
  cases h
  rfl
/-- what the law expects, in the list `due` -/
theorem due_at {K : PySem.W.Frag} {H : Hp} {p5 p6 : Addr} {ns ms : List Int} (h1 : ns ∈ allP) (h2 : ms ∈ allP) (e5 : H p5 = some (.tup (iV (prodL ns ms)))) (e6 : H p6 = some (.tup (iV (turnedL ns 4)))) :
    ∀ i : Nat, i < 4 → ∃ v, atI [V.ref p5, V.ref p6, V.bl (lawOdd ns), V.int (idxL ns : Nat)] (0 + (i : Int)) = some v ∧ Dp K H v (toldD i ns ms) := by
  intro i hi
  have ei : (0 + (i : Int)) = ((i : Nat) : Int) := by omega
  rw [ei]
  have t1 := in_perm h1
  have t2 := in_perm h2
  match i, hi with
  | 0, _ => exact ⟨_, atI_nat rfl, by rw [told0 t1 t2]; exact dp_ti (.of e5)⟩
  | 1, _ => exact ⟨_, atI_nat rfl, by rw [toldS (by decide) t1, if_pos rfl, ← law_turned ns h1]; exact dp_ti (.of e6)⟩
  | 2, _ => exact ⟨_, atI_nat rfl, by rw [toldS (by decide) t1, if_neg (by decide), if_pos rfl, law_odd ns h1]; exact .bl _⟩
  | 3, _ => exact ⟨_, atI_nat rfl, by rw [toldS (by decide) t1, if_neg (by decide), if_neg (by decide)]; exact .int _⟩
/-- one of three -/
theorem one_of3 {K : PySem.W.Frag} {H : Hp} {q0 q1 q2 : Addr} {S0 S1 S2 : List Int} (z : Int) (h0 : SqT K H q0 (iV S0)) (h1 : SqT K H q1 (iV S1)) (h2 : SqT K H q2 (iV S2)) : ∃ q S, atI [V.ref q0, V.ref q1, V.ref q2] (z % 3) = some (.ref q) ∧ SqT K H q (iV S) := by
  have b0 : 0 ≤ z % 3 := Int.emod_nonneg _ (by decide)
  have b1 : z % 3 < 3 := Int.emod_lt_of_pos _ (by decide)
  obtain ⟨j, hj⟩ : ∃ j : Nat, z % 3 = (j : Int) := ⟨_, (Int.toNat_of_nonneg b0).symm⟩
  rw [hj]
  have : j < 3 := by omega
  match j, this with
  | 0, _ => exact ⟨_, _, atI_nat rfl, h0⟩
  | 1, _ => exact ⟨_, _, atI_nat rfl, h1⟩
  | 2, _ => exact ⟨_, _, atI_nat rfl, h2⟩
end L2.Px

namespace L2.Px
open PySem PySem.Spec PyProof.Rows
abbrev sValues : Stmt := top 11
section
variable {P : Program} {w : World} {K : PySem.W.Frag} {mg : Str → Option Value} {base : Heap}
/-! ### _law_values -/
def spValues : Sp := fun vs H Q _ => ∃ (c s : Int) (n : Nat), vs = [.int c, .int (n : Int), .int s] ∧ n ≤ 1000 ∧ 0 < s ∧ s < 1000000 ∧
  ∀ H' p l, Same H H' → H' p = some (.lst (iV l)) → H p = none → l.length = n → (∀ x ∈ l, 0 ≤ x ∧ x < s) → Q (.ref p) H'
theorem scValues : FnScope ["cell", "count", "size", "values", "rest", "k", "mixed"] ["cell", "count", "size"] (defScope sValues) := ⟨rfl, rfl, rfl, by decide +kernel, rfl, by decide +kernel, by decide +kernel⟩
theorem ok_values {f : Addr} {fd : FuncData} (F : Fun K "_law_values" "_law_values" sValues f fd) (N : NmJ mg) (mI : mg "int" = none) : FnOk P w K mg base CX0 1 f fd ["cell", "count", "size"] spValues := by
  refine F.ok scValues (fun vs H Q E h => ?_) (fun cdv A outer s H vs Q E hr h => ?_)
  · obtain ⟨c, s, n, rfl, _⟩ := h
    rfl
  · obtain ⟨c, z, n, rfl, hn, z0, z1, k⟩ := h
    refine ⟨_, pss_cons (ps_set (i := 3) scValues.nd rfl (.inl rfl) (pe_lst pa_nil))
      (pss_cons (ps_set (i := 4) scValues.nd rfl (.inl rfl) (pv 0))
      (pss_cons (ps_for PassesOwn.never rfl (pi_range1 (by rfl) N.rng (pa_cons (pv 1) pa_nil)) (pg_name (i := 5) scValues.nd rfl (.inl rfl))
        (pss_one (ps_if (pt_cmpR op_ge (pv 4) (pe_op op_pow pe_int pe_int) (nomark _))
          (pss_cons (ps_expr (pe_bm PySem.F.plainAttrs_list PySem.F.slot_list_append PySem.F.type_list_append mt_append (pv 3) (pa_cons (pe_op op_mod (pe_callTy call_int1 (by rfl) mI (by decide +kernel) (pa_cons (pv 4) pa_nil)) (pv 2)) pa_nil)))
            (pss_one (ps_set (i := 4) scValues.nd rfl (.inl rfl) (pe_op op_fdiv (pv 4) (pv 2)))))
          (pss_cons (ps_set (i := 6) scValues.nd rfl (.inl rfl) (pe_op op_mod (pe_op op_add (pe_op op_add (pe_op op_mul (pe_op op_mod (pe_callTy call_int1 (by rfl) mI (by decide +kernel) (pa_cons (pv 0) pa_nil)) pe_int) pe_int) (pe_op op_mul (pv 5) pe_int)) pe_int) pe_int))
            (pss_one (ps_expr (pe_bm PySem.F.plainAttrs_list PySem.F.slot_list_append PySem.F.type_list_append mt_append (pv 3) (pa_cons (pe_op op_mod (pe_op op_mod (pe_op op_mul (pv 6) pe_int) pe_int) (pv 2)) pa_nil))))))))
      (pss_one (ps_ret (pv 3))))), ?_⟩
    refine ⟨Nat.zero_le _, fun p hp => ?_⟩
    refine ⟨_, rfl, _, rfl, (n : Int), rfl, by omega, by omega, ?_⟩
    rw [Int.toNat_natCast]
    have small : ∀ l : List Int, l.length < 1000 → (iV l).length < sizeLine := fun l h => by
      rw [List.length_map]
      exact small1000 (by omega)
    refine for_it (walk_range (lo := 0)) (fun i σ H' => ∃ (y5 y6 : Option V) (r : Int) (l : List Int), σ = [some (.int c), some (.int (n : Int)), some (.int z), some (.ref p), some (.int r), y5, y6] ∧ Same H H' ∧ H' p = some (.lst (iV l)) ∧ l.length = i ∧ ∀ x ∈ l, 0 ≤ x ∧ x < z)
      ⟨none, none, c, [], rfl, Same.upd hp, upd_same, rfl, fun x hx => by cases hx⟩ (fun _ _ _ _ _ => trivial) ?_ ?_
    · rintro i x σ H1 H2 hi ⟨y5, y6, r, l, rfl, sm, hd, hl, hb⟩ ⟨rfl, rfl⟩
      have hi : i < n := hi
      have next : ∀ v : Int, ∀ x ∈ l ++ [v % z], 0 ≤ x ∧ x < z := fun v x hx => by
        rcases List.mem_append.mp hx with h | h
        · exact hb x h
        · rw [List.mem_singleton.mp h]
          exact ⟨Int.emod_nonneg _ (by omega), Int.emod_lt_of_pos _ z0⟩
      have len1 : ∀ v : Int, (l ++ [v % z]).length = i + 1 := fun v => by rw [List.length_append, hl]; rfl
      have put : ∀ (H3 : Hp) (v : Int), upd H3 p (.lst (iV l ++ [V.int (v % z)])) p = some (.lst (iV (l ++ [v % z]))) := fun H3 v => by
        rw [upd_same, iV_app]
        rfl
      refine ⟨_, rfl, _, _, rfl, rfl, ⟨by decide, by decide, by decide⟩, _, _, rfl, rfl, _, rfl, ite2 (fun cc => ?_) (fun cc => ?_)⟩
      · refine ⟨.ref p, rfl, .inl ⟨rfl, _, .of hd⟩, _, rfl, .inl ⟨_, rfl, _, rfl, _, _, rfl, rfl, z0, p, _, _, rfl, rfl, hd, small l (by omega), ?_⟩⟩
        refine ⟨_, rfl, _, rfl, _, _, rfl, rfl, ⟨z0, by omega⟩, ?_⟩
        exact ⟨_, _, _, _, rfl, own_push sm hp, put _ _, len1 _, next _⟩
      · refine ⟨_, rfl, .inl ⟨_, rfl, _, _, rfl, rfl, (by decide : (0 : Int) < 2147483647), _, _, rfl, rfl, mul_r (by decide) (by decide), _, rfl, _, _, rfl, rfl, mul_r (by decide) (by decide), _, _, rfl, rfl, _, _, rfl, rfl, _, _, rfl, rfl, (by decide : (0 : Int) < 2147483647), ?_⟩⟩
        refine ⟨.ref p, rfl, .inl ⟨rfl, _, .of hd⟩, _, rfl, _, _, rfl, rfl, mul_r (by decide) (by decide), _, _, rfl, rfl, (by decide : (0 : Int) < 2147483647), _, rfl, _, _, rfl, rfl, z0, p, _, _, rfl, rfl, hd, small l (by omega), ?_⟩
        exact ⟨_, _, _, _, rfl, own_push sm hp, put _ _, len1 _, next _⟩
    · rintro σ H1 ⟨y5, y6, r, l, rfl, sm, hd, hl, hb⟩
      exact ⟨_, rfl, k _ p l sm hd hp hl hb⟩
end
end L2.Px

namespace L2.Px
open PySem PySem.Spec PyProof.Rows
/-! ### words as data -/
theorem nat_eq89 {a b : Nat} : decide (V.int (a : Int) = V.int (b : Int)) = decide (a = b) := by
  by_cases e : a = b
  · subst e; simp
  · rw [decide_eq_false e, decide_eq_false]
    intro z
    injection z with z
    omega
def plainC (c : Nat) : Bool := (decide (32 ≤ c) && decide (c ≤ 126)) && decide (c ≠ 37)
def signC (c : Nat) : Bool := (decide (33 ≤ c) && decide (c ≤ 126)) && decide (c ≠ 37)
def smallC (c : Nat) : Bool := decide (c ∈ TL.tl "abcdefghijklmnopqrstuvwxyz")
def sgnS : Str := ("!\"#$&'()*+,-./0123456789:;<=>?@ABCDEFGHIJKLMNOPQRSTUVWXYZ[\\]^_`" : Str) ++ ("abcdefghijklmnopqrstuvwxyz{|}~" : Str)
theorem sp32 : (Str.ofString " ").cps.toList = [32] := by decide +kernel
theorem ti126 : (Str.ofString "~").cps.toList = [126] := by decide +kernel
theorem le_lo (c : Nat) : (!decide ((⟨#[c]⟩ : Str).cps.toList < (Str.ofString " ").cps.toList)) = decide (32 ≤ c) := by
  rw [sp32, show (⟨#[c]⟩ : Str).cps.toList = [c] from rfl, lt_one, ← decide_not]
  exact decide_eq_decide.mpr (by omega)
theorem le_hi (c : Nat) : (!decide ((Str.ofString "~").cps.toList < (⟨#[c]⟩ : Str).cps.toList)) = decide (c ≤ 126) := by
  rw [ti126, show (⟨#[c]⟩ : Str).cps.toList = [c] from rfl, lt_one, ← decide_not]
  exact decide_eq_decide.mpr (by omega)
theorem plain_sign (c : Nat) : plainC c = (c == 32 || signC c) := by
  by_cases h : c < 127
  · revert c
    decide +kernel
  · have e : (c == 32) = false := beq_eq_false_iff_ne.mpr (by omega)
    unfold plainC signC
    rw [e, decide_eq_false (show ¬ c ≤ 126 by omega)]
    simp
theorem sgn_tab : ∀ c < 127, decide (c ∈ TL.tl sgnS) = signC c := by decide +kernel
theorem sgn_low : ∀ c ∈ TL.tl sgnS, c < 127 := by decide +kernel
theorem sgn_in (c : Nat) : decide (c ∈ TL.tl sgnS) = signC c := by
  by_cases h : c < 127
  · exact sgn_tab c h
  · rw [decide_eq_false fun z => h (sgn_low c z)]
    unfold signC
    rw [decide_eq_false (show ¬ c ≤ 126 by omega)]
    simp
theorem dig_in (c : Nat) : decide (c ∈ TL.tl "0123456789") = (decide (48 ≤ c) && decide (c ≤ 57)) := by
  have low : ∀ c ∈ TL.tl "0123456789", c < 58 := by decide +kernel
  have tab : ∀ c < 58, decide (c ∈ TL.tl "0123456789") = (decide (48 ≤ c) && decide (c ≤ 57)) := by decide +kernel
  by_cases h : c < 58
  · exact tab c h
  · rw [decide_eq_false fun z => h (low c z), decide_eq_false (show ¬ c ≤ 57 by omega)]
    simp
def wordB (y : Str) : Bool := !(y == Str.empty) && (TL.tl y).all signC
def lineB (x : Str) : Bool := (Txt.split x " ").all wordB
def wordsD (x : Str) : PyData := if lineB x then .list ((Txt.split x " ").map PyData.str) else .none
def nameB (x : Str) : Bool := (decide (1 ≤ x.length) && decide (x.length ≤ 12)) && (TL.tl x).all smallC
def numD (x : Str) : PyData := match PySem.intText? x with
  | some n => if isNum (TL.tl x) then .int n else .none
  | none => .none
theorem line_eq (x : Str) : lineB x = (!decide (Str.empty ∈ Txt.split x " ") && (TL.tl x).all plainC) := by
  have h := split_all signC x
  have e : ((TL.tl x).all fun c => c == 32 || signC c) = (TL.tl x).all plainC := by
    congr 1
    funext c
    exact (plain_sign c).symm
  rw [e] at h
  rw [← h]
  unfold lineB
  induction Txt.split x " " with
  | nil => rfl
  | cons y l ih =>
    rw [List.all_cons, ih, List.all_cons]
    unfold wordB
    by_cases c : y = Str.empty
    · subst c
      simp
    · have c1 : (y == Str.empty) = false := beq_eq_false_iff_ne.mpr c
      have c2 : decide (Str.empty ∈ y :: l) = decide (Str.empty ∈ l) := decide_eq_decide.mpr ⟨fun z => (List.mem_cons.mp z).resolve_left (Ne.symm c), List.mem_cons_of_mem _⟩
      rw [c1, c2]
      cases (TL.tl y).all signC <;> cases decide (Str.empty ∈ l) <;> rfl
theorem inV_strs (x : Str) (l : List Str) : inV (.str x) (l.map V.str) = decide (x ∈ l) := by
  unfold inV
  rw [List.any_map]
  apply Bool.eq_iff_iff.mpr
  rw [List.any_eq_true, decide_eq_true_eq]
  constructor
  · rintro ⟨y, hy, e⟩
    have e : (y == x) = true := e
    exact beq_iff_eq.mp e ▸ hy
  · intro h
    exact ⟨x, h, beq_self_eq_true x⟩
theorem flat_strs (l : List Str) : (l.map V.str).all flatV = true := List.all_eq_true.mpr fun y hy => by
  obtain ⟨z, hz, rfl⟩ := List.mem_map.mp hy
  rfl
theorem cps_at {x : Str} {i c : Nat} (h : x.cps[i]? = some c) : (TL.tl x)[i]? = some c := by
  rw [← h]
  exact Array.getElem?_toList ..
theorem all_bl (g : Nat → Bool) (x : Str) : ((List.range x.cps.size).map fun i => g ((TL.tl x).getD i 0)).all id = (TL.tl x).all g := by
  have e : (List.range x.cps.size).map (fun i => g ((TL.tl x).getD i 0)) = (TL.tl x).map g := by
    refine List.ext_getElem (by simp) fun i h1 h2 => ?_
    have hi : i < (TL.tl x).length := by simpa using h2
    simp only [List.getElem_map, List.getElem_range]
    rw [List.getD_eq_getElem?_getD, List.getElem?_eq_getElem hi]
    rfl
  rw [e, List.all_map]
  rfl
theorem dp_strs {K : PySem.W.Frag} {H : Hp} : ∀ l : List Str, DpAll K H (l.map V.str) (l.map PyData.str)
  | [] => .nil
  | x :: l => .cons (.str x) (dp_strs l)
section
variable {P : Program} {w : World} {K : PySem.W.Frag} {mg : Str → Option Value} {base : Heap}
def sp_is_plain (K : PySem.W.Frag) : Sp := fun vs H Q _ => ∃ x : Str, vs = [.str x] ∧ x.length ≤ 1000 ∧ ∀ H', Same H H' → Q (.bl ((TL.tl x).all plainC)) H'
theorem ok_is_plain {f : Addr} {fd : FuncData} {k_PERCENT : Tok} (F : Fun K "is_plain" "is_plain" s_is_plain f fd) (N : Nm mg) (M_PERCENT : mg "PERCENT" = some (.int 37 k_PERCENT)) :
    FnOk P w K mg base CX0 1 f fd ["line"] (sp_is_plain K) := by
  refine F.ok sc_is_plain (fun vs H Q E h => ?_) (fun cdv A outer s H vs Q E hr h => ?_)
  · obtain ⟨x, rfl, _⟩ := h
    rfl
  · obtain ⟨x, rfl, hl, k⟩ := h
    refine ⟨_, pss_one (ps_ret (pe_callB (cr_all rfl) (by rfl) N.n_all (by decide +kernel) (pa_cons (pe_lc (own := [("character", 1)]) (g := gName 1) (tt := tYes) (te := tAndV (tChain (rLeS) (rLeS) (L2.tC (.str " ")) (tVar 1) (L2.tC (.str "~"))) (tOp (rNe) (tCB rOrd (tCons (tVar 1) (tNil))) (L2.tC (.int 37)))) rfl sc_is_plain.nd (pi_str (pv 0)) (blkOk_by (N := n_is_plain) (sc := defScope s_is_plain) (by decide +kernel)) (fun _ _ _ _ _ => (pg_name (i := 1) sc_is_plain.nd rfl (.inl rfl))) (fun _ _ _ _ _ => pts_nil) (fun _ _ _ _ _ => (pe_and (pe_chain op_le_str op_le_str pe_str (pv 1) pe_str) (pe_one (pe_cmpR op_ne (pe_callB call_ord (by rfl) N.n_ord (by decide +kernel) (pa_cons (pv 1) pa_nil)) (pe_glob rfl M_PERCENT (v := .int 37) ⟨_, rfl⟩) (nomark _)))))) pa_nil))), ?_⟩
    refine ⟨_, rfl, x, rfl, fun D hD => lc_map (walk_str (z := x)) RBl lasts_bl (fun i => plainC ((TL.tl x).getD i 0)) hD (by have : x.cps.size ≤ 1000 := hl; omega) (fun _ _ => trivial) ?_ ?_⟩
    · rintro i y H1 H2 hi s1 ⟨rfl, c, hc, rfl⟩ Nx kk
      have e : (TL.tl x).getD i 0 = c := by rw [List.getD_eq_getElem?_getD, cps_at hc]; rfl
      rw [e] at kk
      refine ⟨rfl, _, rfl, _, _, rfl, rfl, _, rfl, ?_⟩
      rw [le_lo]
      refine ite2 (fun c0 => ?_) (fun c0 => ?_)
      · refine ⟨_, _, rfl, rfl, _, rfl, ?_⟩
        rw [le_hi]
        refine ite2 (fun c1 => ?_) (fun c1 => ?_)
        · refine ⟨_, rfl, _, rfl, rfl, rfl, kk _ _ (Same.refl _) ?_⟩
          show V.bl _ = V.bl _
          unfold plainC
          rw [c0, c1]
          refine congrArg V.bl ?_
          show (!decide (V.int ((c : Nat) : Int) = V.int ((37 : Nat) : Int))) = _
          rw [nat_eq89, ← decide_not]
          rfl
        · refine kk _ _ (Same.refl _) ?_
          show V.bl _ = V.bl _
          unfold plainC
          rw [Bool.eq_false_iff.mpr c1, Bool.and_false, Bool.false_and]
      · refine ⟨false, rfl, ?_⟩
        refine iteF (kk _ _ (Same.refl _) ?_)
        show V.bl _ = V.bl _
        unfold plainC
        rw [Bool.eq_false_iff.mpr c0]
        rfl
    · intro H1 ws s1 hd p
      have e := paired_bl p
      subst e
      refine ⟨D, _, rfl, .of hd, ?_⟩
      rw [all_bl]
      exact k H1 s1
def sp_words_of (K : PySem.W.Frag) : Sp := fun vs H Q _ => ∃ x : Str, vs = [.str x] ∧ x.length ≤ 1000 ∧ ∀ H' v, Same H H' → Dp K H' v (wordsD x) → Q v H'
theorem ok_words_of {f : Addr} {fd : FuncData} {f_is_plain : Addr} {d_is_plain : FuncData} (F : Fun K "words_of" "words_of" s_words_of f fd) (N : Nm mg)
    (t_is_plain : At K mg "is_plain" s_is_plain ["line"] f_is_plain d_is_plain) (G_is_plain : FnOk P w K mg base CX0 1 f_is_plain d_is_plain ["line"] (sp_is_plain K)) :
    FnOk P w K mg base CX0 2 f fd ["line"] (sp_words_of K) := by
  refine F.ok sc_words_of (fun vs H Q E h => ?_) (fun cdv A outer s H vs Q E hr h => ?_)
  · obtain ⟨x, rfl, _⟩ := h
    rfl
  · obtain ⟨x, rfl, hl, k⟩ := h
    refine ⟨_, pss_cons (ps_set (i := 1) sc_words_of.nd rfl (.inl rfl) (pe_split (pv 0) pe_str))
      (pss_cons (ps_if (PW.pt (pw_or (pt_cmpR op_in_seq pe_str (pv 1) (by rfl)) (pw_or1 (pt_not (pt_val (pe_call G_is_plain (hr.mono (by decide)) rfl t_is_plain.g t_is_plain.F.kp t_is_plain.b .nil pass0 (pa_cons (pv 0) pa_nil))))))) (pss_one (ps_ret pe_non)) pss_nil)
      (pss_one (ps_ret (pv 1)))), ?_⟩
    have hs := split_size x
    refine ⟨_, rfl, ⟨x, rfl⟩, x, _, rfl, rfl, by decide +kernel, by show x.length + 2 ≤ 16777216; omega, fun p hp => ?_⟩
    have sp := Same.upd (o := .lst ((Txt.split x " ").map V.str)) hp
    have e := line_eq x
    refine ⟨.ref p, rfl, p, _, rfl, .inl (.of upd_same), rfl, flat_strs _, _, rfl, ?_⟩
    show if inV (.str Str.empty) ((Txt.split x " ").map V.str) = true then _ else _
    rw [inV_strs]
    refine ite2 (fun c0 => ?_) (fun c0 => ?_)
    · refine k _ _ sp ?_
      unfold wordsD
      rw [e, c0]
      exact .non
    · refine ⟨_, rfl, x, rfl, hl, fun H2 s2 => ?_⟩
      have c0 := Bool.eq_false_iff.mpr c0
      refine ⟨_, rfl, ?_⟩
      cases c1 : (TL.tl x).all plainC with
      | false =>
        refine iteT (k _ _ (sp.trans s2) ?_)
        unfold wordsD
        rw [e, c0, c1]
        exact .non
      | true =>
        refine iteF ⟨_, rfl, k _ _ (sp.trans s2) ?_⟩
        unfold wordsD
        rw [e, c0, c1]
        exact .lst (.of (s2 _ _ upd_same)) (dp_strs _)
def sp__law_signs (K : PySem.W.Frag) : Sp := fun vs H Q _ => vs = [] ∧ Q (.str sgnS) H
theorem ok__law_signs {f : Addr} {fd : FuncData} (F : Fun K "_law_signs" "_law_signs" s__law_signs f fd) (N : Nm mg) :
    FnOk P w K mg base CX0 1 f fd [] (sp__law_signs K) := by
  refine F.ok sc__law_signs (fun vs H Q E h => ?_) (fun cdv A outer s H vs Q E hr h => ?_)
  · obtain ⟨rfl, _⟩ := h
    rfl
  · obtain ⟨rfl, k⟩ := h
    refine ⟨_, pss_cons (ps_set (i := 0) sc__law_signs.nd rfl (.inl rfl) pe_str)
      (pss_one (ps_ret (pe_op op_add_str (pv 0) pe_str))), ?_⟩
    exact ⟨_, rfl, _, _, rfl, rfl, by show _ ≤ 16777216; decide +kernel, k⟩
def sp__law_words (K : PySem.W.Frag) : Sp := sp_words_of K
theorem ok__law_words {f : Addr} {fd : FuncData} {f__law_signs : Addr} {d__law_signs : FuncData} (F : Fun K "_law_words" "_law_words" s__law_words f fd) (N : Nm mg)
    (t__law_signs : At K mg "_law_signs" s__law_signs [] f__law_signs d__law_signs) (G__law_signs : FnOk P w K mg base CX0 1 f__law_signs d__law_signs [] (sp__law_signs K)) :
    FnOk P w K mg base CX0 2 f fd ["line"] (sp__law_words K) := by
  refine F.ok sc__law_words (fun vs H Q E h => ?_) (fun cdv A outer s H vs Q E hr h => ?_)
  · obtain ⟨x, rfl, _⟩ := h
    rfl
  · obtain ⟨x, rfl, hl, k⟩ := h
    refine ⟨_, pss_cons (ps_set (i := 1) sc__law_words.nd rfl (.inl rfl) (pe_split (pv 0) pe_str))
      (pss_cons (ps_for PassesOwn.never rfl (pi_list (pv 1)) (pg_name (i := 2) sc__law_words.nd rfl (.inl rfl)) (pss_one (ps_if (PW.pt (pw_or (pt_cmpR op_eq (pv 2) pe_str (nomark _)) (pw_or1 (pt_not (pt_val (pe_callB (cr_all rfl) (by rfl) N.n_all (by decide +kernel) (pa_cons (pe_lc (own := [("char", 3)]) (g := gName 3) (tt := tYes) (te := tOp rInSg (tVar 3) (tCall (sp__law_signs K) [] E0 tNil)) rfl sc__law_words.nd (pi_str (pv 2)) (blkOk_by (N := n__law_words) (sc := defScope s__law_words) (by decide +kernel)) (fun _ _ _ _ _ => (pg_name (i := 3) sc__law_words.nd rfl (.inl rfl))) (fun _ _ _ _ _ => pts_nil) (fun _ _ _ _ _ => (pe_cmpR op_in_sign (pv 3) (pe_call0 G__law_signs (hr.mono (by decide)) rfl t__law_signs.g t__law_signs.F.kp t__law_signs.b .nil pass0) (by rfl)))) pa_nil))))))) (pss_one (ps_ret pe_non)) pss_nil)))
      (pss_one (ps_ret (pv 1)))), ?_⟩
    have hs := split_size x
    refine ⟨_, rfl, ⟨x, rfl⟩, x, _, rfl, rfl, by decide +kernel, by show x.length + 2 ≤ 16777216; omega, fun p hp => ?_⟩
    have sp := Same.upd (o := .lst ((Txt.split x " ").map V.str)) hp
    refine ⟨.ref p, rfl, p, rfl, ⟨_, .of upd_same⟩, ?_⟩
    refine for_it (walk_list (K := K) (a := p) (xs := (Txt.split x " ").map V.str)) (fun i σ H' => ∃ y2 y3 : Option V, σ = [some (.str x), some (.ref p), y2, y3] ∧ Same H H' ∧ H' p = some (.lst ((Txt.split x " ").map V.str)) ∧ ((Txt.split x " ").take i).all wordB = true)
      ⟨none, none, rfl, sp, upd_same, rfl⟩ (fun i σ H' _ ⟨_, _, _, _, h, _⟩ => .of h) ?_ ?_
    · rintro i y σ H1 H2 hi ⟨y2, y3, rfl, s1, h1, a1⟩ ⟨rfl, hy⟩
      obtain ⟨u, hu, rfl⟩ : ∃ u, (Txt.split x " ")[i]? = some u ∧ y = .str u := by
        rw [List.getElem?_map] at hy
        cases e : (Txt.split x " ")[i]? with
        | none => rw [e] at hy; cases hy
        | some u => rw [e] at hy; exact ⟨u, rfl, (Option.some.inj hy).symm⟩
      have um := List.mem_of_getElem? hu
      have lu := split_len um
      have no : wordB u = false → lineB x = false := fun h => by
        unfold lineB
        rw [List.all_eq_false]
        exact ⟨u, um, by rw [h]; exact Bool.false_ne_true⟩
      refine ⟨_, rfl, rfl, _, rfl, ite2 (fun c0 => ?_) (fun c0 => ?_)⟩
      · have c0 : V.str u = V.str Str.empty := of_decide_eq_true c0
        injection c0 with c0
        refine k _ _ s1 ?_
        unfold wordsD
        rw [no (by rw [c0]; rfl)]
        exact .non
      have c0 : ¬ u = Str.empty := fun z => c0 (decide_eq_true (congrArg V.str z))
      have c1 : (u == Str.empty) = false := beq_eq_false_iff_ne.mpr c0
      refine ⟨_, rfl, u, rfl, fun D hD => lc_map (walk_str (z := u)) RBl lasts_bl (fun i => signC ((TL.tl u).getD i 0)) hD (by have : u.cps.size ≤ 1000 := Nat.le_trans lu hl; omega) (fun _ _ => trivial) ?_ ?_⟩
      · rintro j y H3 H4 hj s3 ⟨rfl, c, hc, rfl⟩ Nx kk
        have e : (TL.tl u).getD j 0 = c := by rw [List.getD_eq_getElem?_getD, cps_at hc]; rfl
        rw [e] at kk
        refine ⟨rfl, _, rfl, rfl, c, sgnS, rfl, rfl, kk _ _ (Same.refl _) ?_⟩
        exact congrArg V.bl (sgn_in c)
      · intro H3 ws s3 hd p3
        have e := paired_bl p3
        subst e
        refine ⟨D, _, rfl, .of hd, ?_⟩
        rw [all_bl]
        have wu : wordB u = (TL.tl u).all signC := by
          unfold wordB
          rw [c1]
          rfl
        refine ⟨_, rfl, ?_⟩
        rw [← wu]
        cases c2 : wordB u with
        | false =>
          refine iteT (k _ _ (s1.trans s3) ?_)
          unfold wordsD
          rw [no c2]
          exact .non
        | true =>
          refine iteF ⟨_, _, rfl, s1.trans s3, s3 _ _ h1, ?_⟩
          rw [take_snoc hu, List.all_append, a1, List.all_cons, c2]
          rfl
    · rintro σ H1 ⟨y2, y3, rfl, s1, h1, a1⟩
      rw [List.length_map, List.take_length] at a1
      refine ⟨_, rfl, k _ _ s1 ?_⟩
      unfold wordsD
      rw [show lineB x = true from a1]
      exact .lst (.of h1) (dp_strs _)
theorem name_len (x : Str) : (decide ((1 : Int) ≤ (x.length : Int)) = decide (1 ≤ x.length)) ∧ (decide ((x.length : Int) ≤ 12) = decide (x.length ≤ 12)) ∧ (decide ((x.length : Int) ≤ 2) = decide (x.length ≤ 2)) :=
  ⟨decide_eq_decide.mpr (by omega), decide_eq_decide.mpr (by omega), decide_eq_decide.mpr (by omega)⟩
def sp_is_name (K : PySem.W.Frag) : Sp := fun vs H Q _ => ∃ x : Str, vs = [.str x] ∧ x.length ≤ 1000 ∧ ∀ H', Same H H' → Q (.bl (nameB x)) H'
def sp__law_is_name (K : PySem.W.Frag) : Sp := sp_is_name K
theorem ok_is_name {f : Addr} {fd : FuncData} {k_LONGEST_NAME : Tok} {k_SMALL_LETTERS : Tok} (F : Fun K "is_name" "is_name" s_is_name f fd) (N : Nm mg) (M_LONGEST_NAME : mg "LONGEST_NAME" = some (.int 12 k_LONGEST_NAME)) (M_SMALL_LETTERS : mg "SMALL_LETTERS" = some (.str "abcdefghijklmnopqrstuvwxyz" k_SMALL_LETTERS)) :
    FnOk P w K mg base CX0 1 f fd ["word"] (sp_is_name K) := by
  refine F.ok sc_is_name (fun vs H Q E h => ?_) (fun cdv A outer s H vs Q E hr h => ?_)
  · obtain ⟨x, rfl, _⟩ := h
    rfl
  · obtain ⟨x, rfl, hl, k⟩ := h
    refine ⟨_, pss_one (ps_ret (pe_and (pe_chain op_le op_le pe_int (pe_callB call_len_str (by rfl) N.n_len PySem.boot_len (pa_cons (pv 0) pa_nil)) (pe_glob rfl M_LONGEST_NAME (v := .int 12) ⟨_, rfl⟩)) (pe_one (pe_callB (cr_all rfl) (by rfl) N.n_all (by decide +kernel) (pa_cons (pe_lc (own := [("letter", 1)]) (g := gName 1) (tt := tYes) (te := tOp rInSg (tVar 1) (L2.tC (.str "abcdefghijklmnopqrstuvwxyz"))) rfl sc_is_name.nd (pi_str (pv 0)) (blkOk_by (N := n_is_name) (sc := defScope s_is_name) (by decide +kernel)) (fun _ _ _ _ _ => (pg_name (i := 1) sc_is_name.nd rfl (.inl rfl))) (fun _ _ _ _ _ => pts_nil) (fun _ _ _ _ _ => (pe_cmpR op_in_sign (pv 1) (pe_glob rfl M_SMALL_LETTERS (v := .str "abcdefghijklmnopqrstuvwxyz") ⟨_, rfl⟩) (by rfl)))) pa_nil))))), ?_⟩
    obtain ⟨n1, n2, _⟩ := name_len x
    have hz : x.length ≤ sizeLine := by show x.length ≤ 16777216; omega
    refine ⟨_, rfl, x, rfl, hz, _, _, rfl, rfl, _, rfl, ?_⟩
    unfold nameB at k
    rw [n1]
    refine ite2 (fun c0 => ?_) (fun c0 => ?_)
    · refine ⟨_, _, rfl, rfl, _, rfl, ?_⟩
      rw [n2]
      refine ite2 (fun c1 => ?_) (fun c1 => ?_)
      · rw [c0, c1] at k
        refine ⟨_, rfl, x, rfl, fun D hD => lc_map (walk_str (z := x)) RBl lasts_bl (fun i => smallC ((TL.tl x).getD i 0)) hD (by have : x.cps.size ≤ 1000 := hl; omega) (fun _ _ => trivial) ?_ ?_⟩
        · rintro i y H1 H2 hi s1 ⟨rfl, c, hc, rfl⟩ Nx kk
          have e : (TL.tl x).getD i 0 = c := by rw [List.getD_eq_getElem?_getD, cps_at hc]; rfl
          rw [e] at kk
          exact ⟨rfl, _, rfl, c, _, rfl, rfl, kk _ _ (Same.refl _) rfl⟩
        · intro H1 ws s1 hd p
          have e := paired_bl p
          subst e
          refine ⟨D, _, rfl, .of hd, ?_⟩
          rw [all_bl]
          exact k H1 s1
      · rw [Bool.eq_false_iff.mpr c1, Bool.and_false, Bool.false_and] at k
        exact k H (Same.refl H)
    · refine ⟨false, rfl, iteF ?_⟩
      rw [Bool.eq_false_iff.mpr c0, Bool.false_and, Bool.false_and] at k
      exact k H (Same.refl H)
theorem ok__law_is_name {f : Addr} {fd : FuncData} (F : Fun K "_law_is_name" "_law_is_name" s__law_is_name f fd) (N : Nm mg) :
    FnOk P w K mg base CX0 1 f fd ["word"] (sp__law_is_name K) := by
  refine F.ok sc__law_is_name (fun vs H Q E h => ?_) (fun cdv A outer s H vs Q E hr h => ?_)
  · obtain ⟨x, rfl, _⟩ := h
    rfl
  · obtain ⟨x, rfl, hl, k⟩ := h
    refine ⟨_, pss_one (ps_ret (pe_and (pe_chain op_le op_le pe_int (pe_callB call_len_str (by rfl) N.n_len PySem.boot_len (pa_cons (pv 0) pa_nil)) pe_int) (pe_one (pe_callB (cr_all rfl) (by rfl) N.n_all (by decide +kernel) (pa_cons (pe_lc (own := [("char", 1)]) (g := gName 1) (tt := tYes) (te := tOp rInSg (tVar 1) (L2.tC (.str "abcdefghijklmnopqrstuvwxyz"))) rfl sc__law_is_name.nd (pi_str (pv 0)) (blkOk_by (N := n__law_is_name) (sc := defScope s__law_is_name) (by decide +kernel)) (fun _ _ _ _ _ => (pg_name (i := 1) sc__law_is_name.nd rfl (.inl rfl))) (fun _ _ _ _ _ => pts_nil) (fun _ _ _ _ _ => (pe_cmpR op_in_sign (pv 1) pe_str (by rfl)))) pa_nil))))), ?_⟩
    obtain ⟨n1, n2, _⟩ := name_len x
    have hz : x.length ≤ sizeLine := by show x.length ≤ 16777216; omega
    refine ⟨_, rfl, x, rfl, hz, _, _, rfl, rfl, _, rfl, ?_⟩
    unfold nameB at k
    rw [n1]
    refine ite2 (fun c0 => ?_) (fun c0 => ?_)
    · refine ⟨_, _, rfl, rfl, _, rfl, ?_⟩
      rw [n2]
      refine ite2 (fun c1 => ?_) (fun c1 => ?_)
      · rw [c0, c1] at k
        refine ⟨_, rfl, x, rfl, fun D hD => lc_map (walk_str (z := x)) RBl lasts_bl (fun i => smallC ((TL.tl x).getD i 0)) hD (by have : x.cps.size ≤ 1000 := hl; omega) (fun _ _ => trivial) ?_ ?_⟩
        · rintro i y H1 H2 hi s1 ⟨rfl, c, hc, rfl⟩ Nx kk
          have e : (TL.tl x).getD i 0 = c := by rw [List.getD_eq_getElem?_getD, cps_at hc]; rfl
          rw [e] at kk
          exact ⟨rfl, _, rfl, c, _, rfl, rfl, kk _ _ (Same.refl _) rfl⟩
        · intro H1 ws s1 hd p
          have e := paired_bl p
          subst e
          refine ⟨D, _, rfl, .of hd, ?_⟩
          rw [all_bl]
          exact k H1 s1
      · rw [Bool.eq_false_iff.mpr c1, Bool.and_false, Bool.false_and] at k
        exact k H (Same.refl H)
    · refine ⟨false, rfl, iteF ?_⟩
      rw [Bool.eq_false_iff.mpr c0, Bool.false_and, Bool.false_and] at k
      exact k H (Same.refl H)
def sp_number_in (K : PySem.W.Frag) : Sp := fun vs H Q _ => ∃ x : Str, vs = [.str x] ∧ x.length ≤ 1000 ∧ ∀ H' v, Same H H' → Dp K H' v (numD x) → Q v H'
theorem isNum_len {x : Str} (h : isNum (TL.tl x) = true) : x.length ≤ 2 := by
  unfold isNum at h
  simp only [Bool.and_eq_true, decide_eq_true_eq] at h
  rw [TL.len_tl]
  exact h.1.1.2
theorem numD_no {x : Str} (h : isNum (TL.tl x) = false) : numD x = .none := by
  unfold numD
  split
  · rw [h]; rfl
  · rfl
theorem ok_number_in {f : Addr} {fd : FuncData} {k_DIGITS : Tok} (F : Fun K "number_in" "number_in" s_number_in f fd) (N : Nm mg) (M_DIGITS : mg "DIGITS" = some (.str "0123456789" k_DIGITS)) :
    FnOk P w K mg base CX0 1 f fd ["word"] (sp_number_in K) := by
  refine F.ok sc_number_in (fun vs H Q E h => ?_) (fun cdv A outer s H vs Q E hr h => ?_)
  · obtain ⟨x, rfl, _⟩ := h
    rfl
  · obtain ⟨x, rfl, hl, k⟩ := h
    refine ⟨_, pss_cons (ps_if (PW.pt (pw_or (pt_not (pt_chain op_le op_le pe_int (pe_callB call_len_str (by rfl) N.n_len PySem.boot_len (pa_cons (pv 0) pa_nil)) pe_int)) (pw_or1 (pt_not (pt_val (pe_callB (cr_all rfl) (by rfl) N.n_all (by decide +kernel) (pa_cons (pe_lc (own := [("digit", 1)]) (g := gName 1) (tt := tYes) (te := tOp rInSg (tVar 1) (L2.tC (.str "0123456789"))) rfl sc_number_in.nd (pi_str (pv 0)) (blkOk_by (N := n_number_in) (sc := defScope s_number_in) (by decide +kernel)) (fun _ _ _ _ _ => (pg_name (i := 1) sc_number_in.nd rfl (.inl rfl))) (fun _ _ _ _ _ => pts_nil) (fun _ _ _ _ _ => (pe_cmpR op_in_sign (pv 1) (pe_glob rfl M_DIGITS (v := .str "0123456789") ⟨_, rfl⟩) (by rfl)))) pa_nil))))))) (pss_one (ps_ret pe_non)) pss_nil)
      (pss_cons (ps_if (PW.pt (pw_and (pt_cmpR op_eq (pe_callB call_len_str (by rfl) N.n_len PySem.boot_len (pa_cons (pv 0) pa_nil)) pe_int (nomark _)) (pw_and1 (pt_cmpR op_eq (pe_ix ix_str (pv 0) pe_int (fun _ _ => rfl)) pe_str (nomark _))))) (pss_one (ps_ret pe_non)) pss_nil)
      (pss_one (ps_ret (pe_callTy call_int_str (by rfl) N.n_int (by decide +kernel) (pa_cons (pv 0) pa_nil))))), ?_⟩
    obtain ⟨n1, _, n2⟩ := name_len x
    have hz : x.length ≤ sizeLine := by show x.length ≤ 16777216; omega
    have lt := TL.len_tl x
    have kn : isNum (TL.tl x) = false → ∀ H', Same H H' → Q .non H' := fun h H' s => k H' _ s (by rw [numD_no h]; exact .non)
    refine ⟨_, rfl, x, rfl, hz, _, _, rfl, rfl, _, rfl, ?_⟩
    rw [n1]
    refine ite2 (fun c0 => ?_) (fun c0 => ?_)
    · refine ⟨_, _, rfl, rfl, _, rfl, ?_⟩
      rw [n2]
      cases c1 : decide (x.length ≤ 2) with
      | false => exact iteT (kn (by unfold isNum; rw [← lt, c1, Bool.and_false]; rfl) H (Same.refl H))
      | true =>
        refine iteF ⟨_, rfl, x, rfl, fun D hD => lc_map (walk_str (z := x)) RBl lasts_bl (fun i => decide (48 ≤ (TL.tl x).getD i 0) && decide ((TL.tl x).getD i 0 ≤ 57)) hD (by have : x.cps.size ≤ 1000 := hl; omega) (fun _ _ => trivial) ?_ ?_⟩
        · rintro i y H1 H2 hi s1 ⟨rfl, c, hc, rfl⟩ Nx kk
          have e : (TL.tl x).getD i 0 = c := by rw [List.getD_eq_getElem?_getD, cps_at hc]; rfl
          rw [e] at kk
          exact ⟨rfl, _, rfl, c, _, rfl, rfl, kk _ _ (Same.refl _) (congrArg V.bl (dig_in c))⟩
        · intro H1 ws s1 hd p
          have e := paired_bl p
          subst e
          refine ⟨D, _, rfl, .of hd, ?_⟩
          rw [all_bl fun c => decide (48 ≤ c) && decide (c ≤ 57)]
          refine ⟨_, rfl, ?_⟩
          cases c2 : (TL.tl x).all (fun c => decide (48 ≤ c) && decide (c ≤ 57)) with
          | false => exact iteT (kn (by unfold isNum; rw [c2, Bool.and_false]; rfl) H1 s1)
          | true =>
            refine iteF ⟨_, rfl, x, rfl, hz, rfl, _, rfl, ?_⟩
            rw [show decide (V.int (x.length : Int) = V.int 2) = decide (x.length = 2) from nat_eq89 (b := 2)]
            have yes : isNum (TL.tl x) = true → PySem.intText? x = some ((PySem.intText? x).getD 0) ∧ numD x = .int ((PySem.intText? x).getD 0) := fun h => by
              obtain ⟨n, hn, rfl⟩ := (isNum_iff x).mp h
              unfold numD
              rw [num_val n hn, h]
              exact ⟨rfl, rfl⟩
            have fin : isNum (TL.tl x) = true → PySem.intText? x = some ((PySem.intText? x).getD 0) ∧ x.length ≤ 640 ∧ Q (.int ((PySem.intText? x).getD 0)) H1 := fun h => ⟨(yes h).1, by have := of_decide_eq_true c1; omega, k H1 _ s1 (by rw [(yes h).2]; exact .int _)⟩
            refine ite2 (fun c3 => ?_) (fun c3 => ?_)
            · have c3 : x.length = 2 := of_decide_eq_true c3
              obtain ⟨a, ha⟩ : ∃ a, (TL.tl x)[0]? = some a := ⟨_, List.getElem?_eq_getElem (by omega)⟩
              refine ⟨_, rfl, x, 0, a, rfl, rfl, hz, atI_nat (j := 0) ha, rfl, _, rfl, ?_⟩
              have ea : (TL.tl x).getD 0 0 = a := by rw [List.getD_eq_getElem?_getD, ha]; rfl
              have e0 : decide (V.str ⟨#[a]⟩ = V.str "0") = decide (a = 48) := by
                by_cases e : a = 48
                · subst e
                  rw [decide_eq_true rfl, decide_eq_true]
                  exact congrArg V.str (TL.ext_tl (by decide +kernel))
                · rw [decide_eq_false e, decide_eq_false]
                  intro z
                  injection z with z
                  have z := congrArg TL.tl z
                  rw [show TL.tl "0" = [48] by decide +kernel] at z
                  exact e (List.cons.inj z).1
              rw [e0]
              refine ite2 (fun c4 => ?_) (fun c4 => ?_)
              · refine kn ?_ H1 s1
                unfold isNum
                rw [ea, c4, ← lt, decide_eq_true c3, Bool.and_self, Bool.not_true, Bool.and_false]
              · obtain ⟨f1, f2, f3⟩ := fin (by
                  unfold isNum
                  rw [ea, Bool.eq_false_iff.mpr c4, ← lt, c0, c1, c2]
                  simp)
                exact ⟨_, rfl, x, _, rfl, f1, f2, f3⟩
            · obtain ⟨f1, f2, f3⟩ := fin (by
                unfold isNum
                rw [← lt, c0, c1, c2, Bool.eq_false_iff.mpr c3]
                simp)
              exact ⟨_, rfl, x, _, rfl, f1, f2, f3⟩
    · refine ⟨false, rfl, iteT (kn ?_ H (Same.refl H))⟩
      unfold isNum
      rw [← lt, Bool.eq_false_iff.mpr c0, Bool.false_and, Bool.false_and, Bool.false_and]
def sp__law_number (K : PySem.W.Frag) : Sp := sp_number_in K
theorem ok__law_number {f : Addr} {fd : FuncData} (F : Fun K "_law_number" "_law_number" s__law_number f fd) (N : Nm mg) :
    FnOk P w K mg base CX0 1 f fd ["word"] (sp__law_number K) := by
  refine F.ok sc__law_number (fun vs H Q E h => ?_) (fun cdv A outer s H vs Q E hr h => ?_)
  · obtain ⟨x, rfl, _⟩ := h
    rfl
  · obtain ⟨x, rfl, hl, k⟩ := h
    refine ⟨_, pss_cons (ps_if (pt_cmpR op_notIn_seq (pv 0) (pe_lc (own := [("number", 1)]) (g := gName 1) (tt := tYes) (te := tCB rStrI (tCons (tVar 1) (tNil))) rfl sc__law_number.nd (pi_range1 (by rfl) N.n_range (pa_cons pe_int pa_nil)) (blkOk_by (N := n__law_number) (sc := defScope s__law_number) (by decide +kernel)) (fun _ _ _ _ _ => (pg_name (i := 1) sc__law_number.nd rfl (.inl rfl))) (fun _ _ _ _ _ => pts_nil) (fun _ _ _ _ _ => (pe_callTy call_str_int (by rfl) N.n_str (by decide +kernel) (pa_cons (pv 1) pa_nil)))) (by rfl)) (pss_one (ps_ret pe_non)) pss_nil)
      (pss_one (ps_ret (pe_callTy call_int_str (by rfl) N.n_int (by decide +kernel) (pa_cons (pv 0) pa_nil)))), ?_⟩
    refine ⟨_, rfl, 100, rfl, by decide, by decide, fun D hD => ?_⟩
    refine lc_map (walk_range (lo := 0)) (fun _ v (n : Nat) => v = .str (numS n)) (fun _ _ _ _ _ h => h) (fun i => i) hD (by decide) (fun _ _ => trivial) ?_ ?_
    · rintro i y H1 H2 hi s1 ⟨rfl, rfl⟩ Nx kk
      have hi : i < 100 := hi
      refine ⟨rfl, _, rfl, _, rfl, ?_, kk _ _ (Same.refl _) ?_⟩
      · show (0 + (i : Int)).natAbs.log2 < 1920
        have : (0 + (i : Int)).natAbs < 128 := by omega
        by_cases z : (0 + (i : Int)).natAbs = 0
        · rw [z]; decide
        · exact Nat.lt_trans ((Nat.log2_lt z).mpr (Nat.lt_of_lt_of_le this (by decide : 128 ≤ 2 ^ 7))) (by decide)
      · show V.str _ = V.str (numS i)
        unfold numS
        rw [Int.zero_add]
    · intro H1 ws s1 hd p
      have ew : ws = ((List.range 100).map numS).map V.str := by
        clear hd
        rw [List.map_map]
        have q : ∀ {xs : List V} {ys : List Nat}, Paired (fun v (n : Nat) => v = V.str (numS n)) xs ys → xs = ys.map (V.str ∘ numS) := by
          intro xs ys h
          induction h with
          | nil => rfl
          | cons h r ih => rw [h, ih]; rfl
        have := q p
        rw [List.map_id'] at this
        exact this
      subst ew
      refine ⟨D, _, rfl, .inl (.of hd), rfl, flat_strs _, ?_⟩
      refine ⟨_, rfl, ?_⟩
      show if (!inV (.str x) (((List.range 100).map numS).map V.str)) = true then _ else _
      rw [inV_strs]
      have iff : decide (x ∈ (List.range 100).map numS) = isNum (TL.tl x) := by
        apply Bool.eq_iff_iff.mpr
        rw [decide_eq_true_eq, isNum_iff]
        constructor
        · intro h
          obtain ⟨n, hn, e⟩ := List.mem_map.mp h
          exact ⟨n, List.mem_range.mp hn, e.symm⟩
        · rintro ⟨n, hn, rfl⟩
          exact List.mem_map.mpr ⟨n, List.mem_range.mpr hn, rfl⟩
      rw [iff]
      cases c : isNum (TL.tl x) with
      | false => exact iteT (k H1 _ s1 (by rw [numD_no c]; exact .non))
      | true =>
        obtain ⟨n, hn, rfl⟩ := (isNum_iff x).mp c
        refine iteF ⟨_, rfl, _, (n : Int), rfl, num_val n hn, by have := isNum_len c; omega, k H1 _ s1 ?_⟩
        unfold numD
        rw [num_val n hn, c]
        exact .int _
end
end L2.Px

namespace L2.Px
open PySem PySem.Spec PyProof.Rows
/-! ### texts that can be shown -/
def lowC (c : Nat) : Bool := decide (c < 16 ^ 8)
structure OkS (x : Str) (n : Nat) : Prop where
  l : x.length ≤ n
  c : (TL.tl x).all lowC = true
theorem OkS.mono {x : Str} {n m : Nat} (h : OkS x n) (k : n ≤ m) : OkS x m := ⟨Nat.le_trans h.l k, h.c⟩
theorem joinL_all (g : Nat → Bool) (s : List Nat) (hs : s.all g = true) : ∀ ps : List (List Nat), (∀ p ∈ ps, p.all g = true) → (TL.joinL s ps).all g = true
  | [], _ => rfl
  | [p], h => h p List.mem_cons_self
  | p :: q :: r, h => by
    show (p ++ (s ++ TL.joinL s (q :: r))).all g = true
    rw [List.all_append, List.all_append, h p List.mem_cons_self, hs, joinL_all g s hs (q :: r) fun z hz => h z (List.mem_cons_of_mem _ hz)]
    rfl
theorem join_ok {a : Str} {ys : List Str} {n : Nat} (ha : (TL.tl a).all lowC = true) (hy : ∀ y ∈ ys, (TL.tl y).all lowC = true) (hn : (ys.map (·.length)).sum + ys.length * a.length ≤ n) : OkS (Txt.join a ys) n := by
  refine ⟨Nat.le_trans (join_len a ys) hn, ?_⟩
  rw [TL.join_eq, TL.tl_join]
  refine joinL_all lowC _ ha _ fun p hp => ?_
  obtain ⟨y, h, rfl⟩ := List.mem_map.mp hp
  exact hy y h
theorem split_ok {x y : Str} {n : Nat} (h : OkS x n) (hy : y ∈ Txt.split x " ") : OkS y n := by
  refine ⟨Nat.le_trans (split_len hy) h.l, ?_⟩
  have e := split_all lowC x
  have t : ((TL.tl x).all fun c => c == 32 || lowC c) = true := List.all_eq_true.mpr fun c hc => by rw [List.all_eq_true.mp h.c c hc, Bool.or_true]
  rw [t, List.all_eq_true] at e
  exact e y hy
theorem app_ok {x y : Str} {n m : Nat} (hx : OkS x n) (hy : OkS y m) : OkS (x ++ y) (n + m) := by
  refine ⟨by rw [Str.length_append]; have := hx.l; have := hy.l; omega, ?_⟩
  rw [TL.tl_append, List.all_append, hx.c, hy.c]
  rfl
def chS (z : Str) (j : Int) : Str := ⟨#[(TL.tl z).getD j.toNat 0]⟩
theorem chs_len (z : Str) (j : Int) : (chS z j).length = 1 := rfl
theorem chs_ok {z : Str} (hz : (TL.tl z).all lowC = true) (j : Int) : (TL.tl (chS z j)).all lowC = true := by
  show (lowC ((TL.tl z).getD j.toNat 0) && true) = true
  rw [Bool.and_true]
  by_cases h : j.toNat < (TL.tl z).length
  · rw [List.getD_eq_getElem?_getD, List.getElem?_eq_getElem h]
    exact List.all_eq_true.mp hz _ (List.getElem_mem h)
  · rw [List.getD_eq_getElem?_getD, List.getElem?_eq_none (by omega)]
    decide
theorem chs_at {z : Str} {j : Int} (h0 : 0 ≤ j) (h1 : j < ((TL.tl z).length : Nat)) : atI z.cps.toList j = some ((TL.tl z).getD j.toNat 0) := by
  obtain ⟨m, rfl⟩ := Int.eq_ofNat_of_zero_le h0
  rw [Int.toNat_natCast]
  refine atI_nat (j := m) ?_
  have h : m < (TL.tl z).length := by omega
  show (TL.tl z)[m]? = _
  rw [List.getD_eq_getElem?_getD, List.getElem?_eq_getElem h]
  rfl
abbrev RStr : Hp → V → Str → Prop := fun _ v x => v = .str x
theorem lasts_str : Lasts RStr := fun _ _ _ _ _ h => h
theorem paired_str {H : Hp} {xs : List V} {ys : List Str} (h : Paired (RStr H) xs ys) : xs = ys.map V.str := by
  induction h with
  | nil => rfl
  | cons h r ih => rw [h, ih]; rfl
theorem ones (z : Str) (f : Nat → Int) (n : Nat) : (((List.range n).map fun i => chS z (f i)).map (·.length)).sum = n := by
  rw [List.map_map]
  have : ∀ l : List Nat, (l.map ((·.length) ∘ fun i => chS z (f i))).sum = l.length := by
    intro l
    induction l with
    | nil => rfl
    | cons x l ih => rw [List.map_cons, List.sum_cons, ih, List.length_cons]; show 1 + _ = _; omega
  rw [this, List.length_range]
theorem ok_line {z : Str} (hz : (TL.tl z).all lowC = true) (f : Nat → Int) (n : Nat) : ((((List.range n).map fun i => chS z (f i)).map (·.length)).sum + ((List.range n).map fun i => chS z (f i)).length * (Str.ofString "").length ≤ n) ∧ OkS (Txt.join (Str.ofString "") ((List.range n).map fun i => chS z (f i))) n := by
  have e : (((List.range n).map fun i => chS z (f i)).map (·.length)).sum + ((List.range n).map fun i => chS z (f i)).length * (Str.ofString "").length ≤ n := by
    rw [ones, show (Str.ofString "").length = 0 from rfl]
    omega
  refine ⟨e, join_ok rfl (fun y hy => ?_) e⟩
  obtain ⟨i, _, rfl⟩ := List.mem_map.mp hy
  exact chs_ok hz _
theorem wt_strs : ∀ l : List Str, PyData.weightAll (l.map PyData.str) ≤ (l.map (·.length)).sum + l.length
  | [] => Nat.zero_le _
  | x :: l => by
    have h := wt_strs l
    have e : PyData.weight (.str x) = x.length := rfl
    show PyData.weight (.str x) + 1 + PyData.weightAll (l.map PyData.str) ≤ _
    rw [List.map_cons, List.sum_cons, List.length_cons]
    omega
theorem filt_range {l : List Str} (g : Str → Option Str) : (List.range l.length).filterMap (fun i => g (l.getD i Str.empty)) = l.filterMap g := by
  have e : l = (List.range l.length).map fun i => l.getD i Str.empty := by
    refine List.ext_getElem (by simp) fun i h1 h2 => ?_
    rw [List.getElem_map, List.getElem_range, List.getD_eq_getElem?_getD, List.getElem?_eq_getElem h1]
    rfl
  conv => rhs; rw [e]
  rw [List.filterMap_map]
  rfl
def keepS (y : Str) : Option Str := if y = Str.empty then none else some y
theorem keep_filter (l : List Str) : l.filterMap keepS = l.filter fun y => decide (y ≠ Str.empty) := by
  induction l with
  | nil => rfl
  | cons y l ih =>
    rw [List.filterMap_cons, List.filter_cons, ih]
    unfold keepS
    by_cases c : y = Str.empty
    · rw [if_pos c, decide_eq_false (fun z => z c)]
      rfl
    · rw [if_neg c, decide_eq_true c]
      rfl
theorem dep_strs : ∀ l : List Str, PyData.depthAll (l.map PyData.str) = 0
  | [] => rfl
  | x :: l => by
    show max (PyData.depth (.str x)) (PyData.depthAll (l.map PyData.str)) = 0
    rw [dep_strs l]
    rfl
theorem sml_words {x : Str} {n : Nat} (h : OkS x n) (hn : n ≤ 1000) : Sml (wordsD x) := by
  unfold wordsD
  split
  · have hs := (split_size x).2
    have hl := h.l
    refine ⟨?_, ?_, ?_⟩
    · show smAll ((Txt.split x " ").map PyData.str) = true
      have : ∀ l : List Str, (∀ y ∈ l, (TL.tl y).all lowC = true) → smAll (l.map PyData.str) = true := by
        intro l
        induction l with
        | nil => exact fun _ => rfl
        | cons y l ih =>
          intro h
          show (sm (.str y) && smAll (l.map PyData.str)) = true
          rw [ih fun z hz => h z (List.mem_cons_of_mem _ hz), Bool.and_true]
          exact h y List.mem_cons_self
      exact this _ fun y hy => (split_ok h hy).c
    · show PyData.depthAll ((Txt.split x " ").map PyData.str) + 1 ≤ 60
      rw [dep_strs]
      decide
    · show PyData.weightAll ((Txt.split x " ").map PyData.str) ≤ 700000
      have := wt_strs (Txt.split x " ")
      have := (split_size x).1
      omega
  · exact ⟨rfl, by decide, by decide⟩
theorem sml_num (x : Str) : Sml (numD x) := by
  unfold numD
  split
  · rename_i n hn
    split
    · rename_i hx
      obtain ⟨m, hm, rfl⟩ := (isNum_iff x).mp hx
      rw [num_val m hm] at hn
      cases hn
      have t : ∀ m : Nat, m < 100 → sm (.int (m : Int)) = true ∧ PyData.depth (.int (m : Int)) ≤ 60 ∧ PyData.weight (.int (m : Int)) ≤ 700000 := by decide +kernel
      exact ⟨(t m hm).1, (t m hm).2.1, (t m hm).2.2⟩
    · exact ⟨rfl, by decide, by decide⟩
  · exact ⟨rfl, by decide, by decide⟩
abbrev sp__law_cell (K : PySem.W.Frag) : Sp := spCell K
abbrev sp__law_values (K : PySem.W.Frag) : Sp := spValues
theorem c0_low : (TL.tl (Str.ofString "abcxyzABC  0123456789()-+~#:,  \"\n\t")).all lowC = true := by decide +kernel
theorem c0_len : (TL.tl (Str.ofString "abcxyzABC  0123456789()-+~#:,  \"\n\t")).length = 34 := by decide +kernel
theorem c1_low : (TL.tl (Str.ofString "abcz")).all lowC = true := by decide +kernel
theorem c1_len : (TL.tl (Str.ofString "abcz")).length = 4 := by decide +kernel
theorem c2_low : (TL.tl (Str.ofString "0123456789")).all lowC = true := by decide +kernel
theorem c2_len : (TL.tl (Str.ofString "0123456789")).length = 10 := by decide +kernel
section
variable {P : Program} {w : World} {K : PySem.W.Frag} {mg : Str → Option Value} {base : Heap}
abbrev PL4 (K : PySem.W.Frag) (a : Addr) (ns : List Int) (σ : St) (H : Hp) : Prop := ∃ (L : Addr) (x : Str), σ = [some (.ref a), some (.str "abcxyzABC  0123456789()-+~#:,  \"\n\t"), some (.ref L), some (.str x), none, none, none, none, none, none] ∧ SqL K H a (iV ns) ∧ OkS x 100
def sp_law (K : PySem.W.Frag) : Sp := fun vs H Q _ => ∃ (a : Addr) (ns : List Int), vs = [.ref a] ∧ SqL K H a (iV ns) ∧ ns.length ≤ 63 ∧ ∀ H', Q (.bl true) H'
theorem ok_law {f : Addr} {fd : FuncData} {f__law_values : Addr} {d__law_values : FuncData} {f__law_cell : Addr} {d__law_cell : FuncData} {f_words_of : Addr} {d_words_of : FuncData} {f__law_words : Addr} {d__law_words : FuncData} {f_is_name : Addr} {d_is_name : FuncData} {f__law_is_name : Addr} {d__law_is_name : FuncData} {f_number_in : Addr} {d_number_in : FuncData} {f__law_number : Addr} {d__law_number : FuncData} (F : Fun K "law" "law" s_law f fd) (N : Nm mg)
    (t__law_values : At K mg "_law_values" s__law_values ["cell", "count", "size"] f__law_values d__law_values) (G__law_values : FnOk P w K mg base CX0 1 f__law_values d__law_values ["cell", "count", "size"] (sp__law_values K))
    (t__law_cell : At K mg "_law_cell" s__law_cell ["script", "k"] f__law_cell d__law_cell) (G__law_cell : FnOk P w K mg base CX0 1 f__law_cell d__law_cell ["script", "k"] (sp__law_cell K))
    (t_words_of : At K mg "words_of" s_words_of ["line"] f_words_of d_words_of) (G_words_of : FnOk P w K mg base CX0 2 f_words_of d_words_of ["line"] (sp_words_of K))
    (t__law_words : At K mg "_law_words" s__law_words ["line"] f__law_words d__law_words) (G__law_words : FnOk P w K mg base CX0 2 f__law_words d__law_words ["line"] (sp__law_words K))
    (t_is_name : At K mg "is_name" s_is_name ["word"] f_is_name d_is_name) (G_is_name : FnOk P w K mg base CX0 1 f_is_name d_is_name ["word"] (sp_is_name K))
    (t__law_is_name : At K mg "_law_is_name" s__law_is_name ["word"] f__law_is_name d__law_is_name) (G__law_is_name : FnOk P w K mg base CX0 1 f__law_is_name d__law_is_name ["word"] (sp__law_is_name K))
    (t_number_in : At K mg "number_in" s_number_in ["word"] f_number_in d_number_in) (G_number_in : FnOk P w K mg base CX0 1 f_number_in d_number_in ["word"] (sp_number_in K))
    (t__law_number : At K mg "_law_number" s__law_number ["word"] f__law_number d__law_number) (G__law_number : FnOk P w K mg base CX0 1 f__law_number d__law_number ["word"] (sp__law_number K)) :
    GFn P w K mg base 3 f fd ["script"] (sp_law K) := by
  refine gfn_of F sc_law (fun vs H Q E h => ?_) (fun cdv A outer s H vs Q E hg hr h => ?_)
  · obtain ⟨a, ns, rfl, _⟩ := h
    rfl
  · obtain ⟨a, ns, rfl, hS, _, k⟩ := h
    have hu := hr.units
    refine cut2 ((defBody s_law).drop 4) (PL4 K a ns) ?_ fun u4 p4 q4 => ?_
    · refine ⟨_, pss_cons (ps_if (pt_cmpR op_ne (pe_callB (cr_reprS hg hu) (by rfl) N.n_repr (by decide +kernel) (pa_cons (pe_call G_words_of (hr.mono (by decide)) rfl t_words_of.g t_words_of.F.kp t_words_of.b .nil pass0 (pa_cons (pv 3) pa_nil)) pa_nil)) (pe_callB (cr_reprS hg hu) (by rfl) N.n_repr (by decide +kernel) (pa_cons (pe_call G__law_words (hr.mono (by decide)) rfl t__law_words.g t__law_words.F.kp t__law_words.b .nil pass0 (pa_cons (pv 3) pa_nil)) pa_nil)) (nomark _)) (pss_one (ps_ret pe_bl)) pss_nil)
      (pss_cons (ps_set (i := 5) sc_law.nd rfl (.inl rfl) (pe_join pe_str (pe_lc (own := [("value", 9)]) (g := gName 9) (tt := tYes) (te := tOp (rIxS) (L2.tC (.str "abcz")) (tOp (rI (fun _ j => 0 < j) fun i j => .int (i % j)) (tVar 9) (L2.tC (.int 4)))) rfl sc_law.nd (pi_list (pe_call G__law_values (hr.mono (by decide)) rfl t__law_values.g t__law_values.F.kp t__law_values.b .nil pass0 (pa_cons (pe_call G__law_cell (hr.mono (by decide)) rfl t__law_cell.g t__law_cell.F.kp t__law_cell.b .nil pass0 (pa_cons (pv 0) (pa_cons pe_int pa_nil))) (pa_cons (pe_op op_mod (pe_call G__law_cell (hr.mono (by decide)) rfl t__law_cell.g t__law_cell.F.kp t__law_cell.b .nil pass0 (pa_cons (pv 0) (pa_cons pe_int pa_nil))) pe_int) (pa_cons pe_int pa_nil))))) (blkOk_by (N := n_law) (sc := defScope s_law) (by decide +kernel)) (fun _ _ _ _ _ => (pg_name (i := 9) sc_law.nd rfl (.inl rfl))) (fun _ _ _ _ _ => pts_nil) (fun _ _ _ _ _ => (pe_ix ix_str pe_str (pe_op op_mod (pv 9) pe_int) (fun _ _ => rfl))))))
      (pss_cons (ps_set (i := 6) sc_law.nd rfl (.inl rfl) (pe_call G__law_values (hr.mono (by decide)) rfl t__law_values.g t__law_values.F.kp t__law_values.b .nil pass0 (pa_cons (pe_call G__law_cell (hr.mono (by decide)) rfl t__law_cell.g t__law_cell.F.kp t__law_cell.b .nil pass0 (pa_cons (pv 0) (pa_cons pe_int pa_nil))) (pa_cons (pe_op op_mod (pe_call G__law_cell (hr.mono (by decide)) rfl t__law_cell.g t__law_cell.F.kp t__law_cell.b .nil pass0 (pa_cons (pv 0) (pa_cons pe_int pa_nil))) pe_int) (pa_cons pe_int pa_nil)))))
      (pss_cons (ps_set (i := 7) sc_law.nd rfl (.inl rfl) (pe_join pe_str (pe_lc (own := [("value", 9)]) (g := gName 9) (tt := tYes) (te := tOp (rIxS) (L2.tC (.str "0123456789")) (tOp (rI (fun _ j => 0 < j) fun i j => .int (i % j)) (tVar 9) (L2.tC (.int 10)))) rfl sc_law.nd (pi_list (pv 6)) (blkOk_by (N := n_law) (sc := defScope s_law) (by decide +kernel)) (fun _ _ _ _ _ => (pg_name (i := 9) sc_law.nd rfl (.inl rfl))) (fun _ _ _ _ _ => pts_nil) (fun _ _ _ _ _ => (pe_ix ix_str pe_str (pe_op op_mod (pv 9) pe_int) (fun _ _ => rfl))))))
      (pss_cons (ps_set (i := 8) sc_law.nd rfl (.inl rfl) (pe_op op_cat (pe_split (pv 3) pe_str) (pe_lst (pa_cons (pv 5) (pa_cons (pv 7) (pa_cons (pe_op op_add_str pe_str (pv 7)) (pa_cons (pe_op op_add_str pe_str (pv 7)) (pa_cons pe_str (pa_cons pe_str (pa_cons pe_str (pa_cons pe_str (pa_cons pe_str (pa_cons pe_str (pa_cons pe_str (pa_cons pe_str pa_nil)))))))))))))))
      (pss_cons (ps_for PassesOwn.never rfl (pi_list (pv 8)) (pg_name (i := 4) sc_law.nd rfl (.inl rfl)) (pss_one (ps_if (PW.pt (pw_or (pt_cmpR op_ne (pe_callB (cr_reprS hg hu) (by rfl) N.n_repr (by decide +kernel) (pa_cons (pe_call G_is_name (hr.mono (by decide)) rfl t_is_name.g t_is_name.F.kp t_is_name.b .nil pass0 (pa_cons (pv 4) pa_nil)) pa_nil)) (pe_callB (cr_reprS hg hu) (by rfl) N.n_repr (by decide +kernel) (pa_cons (pe_call G__law_is_name (hr.mono (by decide)) rfl t__law_is_name.g t__law_is_name.F.kp t__law_is_name.b .nil pass0 (pa_cons (pv 4) pa_nil)) pa_nil)) (nomark _)) (pw_or1 (pt_cmpR op_ne (pe_callB (cr_reprS hg hu) (by rfl) N.n_repr (by decide +kernel) (pa_cons (pe_call G_number_in (hr.mono (by decide)) rfl t_number_in.g t_number_in.F.kp t_number_in.b .nil pass0 (pa_cons (pv 4) pa_nil)) pa_nil)) (pe_callB (cr_reprS hg hu) (by rfl) N.n_repr (by decide +kernel) (pa_cons (pe_call G__law_number (hr.mono (by decide)) rfl t__law_number.g t__law_number.F.kp t__law_number.b .nil pass0 (pa_cons (pv 4) pa_nil)) pa_nil)) (nomark _))))) (pss_one (ps_ret pe_bl)) pss_nil)))
      (pss_one (ps_ret pe_bl))))))), ?_⟩
      rintro σ H1 ⟨L, x, rfl, hS, hx⟩
      have xl := hx.l
      have SX := sml_words hx (by decide)
      refine ⟨_, rfl, x, rfl, by omega, fun H2 v2 s2 hv2 => ⟨v2, wordsD x, rfl, hv2, SX.a, SX.b, SX.c, _, rfl, x, rfl, by omega, fun H3 v3 s3 hv3 => ⟨v3, wordsD x, rfl, hv3, SX.a, SX.b, SX.c, rfl, _, rfl, iteNS rfl ?_⟩⟩⟩
      have hS3 := (s2.trans s3).seq hS
      have m0 : 0 ≤ ns.getD 4 0 % 15 := Int.emod_nonneg _ (by decide)
      have m1 : ns.getD 4 0 % 15 < 15 := Int.emod_lt_of_pos _ (by decide)
      obtain ⟨n, hn⟩ := Int.eq_ofNat_of_zero_le m0
      refine ⟨⟨_, rfl⟩, .ref a, rfl, a, ns, 3, rfl, hS3, .ref a, rfl, a, ns, 4, rfl, hS3, _, _, rfl, rfl, (by decide : (0 : Int) < 15), ns.getD 3 0, 97, n, by rw [← hn]; rfl, by omega, by decide, by decide, fun H4 L4 l4 s4 hL4 nL4 ll4 bl4 => ?_⟩
      refine ⟨L4, rfl, ⟨_, .of hL4⟩, fun D hD => lc_map (walk_list (K := K) (a := L4) (xs := iV l4)) RStr lasts_str (fun i => chS "abcz" (l4.getD i 0 % 4)) hD (by rw [List.length_map]; omega) (fun H' s => s.seq (.of hL4)) ?_ ?_⟩
      · rintro i y H5 H6 hi s5 ⟨rfl, hy⟩ Nx kk
        obtain ⟨v, hv, rfl⟩ := iV_get hy
        have e : l4.getD i 0 = v := by rw [List.getD_eq_getElem?_getD, hv]; rfl
        rw [e] at kk
        have b0 : 0 ≤ v % 4 := Int.emod_nonneg _ (by decide)
        have b1 : v % 4 < 4 := Int.emod_lt_of_pos _ (by decide)
        exact ⟨rfl, _, rfl, _, _, rfl, rfl, (by decide : (0 : Int) < 4), _, v % 4, _, rfl, rfl, by show 4 ≤ 16777216; decide, chs_at b0 (by rw [c1_len]; omega), kk _ _ (Same.refl _) rfl⟩
      intro H5 ws s5 hd5 p5
      have ew := paired_str p5
      subst ew
      have ln : (iV l4).length = n := by rw [List.length_map]; exact ll4
      obtain ⟨z1, z2⟩ := ok_line c1_low (fun i => l4.getD i 0 % 4) (iV l4).length
      refine ⟨_, D, _, rfl, rfl, .inl (.of hd5), by omega, ?_⟩
      have hlong := z2.mono (show (iV l4).length ≤ 100 by omega)
      generalize Txt.join (Str.ofString "") ((List.range (iV l4).length).map fun i => chS "abcz" (l4.getD i 0 % 4)) = lg at hlong
      have hS5 := (s4.trans s5).seq hS3
      have w0 : 0 ≤ ns.getD 4 0 % 4 := Int.emod_nonneg _ (by decide)
      have w1 : ns.getD 4 0 % 4 < 4 := Int.emod_lt_of_pos _ (by decide)
      obtain ⟨n6, hn6⟩ := Int.eq_ofNat_of_zero_le w0
      refine ⟨.ref a, rfl, a, ns, 5, rfl, hS5, .ref a, rfl, a, ns, 4, rfl, hS5, _, _, rfl, rfl, (by decide : (0 : Int) < 4), ns.getD 5 0, 97, n6, by rw [← hn6]; rfl, by omega, by decide, by decide, fun H6 L6 l6 s6 hL6 nL6 ll6 bl6 => ?_⟩
      refine ⟨⟨_, rfl⟩, _, rfl, L6, rfl, ⟨_, .of hL6⟩, fun D6 hD6 => lc_map (walk_list (K := K) (a := L6) (xs := iV l6)) RStr lasts_str (fun i => chS "0123456789" (l6.getD i 0 % 10)) hD6 (by rw [List.length_map]; omega) (fun H' s => s.seq (.of hL6)) ?_ ?_⟩
      · rintro i y H7 H8 hi s7 ⟨rfl, hy⟩ Nx kk
        obtain ⟨v, hv, rfl⟩ := iV_get hy
        have e : l6.getD i 0 = v := by rw [List.getD_eq_getElem?_getD, hv]; rfl
        rw [e] at kk
        have b0 : 0 ≤ v % 10 := Int.emod_nonneg _ (by decide)
        have b1 : v % 10 < 10 := Int.emod_lt_of_pos _ (by decide)
        exact ⟨rfl, _, rfl, _, _, rfl, rfl, (by decide : (0 : Int) < 10), _, v % 10, _, rfl, rfl, by show 10 ≤ 16777216; decide, chs_at b0 (by rw [c2_len]; omega), kk _ _ (Same.refl _) rfl⟩
      intro H7 ws s7 hd7 p7
      have ew := paired_str p7
      subst ew
      have ln6 : (iV l6).length = n6 := by rw [List.length_map]; exact ll6
      obtain ⟨y1, y2⟩ := ok_line c2_low (fun i => l6.getD i 0 % 10) (iV l6).length
      refine ⟨_, D6, _, rfl, rfl, .inl (.of hd7), by omega, ?_⟩
      have hdg := y2.mono (show (iV l6).length ≤ 100 by omega)
      generalize Txt.join (Str.ofString "") ((List.range (iV l6).length).map fun i => chS "0123456789" (l6.getD i 0 % 10)) = dg at hdg
      have hs := split_size x
      have dl := hdg.l
      have c1 : (Str.ofString "0").length = 1 := rfl
      have c2 : (Str.ofString "-").length = 1 := rfl
      refine ⟨_, rfl, ⟨x, rfl⟩, x, _, rfl, rfl, by decide +kernel, by show x.length + 2 ≤ 16777216; omega, fun p hp => ?_⟩
      refine ⟨_, rfl, _, rfl, _, rfl, _, _, rfl, rfl, by show _ ≤ 16777216; rw [c1]; omega, _, rfl, _, _, rfl, rfl, by show _ ≤ 16777216; rw [c2]; omega, by show 12 ≤ sizeLine; decide, fun D8 hD8 => ?_⟩
      have sp := Same.upd (o := .lst ((Txt.split x " ").map V.str)) hp
      have s8 := Same.upd (o := .lst ([V.str lg, .str dg, .str (Str.ofString "0" ++ dg), .str (Str.ofString "-" ++ dg), .str "+1", .str "", .str "-", .str "a1", .str "aA", .str "99", .str "100", .str "00"])) hD8
      have hp8 := s8 _ _ (upd_same (H := H7) (a := p) (o := .lst ((Txt.split x " ").map V.str)))
      refine ⟨p, D8, _, _, rfl, rfl, hp8, upd_same, by rw [List.length_map]; show _ + 12 ≤ 16777216; omega, fun D9 hD9 => ?_⟩
      have hD9' := upd_same (H := upd (upd H7 p (.lst ((Txt.split x " ").map V.str))) D8 (.lst ([V.str lg, .str dg, .str (Str.ofString "0" ++ dg), .str (Str.ofString "-" ++ dg), .str "+1", .str "", .str "-", .str "a1", .str "aA", .str "99", .str "100", .str "00"]))) (a := D9) (o := .lst ((Txt.split x " ").map V.str ++ [V.str lg, .str dg, .str (Str.ofString "0" ++ dg), .str (Str.ofString "-" ++ dg), .str "+1", .str "", .str "-", .str "a1", .str "aA", .str "99", .str "100", .str "00"]))
      have okA : ∀ u ∈ Txt.split x " " ++ [lg, dg, Str.ofString "0" ++ dg, Str.ofString "-" ++ dg, "+1", "", "-", "a1", "aA", "99", "100", "00"], OkS u 1000 := by
        have cn : ∀ u ∈ ([Str.ofString "+1", "", "-", "a1", "aA", "99", "100", "00"] : List Str), u.length ≤ 1000 ∧ (TL.tl u).all lowC = true := by decide +kernel
        have k0 : OkS (Str.ofString "0") 1 := ⟨Nat.le_refl _, by decide +kernel⟩
        have k1 : OkS (Str.ofString "-") 1 := ⟨Nat.le_refl _, by decide +kernel⟩
        intro u hu
        rcases List.mem_append.mp hu with h | h
        · exact (split_ok hx h).mono (by decide)
        rcases List.mem_cons.mp h with h | h
        · rw [h]; exact hlong.mono (by decide)
        rcases List.mem_cons.mp h with h | h
        · rw [h]; exact hdg.mono (by decide)
        rcases List.mem_cons.mp h with h | h
        · rw [h]; exact (app_ok k0 hdg).mono (by decide)
        rcases List.mem_cons.mp h with h | h
        · rw [h]; exact (app_ok k1 hdg).mono (by decide)
        exact ⟨(cn u h).1, (cn u h).2⟩
      generalize upd (upd (upd H7 p (.lst ((Txt.split x " ").map V.str))) D8 (.lst ([V.str lg, .str dg, .str (Str.ofString "0" ++ dg), .str (Str.ofString "-" ++ dg), .str "+1", .str "", .str "-", .str "a1", .str "aA", .str "99", .str "100", .str "00"]))) D9 (.lst ((Txt.split x " ").map V.str ++ [V.str lg, .str dg, .str (Str.ofString "0" ++ dg), .str (Str.ofString "-" ++ dg), .str "+1", .str "", .str "-", .str "a1", .str "aA", .str "99", .str "100", .str "00"])) = H9 at hD9'
      rw [show [V.str lg, .str dg, .str (Str.ofString "0" ++ dg), .str (Str.ofString "-" ++ dg), .str "+1", .str "", .str "-", .str "a1", .str "aA", .str "99", .str "100", .str "00"] = [lg, dg, Str.ofString "0" ++ dg, Str.ofString "-" ++ dg, "+1", "", "-", "a1", "aA", "99", "100", "00"].map V.str from rfl, ← List.map_append] at hD9'
      generalize Txt.split x " " ++ [lg, dg, Str.ofString "0" ++ dg, Str.ofString "-" ++ dg, "+1", "", "-", "a1", "aA", "99", "100", "00"] = W at hD9' okA
      refine ⟨_, rfl, D9, rfl, ⟨_, .of hD9'⟩, ?_⟩
      refine for_it (walk_list (K := K) (a := D9) (xs := W.map V.str)) (fun i σ H' => ∃ y4 : Option V, σ = [some (.ref a), some (.str "abcxyzABC  0123456789()-+~#:,  \"\n\t"), some (.ref L), some (.str x), y4, some (.str lg), some (.ref L6), some (.str dg), some (.ref D9), none] ∧ Same H9 H') ⟨none, rfl, Same.refl _⟩ (fun i σ H' _ ⟨_, _, s⟩ => s.seq (.of hD9')) ?_ ?_
      · rintro i y σ H10 H11 hi ⟨y4, rfl, s10⟩ ⟨rfl, hy⟩
        obtain ⟨u, hu, rfl⟩ : ∃ u, W[i]? = some u ∧ y = .str u := by
          rw [List.getElem?_map] at hy
          cases e : W[i]? with
          | none => rw [e] at hy; cases hy
          | some u => rw [e] at hy; exact ⟨u, rfl, (Option.some.inj hy).symm⟩
        have ou := okA u (List.mem_of_getElem? hu)
        have SN := sml_num u
        have ub := ou.l
        have bw : ∀ b : Bool, sm (.bool b) = true ∧ PyData.depth (.bool b) ≤ 60 ∧ PyData.weight (.bool b) ≤ 700000 := by decide
        obtain ⟨g1, g2, g3⟩ := bw (nameB u)
        refine ⟨_, rfl, u, rfl, ub, fun H12 s12 => ⟨_, .bool (nameB u), rfl, .bl _, g1, g2, g3, _, rfl, u, rfl, ub, fun H13 s13 => ⟨_, .bool (nameB u), rfl, .bl _, g1, g2, g3, rfl, _, rfl, iteNS rfl ?_⟩⟩⟩
        refine ⟨_, rfl, u, rfl, ub, fun H14 v14 s14 hv14 => ⟨v14, numD u, rfl, hv14, SN.a, SN.b, SN.c, _, rfl, u, rfl, ub, fun H15 v15 s15 hv15 => ⟨v15, numD u, rfl, hv15, SN.a, SN.b, SN.c, rfl, _, rfl, iteNS rfl ?_⟩⟩⟩
        exact ⟨_, rfl, s10.trans (s12.trans (s13.trans (s14.trans s15)))⟩
      · rintro σ H10 ⟨y4, rfl, s10⟩
        exact k H10
    · refine ⟨_, pss_cons (ps_set (i := 1) sc_law.nd rfl (.inr rfl) pe_str)
      (pss_cons (ps_set (i := 2) sc_law.nd rfl (.inl rfl) (pe_call G__law_values (hr.mono (by decide)) rfl t__law_values.g t__law_values.F.kp t__law_values.b .nil pass0 (pa_cons (pe_call G__law_cell (hr.mono (by decide)) rfl t__law_cell.g t__law_cell.F.kp t__law_cell.b .nil pass0 (pa_cons (pv 0) (pa_cons pe_int pa_nil))) (pa_cons (pe_op op_mod (pe_call G__law_cell (hr.mono (by decide)) rfl t__law_cell.g t__law_cell.F.kp t__law_cell.b .nil pass0 (pa_cons (pv 0) (pa_cons pe_int pa_nil))) pe_int) (pa_cons pe_int pa_nil)))))
      (pss_cons (ps_set (i := 3) sc_law.nd rfl (.inl rfl) (pe_join pe_str (pe_lc (own := [("value", 9)]) (g := gName 9) (tt := tYes) (te := tOp (rIxS) (tVar 1) (tIf (tTest (tOp (rI0 fun i j => .bl (decide (j < i))) (tVar 9) (L2.tC (.int 1)))) (tOp (rI (fun _ j => 0 < j) fun i j => .int (i % j)) (tVar 9) (L2.tC (.int 33))) (L2.tC (.int 33)))) rfl sc_law.nd (pi_list (pv 2)) (blkOk_by (N := n_law) (sc := defScope s_law) (by decide +kernel)) (fun _ _ _ _ _ => (pg_name (i := 9) sc_law.nd rfl (.inl rfl))) (fun _ _ _ _ _ => pts_nil) (fun _ _ _ _ _ => (pe_ix ix_str (pv 1) (pe_ifExp (pt_cmpR op_gt (pv 9) pe_int (nomark _)) (pe_op op_mod (pv 9) pe_int) pe_int) (fun _ _ => rfl))))))
      (pss_cons (ps_if (pt_cmpR op_gt (pe_op op_mod (pe_call G__law_cell (hr.mono (by decide)) rfl t__law_cell.g t__law_cell.F.kp t__law_cell.b .nil pass0 (pa_cons (pv 0) (pa_cons pe_int pa_nil))) pe_int) pe_int (nomark _)) (pss_one (ps_set (i := 3) sc_law.nd rfl (.inl rfl) (pe_join pe_str (pe_lc (own := [("word", 4)]) (g := gName 4) (tt := tTest (tOp (rNe) (tVar 4) (L2.tC (.str "")))) (te := tVar 4) rfl sc_law.nd (pi_list (pe_split (pv 3) pe_str)) (blkOk_by (N := n_law) (sc := defScope s_law) (by decide +kernel)) (fun _ _ _ _ _ => (pg_name (i := 4) sc_law.nd rfl (.inl rfl))) (fun _ _ _ _ _ => (pts_one (pt_cmpR op_ne (pv 4) pe_str (nomark _)))) (fun _ _ _ _ _ => (pv 4)))))) pss_nil)
      (p4)))), ?_⟩
      have m0 : 0 ≤ ns.getD 0 0 % 31 := Int.emod_nonneg _ (by decide)
      have m1 : ns.getD 0 0 % 31 < 31 := Int.emod_lt_of_pos _ (by decide)
      obtain ⟨n, hn⟩ := Int.eq_ofNat_of_zero_le m0
      refine ⟨.ref a, rfl, a, ns, 1, rfl, hS, .ref a, rfl, a, ns, 0, rfl, hS, _, _, rfl, rfl, (by decide : (0 : Int) < 31), ns.getD 1 0, 97, n, by rw [← hn]; rfl, by omega, by decide, by decide, fun H1 L l s1 hL nL ll bl => ?_⟩
      have zl : (34 : Nat) ≤ sizeLine := by show 34 ≤ 16777216; decide
      refine ⟨⟨_, rfl⟩, _, rfl, L, rfl, ⟨_, .of hL⟩, fun D hD => lc_map (walk_list (K := K) (a := L) (xs := iV l)) RStr lasts_str (fun i => chS "abcxyzABC  0123456789()-+~#:,  \"\n\t" (if 1 < l.getD i 0 then l.getD i 0 % 33 else 33)) hD (by rw [List.length_map]; omega) (fun H' s => s.seq (.of hL)) ?_ ?_⟩
      · rintro i y H2 H3 hi s2 ⟨rfl, hy⟩ Nx kk
        obtain ⟨v, hv, rfl⟩ := iV_get hy
        have e : l.getD i 0 = v := by rw [List.getD_eq_getElem?_getD, hv]; rfl
        rw [e] at kk
        refine ⟨rfl, _, rfl, _, rfl, _, _, rfl, rfl, _, rfl, ite2 (fun c => ?_) (fun c => ?_)⟩
        · have c : 1 < v := of_decide_eq_true c
          rw [if_pos c] at kk
          have b0 : 0 ≤ v % 33 := Int.emod_nonneg _ (by decide)
          have b1 : v % 33 < 33 := Int.emod_lt_of_pos _ (by decide)
          exact ⟨_, rfl, _, _, rfl, rfl, (by decide : (0 : Int) < 33), _, v % 33, _, rfl, rfl, zl, chs_at b0 (by rw [c0_len]; omega), kk _ _ (Same.refl _) rfl⟩
        · have c : ¬ 1 < v := fun z => c (decide_eq_true z)
          rw [if_neg c] at kk
          exact ⟨_, 33, _, rfl, rfl, zl, chs_at (by decide) (by rw [c0_len]; decide), kk _ _ (Same.refl _) rfl⟩
      · intro H2 ws s2 hd2 p2
        have ew := paired_str p2
        subst ew
        have ln : (iV l).length = n := by rw [List.length_map]; exact ll
        obtain ⟨z1, z2⟩ := ok_line c0_low (fun i => if 1 < l.getD i 0 then l.getD i 0 % 33 else 33) (iV l).length
        refine ⟨_, D, _, rfl, rfl, .inl (.of hd2), by omega, ?_⟩
        have z3 := z2.mono (show (iV l).length ≤ 30 by omega)
        generalize Txt.join (Str.ofString "") ((List.range (iV l).length).map fun i => chS "abcxyzABC  0123456789()-+~#:,  \"\n\t" (if 1 < l.getD i 0 then l.getD i 0 % 33 else 33)) = x at z3
        have hS2 := (s1.trans s2).seq hS
        refine ⟨.ref a, rfl, a, ns, 2, rfl, hS2, _, _, rfl, rfl, (by decide : (0 : Int) < 3), _, _, rfl, rfl, _, rfl, ite2 (fun _ => ?_) (fun _ => ?_)⟩
        · have xl := z3.l
          have hs := split_size x
          refine ⟨⟨_, rfl⟩, _, rfl, ⟨x, rfl⟩, x, _, rfl, rfl, by decide +kernel, by show x.length + 2 ≤ 16777216; omega, fun p hp => ?_⟩
          have sp := Same.upd (o := .lst ((Txt.split x " ").map V.str)) hp
          refine ⟨p, rfl, ⟨_, .of upd_same⟩, fun D2 hD2 => lc_filt (n := ((Txt.split x " ").map V.str).length) (walk_list (K := K) (a := p) (xs := (Txt.split x " ").map V.str)) RStr lasts_str (fun i => keepS ((Txt.split x " ").getD i Str.empty)) hD2 (by rw [List.length_map]; omega) (fun H' s => s.seq (.of upd_same)) ?_ ?_⟩
          · rintro i y H3 H4 hi s3 ⟨rfl, hy⟩ Nx k1 k2
            obtain ⟨u, hu, rfl⟩ : ∃ u, (Txt.split x " ")[i]? = some u ∧ y = .str u := by
              rw [List.getElem?_map] at hy
              cases e : (Txt.split x " ")[i]? with
              | none => rw [e] at hy; cases hy
              | some u => rw [e] at hy; exact ⟨u, rfl, (Option.some.inj hy).symm⟩
            have e : (Txt.split x " ").getD i Str.empty = u := by rw [List.getD_eq_getElem?_getD, hu]; rfl
            rw [e] at k1 k2
            refine ⟨rfl, _, rfl, rfl, _, rfl, ?_⟩
            by_cases c : u = Str.empty
            · subst c
              exact iteNS rfl (k2 _ (by unfold keepS; rw [if_pos rfl]) (Same.refl _))
            · have c2 : (!decide (V.str u = V.str Str.empty)) = true := by
                rw [decide_eq_false fun z => c (by injection z)]
                rfl
              show if (!decide (V.str u = V.str Str.empty)) = true then _ else _
              rw [c2]
              exact iteT ⟨_, rfl, k1 _ _ u (by unfold keepS; rw [if_neg c]) (Same.refl _) rfl⟩
          · intro H3 ws s3 hd3 p3
            have ew := paired_str p3
            rw [List.length_map, filt_range, keep_filter] at ew
            subst ew
            have sz := sum_filter (fun y => decide (y ≠ Str.empty)) (Txt.split x " ")
            have szl := List.length_filter_le (fun y => decide (y ≠ Str.empty)) (Txt.split x " ")
            have tot : (((Txt.split x " ").filter fun y => decide (y ≠ Str.empty)).map (·.length)).sum + ((Txt.split x " ").filter fun y => decide (y ≠ Str.empty)).length * (Str.ofString " ").length ≤ 100 := by
              rw [show (Str.ofString " ").length = 1 from rfl]
              omega
            refine ⟨_, D2, _, rfl, rfl, .inl (.of hd3), by omega, ?_⟩
            exact q4 _ _ ⟨L, _, rfl, (sp.trans s3).seq hS2, join_ok (by decide +kernel) (fun y hy => (split_ok z3 ((List.mem_filter.mp hy).1)).c) tot⟩
        · exact q4 _ _ ⟨L, x, rfl, hS2, z3.mono (by decide)⟩
end
end L2.Px

namespace L2.Px
open PySem PySem.Spec PyProof.Rows
/-- a def of the text, from what the table of the program says of it -/
theorem at_mk {K : PySem.W.Frag} {h : Heap} {mg : Str → Option Value} (X : K.In h) (G : h.Ns mainGlobals mg) {x : Str} {st : Stmt} {ps : List Str} {f : Addr} {oc kV doc pm cdv ct : Value} {od an : Option Addr} {osl : Array (Option Value)}
    (g : PySem.W.nsIn K mainGlobals x = some (some (.ref f)))
    (l : K.lookup f = some ⟨oc, od, .func (PySem.W.fnOf x x (defArgs st) (defBody st) (defScope st) .none kV doc pm an cdv ct), osl⟩)
    (c : PySem.W.codeIn K cdv x = true) (k : PySem.W.keepIn K (.ref f) = true)
    (hb : ∀ (kV doc pm : Value) (an : Option Addr) (cdv ct : Value) (us : List Value), us.length = ps.length → bindArgs (PySem.W.fnOf x x (defArgs st) (defBody st) (defScope st) .none kV doc pm an cdv ct) ⟨us, []⟩ = pure (ps.zip us)) :
    At K mg x st ps f (PySem.W.fnOf x x (defArgs st) (defBody st) (defScope st) .none kV doc pm an cdv ct) :=
  ⟨fun_mk l c k, PySem.W.mg_of X G g, (fun_mk l c k).binds hb⟩
theorem kit_own {K : PySem.W.Frag} {S T : Addr} {b : Bool} (h2 : PySem.W.isClsIn K T = true) (h3 : PySem.W.typeIn K (.ref T) = some (.type "type")) (h4 : PySem.W.subIn K (.ref S) (.ref T) = some b) : PySem.W.kitCls K (.ref S) (.ref T) = some b := by
  have e2 : ((PySem.W.clsIn K T).isSome && PySem.W.typeIn K (.ref T) == some (.type "type")) = true := by
    have h2' : (PySem.W.clsIn K T).isSome = true := h2
    rw [h2', h3] <;> rfl
  show (if ((PySem.W.clsIn K T).isSome && PySem.W.typeIn K (.ref T) == some (.type "type")) = true then PySem.W.subIn K (.ref S) (.ref T) else none) = some b
  rw [if_pos e2]
  exact h4
theorem exm_self {K : PySem.W.Frag} {S : Addr} (h1 : PySem.W.subIn K (.ref S) (.type "BaseException") = some true) (h4 : PySem.W.kitCls K (.ref S) (.ref S) = some true) : PySem.W.exmOne K (.ref S) (.ref S) = some true := by
  have e1 : (PySem.W.subIn K (.ref S) (.type "BaseException") == some true) = true := by rw [h1] <;> rfl
  show (if (PySem.W.subIn K (.ref S) (.type "BaseException") == some true) = true then PySem.W.kitCls K (.ref S) (.ref S) else none) = some true
  rw [if_pos e1]
  exact h4
theorem kit_yes {K : PySem.W.Frag} {S T : Addr} (h : PySem.W.kitCls K (.ref S) (.ref T) = some true) : PySem.W.kitOne K (.ref S) (.ref T) = some true := by
  show (if ((Value.ref S) == (.ref T)) = true then some true else PySem.W.kitCls K (.ref S) (.ref T)) = some true
  split
  · rfl
  · exact h
theorem kit_no {K : PySem.W.Frag} {S T : Addr} (n : (S == T) = false) (h : PySem.W.kitCls K (.ref S) (.ref T) = some false) : PySem.W.kitOne K (.ref S) (.ref T) = some false := by
  show (if ((Value.ref S) == (.ref T)) = true then some true else PySem.W.kitCls K (.ref S) (.ref T)) = some false
  rw [if_neg, h]
  intro z
  have : S = T := Value.ref.inj (beq_iff_eq.mp z)
  subst this
  rw [show (S == S) = true from beq_self_eq_true S] at n
  cases n
/-- a tuple of four ints at the top -/
theorem idn_mk {K : PySem.W.Frag} {a : Addr} {od : Option Addr} {osl : Array (Option Value)} {n : Nat} {y0 y1 y2 y3 : Tok} (l : K.lookup a = some ⟨.type "tuple", od, .seq #[.int 0 y0, .int 1 y1, .int 2 y2, .int 3 y3] n, osl⟩) : ∀ H, SqT K H a (iV [0, 1, 2, 3]) := fun H => by
  have r : ∀ (i : Int) (t : Tok), RelV (.int i) (.int i t) := fun i t => by first | exact rfl | exact ⟨t, rfl⟩
  exact .inr ⟨_, _, n, l, rfl, rfl, by show 4 ≤ sizeLine; decide, .cons (r _ _) (.cons (r _ _) (.cons (r _ _) (.cons (r _ _) .nil)))⟩

open PySem.OEX in
theorem all_mk {P : Program} {w : World} {K : PySem.W.Frag} {h : Heap} {mg : Str → Option Value} {fa : Addr} (X : K.In h) (G : h.Ns mainGlobals mg) (hfa : mg "law" = some (.ref fa))
    {k_PERCENT : Tok}
    {k_LONGEST_NAME : Tok}
    {k_SMALL_LETTERS : Tok}
    {k_DIGITS : Tok}
    {f0 : Addr} {oc0 kV0 doc0 pm0 cd0 ct0 : Value} {od0 an0 : Option Addr} {sl0 : Array (Option Value)}
    {f1 : Addr} {oc1 kV1 doc1 pm1 cd1 ct1 : Value} {od1 an1 : Option Addr} {sl1 : Array (Option Value)}
    {f2 : Addr} {oc2 kV2 doc2 pm2 cd2 ct2 : Value} {od2 an2 : Option Addr} {sl2 : Array (Option Value)}
    {f3 : Addr} {oc3 kV3 doc3 pm3 cd3 ct3 : Value} {od3 an3 : Option Addr} {sl3 : Array (Option Value)}
    {f4 : Addr} {oc4 kV4 doc4 pm4 cd4 ct4 : Value} {od4 an4 : Option Addr} {sl4 : Array (Option Value)}
    {f5 : Addr} {oc5 kV5 doc5 pm5 cd5 ct5 : Value} {od5 an5 : Option Addr} {sl5 : Array (Option Value)}
    {f6 : Addr} {oc6 kV6 doc6 pm6 cd6 ct6 : Value} {od6 an6 : Option Addr} {sl6 : Array (Option Value)}
    {f7 : Addr} {oc7 kV7 doc7 pm7 cd7 ct7 : Value} {od7 an7 : Option Addr} {sl7 : Array (Option Value)}
    {f8 : Addr} {oc8 kV8 doc8 pm8 cd8 ct8 : Value} {od8 an8 : Option Addr} {sl8 : Array (Option Value)}
    {f9 : Addr} {oc9 kV9 doc9 pm9 cd9 ct9 : Value} {od9 an9 : Option Addr} {sl9 : Array (Option Value)}
    {fl : Addr} {ocl kVl docl pml cdl ctl : Value} {odl anl : Option Addr} {sll : Array (Option Value)}
    (gM_PERCENT : PySem.W.nsIn K mainGlobals "PERCENT" = some (some (.int 37 k_PERCENT)))
    (gM_LONGEST_NAME : PySem.W.nsIn K mainGlobals "LONGEST_NAME" = some (some (.int 12 k_LONGEST_NAME)))
    (gM_SMALL_LETTERS : PySem.W.nsIn K mainGlobals "SMALL_LETTERS" = some (some (.str "abcdefghijklmnopqrstuvwxyz" k_SMALL_LETTERS)))
    (gM_DIGITS : PySem.W.nsIn K mainGlobals "DIGITS" = some (some (.str "0123456789" k_DIGITS)))
    (g0 : PySem.W.nsIn K mainGlobals "words_of" = some (some (.ref f0)))
    (l0 : K.lookup f0 = some ⟨oc0, od0, .func (PySem.W.fnOf "words_of" "words_of" (defArgs s_words_of) (defBody s_words_of) (defScope s_words_of) .none kV0 doc0 pm0 an0 cd0 ct0), sl0⟩)
    (c0 : PySem.W.codeIn K cd0 "words_of" = true)
    (k0 : PySem.W.keepIn K (.ref f0) = true)
    (g1 : PySem.W.nsIn K mainGlobals "is_plain" = some (some (.ref f1)))
    (l1 : K.lookup f1 = some ⟨oc1, od1, .func (PySem.W.fnOf "is_plain" "is_plain" (defArgs s_is_plain) (defBody s_is_plain) (defScope s_is_plain) .none kV1 doc1 pm1 an1 cd1 ct1), sl1⟩)
    (c1 : PySem.W.codeIn K cd1 "is_plain" = true)
    (k1 : PySem.W.keepIn K (.ref f1) = true)
    (g2 : PySem.W.nsIn K mainGlobals "is_name" = some (some (.ref f2)))
    (l2 : K.lookup f2 = some ⟨oc2, od2, .func (PySem.W.fnOf "is_name" "is_name" (defArgs s_is_name) (defBody s_is_name) (defScope s_is_name) .none kV2 doc2 pm2 an2 cd2 ct2), sl2⟩)
    (c2 : PySem.W.codeIn K cd2 "is_name" = true)
    (k2 : PySem.W.keepIn K (.ref f2) = true)
    (g3 : PySem.W.nsIn K mainGlobals "number_in" = some (some (.ref f3)))
    (l3 : K.lookup f3 = some ⟨oc3, od3, .func (PySem.W.fnOf "number_in" "number_in" (defArgs s_number_in) (defBody s_number_in) (defScope s_number_in) .none kV3 doc3 pm3 an3 cd3 ct3), sl3⟩)
    (c3 : PySem.W.codeIn K cd3 "number_in" = true)
    (k3 : PySem.W.keepIn K (.ref f3) = true)
    (g4 : PySem.W.nsIn K mainGlobals "_law_cell" = some (some (.ref f4)))
    (l4 : K.lookup f4 = some ⟨oc4, od4, .func (PySem.W.fnOf "_law_cell" "_law_cell" (defArgs s__law_cell) (defBody s__law_cell) (defScope s__law_cell) .none kV4 doc4 pm4 an4 cd4 ct4), sl4⟩)
    (c4 : PySem.W.codeIn K cd4 "_law_cell" = true)
    (k4 : PySem.W.keepIn K (.ref f4) = true)
    (g5 : PySem.W.nsIn K mainGlobals "_law_values" = some (some (.ref f5)))
    (l5 : K.lookup f5 = some ⟨oc5, od5, .func (PySem.W.fnOf "_law_values" "_law_values" (defArgs s__law_values) (defBody s__law_values) (defScope s__law_values) .none kV5 doc5 pm5 an5 cd5 ct5), sl5⟩)
    (c5 : PySem.W.codeIn K cd5 "_law_values" = true)
    (k5 : PySem.W.keepIn K (.ref f5) = true)
    (g6 : PySem.W.nsIn K mainGlobals "_law_signs" = some (some (.ref f6)))
    (l6 : K.lookup f6 = some ⟨oc6, od6, .func (PySem.W.fnOf "_law_signs" "_law_signs" (defArgs s__law_signs) (defBody s__law_signs) (defScope s__law_signs) .none kV6 doc6 pm6 an6 cd6 ct6), sl6⟩)
    (c6 : PySem.W.codeIn K cd6 "_law_signs" = true)
    (k6 : PySem.W.keepIn K (.ref f6) = true)
    (g7 : PySem.W.nsIn K mainGlobals "_law_words" = some (some (.ref f7)))
    (l7 : K.lookup f7 = some ⟨oc7, od7, .func (PySem.W.fnOf "_law_words" "_law_words" (defArgs s__law_words) (defBody s__law_words) (defScope s__law_words) .none kV7 doc7 pm7 an7 cd7 ct7), sl7⟩)
    (c7 : PySem.W.codeIn K cd7 "_law_words" = true)
    (k7 : PySem.W.keepIn K (.ref f7) = true)
    (g8 : PySem.W.nsIn K mainGlobals "_law_is_name" = some (some (.ref f8)))
    (l8 : K.lookup f8 = some ⟨oc8, od8, .func (PySem.W.fnOf "_law_is_name" "_law_is_name" (defArgs s__law_is_name) (defBody s__law_is_name) (defScope s__law_is_name) .none kV8 doc8 pm8 an8 cd8 ct8), sl8⟩)
    (c8 : PySem.W.codeIn K cd8 "_law_is_name" = true)
    (k8 : PySem.W.keepIn K (.ref f8) = true)
    (g9 : PySem.W.nsIn K mainGlobals "_law_number" = some (some (.ref f9)))
    (l9 : K.lookup f9 = some ⟨oc9, od9, .func (PySem.W.fnOf "_law_number" "_law_number" (defArgs s__law_number) (defBody s__law_number) (defScope s__law_number) .none kV9 doc9 pm9 an9 cd9 ct9), sl9⟩)
    (c9 : PySem.W.codeIn K cd9 "_law_number" = true)
    (k9 : PySem.W.keepIn K (.ref f9) = true)
    (gl : PySem.W.nsIn K mainGlobals "law" = some (some (.ref fl)))
    (ll : K.lookup fl = some ⟨ocl, odl, .func (PySem.W.fnOf "law" "law" (defArgs s_law) (defBody s_law) (defScope s_law) .none kVl docl pml anl cdl ctl), sll⟩)
    (cl : PySem.W.codeIn K cdl "law" = true)
    (kl : PySem.W.keepIn K (.ref fl) = true)
    (n0 : PySem.W.nsIn K mainGlobals "all" = some none)
    (n1 : PySem.W.nsIn K mainGlobals "ord" = some none)
    (n2 : PySem.W.nsIn K mainGlobals "len" = some none)
    (n3 : PySem.W.nsIn K mainGlobals "int" = some none)
    (n4 : PySem.W.nsIn K mainGlobals "range" = some none)
    (n5 : PySem.W.nsIn K mainGlobals "str" = some none)
    (n6 : PySem.W.nsIn K mainGlobals "repr" = some none)
    (n7 : PySem.W.nsIn K mainGlobals "sorted" = some none)
    (n8 : PySem.W.nsIn K mainGlobals "enumerate" = some none)
    (n9 : PySem.W.nsIn K mainGlobals "tuple" = some none) :
    ∃ fd : FuncData, (∀ (s : Shared) (u : Value), BindsTo s fd ⟨[u], []⟩ [("script", u)]) ∧ ∀ base : Heap, K.In base → base.Ns mainGlobals mg → GFn P w K mg base 3 fa fd ["script"] (sp_law K) := by
  have e := hfa.symm.trans (PySem.W.mg_of X G gl)
  cases e
  have N : Nm mg := ⟨PySem.W.mg_none_of X G n0, PySem.W.mg_none_of X G n1, PySem.W.mg_none_of X G n2, PySem.W.mg_none_of X G n3, PySem.W.mg_none_of X G n4, PySem.W.mg_none_of X G n5, PySem.W.mg_none_of X G n6⟩
  have A0 := at_mk (st := s_words_of) (ps := ["line"]) X G g0 l0 c0 k0 (fun _ _ _ _ _ _ us hl => match us, hl with | [_], _ => rfl)
  have A1 := at_mk (st := s_is_plain) (ps := ["line"]) X G g1 l1 c1 k1 (fun _ _ _ _ _ _ us hl => match us, hl with | [_], _ => rfl)
  have A2 := at_mk (st := s_is_name) (ps := ["word"]) X G g2 l2 c2 k2 (fun _ _ _ _ _ _ us hl => match us, hl with | [_], _ => rfl)
  have A3 := at_mk (st := s_number_in) (ps := ["word"]) X G g3 l3 c3 k3 (fun _ _ _ _ _ _ us hl => match us, hl with | [_], _ => rfl)
  have A4 := at_mk (st := s__law_cell) (ps := ["script", "k"]) X G g4 l4 c4 k4 (fun _ _ _ _ _ _ us hl => match us, hl with | [_, _], _ => rfl)
  have A5 := at_mk (st := s__law_values) (ps := ["cell", "count", "size"]) X G g5 l5 c5 k5 (fun _ _ _ _ _ _ us hl => match us, hl with | [_, _, _], _ => rfl)
  have A6 := at_mk (st := s__law_signs) (ps := []) X G g6 l6 c6 k6 (fun _ _ _ _ _ _ us hl => match us, hl with | [], _ => rfl)
  have A7 := at_mk (st := s__law_words) (ps := ["line"]) X G g7 l7 c7 k7 (fun _ _ _ _ _ _ us hl => match us, hl with | [_], _ => rfl)
  have A8 := at_mk (st := s__law_is_name) (ps := ["word"]) X G g8 l8 c8 k8 (fun _ _ _ _ _ _ us hl => match us, hl with | [_], _ => rfl)
  have A9 := at_mk (st := s__law_number) (ps := ["word"]) X G g9 l9 c9 k9 (fun _ _ _ _ _ _ us hl => match us, hl with | [_], _ => rfl)
  have M_PERCENT := PySem.W.mg_of X G gM_PERCENT
  have M_LONGEST_NAME := PySem.W.mg_of X G gM_LONGEST_NAME
  have M_SMALL_LETTERS := PySem.W.mg_of X G gM_SMALL_LETTERS
  have M_DIGITS := PySem.W.mg_of X G gM_DIGITS
  have NJ : NmJ mg := ⟨PySem.W.mg_none_of X G n7, PySem.W.mg_none_of X G n4, PySem.W.mg_none_of X G n2, PySem.W.mg_none_of X G n8, PySem.W.mg_none_of X G n9⟩
  exact ⟨_, fun s u => .of_eq rfl, fun base _ _ => 
    have G__law_values : FnOk P w K mg base CX0 1 f5 _ ["cell", "count", "size"] (sp__law_values K) := ok_values (A5).F NJ (PySem.W.mg_none_of X G n3)
    have G__law_cell : FnOk P w K mg base CX0 1 f4 _ ["script", "k"] (sp__law_cell K) := ok_cell (A4).F NJ
    have G_is_plain : FnOk P w K mg base CX0 1 f1 _ ["line"] (sp_is_plain K) := ok_is_plain (A1).F N M_PERCENT
    have G_words_of : FnOk P w K mg base CX0 2 f0 _ ["line"] (sp_words_of K) := ok_words_of (A0).F N A1 G_is_plain
    have G__law_signs : FnOk P w K mg base CX0 1 f6 _ [] (sp__law_signs K) := ok__law_signs (A6).F N
    have G__law_words : FnOk P w K mg base CX0 2 f7 _ ["line"] (sp__law_words K) := ok__law_words (A7).F N A6 G__law_signs
    have G_is_name : FnOk P w K mg base CX0 1 f2 _ ["word"] (sp_is_name K) := ok_is_name (A2).F N M_LONGEST_NAME M_SMALL_LETTERS
    have G__law_is_name : FnOk P w K mg base CX0 1 f8 _ ["word"] (sp__law_is_name K) := ok__law_is_name (A8).F N
    have G_number_in : FnOk P w K mg base CX0 1 f3 _ ["word"] (sp_number_in K) := ok_number_in (A3).F N M_DIGITS
    have G__law_number : FnOk P w K mg base CX0 1 f9 _ ["word"] (sp__law_number K) := ok__law_number (A9).F N
    ok_law (fun_mk ll cl kl) N A5 G__law_values A4 G__law_cell A0 G_words_of A7 G__law_words A2 G_is_name A8 G__law_is_name A3 G_number_in A9 G__law_number⟩
end L2.Px

open PySem PySem.W PyProof.Rows
set_option maxRecDepth 100000 in
set_option maxHeartbeats 8000000 in
theorem PySem.Challenge.cw_wedgespace_k89_words_of_lines_holds : PySem.Challenge.rw_wedgespace_k89_words_of_lines.Holds := by
  w_on; o_law; k_head; (case hw => w_witness2)
  k_fill
  refine L2.Px.walkG (l := PySem.Challenge.rw_wedgespace_k89_words_of_lines) (n := 63) (k := 3) (x := "script") (sp := L2.Px.sp_law) rfl (by decide) rfl ⟨rfl, by decide, by decide⟩ (fun w h Y => PySem.W.kIn_of Y) ?F ?S
  case F =>
    intro w mg fa h KX G hmg
    refine' L2.Px.all_mk KX G hmg ?zgM_PERCENT ?zgM_LONGEST_NAME ?zgM_SMALL_LETTERS ?zgM_DIGITS ?zg0 ?zl0 ?zc0 ?zk0 ?zg1 ?zl1 ?zc1 ?zk1 ?zg2 ?zl2 ?zc2 ?zk2 ?zg3 ?zl3 ?zc3 ?zk3 ?zg4 ?zl4 ?zc4 ?zk4 ?zg5 ?zl5 ?zc5 ?zk5 ?zg6 ?zl6 ?zc6 ?zk6 ?zg7 ?zl7 ?zc7 ?zk7 ?zg8 ?zl8 ?zc8 ?zk8 ?zg9 ?zl9 ?zc9 ?zk9 ?zgl ?zll ?zcl ?zkl ?zn0 ?zn1 ?zn2 ?zn3 ?zn4 ?zn5 ?zn6 ?zn7 ?zn8 ?zn9

    (case zgM_PERCENT => k_is)
    (case zgM_LONGEST_NAME => k_is)
    (case zgM_SMALL_LETTERS => k_is)
    (case zgM_DIGITS => k_is)
    (case zg0 => k_is)
    (case zl0 => k_is)
    (case zc0 => k_is)
    (case zk0 => k_is)
    (case zg1 => k_is)
    (case zl1 => k_is)
    (case zc1 => k_is)
    (case zk1 => k_is)
    (case zg2 => k_is)
    (case zl2 => k_is)
    (case zc2 => k_is)
    (case zk2 => k_is)
    (case zg3 => k_is)
    (case zl3 => k_is)
    (case zc3 => k_is)
    (case zk3 => k_is)
    (case zg4 => k_is)
    (case zl4 => k_is)
    (case zc4 => k_is)
    (case zk4 => k_is)
    (case zg5 => k_is)
    (case zl5 => k_is)
    (case zc5 => k_is)
    (case zk5 => k_is)
    (case zg6 => k_is)
    (case zl6 => k_is)
    (case zc6 => k_is)
    (case zk6 => k_is)
    (case zg7 => k_is)
    (case zl7 => k_is)
    (case zc7 => k_is)
    (case zk7 => k_is)
    (case zg8 => k_is)
    (case zl8 => k_is)
    (case zc8 => k_is)
    (case zk8 => k_is)
    (case zg9 => k_is)
    (case zl9 => k_is)
    (case zc9 => k_is)
    (case zk9 => k_is)
    (case zgl => k_is)
    (case zll => k_is)
    (case zcl => k_is)
    (case zkl => k_is)
    (case zn0 => k_is)
    (case zn1 => k_is)
    (case zn2 => k_is)
    (case zn3 => k_is)
    (case zn4 => k_is)
    (case zn5 => k_is)
    (case zn6 => k_is)
    (case zn7 => k_is)
    (case zn8 => k_is)
    (case zn9 => k_is)
  case S =>
    intro K H a ns hl hS
    exact ⟨a, ns, rfl, hS, hl, fun _ => rfl⟩


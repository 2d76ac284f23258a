import PyProof.Rows.All
import Wide.All
import OpenK.AllK
import Wide.FinOn
import Open.SpecLaws
import KE.OsGo
import HandS.ForSpec
import HandS.ForMost
import HandS.Codes
import HandS.More
import HandS.IsInst
import HandS.TupAny
import HandS.Strs
import HandS.Conv
import HandS.Flow
import HandS.Walk
import HandS.ListItems
import HandS.HeadHook3
import PySem.Challenge.RW_spoiltplaces_s01_answers
set_option Elab.async false
set_option linter.all false
set_option maxRecDepth 100000
set_option maxHeartbeats 20000000
/-! The machine that the program's loop is, and that it runs an expression as the specification does. -/
namespace Pf
open Ty01
structure Wd where
  tok : Tok
  many : Nat
  parts : List Nat
abbrev Task := Bool × Nat × List Val
structure MS where
  steps : Nat
  why : Nat
  seen : List Nat
  todo : List Task
  res : List Val
def addS (l : List Nat) (x : Nat) : List Nat := if x ∈ l then l else l ++ [x]
theorem mem_addS {l : List Nat} {x y : Nat} : y ∈ addS l x ↔ y = x ∨ y ∈ l := by
  unfold addS
  split
  · constructor
    · exact Or.inr
    · rintro (h | h)
      · subst h; assumption
      · exact h
  · simp [or_comm]
def isCh (o : Nat) : Bool := o == 5 || o == 11
def opApply (o : Nat) (l : List Val) : Except Nat Val := match l with
  | [] => .ok (.l [])
  | [x] => apply1 o x
  | [x, y] => apply2 o x y
  | _ => .error 1
def ValOk : Val → Prop
  | .n x => x ≤ 999
  | .l xs => xs.length ≤ 10 ∧ ∀ x ∈ xs, x ≤ 999
inductive Step (C : List Wd) (fst : List Nat) : MS → MS → Prop
  | lim {sn : List Nat} {T : List Task} {R : List Val} {q : Nat} {env : List Val} : Step C fst ⟨100, 0, sn, T ++ [(false, q, env)], R⟩ ⟨100, 3, sn, T, R⟩
  | num {st : Nat} {sn : List Nat} {T : List Task} {R : List Val} {q : Nat} {env : List Val} {w : Wd} {n : Nat} : st < 100 → C[q]? = some w → w.tok = .num n →
      Step C fst ⟨st, 0, sn, T ++ [(false, q, env)], R⟩ ⟨st + 1, 0, addS sn q, T, R ++ [.n n]⟩
  | arg {st : Nat} {sn : List Nat} {T : List Task} {R : List Val} {q : Nat} {env : List Val} {w : Wd} {i : Nat} {v : Val} : st < 100 → C[q]? = some w → w.tok = .arg i → env[i]? = some v →
      Step C fst ⟨st, 0, sn, T ++ [(false, q, env)], R⟩ ⟨st + 1, 0, addS sn q, T, R ++ [v]⟩
  | planC {st : Nat} {sn : List Nat} {T : List Task} {R : List Val} {q : Nat} {env : List Val} {w : Wd} {o : Nat} : st < 100 → C[q]? = some w → w.tok = .op o → isCh o = true →
      Step C fst ⟨st, 0, sn, T ++ [(false, q, env)], R⟩ ⟨st + 1, 0, addS sn q, (T ++ [(true, q, env)]) ++ ((w.parts.take 1).reverse.map fun p => (false, p, env)), R⟩
  | planO {st : Nat} {sn : List Nat} {T : List Task} {R : List Val} {q : Nat} {env : List Val} {w : Wd} {o : Nat} : st < 100 → C[q]? = some w → w.tok = .op o → isCh o = false →
      Step C fst ⟨st, 0, sn, T ++ [(false, q, env)], R⟩ ⟨st + 1, 0, addS sn q, (T ++ [(true, q, env)]) ++ (w.parts.reverse.map fun p => (false, p, env)), R⟩
  | planF {st : Nat} {sn : List Nat} {T : List Task} {R : List Val} {q : Nat} {env : List Val} {w : Wd} {g : Nat} : st < 100 → C[q]? = some w → w.tok = .call g →
      Step C fst ⟨st, 0, sn, T ++ [(false, q, env)], R⟩ ⟨st + 1, 0, addS sn q, (T ++ [(true, q, env)]) ++ (w.parts.reverse.map fun p => (false, p, env)), R⟩
  | chL {st : Nat} {sn : List Nat} {T : List Task} {R : List Val} {q : Nat} {env : List Val} {w : Wd} {o : Nat} {xs : List Nat} : C[q]? = some w → w.tok = .op o → isCh o = true →
      Step C fst ⟨st, 0, sn, T ++ [(true, q, env)], R ++ [.l xs]⟩ ⟨st, 1, sn, T, R⟩
  | chN {st : Nat} {sn : List Nat} {T : List Task} {R : List Val} {q : Nat} {env : List Val} {w : Wd} {o c z : Nat} : C[q]? = some w → w.tok = .op o → isCh o = true →
      w.parts[if ((c = 0) ↔ (o = 11)) then 1 else 2]? = some z →
      Step C fst ⟨st, 0, sn, T ++ [(true, q, env)], R ++ [.n c]⟩ ⟨st, 0, sn, T ++ [(false, z, env)], R⟩
  | fin {st : Nat} {sn : List Nat} {T : List Task} {R args : List Val} {q z : Nat} {env : List Val} {w : Wd} {g : Nat} : C[q]? = some w → w.tok = .call g → fst[g]? = some z → args.length = w.many →
      Step C fst ⟨st, 0, sn, T ++ [(true, q, env)], R ++ args⟩ ⟨st, 0, sn, T ++ [(false, z, args)], R⟩
  | opV {st : Nat} {sn : List Nat} {T : List Task} {R args : List Val} {q : Nat} {env : List Val} {w : Wd} {o : Nat} {v : Val} : C[q]? = some w → w.tok = .op o → isCh o = false → args.length = w.many → (∀ v ∈ args, ValOk v) →
      opApply o args = .ok v → Step C fst ⟨st, 0, sn, T ++ [(true, q, env)], R ++ args⟩ ⟨st, 0, sn, T, R ++ [v]⟩
  | opE {st : Nat} {sn : List Nat} {T : List Task} {R args : List Val} {q : Nat} {env : List Val} {w : Wd} {o e : Nat} : C[q]? = some w → w.tok = .op o → isCh o = false → args.length = w.many → (∀ v ∈ args, ValOk v) →
      opApply o args = .error e → Step C fst ⟨st, 0, sn, T ++ [(true, q, env)], R ++ args⟩ ⟨st, e, sn, T, R ++ [.n 0]⟩
inductive Runs (C : List Wd) (fst : List Nat) : MS → Nat → MS → Prop
  | stopT {s : MS} : s.todo = [] → s.why = 0 → Runs C fst s 0 s
  | stopW {s : MS} : s.why ≠ 0 → Runs C fst s 0 s
  | step {s s' e : MS} {n : Nat} : Step C fst s s' → Runs C fst s' n e → Runs C fst s (n + 1) e
/-! ### where expressions stand -/
/-- at least so many expressions stand there -/
def has (a : List Nat) : Nat → List Tok → Prop
  | 0, _ => True
  | _ + 1, [] => False
  | n + 1, t :: l => has a (n + arityOf a t) l
theorem has_zero (a : List Nat) (l : List Tok) : has a 0 l := by unfold has; trivial
theorem skip_zero (a : List Nat) (l : List Tok) (p : Nat) : skip a 0 l p = (l, p) := by cases l <;> rfl
theorem skip_nil (a : List Nat) : ∀ (n p : Nat), skip a n [] p = ([], p)
  | 0, _ => rfl
  | _ + 1, _ => rfl
theorem skip_add (a : List Nat) : ∀ (l : List Tok) (m n p : Nat), skip a (m + n) l p = skip a n (skip a m l p).1 (skip a m l p).2
  | l, 0, n, p => by rw [Nat.zero_add, skip_zero]
  | [], m + 1, n, p => by rw [skip_nil, skip_nil, skip_nil]
  | t :: l, m + 1, n, p => by
    have e : m + 1 + n = (m + n) + 1 := by omega
    rw [e]
    show skip a (m + n + arityOf a t) l (p + 1) = skip a n (skip a (m + arityOf a t) l (p + 1)).1 (skip a (m + arityOf a t) l (p + 1)).2
    rw [show m + n + arityOf a t = (m + arityOf a t) + n by omega]
    exact skip_add a l _ n _
theorem has_add (a : List Nat) : ∀ (l : List Tok) (m n p : Nat), has a (m + n) l ↔ has a m l ∧ has a n (skip a m l p).1
  | l, 0, n, p => by rw [Nat.zero_add, skip_zero]; exact ⟨fun h => ⟨has_zero a l, h⟩, fun h => h.2⟩
  | [], m + 1, n, p => by
    have e : m + 1 + n = (m + n) + 1 := by omega
    rw [e]
    exact ⟨fun h => h.elim, fun h => h.1.elim⟩
  | t :: l, m + 1, n, p => by
    have e : m + 1 + n = (m + n) + 1 := by omega
    rw [e]
    show has a (m + n + arityOf a t) l ↔ has a (m + arityOf a t) l ∧ has a n (skip a (m + arityOf a t) l (p + 1)).1
    rw [show m + n + arityOf a t = (m + arityOf a t) + n by omega]
    exact has_add a l _ n _
theorem skip_drop (a : List Nat) (l : List Tok) : ∀ (n q : Nat) (r : List Tok), r = l.drop q → q ≤ l.length → (skip a n r q).1 = l.drop (skip a n r q).2 ∧ q ≤ (skip a n r q).2 ∧ (skip a n r q).2 ≤ l.length := by
  intro n q r
  induction r generalizing n q with
  | nil => intro e hq; rw [skip_nil]; exact ⟨e, Nat.le_refl _, hq⟩
  | cons t r ih =>
    intro e hq
    cases n with
    | zero => rw [skip_zero]; exact ⟨e, Nat.le_refl _, hq⟩
    | succ n =>
      have hlt : q < l.length := by
        apply Nat.lt_of_not_le
        intro h
        rw [List.drop_eq_nil_of_le h] at e
        cases e
      have er : r = l.drop (q + 1) := by
        rw [← List.drop_drop (i := 1) (j := q), ← e]; rfl
      have := ih (n + arityOf a t) (q + 1) er hlt
      exact ⟨this.1, Nat.le_trans (Nat.le_succ _) this.2.1, this.2.2⟩
/-- where the next k expressions begin -/
def starts (a : List Nat) : Nat → List Tok → Nat → List Nat
  | 0, _, _ => []
  | k + 1, ts, p => p :: starts a k (skip a 1 ts p).1 (skip a 1 ts p).2
theorem starts_len (a : List Nat) : ∀ (k : Nat) (ts : List Tok) (p : Nat), (starts a k ts p).length = k
  | 0, _, _ => rfl
  | k + 1, ts, p => by
    show (starts a k _ _).length + 1 = k + 1
    rw [starts_len a k]
def partsOf (a : List Nat) (s : Nat) (ts : List Tok) (i : Nat) (t : Tok) : List Nat := (starts a (arityOf a t) (ts.drop (i + 1)) (i + 1)).map (s + ·)
/-- the words of an expression stand in the code from s on -/
def Lies (C : List Wd) (a : List Nat) (s : Nat) (ts : List Tok) : Prop := ∀ i t, ts[i]? = some t → C[s + i]? = some ⟨t, arityOf a t, partsOf a s ts i t⟩
theorem oneFrom_has (a : List Nat) : ∀ (n : Nat) (l : List Tok) (p : Nat), oneFrom a n l = true → has a n l ∧ (skip a n l p).1 = []
  | 0, [], _, _ => ⟨trivial, rfl⟩
  | 0, _ :: _, _, h => by simp [oneFrom] at h
  | _ + 1, [], _, h => by simp [oneFrom] at h
  | n + 1, t :: l, p, h => oneFrom_has a (n + arityOf a t) l (p + 1) (by simpa [oneFrom] using h)
/-! ### the program in the code -/
structure Toks (ar fn : Nat) (ts : List Tok) : Prop where
  arg : ∀ i, Tok.arg i ∈ ts → i < ar
  call : ∀ g, Tok.call g ∈ ts → g < fn
  num : ∀ n, Tok.num n ∈ ts → n < 100
  op : ∀ o, Tok.op o ∈ ts → o < 12
structure FunsIn (p : Program) (C : List Wd) (fst : List Nat) : Prop where
  len : fst.length = p.funs.length
  lies : ∀ (g : Nat) (h : Ty01.Fun) (s : Nat), p.funs[g]? = some h → fst[g]? = some s → Lies C (arities p) s h.body
  one : ∀ (g : Nat) (h : Ty01.Fun), p.funs[g]? = some h → oneFrom (arities p) 1 h.body = true
  toks : ∀ (g : Nat) (h : Ty01.Fun), p.funs[g]? = some h → Toks h.arity p.funs.length h.body
  apart : ∀ (g : Nat) (h : Ty01.Fun) (s g' : Nat) (h' : Ty01.Fun) (s' : Nat), p.funs[g]? = some h → fst[g]? = some s → p.funs[g']? = some h' → fst[g']? = some s' → ∀ j j', j < h.body.length → j' < h'.body.length → s + j = s' + j' → g = g' ∧ j = j'
def pbase (p : Program) (g : Nat) : Nat := (bases p).getD g 0
/-- what is seen of places and of code -/
def SR (p : Program) (fst : List Nat) (seen sn : List Nat) : Prop := ∀ (g : Nat) (h : Ty01.Fun) (s j : Nat), p.funs[g]? = some h → fst[g]? = some s → j < h.body.length → (pbase p g + j ∈ seen ↔ s + j ∈ sn)
/-- whose expression it is -/
def Whose (p : Program) (fst : List Nat) (base : Option Nat) (s0 : Nat) (ts0 : List Tok) : Prop :=
  (∃ (g : Nat) (h : Ty01.Fun), p.funs[g]? = some h ∧ h.body = ts0 ∧ fst[g]? = some s0 ∧ base = some (pbase p g)) ∨
  (base = none ∧ ∀ q, q < ts0.length → ∀ (g : Nat) (h : Ty01.Fun) (s j : Nat), p.funs[g]? = some h → fst[g]? = some s → j < h.body.length → s0 + q ≠ s + j)
end Pf
namespace Pf
open Ty01
/-! ### places are numbered one behind another -/
def psum (l : List Ty01.Fun) (g : Nat) : Nat := ((l.take g).map fun f => f.body.length).sum
theorem bases_from : ∀ (l : List Ty01.Fun) (n : Nat) (acc : List Nat),
    (l.foldl (fun (a : Nat × List Nat) f => (a.1 + f.body.length, a.2 ++ [a.1])) (n, acc)).2 = acc ++ (List.range l.length).map fun g => n + psum l g
  | [], n, acc => by simp
  | f :: l, n, acc => by
    rw [List.foldl_cons, bases_from l]
    rw [List.length_cons, List.range_succ_eq_map, List.map_cons, List.append_assoc]
    congr 1
    show n :: _ = _ :: _
    congr 1
    rw [List.map_map]
    apply List.map_congr_left
    intro g _
    show n + f.body.length + psum l g = n + psum (f :: l) (g + 1)
    unfold psum
    rw [List.take_succ_cons, List.map_cons, List.sum_cons]
    omega
theorem pbase_eq {p : Program} {g : Nat} (hg : g < p.funs.length) : pbase p g = psum p.funs g := by
  unfold pbase bases
  rw [bases_from, List.nil_append, List.getD_eq_getElem?_getD, List.getElem?_map, List.getElem?_range hg]
  simp
theorem psum_succ {l : List Ty01.Fun} {g : Nat} {h : Ty01.Fun} (e : l[g]? = some h) : psum l (g + 1) = psum l g + h.body.length := by
  unfold psum
  rw [List.take_add_one, e]
  simp
theorem psum_mono (l : List Ty01.Fun) {i j : Nat} (h : i ≤ j) : psum l i ≤ psum l j := by
  induction j with
  | zero => have : i = 0 := by omega
            subst this; exact Nat.le_refl _
  | succ j ih =>
    by_cases e : i = j + 1
    · subst e; exact Nat.le_refl _
    · refine Nat.le_trans (ih (by omega)) ?_
      cases q : l[j]? with
      | none =>
        unfold psum
        rw [List.take_add_one, q]
        simp
      | some x => rw [psum_succ q]; omega
theorem lt_of_get {α : Type} {l : List α} {i : Nat} {x : α} (h : l[i]? = some x) : i < l.length := (List.getElem?_eq_some_iff.mp h).1
theorem psum_inj {l : List Ty01.Fun} {g g' j j' : Nat} {h h' : Ty01.Fun} (e : l[g]? = some h) (e' : l[g']? = some h') (hj : j < h.body.length) (hj' : j' < h'.body.length) (q : psum l g + j = psum l g' + j') : g = g' ∧ j = j' := by
  have a := psum_succ e
  have b := psum_succ e'
  by_cases c : g = g'
  · subst c; exact ⟨rfl, by omega⟩
  · by_cases d : g < g'
    · have := psum_mono l (show g + 1 ≤ g' from d)
      omega
    · have := psum_mono l (show g' + 1 ≤ g by omega)
      omega
section
variable {p : Program} {C : List Wd} {fst : List Nat}
def seenAt (base : Option Nat) (q : Nat) (seen : List Nat) : List Nat := match base with
  | none => seen
  | some b => if seen.contains (b + q) = true then seen else (b + q) :: seen
theorem Whose.step {base : Option Nat} {s0 q : Nat} {ts0 : List Tok} {seen sn : List Nat} (F : FunsIn p C fst) (W : Whose p fst base s0 ts0) (hq : q < ts0.length) (h : SR p fst seen sn) :
    SR p fst (seenAt base q seen) (addS sn (s0 + q)) := by
  intro g h1 s j hg hs hj
  rw [mem_addS]
  rcases W with ⟨g0, h0, e1, rfl, e3, rfl⟩ | ⟨rfl, far⟩
  · show pbase p g + j ∈ (if seen.contains (pbase p g0 + q) = true then seen else (pbase p g0 + q) :: seen) ↔ _
    have key : pbase p g + j = pbase p g0 + q ↔ s + j = s0 + q := by
      rw [pbase_eq (lt_of_get hg), pbase_eq (lt_of_get e1)]
      constructor
      · intro z
        obtain ⟨rfl, rfl⟩ := psum_inj hg e1 hj hq z
        rw [hs] at e3
        cases e3
        rfl
      · intro z
        obtain ⟨rfl, rfl⟩ := F.apart g h1 s g0 h0 s0 hg hs e1 e3 j q hj hq z
        rfl
    have key2 : pbase p g + j ∈ (if seen.contains (pbase p g0 + q) = true then seen else (pbase p g0 + q) :: seen) ↔ pbase p g + j = pbase p g0 + q ∨ pbase p g + j ∈ seen := by
      split
      · rename_i hc
        have hc : pbase p g0 + q ∈ seen := by simpa using hc
        constructor
        · exact Or.inr
        · rintro (z | z)
          · rw [z]; exact hc
          · exact z
      · rw [List.mem_cons]
    rw [key2, key, h g h1 s j hg hs hj]
  · show pbase p g + j ∈ seen ↔ _
    rw [h g h1 s j hg hs hj]
    constructor
    · exact Or.inr
    · rintro (z | z)
      · exact absurd z.symm (far q hq g h1 s j hg hs hj)
      · exact z
/-! ### an expression is run as the specification runs it -/
abbrev Go (C : List Wd) (fst : List Nat) (s e : MS) : Prop := ∃ n, Runs C fst s n e
theorem Go.step {s s' e : MS} (h : Step C fst s s') (g : Go C fst s' e) : Go C fst s e := by
  obtain ⟨n, g⟩ := g
  exact ⟨n + 1, .step h g⟩
/-- what a run of the next expression comes to, T: what is to be done behind it -/
def OutOk (p : Program) (C : List Wd) (fst : List Nat) (left : Nat) (env : List Val) (sn : List Nat) (task : List Task) (n : Nat) (ts : List Tok) (q : Nat) (x : Out) (vs : List Val) : Prop :=
  ∃ sn', SR p fst x.seen sn' ∧ x.left ≤ left ∧
    (∀ v, x.val = .ok v → (∀ u ∈ vs, ValOk u) ∧ vs.length = n ∧ (x.rest, x.at_) = skip (arities p) n ts q ∧
      ∀ T R e, Go C fst ⟨100 - x.left, 0, sn', T, R ++ vs⟩ e → Go C fst ⟨100 - left, 0, sn, T ++ task, R⟩ e) ∧
    (∀ w, x.val = .error w → w ≠ 0 ∧ ∀ T R, ∃ e, Go C fst ⟨100 - left, 0, sn, T ++ task, R⟩ e ∧ e.why = w ∧ e.steps = 100 - x.left ∧ e.seen = sn')
def valL : Except Nat Val → List Val
  | .ok v => [v]
  | .error _ => []
structure Where (p : Program) (C : List Wd) (fst : List Nat) (env : List Val) (ts0 : List Tok) (base : Option Nat) (s0 : Nat) : Prop where
  W : Whose p fst base s0 ts0
  L : Lies C (arities p) s0 ts0
  tk : Toks env.length p.funs.length ts0
  ve : ∀ v ∈ env, ValOk v
def EvOk (p : Program) (C : List Wd) (fst : List Nat) (f : Nat) : Prop :=
  ∀ (left : Nat) (seen : List Nat) (env : List Val) (ts0 : List Tok) (q : Nat) (base : Option Nat) (s0 : Nat) (sn : List Nat),
  Where p C fst env ts0 base s0 → q ≤ ts0.length → has (arities p) 1 (ts0.drop q) → left ≤ 100 → 2 * left + 2 ≤ f → SR p fst seen sn →
  (∀ v, (eval p f left seen env (ts0.drop q) base q).val = .ok v → (eval p f left seen env (ts0.drop q) base q).left < left) ∧
  OutOk p C fst left env sn [(false, s0 + q, env)] 1 (ts0.drop q) q (eval p f left seen env (ts0.drop q) base q) (valL (eval p f left seen env (ts0.drop q) base q).val)
abbrev tasks (a : List Nat) (env : List Val) (s0 k : Nat) (ts : List Tok) (q : Nat) : List Task := (starts a k ts q).reverse.map fun z => (false, s0 + z, env)
def EvsOk (p : Program) (C : List Wd) (fst : List Nat) (f : Nat) : Prop :=
  ∀ (left : Nat) (seen : List Nat) (env : List Val) (ts0 : List Tok) (q : Nat) (base : Option Nat) (s0 : Nat) (sn : List Nat) (k : Nat) (l : List Val),
  Where p C fst env ts0 base s0 → q ≤ ts0.length → has (arities p) k (ts0.drop q) → left ≤ 100 → 2 * left + 3 ≤ f → SR p fst seen sn →
  ∃ vs, (∀ v, (evals p f left seen env (ts0.drop q) base q k l).1.val = .ok v → (evals p f left seen env (ts0.drop q) base q k l).2 = l ++ vs) ∧
  OutOk p C fst left env sn (tasks (arities p) env s0 k (ts0.drop q) q) k (ts0.drop q) q (evals p f left seen env (ts0.drop q) base q k l).1 vs
theorem evals_zero {f left : Nat} {seen : List Nat} {env : List Val} {ts : List Tok} {base : Option Nat} {q : Nat} {l : List Val} : evals p (f + 1) left seen env ts base q 0 l = (⟨left, seen, .ok (.n 0), ts, q⟩, l) := by rw [evals]
theorem evals_err {f left : Nat} {seen : List Nat} {env : List Val} {ts : List Tok} {base : Option Nat} {q k : Nat} {l : List Val} {x : Out} {w : Nat} (hx : eval p f left seen env ts base q = x) (hv : x.val = .error w) :
    evals p (f + 1) left seen env ts base q (k + 1) l = (⟨x.left, x.seen, .error w, x.rest, x.at_⟩, l) := by
  rw [evals, hx]
  simp only [hv]
theorem evals_ok {f left : Nat} {seen : List Nat} {env : List Val} {ts : List Tok} {base : Option Nat} {q k : Nat} {l : List Val} {x : Out} {v : Val} (hx : eval p f left seen env ts base q = x) (hv : x.val = .ok v) :
    evals p (f + 1) left seen env ts base q (k + 1) l = evals p f x.left x.seen env x.rest base x.at_ k (l ++ [v]) := by
  rw [evals, hx]
  simp only [hv]
theorem tasks_succ (a : List Nat) (env : List Val) (s0 k : Nat) (ts : List Tok) (q : Nat) : tasks a env s0 (k + 1) ts q = tasks a env s0 k (skip a 1 ts q).1 (skip a 1 ts q).2 ++ [(false, s0 + q, env)] := by
  show ((q :: starts a k (skip a 1 ts q).1 (skip a 1 ts q).2).reverse.map fun z => ((false, s0 + z, env) : Task)) = _
  rw [List.reverse_cons, List.map_append]
  rfl
theorem evs_step {f : Nat} (E : EvOk p C fst f) (E2 : EvsOk p C fst f) : EvsOk p C fst (f + 1) := by
  intro left seen env ts0 q base s0 sn k l W hq hh hl hf sr
  cases k with
  | zero =>
    rw [evals_zero]
    refine ⟨[], fun _ _ => (List.append_nil l).symm, sn, sr, Nat.le_refl _, fun v _ => ⟨(fun u hu => by cases hu), rfl, (skip_zero _ _ _).symm, fun T R e g => ?_⟩, (fun w h => by cases h)⟩
    rw [List.append_nil] at g
    show Go C fst ⟨_, _, _, T ++ [], R⟩ e
    rw [List.append_nil]
    exact g
  | succ k =>
    have h1 : has (arities p) (1 + k) (ts0.drop q) := by rw [Nat.add_comm]; exact hh
    rw [has_add _ _ 1 k q] at h1
    have E1 := E left seen env ts0 q base s0 sn W hq h1.1 hl (by omega) sr
    generalize hx : eval p f left seen env (ts0.drop q) base q = x at E1
    obtain ⟨dec, sn1, sr1, le1, ok1, er1⟩ := E1
    rw [tasks_succ]
    cases hv : x.val with
    | error w =>
      rw [evals_err hx hv]
      obtain ⟨w0, er⟩ := er1 w hv
      refine ⟨[], (fun v h => by cases h), sn1, sr1, le1, (fun v h => by cases h), fun w' h => ?_⟩
      cases h
      refine ⟨w0, fun T R => ?_⟩
      rw [← List.append_assoc]
      exact er _ R
    | ok v =>
      rw [hv] at ok1
      obtain ⟨vv, _, sk, go1⟩ := ok1 v rfl
      have lt1 := dec v hv
      have sd := skip_drop (arities p) ts0 1 q _ rfl hq
      have e1 : x.rest = (skip (arities p) 1 (ts0.drop q) q).1 := congrArg Prod.fst sk
      have e2 : x.at_ = (skip (arities p) 1 (ts0.drop q) q).2 := congrArg Prod.snd sk
      have e3 : x.rest = ts0.drop x.at_ := by rw [e1, e2]; exact sd.1
      rw [evals_ok hx hv, e3]
      have E3 := E2 x.left x.seen env ts0 x.at_ base s0 sn1 k (l ++ [v]) W (by rw [e2]; exact sd.2.2) (by rw [← e3, e1]; exact h1.2) (by omega) (by omega) sr1
      generalize evals p f x.left x.seen env (ts0.drop x.at_) base x.at_ k (l ++ [v]) = y at E3 ⊢
      obtain ⟨vs, evs, sn2, sr2, le2, ok2, er2⟩ := E3
      refine ⟨v :: vs, fun u hu => by rw [evs u hu, List.append_assoc]; rfl, sn2, sr2, by omega, fun u hu => ?_, fun w hw => ?_⟩
      · obtain ⟨vo, lvs, sk2, go2⟩ := ok2 u hu
        refine ⟨fun z hz => ?_, by rw [List.length_cons, lvs], ?_, fun T R e g => ?_⟩
        · rcases List.mem_cons.mp hz with rfl | hz
          · exact vv _ (List.mem_singleton.mpr rfl)
          · exact vo z hz
        · rw [sk2, show k + 1 = 1 + k by omega, skip_add, ← e1, ← e2, e3]
        · rw [← List.append_assoc]
          refine go1 _ _ e ?_
          rw [← e1, ← e2, e3]
          refine go2 T (R ++ [v]) e ?_
          rw [List.append_assoc]
          exact g
      · obtain ⟨w0, er⟩ := er2 w hw
        refine ⟨w0, fun T R => ?_⟩
        obtain ⟨e, g, a, b, c⟩ := er T (R ++ [v])
        refine ⟨e, ?_, a, b, c⟩
        rw [← List.append_assoc]
        refine go1 _ _ e ?_
        rw [← e1, ← e2, e3]
        exact g
end
end Pf
namespace Pf
open Ty01
section
variable {p : Program} {C : List Wd} {fst : List Nat}
section
variable {f left : Nat} {seen : List Nat} {env : List Val} {r : List Tok} {base : Option Nat} {q : Nat}
theorem eval_lim {ts : List Tok} (h : ts ≠ []) : eval p (f + 1) 0 seen env ts base q = ⟨0, seen, .error 3, ts, q⟩ := by
  cases ts with
  | nil => exact absurd rfl h
  | cons t r => rw [eval.eq_def]; simp
theorem eval_cons {t : Tok} (h : left ≠ 0) : eval p (f + 1) left seen env (t :: r) base q = (match t with
      | .num n => ⟨left - 1, seenAt base q seen, .ok (.n n), r, q + 1⟩
      | .arg i => ⟨left - 1, seenAt base q seen, .ok (env.getD i (.n 0)), r, q + 1⟩
      | .op o =>
        if o = 6 then ⟨left - 1, seenAt base q seen, .ok (.l []), r, q + 1⟩ else
        let x := eval p f (left - 1) (seenAt base q seen) env r base (q + 1)
        match x.val with
        | .error e => { x with val := .error e }
        | .ok v =>
          if o = 5 ∨ o = 11 then (match v with
            | .l _ => { x with val := .error 1 }
            | .n c =>
              if (c ≠ 0 ∧ o = 5) ∨ (c = 0 ∧ o = 11) then
                let y := eval p f x.left x.seen env x.rest base x.at_
                let z := skip (arities p) 1 y.rest y.at_
                { y with rest := z.1, at_ := z.2 }
              else
                let z := skip (arities p) 1 x.rest x.at_
                eval p f x.left x.seen env z.1 base z.2) else
          if 8 ≤ o then { x with val := apply1 o v } else
          let y := eval p f x.left x.seen env x.rest base x.at_
          match y.val with
          | .error e => { y with val := .error e }
          | .ok w => { y with val := apply2 o v w }
      | .call g => match p.funs[g]? with
        | none => ⟨left - 1, seenAt base q seen, .error 1, r, q + 1⟩
        | some h =>
          let x := evals p f (left - 1) (seenAt base q seen) env r base (q + 1) h.arity []
          match x.1.val with
          | .error e => { x.1 with val := .error e }
          | .ok _ =>
            let y := eval p f x.1.left x.1.seen x.2 h.body (some ((bases p).getD g 0)) 0
            { y with rest := x.1.rest, at_ := x.1.at_ }) := by
  rw [eval.eq_def]
  show (if left = 0 then _ else _) = _
  rw [if_neg h]
  rfl
theorem eval_num {n : Nat} (h : left ≠ 0) : eval p (f + 1) left seen env (.num n :: r) base q = ⟨left - 1, seenAt base q seen, .ok (.n n), r, q + 1⟩ := by
  rw [eval_cons h]
theorem eval_arg {i : Nat} (h : left ≠ 0) : eval p (f + 1) left seen env (.arg i :: r) base q = ⟨left - 1, seenAt base q seen, .ok (env.getD i (.n 0)), r, q + 1⟩ := by
  rw [eval_cons h]
theorem eval_nil (h : left ≠ 0) : eval p (f + 1) left seen env (.op 6 :: r) base q = ⟨left - 1, seenAt base q seen, .ok (.l []), r, q + 1⟩ := by
  rw [eval_cons h]; rfl
theorem eval_op1e {o : Nat} {x : Out} {w : Nat} (h : left ≠ 0) (ho : o ≠ 6) (hx : eval p f (left - 1) (seenAt base q seen) env r base (q + 1) = x) (hv : x.val = .error w) :
    eval p (f + 1) left seen env (.op o :: r) base q = ⟨x.left, x.seen, .error w, x.rest, x.at_⟩ := by
  rw [eval_cons h]; simp only [if_neg ho, hx]; simp only [hv]
theorem eval_ch {o : Nat} {x : Out} {v : Val} (h : left ≠ 0) (ho : isCh o = true) (hx : eval p f (left - 1) (seenAt base q seen) env r base (q + 1) = x) (hv : x.val = .ok v) :
    eval p (f + 1) left seen env (.op o :: r) base q = match v with
      | .l _ => ⟨x.left, x.seen, .error 1, x.rest, x.at_⟩
      | .n c => if ((c = 0) ↔ (o = 11)) then
          ⟨(eval p f x.left x.seen env x.rest base x.at_).left, (eval p f x.left x.seen env x.rest base x.at_).seen, (eval p f x.left x.seen env x.rest base x.at_).val,
            (skip (arities p) 1 (eval p f x.left x.seen env x.rest base x.at_).rest (eval p f x.left x.seen env x.rest base x.at_).at_).1, (skip (arities p) 1 (eval p f x.left x.seen env x.rest base x.at_).rest (eval p f x.left x.seen env x.rest base x.at_).at_).2⟩
        else eval p f x.left x.seen env (skip (arities p) 1 x.rest x.at_).1 base (skip (arities p) 1 x.rest x.at_).2 := by
  have ho' : o = 5 ∨ o = 11 := by simpa [isCh] using ho
  have ho6 : o ≠ 6 := by omega
  rw [eval_cons h]; simp only [if_neg ho6, hx]; simp only [hv, if_pos ho']
  cases v with
  | l xs => rfl
  | n c =>
    simp only
    by_cases q1 : (c ≠ 0 ∧ o = 5) ∨ (c = 0 ∧ o = 11)
    · rw [if_pos q1, if_pos (by omega)]
    · rw [if_neg q1, if_neg (by omega)]
theorem eval_op1 {o : Nat} {x : Out} {v : Val} (h : left ≠ 0) (ho : 8 ≤ o) (ho2 : isCh o = false) (hx : eval p f (left - 1) (seenAt base q seen) env r base (q + 1) = x) (hv : x.val = .ok v) :
    eval p (f + 1) left seen env (.op o :: r) base q = ⟨x.left, x.seen, apply1 o v, x.rest, x.at_⟩ := by
  have ho' : ¬ (o = 5 ∨ o = 11) := by simpa [isCh] using ho2
  have ho6 : o ≠ 6 := by omega
  rw [eval_cons h]; simp only [if_neg ho6, hx]; simp only [hv, if_neg ho', if_pos ho]
theorem eval_op2e {o : Nat} {x y : Out} {v : Val} {w : Nat} (h : left ≠ 0) (ho : o < 8) (ho6 : o ≠ 6) (ho2 : isCh o = false) (hx : eval p f (left - 1) (seenAt base q seen) env r base (q + 1) = x) (hv : x.val = .ok v)
    (hy : eval p f x.left x.seen env x.rest base x.at_ = y) (hw : y.val = .error w) : eval p (f + 1) left seen env (.op o :: r) base q = ⟨y.left, y.seen, .error w, y.rest, y.at_⟩ := by
  have ho' : ¬ (o = 5 ∨ o = 11) := by simpa [isCh] using ho2
  rw [eval_cons h]; simp only [if_neg ho6, hx]; simp only [hv, if_neg ho', if_neg (show ¬ 8 ≤ o by omega)]
  rw [hy]; simp only [hw]
theorem eval_op2 {o : Nat} {x y : Out} {v u : Val} (h : left ≠ 0) (ho : o < 8) (ho6 : o ≠ 6) (ho2 : isCh o = false) (hx : eval p f (left - 1) (seenAt base q seen) env r base (q + 1) = x) (hv : x.val = .ok v)
    (hy : eval p f x.left x.seen env x.rest base x.at_ = y) (hw : y.val = .ok u) : eval p (f + 1) left seen env (.op o :: r) base q = ⟨y.left, y.seen, apply2 o v u, y.rest, y.at_⟩ := by
  have ho' : ¬ (o = 5 ∨ o = 11) := by simpa [isCh] using ho2
  rw [eval_cons h]; simp only [if_neg ho6, hx]; simp only [hv, if_neg ho', if_neg (show ¬ 8 ≤ o by omega)]
  rw [hy]; simp only [hw]
theorem eval_calle {g : Nat} {hf : Ty01.Fun} {x : Out × List Val} {w : Nat} (h : left ≠ 0) (hg : p.funs[g]? = some hf) (hx : evals p f (left - 1) (seenAt base q seen) env r base (q + 1) hf.arity [] = x) (hv : x.1.val = .error w) :
    eval p (f + 1) left seen env (.call g :: r) base q = ⟨x.1.left, x.1.seen, .error w, x.1.rest, x.1.at_⟩ := by
  rw [eval_cons h]; simp only [hg, hx]; simp only [hv]
theorem eval_call {g : Nat} {hf : Ty01.Fun} {x : Out × List Val} {v : Val} {y : Out} (h : left ≠ 0) (hg : p.funs[g]? = some hf) (hx : evals p f (left - 1) (seenAt base q seen) env r base (q + 1) hf.arity [] = x) (hv : x.1.val = .ok v)
    (hy : eval p f x.1.left x.1.seen x.2 hf.body (some (pbase p g)) 0 = y) :
    eval p (f + 1) left seen env (.call g :: r) base q = ⟨y.left, y.seen, y.val, x.1.rest, x.1.at_⟩ := by
  rw [eval_cons h]; simp only [hg, hx]; simp only [hv]
  unfold pbase at hy
  rw [hy]
end
end
end Pf
namespace Pf
open Ty01
section
variable {p : Program} {C : List Wd} {fst : List Nat}
theorem drop_cons {α : Type} {l r : List α} {q : Nat} {t : α} (e : l.drop q = t :: r) : l[q]? = some t ∧ r = l.drop (q + 1) ∧ q < l.length := by
  have h : q < l.length := by
    apply Nat.lt_of_not_le
    intro h
    rw [List.drop_eq_nil_of_le h] at e
    cases e
  refine ⟨?_, ?_, h⟩
  · have : (l.drop q)[0]? = some t := by rw [e]; rfl
    rw [List.getElem?_drop] at this
    simpa using this
  · rw [← List.drop_drop (i := 1) (j := q), e]; rfl
theorem apply1_ok {o : Nat} {v u : Val} (hv : ValOk v) (h : apply1 o v = .ok u) : ValOk u := by
  cases v with
  | n x => cases h
  | l xs =>
    cases xs with
    | nil =>
      simp only [apply1] at h
      split at h
      · cases h; show 1 ≤ 999; omega
      · cases h
    | cons x r =>
      simp only [apply1] at h
      cases h
      obtain ⟨h1, h2⟩ := hv
      split
      · exact h2 x (List.mem_cons_self ..)
      · split
        · exact ⟨by rw [List.length_cons] at h1; omega, fun y hy => h2 y (List.mem_cons_of_mem _ hy)⟩
        · show 0 ≤ 999; omega
theorem bit_ok (b : Bool) : ValOk (bit b) := by
  unfold bit
  cases b
  · show 0 ≤ 999; omega
  · show 1 ≤ 999; omega
theorem apply2_ok {o : Nat} {v w u : Val} (hv : ValOk v) (hw : ValOk w) (h : apply2 o v w = .ok u) : ValOk u := by
  cases v with
  | n x =>
    have hx : x ≤ 999 := hv
    cases w with
    | n y =>
      have hy : y ≤ 999 := hw
      simp only [apply2] at h
      repeat' split at h
      all_goals first | cases h
      all_goals first
        | exact bit_ok _
        | (show _ % 1000 ≤ 999; omega)
        | (show _ - _ ≤ 999; omega)
    | l y =>
      simp only [apply2] at h
      repeat' split at h
      all_goals first | cases h
      all_goals first
        | exact bit_ok _
        | skip
      rename_i hl
      obtain ⟨h1, h2⟩ := hw
      refine ⟨by rw [List.length_cons]; unfold LONG at hl; omega, fun z hz => ?_⟩
      rcases List.mem_cons.mp hz with rfl | hz
      · exact hx
      · exact h2 z hz
  | l x =>
    cases w with
    | n y =>
      simp only [apply2] at h
      repeat' split at h
      all_goals first | cases h
      all_goals exact bit_ok _
    | l y =>
      simp only [apply2] at h
      repeat' split at h
      all_goals first | cases h
      all_goals exact bit_ok _
theorem apply1_err {o : Nat} {v : Val} {w : Nat} (h : apply1 o v = .error w) : w ≠ 0 := by
  cases v with
  | n x => cases h; omega
  | l xs =>
    cases xs with
    | nil =>
      simp only [apply1] at h
      split at h
      · cases h
      · cases h; omega
    | cons x r => cases h
theorem apply2_err {o : Nat} {v u : Val} {w : Nat} (h : apply2 o v u = .error w) : w ≠ 0 := by
  cases v <;> cases u <;> simp only [apply2] at h <;> (repeat' split at h) <;> cases h <;> omega
theorem arity_op {a : List Nat} {o : Nat} (h : o < 12) : (isCh o = true → arityOf a (.op o) = 3) ∧ (isCh o = false → o = 6 → arityOf a (.op o) = 0) ∧ (isCh o = false → 8 ≤ o → arityOf a (.op o) = 1) ∧ (isCh o = false → o < 8 → o ≠ 6 → arityOf a (.op o) = 2) := by
  show (isCh o = true → opArity.getD o 0 = 3) ∧ (isCh o = false → o = 6 → opArity.getD o 0 = 0) ∧ (isCh o = false → 8 ≤ o → opArity.getD o 0 = 1) ∧ (isCh o = false → o < 8 → o ≠ 6 → opArity.getD o 0 = 2)
  revert h
  revert o
  decide
theorem sub1 {left : Nat} (h : left ≠ 0) (h1 : left ≤ 100) : 100 - (left - 1) = 100 - left + 1 := by omega
theorem mem_of_get {α : Type} {l : List α} {i : Nat} {x : α} (h : l[i]? = some x) : x ∈ l := List.mem_of_getElem? h
theorem ev_step {f : Nat} (F : FunsIn p C fst) (E : EvOk p C fst f) (E2 : EvsOk p C fst f) : EvOk p C fst (f + 1) := by
  intro left seen env ts0 q base s0 sn W hq hh hl hf sr
  cases ets : ts0.drop q with
  | nil => rw [ets] at hh; exact hh.elim
  | cons t r =>
  obtain ⟨hget, er, hlt⟩ := drop_cons ets
  rw [ets] at hh
  have hCw : C[s0 + q]? = some ⟨t, arityOf (arities p) t, partsOf (arities p) s0 ts0 q t⟩ := W.L q t hget
  by_cases h0 : left = 0
  · subst h0
    rw [eval_lim (by intro z; cases z)]
    refine ⟨(fun v h => by cases h), sn, sr, Nat.le_refl _, (fun v h => by cases h), fun w h => ?_⟩
    cases h
    exact ⟨by omega, fun T R => ⟨_, Go.step .lim ⟨0, .stopW (by show 3 ≠ 0; omega)⟩, rfl, rfl, rfl⟩⟩
  · have srs : SR p fst (seenAt base q seen) (addS sn (s0 + q)) := Whose.step F W.W hlt sr
    have hst : 100 - left < 100 := by omega
    have hh1 : has (arities p) (arityOf (arities p) t) r := by
      have : has (arities p) (0 + arityOf (arities p) t) r := hh
      rwa [Nat.zero_add] at this
    have sk1 : skip (arities p) 1 (t :: r) q = skip (arities p) (arityOf (arities p) t) r (q + 1) := by
      show skip (arities p) (0 + arityOf (arities p) t) r (q + 1) = _
      rw [Nat.zero_add]
    have tmem : t ∈ ts0 := mem_of_get hget
    cases t with
    | num n =>
      rw [eval_num h0]
      refine ⟨fun v h => by show left - 1 < left; omega, _, srs, (by show left - 1 ≤ left; omega), fun v h => ?_, (fun w h => by cases h)⟩
      refine ⟨fun u hu => ?_, rfl, ?_, fun T R e g => ?_⟩
      · have : u = .n n := List.mem_singleton.mp hu
        subst this
        have := W.tk.num n tmem
        show n ≤ 999
        omega
      · rw [sk1]; exact (skip_zero _ _ _).symm
      · refine Go.step (.num hst hCw rfl) ?_
        rw [← sub1 h0 hl]
        exact g
    | arg i =>
      rw [eval_arg h0]
      have hi := W.tk.arg i tmem
      have eg : env[i]? = some (env.getD i (.n 0)) := by
        rw [List.getD_eq_getElem?_getD, List.getElem?_eq_getElem hi]; rfl
      refine ⟨fun v h => by show left - 1 < left; omega, _, srs, (by show left - 1 ≤ left; omega), fun v h => ?_, (fun w h => by cases h)⟩
      refine ⟨fun u hu => ?_, rfl, ?_, fun T R e g => ?_⟩
      · have : u = env.getD i (.n 0) := List.mem_singleton.mp hu
        subst this
        exact W.ve _ (mem_of_get eg)
      · rw [sk1]; exact (skip_zero _ _ _).symm
      · refine Go.step (.arg hst hCw rfl eg) ?_
        rw [← sub1 h0 hl]
        exact g
    | call g =>
      have hg := W.tk.call g tmem
      obtain ⟨h, eh⟩ : ∃ h, p.funs[g]? = some h := ⟨p.funs[g], List.getElem?_eq_getElem hg⟩
      obtain ⟨z, ez⟩ : ∃ z, fst[g]? = some z := ⟨fst[g]'(by rw [F.len]; exact hg), List.getElem?_eq_getElem (by rw [F.len]; exact hg)⟩
      have ear : arityOf (arities p) (.call g) = h.arity := by
        show (p.funs.map fun f => f.arity).getD g 0 = h.arity
        rw [List.getD_eq_getElem?_getD, List.getElem?_map, eh]; rfl
      rw [ear] at hh1 sk1
      have E3 := E2 (left - 1) (seenAt base q seen) env ts0 (q + 1) base s0 (addS sn (s0 + q)) h.arity [] W hlt (by rw [← er]; exact hh1) (by omega) (by omega) srs
      rw [← er] at E3
      generalize hx : evals p f (left - 1) (seenAt base q seen) env r base (q + 1) h.arity [] = x at E3
      obtain ⟨vs, evs, sn1, sr1, le1, ok1, er1⟩ := E3
      have plan : ∀ (T : List Task) (R : List Val), Step C fst ⟨100 - left, 0, sn, T ++ [(false, s0 + q, env)], R⟩ ⟨100 - (left - 1), 0, addS sn (s0 + q), (T ++ [(true, s0 + q, env)]) ++ tasks (arities p) env s0 h.arity r (q + 1), R⟩ := fun T R => by
        have st := Step.planF (fst := fst) (sn := sn) (T := T) (R := R) (env := env) hst hCw rfl
        rw [sub1 h0 hl]
        have e : (partsOf (arities p) s0 ts0 q (.call g)).reverse.map (fun z => ((false, z, env) : Task)) = tasks (arities p) env s0 h.arity r (q + 1) := by
          unfold partsOf tasks
          rw [ear, ← List.map_reverse, List.map_map, ← er]
          rfl
        rw [← e]
        exact st
      cases hv : x.1.val with
      | error w =>
        rw [eval_calle h0 eh hx hv]
        obtain ⟨w0, er2⟩ := er1 w hv
        refine ⟨(fun v h => by cases h), sn1, sr1, by show x.1.left ≤ left; omega, (fun v h => by cases h), fun w' h => ?_⟩
        cases h
        refine ⟨w0, fun T R => ?_⟩
        obtain ⟨e, ge, a, b, c⟩ := er2 (T ++ [(true, s0 + q, env)]) R
        exact ⟨e, Go.step (plan T R) ge, a, b, c⟩
      | ok v =>
        obtain ⟨vo, lvs, skv, go1⟩ := ok1 v hv
        have ev2 : x.2 = vs := by have := evs v hv; simpa using this
        have tb := F.toks g h eh
        have Wb : Where p C fst vs h.body (some (pbase p g)) z := ⟨.inl ⟨g, h, eh, rfl, ez, rfl⟩, F.lies g h z eh ez, by rw [lvs]; exact tb, vo⟩
        have one := oneFrom_has (arities p) 1 h.body 0 (F.one g h eh)
        have E4 := E x.1.left x.1.seen vs h.body 0 (some (pbase p g)) z sn1 Wb (Nat.zero_le _) (by rw [List.drop_zero]; exact one.1) (by omega) (by omega) sr1
        rw [List.drop_zero] at E4
        rw [← ev2] at E4
        generalize hy : eval p f x.1.left x.1.seen x.2 h.body (some (pbase p g)) 0 = y at E4
        rw [eval_call h0 eh hx hv hy]
        obtain ⟨dec, sn2, sr2, le2, ok2, er2⟩ := E4
        have fin : ∀ (T : List Task) (R : List Val) (st : Nat) (k : List Nat), Step C fst ⟨st, 0, k, T ++ [(true, s0 + q, env)], R ++ vs⟩ ⟨st, 0, k, T ++ [(false, z, vs)], R⟩ := fun T R st k =>
          Step.fin hCw rfl ez (by rw [lvs]; exact ear.symm)
        refine ⟨fun u hu => ?_, sn2, sr2, by show y.left ≤ left; omega, fun u hu => ?_, fun w hw => ?_⟩
        · have := dec u hu
          show y.left < left
          omega
        · obtain ⟨vo2, l2, sk2, go2⟩ := ok2 u hu
          refine ⟨vo2, l2, ?_, fun T R e g1 => ?_⟩
          · rw [sk1]; exact skv
          · refine Go.step (plan T R) (go1 _ _ e (Go.step (fin T R _ _) ?_))
            have := go2 T R e g1
            rw [Nat.add_zero, ev2] at this
            exact this
        · obtain ⟨w0, er3⟩ := er2 w hw
          refine ⟨w0, fun T R => ?_⟩
          obtain ⟨e, ge, a, b, c⟩ := er3 T R
          rw [Nat.add_zero, ev2] at ge
          exact ⟨e, Go.step (plan T R) (go1 _ _ e (Go.step (fin T R _ _) ge)), a, b, c⟩
    | op o =>
      have ho := W.tk.op o tmem
      obtain ⟨a3, a0, a1, a2⟩ := arity_op (a := arities p) ho
      have sd := skip_drop (arities p) ts0 1 (q + 1) r er hlt
      by_cases hch : isCh o = true
      · -- a choice
        have ea := a3 hch
        rw [ea] at hh1 sk1
        rw [show 3 = 1 + 2 by rfl, has_add _ _ 1 2 (q + 1), show 2 = 1 + 1 by rfl] at hh1
        have hh2 := (has_add (arities p) (skip (arities p) 1 r (q + 1)).1 1 1 (skip (arities p) 1 r (q + 1)).2).mp hh1.2
        have E3 := E (left - 1) (seenAt base q seen) env ts0 (q + 1) base s0 (addS sn (s0 + q)) W hlt (by rw [← er]; exact hh1.1) (by omega) (by omega) srs
        rw [← er] at E3
        generalize hx : eval p f (left - 1) (seenAt base q seen) env r base (q + 1) = x at E3
        obtain ⟨dec1, sn1, sr1, le1, ok1, er1⟩ := E3
        have eparts : partsOf (arities p) s0 ts0 q (.op o) = [s0 + (q + 1), s0 + (skip (arities p) 1 r (q + 1)).2, s0 + (skip (arities p) 1 (skip (arities p) 1 r (q + 1)).1 (skip (arities p) 1 r (q + 1)).2).2] := by
          unfold partsOf
          rw [ea, ← er]
          rfl
        have plan : ∀ (T : List Task) (R : List Val), Step C fst ⟨100 - left, 0, sn, T ++ [(false, s0 + q, env)], R⟩ ⟨100 - (left - 1), 0, addS sn (s0 + q), (T ++ [(true, s0 + q, env)]) ++ [(false, s0 + (q + 1), env)], R⟩ := fun T R => by
          have st := Step.planC (fst := fst) (sn := sn) (T := T) (R := R) (env := env) hst hCw rfl hch
          rw [sub1 h0 hl]
          rw [eparts] at st
          exact st
        cases hv : x.val with
        | error w =>
          rw [eval_op1e h0 (by intro z; subst z; revert hch; decide) hx hv]
          obtain ⟨w0, er2⟩ := er1 w hv
          refine ⟨(fun v h => by cases h), sn1, sr1, by show x.left ≤ left; omega, (fun v h => by cases h), fun w' h => ?_⟩
          cases h
          refine ⟨w0, fun T R => ?_⟩
          obtain ⟨e, ge, a, b, c⟩ := er2 (T ++ [(true, s0 + q, env)]) R
          exact ⟨e, Go.step (plan T R) ge, a, b, c⟩
        | ok v =>
          rw [hv] at ok1
          obtain ⟨vo, _, skv, go1⟩ := ok1 v rfl
          have lt1 := dec1 v hv
          have e1 : x.rest = (skip (arities p) 1 r (q + 1)).1 := congrArg Prod.fst skv
          have e2 : x.at_ = (skip (arities p) 1 r (q + 1)).2 := congrArg Prod.snd skv
          have e3 : x.rest = ts0.drop x.at_ := by rw [e1, e2]; exact sd.1
          rw [eval_ch h0 hch hx hv]
          cases v with
          | l xs =>
            refine ⟨(fun v h => by cases h), sn1, sr1, by show x.left ≤ left; omega, (fun v h => by cases h), fun w' h => ?_⟩
            cases h
            refine ⟨by omega, fun T R => ?_⟩
            exact ⟨⟨100 - x.left, 1, sn1, T, R⟩, Go.step (plan T R) (go1 _ _ _ (Go.step (.chL hCw rfl hch) ⟨0, .stopW (by show 1 ≠ 0; omega)⟩)), rfl, rfl, rfl⟩
          | n c =>
            by_cases hc : (c = 0) ↔ (o = 11)
            · dsimp only
              rw [if_pos hc]
              have E4 := E x.left x.seen env ts0 x.at_ base s0 sn1 W (by rw [e2]; exact sd.2.2) (by rw [← e3, e1]; exact hh2.1) (by omega) (by omega) sr1
              rw [← e3] at E4
              generalize hy : eval p f x.left x.seen env x.rest base x.at_ = y at E4
              obtain ⟨dec2, sn2, sr2, le2, ok2, er2⟩ := E4
              have ch : ∀ (T : List Task) (R : List Val), Step C fst ⟨100 - x.left, 0, sn1, T ++ [(true, s0 + q, env)], R ++ [.n c]⟩ ⟨100 - x.left, 0, sn1, T ++ [(false, s0 + x.at_, env)], R⟩ := fun T R =>
                Step.chN hCw rfl hch (by rw [if_pos hc, eparts, e2]; rfl)
              refine ⟨fun u hu => ?_, sn2, sr2, by show y.left ≤ left; omega, fun u hu => ?_, fun w hw => ?_⟩
              · have := dec2 u hu
                show y.left < left
                omega
              · obtain ⟨vo2, l2, sk2, go2⟩ := ok2 u hu
                refine ⟨vo2, l2, ?_, fun T R e g1 => ?_⟩
                · have f1 : y.rest = (skip (arities p) 1 x.rest x.at_).1 := congrArg Prod.fst sk2
                  have f2 : y.at_ = (skip (arities p) 1 x.rest x.at_).2 := congrArg Prod.snd sk2
                  show ((skip (arities p) 1 y.rest y.at_).1, (skip (arities p) 1 y.rest y.at_).2) = _
                  rw [sk1, show 3 = 1 + (1 + 1) by rfl, skip_add, ← e1, ← e2, skip_add, ← f1, ← f2]
                · exact Go.step (plan T R) (go1 _ _ e (Go.step (ch T R) (go2 T R e g1)))
              · obtain ⟨w0, er3⟩ := er2 w hw
                refine ⟨w0, fun T R => ?_⟩
                obtain ⟨e, ge, a, b, c⟩ := er3 T R
                exact ⟨e, Go.step (plan T R) (go1 _ _ e (Go.step (ch T R) ge)), a, b, c⟩
            · dsimp only
              rw [if_neg hc]
              have sd2 := skip_drop (arities p) ts0 1 x.at_ x.rest e3 (by rw [e2]; exact sd.2.2)
              have E4 := E x.left x.seen env ts0 (skip (arities p) 1 x.rest x.at_).2 base s0 sn1 W sd2.2.2 (by rw [← sd2.1, e1, e2]; exact hh2.2) (by omega) (by omega) sr1
              rw [← sd2.1] at E4
              generalize hy : eval p f x.left x.seen env (skip (arities p) 1 x.rest x.at_).1 base (skip (arities p) 1 x.rest x.at_).2 = y at E4
              obtain ⟨dec2, sn2, sr2, le2, ok2, er2⟩ := E4
              have ch : ∀ (T : List Task) (R : List Val), Step C fst ⟨100 - x.left, 0, sn1, T ++ [(true, s0 + q, env)], R ++ [.n c]⟩ ⟨100 - x.left, 0, sn1, T ++ [(false, s0 + (skip (arities p) 1 x.rest x.at_).2, env)], R⟩ := fun T R =>
                Step.chN hCw rfl hch (by rw [if_neg hc, eparts, e1, e2]; rfl)
              refine ⟨fun u hu => ?_, sn2, sr2, by omega, fun u hu => ?_, fun w hw => ?_⟩
              · have := dec2 u hu
                omega
              · obtain ⟨vo2, l2, sk2, go2⟩ := ok2 u hu
                refine ⟨vo2, l2, ?_, fun T R e g1 => ?_⟩
                · rw [sk2, sk1, show 3 = 1 + (1 + 1) by rfl, skip_add, ← e1, ← e2, skip_add]
                · exact Go.step (plan T R) (go1 _ _ e (Go.step (ch T R) (go2 T R e g1)))
              · obtain ⟨w0, er3⟩ := er2 w hw
                refine ⟨w0, fun T R => ?_⟩
                obtain ⟨e, ge, a, b, c⟩ := er3 T R
                exact ⟨e, Go.step (plan T R) (go1 _ _ e (Go.step (ch T R) ge)), a, b, c⟩
      · have hch : isCh o = false := by simpa using hch
        have plan0 : ∀ (T : List Task) (R : List Val), Step C fst ⟨100 - left, 0, sn, T ++ [(false, s0 + q, env)], R⟩ ⟨100 - (left - 1), 0, addS sn (s0 + q), (T ++ [(true, s0 + q, env)]) ++ tasks (arities p) env s0 (arityOf (arities p) (.op o)) r (q + 1), R⟩ := fun T R => by
          have st := Step.planO (fst := fst) (sn := sn) (T := T) (R := R) (env := env) hst hCw rfl hch
          rw [sub1 h0 hl]
          have e : (partsOf (arities p) s0 ts0 q (.op o)).reverse.map (fun z => ((false, z, env) : Task)) = tasks (arities p) env s0 (arityOf (arities p) (.op o)) r (q + 1) := by
            unfold partsOf tasks
            rw [← List.map_reverse, List.map_map, ← er]
            rfl
          rw [← e]
          exact st
        by_cases h6 : o = 6
        · subst h6
          have ea := a0 hch rfl
          rw [eval_nil h0]
          rw [ea] at plan0 sk1
          refine ⟨fun v h => by show left - 1 < left; omega, _, srs, (by show left - 1 ≤ left; omega), fun v h => ?_, (fun w h => by cases h)⟩
          refine ⟨fun u hu => ?_, rfl, ?_, fun T R e g => ?_⟩
          · have : u = .l [] := List.mem_singleton.mp hu
            subst this
            exact ⟨by decide, fun x hx => by cases hx⟩
          · rw [sk1]; exact (skip_zero _ _ _).symm
          · refine Go.step (plan0 T R) ?_
            show Go C fst ⟨_, _, _, (T ++ [(true, s0 + q, env)]) ++ [], R⟩ e
            rw [List.append_nil]
            have st : Step C fst ⟨100 - (left - 1), 0, addS sn (s0 + q), T ++ [(true, s0 + q, env)], R ++ []⟩ ⟨100 - (left - 1), 0, addS sn (s0 + q), T, R ++ [.l []]⟩ := Step.opV hCw rfl hch ea.symm (fun u hu => by cases hu) rfl
            rw [List.append_nil] at st
            exact Go.step st g
        · by_cases h8 : 8 ≤ o
          · have ea := a1 hch h8
            rw [ea] at hh1 sk1 plan0
            have E3 := E (left - 1) (seenAt base q seen) env ts0 (q + 1) base s0 (addS sn (s0 + q)) W hlt (by rw [← er]; exact hh1) (by omega) (by omega) srs
            rw [← er] at E3
            generalize hx : eval p f (left - 1) (seenAt base q seen) env r base (q + 1) = x at E3
            obtain ⟨dec1, sn1, sr1, le1, ok1, er1⟩ := E3
            cases hv : x.val with
            | error w =>
              rw [eval_op1e h0 h6 hx hv]
              obtain ⟨w0, er2⟩ := er1 w hv
              refine ⟨(fun v h => by cases h), sn1, sr1, by show x.left ≤ left; omega, (fun v h => by cases h), fun w' h => ?_⟩
              cases h
              refine ⟨w0, fun T R => ?_⟩
              obtain ⟨e, ge, a, b, c⟩ := er2 (T ++ [(true, s0 + q, env)]) R
              exact ⟨e, Go.step (plan0 T R) ge, a, b, c⟩
            | ok v =>
              rw [hv] at ok1
              obtain ⟨vo, _, skv, go1⟩ := ok1 v rfl
              have lt1 := dec1 v hv
              rw [eval_op1 h0 h8 hch hx hv]
              refine ⟨fun u hu => by show x.left < left; omega, sn1, sr1, by show x.left ≤ left; omega, fun u hu => ?_, fun w hw => ?_⟩
              · have hu : apply1 o v = .ok u := hu
                show (∀ z ∈ valL (apply1 o v), ValOk z) ∧ (valL (apply1 o v)).length = 1 ∧ (x.rest, x.at_) = _ ∧ ∀ T R e, Go C fst ⟨100 - x.left, 0, sn1, T, R ++ valL (apply1 o v)⟩ e → _
                rw [hu]
                refine ⟨fun z hz => ?_, rfl, by rw [sk1]; exact skv, fun T R e g1 => ?_⟩
                · rw [List.mem_singleton.mp hz]
                  exact apply1_ok (vo v (List.mem_singleton.mpr rfl)) hu
                · exact Go.step (plan0 T R) (go1 _ _ e (Go.step (.opV hCw rfl hch ea.symm vo hu) g1))
              · have hw : apply1 o v = .error w := hw
                refine ⟨apply1_err hw, fun T R => ?_⟩
                exact ⟨⟨100 - x.left, w, sn1, T, R ++ [.n 0]⟩, Go.step (plan0 T R) (go1 _ _ _ (Go.step (.opE hCw rfl hch ea.symm vo hw) ⟨0, .stopW (apply1_err hw)⟩)), rfl, rfl, rfl⟩
          · have ea := a2 hch (by omega) h6
            rw [ea] at hh1 sk1 plan0
            rw [show 2 = 1 + 1 by rfl, has_add _ _ 1 1 (q + 1)] at hh1
            have E3 := E (left - 1) (seenAt base q seen) env ts0 (q + 1) base s0 (addS sn (s0 + q)) W hlt (by rw [← er]; exact hh1.1) (by omega) (by omega) srs
            rw [← er] at E3
            generalize hx : eval p f (left - 1) (seenAt base q seen) env r base (q + 1) = x at E3
            obtain ⟨dec1, sn1, sr1, le1, ok1, er1⟩ := E3
            have et : tasks (arities p) env s0 2 r (q + 1) = [(false, s0 + (skip (arities p) 1 r (q + 1)).2, env), (false, s0 + (q + 1), env)] := rfl
            have plan : ∀ (T : List Task) (R : List Val), Step C fst ⟨100 - left, 0, sn, T ++ [(false, s0 + q, env)], R⟩ ⟨100 - (left - 1), 0, addS sn (s0 + q), ((T ++ [(true, s0 + q, env)]) ++ [(false, s0 + (skip (arities p) 1 r (q + 1)).2, env)]) ++ [(false, s0 + (q + 1), env)], R⟩ := fun T R => by
              have := plan0 T R
              rw [et] at this
              rw [List.append_assoc (T ++ [(true, s0 + q, env)])]
              exact this
            cases hv : x.val with
            | error w =>
              rw [eval_op1e h0 h6 hx hv]
              obtain ⟨w0, er2⟩ := er1 w hv
              refine ⟨(fun v h => by cases h), sn1, sr1, by show x.left ≤ left; omega, (fun v h => by cases h), fun w' h => ?_⟩
              cases h
              refine ⟨w0, fun T R => ?_⟩
              obtain ⟨e, ge, a, b, c⟩ := er2 ((T ++ [(true, s0 + q, env)]) ++ [(false, s0 + (skip (arities p) 1 r (q + 1)).2, env)]) R
              exact ⟨e, Go.step (plan T R) ge, a, b, c⟩
            | ok v =>
              rw [hv] at ok1
              obtain ⟨vo, _, skv, go1⟩ := ok1 v rfl
              have lt1 := dec1 v hv
              have e1 : x.rest = (skip (arities p) 1 r (q + 1)).1 := congrArg Prod.fst skv
              have e2 : x.at_ = (skip (arities p) 1 r (q + 1)).2 := congrArg Prod.snd skv
              have e3 : x.rest = ts0.drop x.at_ := by rw [e1, e2]; exact sd.1
              have E4 := E x.left x.seen env ts0 x.at_ base s0 sn1 W (by rw [e2]; exact sd.2.2) (by rw [← e3, e1]; exact hh1.2) (by omega) (by omega) sr1
              rw [← e3] at E4
              generalize hy : eval p f x.left x.seen env x.rest base x.at_ = y at E4
              obtain ⟨dec2, sn2, sr2, le2, ok2, er2⟩ := E4
              rw [← e2] at plan
              cases hw : y.val with
              | error w =>
                rw [eval_op2e h0 (by omega) h6 hch hx hv hy hw]
                obtain ⟨w0, er3⟩ := er2 w hw
                refine ⟨(fun v h => by cases h), sn2, sr2, by show y.left ≤ left; omega, (fun v h => by cases h), fun w' h => ?_⟩
                cases h
                refine ⟨w0, fun T R => ?_⟩
                obtain ⟨e, ge, a, b, c⟩ := er3 (T ++ [(true, s0 + q, env)]) (R ++ [v])
                exact ⟨e, Go.step (plan T R) (go1 _ _ e ge), a, b, c⟩
              | ok u =>
                rw [hw] at ok2
                obtain ⟨vo2, _, sk2, go2⟩ := ok2 u rfl
                have lt2 := dec2 u hw
                rw [eval_op2 h0 (by omega) h6 hch hx hv hy hw]
                have vo3 : ∀ z ∈ [v, u], ValOk z := fun z hz => by
                  rcases List.mem_cons.mp hz with rfl | hz
                  · exact vo _ (List.mem_singleton.mpr rfl)
                  · exact vo2 z hz
                refine ⟨fun u hu => by show y.left < left; omega, sn2, sr2, by show y.left ≤ left; omega, fun a ha => ?_, fun w hw => ?_⟩
                · have ha : apply2 o v u = .ok a := ha
                  show (∀ z ∈ valL (apply2 o v u), ValOk z) ∧ (valL (apply2 o v u)).length = 1 ∧ (y.rest, y.at_) = _ ∧ ∀ T R e, Go C fst ⟨100 - y.left, 0, sn2, T, R ++ valL (apply2 o v u)⟩ e → _
                  rw [ha]
                  refine ⟨fun z hz => ?_, rfl, by rw [sk1, show 2 = 1 + 1 by rfl, skip_add, ← e1, ← e2]; exact sk2, fun T R e g1 => ?_⟩
                  · rw [List.mem_singleton.mp hz]
                    exact apply2_ok (vo3 v (by simp)) (vo3 u (by simp)) ha
                  · have st : Step C fst ⟨100 - y.left, 0, sn2, T ++ [(true, s0 + q, env)], R ++ [v, u]⟩ ⟨100 - y.left, 0, sn2, T, R ++ [a]⟩ := .opV hCw rfl hch ea.symm vo3 ha
                    rw [show R ++ [v, u] = (R ++ [v]) ++ [u] by simp] at st
                    exact Go.step (plan T R) (go1 _ _ e (go2 _ _ e (Go.step st g1)))
                · have hw : apply2 o v u = .error w := hw
                  refine ⟨apply2_err hw, fun T R => ?_⟩
                  have st : Step C fst ⟨100 - y.left, 0, sn2, T ++ [(true, s0 + q, env)], R ++ [v, u]⟩ ⟨100 - y.left, w, sn2, T, R ++ [.n 0]⟩ := .opE hCw rfl hch ea.symm vo3 hw
                  rw [show R ++ [v, u] = (R ++ [v]) ++ [u] by simp] at st
                  exact ⟨⟨100 - y.left, w, sn2, T, R ++ [.n 0]⟩, Go.step (plan T R) (go1 _ _ _ (go2 _ _ _ (Go.step st ⟨0, .stopW (apply2_err hw)⟩))), rfl, rfl, rfl⟩
theorem ev_all (F : FunsIn p C fst) : ∀ f, EvOk p C fst f ∧ EvsOk p C fst f
  | 0 => ⟨(fun left seen env ts0 q base s0 sn W hq hh hl hf sr => by omega), (fun left seen env ts0 q base s0 sn k l W hq hh hl hf sr => by omega)⟩
  | f + 1 => ⟨ev_step F (ev_all F f).1 (ev_all F f).2, evs_step (ev_all F f).1 (ev_all F f).2⟩
end
end Pf
namespace Pf
open Ty01
section
variable {C : List Wd} {fst : List Nat}
theorem snoc_inj {α : Type} {a b : List α} {x y : α} (h : a ++ [x] = b ++ [y]) : a = b ∧ x = y := by
  obtain ⟨h1, h2⟩ := List.append_inj' h rfl
  exact ⟨h1, by injection h2⟩
theorem come_inv {st : Nat} {sn : List Nat} {T : List Task} {R : List Val} {q : Nat} {env : List Val} {s' : MS} (h : Step C fst ⟨st, 0, sn, T ++ [(false, q, env)], R⟩ s') :
    (st = 100 ∧ s' = ⟨100, 3, sn, T, R⟩) ∨ (st < 100 ∧ ∃ w, C[q]? = some w ∧
      ((∃ n, w.tok = .num n ∧ s' = ⟨st + 1, 0, addS sn q, T, R ++ [.n n]⟩) ∨
       (∃ i v, w.tok = .arg i ∧ env[i]? = some v ∧ s' = ⟨st + 1, 0, addS sn q, T, R ++ [v]⟩) ∨
       (∃ o, w.tok = .op o ∧ isCh o = true ∧ s' = ⟨st + 1, 0, addS sn q, (T ++ [(true, q, env)]) ++ ((w.parts.take 1).reverse.map fun p => (false, p, env)), R⟩) ∨
       (((∃ o, w.tok = .op o ∧ isCh o = false) ∨ ∃ g, w.tok = .call g) ∧ s' = ⟨st + 1, 0, addS sn q, (T ++ [(true, q, env)]) ++ (w.parts.reverse.map fun p => (false, p, env)), R⟩))) := by
  generalize e : (⟨st, 0, sn, T ++ [(false, q, env)], R⟩ : MS) = s at h
  cases h with
  | lim =>
    injection e with e1 e2 e3 e4 e5
    obtain ⟨e6, e7⟩ := snoc_inj e4
    cases e7; subst e1 e3 e5 e6
    exact .inl ⟨rfl, rfl⟩
  | num h1 h2 h3 =>
    injection e with e1 e2 e3 e4 e5
    obtain ⟨e6, e7⟩ := snoc_inj e4
    cases e7; subst e1 e3 e5 e6
    exact .inr ⟨h1, _, h2, .inl ⟨_, h3, rfl⟩⟩
  | arg h1 h2 h3 h4 =>
    injection e with e1 e2 e3 e4 e5
    obtain ⟨e6, e7⟩ := snoc_inj e4
    cases e7; subst e1 e3 e5 e6
    exact .inr ⟨h1, _, h2, .inr (.inl ⟨_, _, h3, h4, rfl⟩)⟩
  | planC h1 h2 h3 h4 =>
    injection e with e1 e2 e3 e4 e5
    obtain ⟨e6, e7⟩ := snoc_inj e4
    cases e7; subst e1 e3 e5 e6
    exact .inr ⟨h1, _, h2, .inr (.inr (.inl ⟨_, h3, h4, rfl⟩))⟩
  | planO h1 h2 h3 h4 =>
    injection e with e1 e2 e3 e4 e5
    obtain ⟨e6, e7⟩ := snoc_inj e4
    cases e7; subst e1 e3 e5 e6
    exact .inr ⟨h1, _, h2, .inr (.inr (.inr ⟨.inl ⟨_, h3, h4⟩, rfl⟩))⟩
  | planF h1 h2 h3 =>
    injection e with e1 e2 e3 e4 e5
    obtain ⟨e6, e7⟩ := snoc_inj e4
    cases e7; subst e1 e3 e5 e6
    exact .inr ⟨h1, _, h2, .inr (.inr (.inr ⟨.inr ⟨_, h3⟩, rfl⟩))⟩
  | chL h1 h2 h3 => injection e with e1 e2 e3 e4 e5; obtain ⟨e6, e7⟩ := snoc_inj e4; cases e7
  | chN h1 h2 h3 h4 => injection e with e1 e2 e3 e4 e5; obtain ⟨e6, e7⟩ := snoc_inj e4; cases e7
  | fin h1 h2 h3 h4 => injection e with e1 e2 e3 e4 e5; obtain ⟨e6, e7⟩ := snoc_inj e4; cases e7
  | opV h1 h2 h3 h4 h5 h6 => injection e with e1 e2 e3 e4 e5; obtain ⟨e6, e7⟩ := snoc_inj e4; cases e7
  | opE h1 h2 h3 h4 h5 h6 => injection e with e1 e2 e3 e4 e5; obtain ⟨e6, e7⟩ := snoc_inj e4; cases e7
theorem fin_inv {st : Nat} {sn : List Nat} {T : List Task} {R0 : List Val} {q : Nat} {env : List Val} {s' : MS} (h : Step C fst ⟨st, 0, sn, T ++ [(true, q, env)], R0⟩ s') :
    ∃ w, C[q]? = some w ∧
      ((∃ o R xs, w.tok = .op o ∧ isCh o = true ∧ R0 = R ++ [.l xs] ∧ s' = ⟨st, 1, sn, T, R⟩) ∨
       (∃ o R c z, w.tok = .op o ∧ isCh o = true ∧ R0 = R ++ [.n c] ∧ w.parts[if ((c = 0) ↔ (o = 11)) then 1 else 2]? = some z ∧ s' = ⟨st, 0, sn, T ++ [(false, z, env)], R⟩) ∨
       (∃ g R args z, w.tok = .call g ∧ fst[g]? = some z ∧ args.length = w.many ∧ R0 = R ++ args ∧ s' = ⟨st, 0, sn, T ++ [(false, z, args)], R⟩) ∨
       (∃ o R args, w.tok = .op o ∧ isCh o = false ∧ args.length = w.many ∧ (∀ v ∈ args, ValOk v) ∧ R0 = R ++ args ∧
         ((∃ v, opApply o args = .ok v ∧ s' = ⟨st, 0, sn, T, R ++ [v]⟩) ∨ ∃ e, opApply o args = .error e ∧ s' = ⟨st, e, sn, T, R ++ [.n 0]⟩))) := by
  generalize e : (⟨st, 0, sn, T ++ [(true, q, env)], R0⟩ : MS) = s at h
  cases h with
  | lim => injection e with e1 e2 e3 e4 e5; obtain ⟨e6, e7⟩ := snoc_inj e4; cases e7
  | num h1 h2 h3 => injection e with e1 e2 e3 e4 e5; obtain ⟨e6, e7⟩ := snoc_inj e4; cases e7
  | arg h1 h2 h3 h4 => injection e with e1 e2 e3 e4 e5; obtain ⟨e6, e7⟩ := snoc_inj e4; cases e7
  | planC h1 h2 h3 h4 => injection e with e1 e2 e3 e4 e5; obtain ⟨e6, e7⟩ := snoc_inj e4; cases e7
  | planO h1 h2 h3 h4 => injection e with e1 e2 e3 e4 e5; obtain ⟨e6, e7⟩ := snoc_inj e4; cases e7
  | planF h1 h2 h3 => injection e with e1 e2 e3 e4 e5; obtain ⟨e6, e7⟩ := snoc_inj e4; cases e7
  | chL h1 h2 h3 =>
    injection e with e1 e2 e3 e4 e5
    obtain ⟨e6, e7⟩ := snoc_inj e4
    cases e7; subst e1 e3 e6
    exact ⟨_, h1, .inl ⟨_, _, _, h2, h3, e5, rfl⟩⟩
  | chN h1 h2 h3 h4 =>
    injection e with e1 e2 e3 e4 e5
    obtain ⟨e6, e7⟩ := snoc_inj e4
    cases e7; subst e1 e3 e6
    exact ⟨_, h1, .inr (.inl ⟨_, _, _, _, h2, h3, e5, h4, rfl⟩)⟩
  | fin h1 h2 h3 h4 =>
    injection e with e1 e2 e3 e4 e5
    obtain ⟨e6, e7⟩ := snoc_inj e4
    cases e7; subst e1 e3 e6
    exact ⟨_, h1, .inr (.inr (.inl ⟨_, _, _, _, h2, h3, h4, e5, rfl⟩))⟩
  | opV h1 h2 h3 h4 h5 h6 =>
    injection e with e1 e2 e3 e4 e5
    obtain ⟨e6, e7⟩ := snoc_inj e4
    cases e7; subst e1 e3 e6
    exact ⟨_, h1, .inr (.inr (.inr ⟨_, _, _, h2, h3, h4, h5, e5, .inl ⟨_, h6, rfl⟩⟩))⟩
  | opE h1 h2 h3 h4 h5 h6 =>
    injection e with e1 e2 e3 e4 e5
    obtain ⟨e6, e7⟩ := snoc_inj e4
    cases e7; subst e1 e3 e6
    exact ⟨_, h1, .inr (.inr (.inr ⟨_, _, _, h2, h3, h4, h5, e5, .inr ⟨_, h6, rfl⟩⟩))⟩
/-- a step is done where nothing is why and something is to be done -/
theorem step_at {s s' : MS} (h : Step C fst s s') : s.why = 0 ∧ ∃ T b q env, s.todo = T ++ [(b, q, env)] := by
  cases h <;> exact ⟨rfl, _, _, _, _, rfl⟩
/-- how much there is -/
structure Bd (m : MS) : Prop where
  st : m.steps ≤ 100
  sn : m.seen.length ≤ m.steps
  rs : m.res.length + m.todo.countP (fun t => t.1) ≤ m.steps
  td : m.todo.length ≤ 3 * m.steps + 1
theorem addS_len (l : List Nat) (x : Nat) : (addS l x).length ≤ l.length + 1 := by
  unfold addS
  split
  · omega
  · simp
theorem cF (l : List Nat) (env : List Val) : (l.map fun p => ((false, p, env) : Task)).countP (fun t => t.1) = 0 := by
  induction l with
  | nil => rfl
  | cons x l ih => rw [List.map_cons, List.countP_cons, ih]; rfl
theorem step_bd {s s' : MS} (hC : ∀ w ∈ C, w.parts.length ≤ 3) (h : Step C fst s s') (b : Bd s) : Bd s' := by
  obtain ⟨b1, b2, b3, b4⟩ := b
  have c1 : ∀ (T : List Task) (q : Nat) (env : List Val), (T ++ [(false, q, env)]).countP (fun t => t.1) = T.countP (fun t => t.1) := fun T q env => by
    rw [List.countP_append]; rfl
  have c2 : ∀ (T : List Task) (q : Nat) (env : List Val), (T ++ [(true, q, env)]).countP (fun t => t.1) = T.countP (fun t => t.1) + 1 := fun T q env => by
    rw [List.countP_append]; rfl
  cases h with
  | lim =>
    simp only [c1, List.length_append, List.length_singleton] at b1 b2 b3 b4
    exact ⟨b1, b2, b3, by show _ ≤ _; simp only; omega⟩
  | @num st sn T R q env w n h1 h2 h3 =>
    simp only [c1, List.length_append, List.length_singleton] at b1 b2 b3 b4
    have := addS_len sn q
    exact ⟨by simp only; omega, by simp only; omega, by simp only [List.length_append, List.length_singleton]; omega, by simp only; omega⟩
  | @arg st sn T R q env w n v h1 h2 h3 h4 =>
    simp only [c1, List.length_append, List.length_singleton] at b1 b2 b3 b4
    have := addS_len sn q
    exact ⟨by simp only; omega, by simp only; omega, by simp only [List.length_append, List.length_singleton]; omega, by simp only; omega⟩
  | @planC st sn T R q env w o h1 h2 h3 h4 =>
    simp only [c1, List.length_append, List.length_singleton] at b1 b2 b3 b4
    have := addS_len sn q
    have hw := hC w (List.mem_of_getElem? h2)
    refine ⟨by simp only; omega, by simp only; omega, ?_, ?_⟩
    · simp only [List.countP_append (l₁ := T ++ [(true, q, env)]), c2, cF]; omega
    · simp only [List.length_append, List.length_singleton, List.length_map, List.length_reverse, List.length_take]; omega
  | @planO st sn T R q env w o h1 h2 h3 h4 =>
    simp only [c1, List.length_append, List.length_singleton] at b1 b2 b3 b4
    have := addS_len sn q
    have hw := hC w (List.mem_of_getElem? h2)
    refine ⟨by simp only; omega, by simp only; omega, ?_, ?_⟩
    · simp only [List.countP_append (l₁ := T ++ [(true, q, env)]), c2, cF]; omega
    · simp only [List.length_append, List.length_singleton, List.length_map, List.length_reverse]; omega
  | @planF st sn T R q env w o h1 h2 h3 =>
    simp only [c1, List.length_append, List.length_singleton] at b1 b2 b3 b4
    have := addS_len sn q
    have hw := hC w (List.mem_of_getElem? h2)
    refine ⟨by simp only; omega, by simp only; omega, ?_, ?_⟩
    · simp only [List.countP_append (l₁ := T ++ [(true, q, env)]), c2, cF]; omega
    · simp only [List.length_append, List.length_singleton, List.length_map, List.length_reverse]; omega
  | chL h1 h2 h3 =>
    simp only [c2, List.length_append, List.length_singleton] at b1 b2 b3 b4
    exact ⟨b1, b2, by simp only; omega, by simp only; omega⟩
  | chN h1 h2 h3 h4 =>
    simp only [c2, List.length_append, List.length_singleton] at b1 b2 b3 b4
    exact ⟨b1, b2, by simp only [c1]; omega, by simp only [List.length_append, List.length_singleton]; omega⟩
  | fin h1 h2 h3 h4 =>
    simp only [c2, List.length_append, List.length_singleton] at b1 b2 b3 b4
    exact ⟨b1, b2, by simp only [c1]; omega, by simp only [List.length_append, List.length_singleton]; omega⟩
  | opV h1 h2 h3 h4 h5 h6 =>
    simp only [c2, List.length_append, List.length_singleton] at b1 b2 b3 b4
    exact ⟨b1, b2, by simp only [List.length_append, List.length_singleton]; omega, by simp only; omega⟩
  | opE h1 h2 h3 h4 h5 h6 =>
    simp only [c2, List.length_append, List.length_singleton] at b1 b2 b3 b4
    exact ⟨b1, b2, by simp only [List.length_append, List.length_singleton]; omega, by simp only; omega⟩
end
structure CodeOk (C : List Wd) : Prop where
  parts : ∀ w ∈ C, w.parts.length ≤ 3
  op : ∀ w ∈ C, ∀ o, w.tok = .op o → o < 12 ∧ w.many = Ty01.opArity.getD o 0
end Pf
namespace Pf
open Ty01
structure TestIn (p : Program) (C : List Wd) (fst : List Nat) (t : Test) (s : Nat) : Prop where
  F : FunsIn p C fst
  ok : CodeOk C
  lies : Lies C (arities p) s t.body
  one : oneFrom (arities p) 1 t.body = true
  toks : Toks t.shapes.length p.funs.length t.body
  far : ∀ q, q < t.body.length → ∀ (g : Nat) (h : Ty01.Fun) (s' j : Nat), p.funs[g]? = some h → fst[g]? = some s' → j < h.body.length → s + q ≠ s' + j
  len : t.shapes.length = 1 ∨ t.shapes.length = 2
  sh : ∀ x ∈ t.shapes, x < 3
theorem runs_bd {C : List Wd} {fst : List Nat} (hC : ∀ w ∈ C, w.parts.length ≤ 3) {s e : MS} {n : Nat} (h : Runs C fst s n e) : Bd s → Bd e := by
  induction h with
  | stopT _ _ => exact id
  | stopW _ => exact id
  | step h1 _ ih => exact fun b => ih (step_bd hC h1 b)
structure Ran (p : Program) (C : List Wd) (fst : List Nat) (t : Test) (s : Nat) (env : List Val) (n : Nat) (e : MS) : Prop where
  runs : Runs C fst ⟨0, 0, [], [(false, s, env)], []⟩ n e
  ok : ∀ v, (runOne p t.body env).val = .ok v → e.why = 0 ∧ e.res = [v] ∧ ValOk v
  er : ∀ w, (runOne p t.body env).val = .error w → e.why = w ∧ w ≠ 0
  st : e.steps = 100 - (runOne p t.body env).left
  sr : SR p fst (runOne p t.body env).seen e.seen
  bd : e.seen.length ≤ 100
theorem run_one {p : Program} {C : List Wd} {fst : List Nat} {t : Test} {s : Nat} (I : TestIn p C fst t s) {env : List Val} (hl : env.length = t.shapes.length) (hv : ∀ v ∈ env, ValOk v) : ∃ n e, Ran p C fst t s env n e := by
  have h := (ev_all I.F 202).1 100 [] env t.body 0 none s [] ⟨.inr ⟨rfl, I.far⟩, I.lies, by rw [hl]; exact I.toks, hv⟩ (Nat.zero_le _) (by rw [List.drop_zero]; exact (oneFrom_has _ 1 t.body 0 I.one).1) (Nat.le_refl _) (Nat.le_refl _) (fun g h s j _ _ _ => by simp)
  rw [List.drop_zero] at h
  have er : eval p 202 100 [] env t.body none 0 = runOne p t.body env := rfl
  rw [er] at h
  obtain ⟨_, sn, sr, le, ok, er⟩ := h
  have fin : ∀ (n : Nat) (e : MS), Runs C fst ⟨0, 0, [], [(false, s, env)], []⟩ n e → e.seen.length ≤ 100 := fun n e r => by
    have b := runs_bd I.ok.parts r ⟨Nat.zero_le _, Nat.le_refl _, Nat.le_refl _, Nat.le_refl _⟩
    have := b.st
    have := b.sn
    omega
  cases hval : (runOne p t.body env).val with
  | ok v =>
    rw [hval] at ok
    obtain ⟨vo, _, _, go⟩ := ok v rfl
    obtain ⟨n, r⟩ := go [] [] ⟨100 - (runOne p t.body env).left, 0, sn, [], [v]⟩ ⟨0, .stopT rfl rfl⟩
    refine ⟨n, _, r, fun u hu => ?_, (fun w hw => by rw [hval] at hw; cases hw), rfl, sr, fin n _ r⟩
    rw [hval] at hu
    cases hu
    exact ⟨rfl, rfl, vo v (List.mem_singleton.mpr rfl)⟩
  | error w =>
    obtain ⟨w0, go⟩ := er w hval
    obtain ⟨e, ⟨n, r⟩, e1, e2, e3⟩ := go [] []
    refine ⟨n, e, r, (fun u hu => by rw [hval] at hu; cases hu), fun u hu => ?_, e2, by rw [e3]; exact sr, fin n e r⟩
    rw [hval] at hu
    cases hu
    exact ⟨e1, w0⟩
def valOkB : Val → Bool
  | .n x => decide (x ≤ 999)
  | .l xs => decide (xs.length ≤ 10) && xs.all fun x => decide (x ≤ 999)
theorem valOk_of {v : Val} (h : valOkB v = true) : ValOk v := by
  cases v with
  | n x => exact of_decide_eq_true (p := x ≤ 999) h
  | l xs =>
    have h : (decide (xs.length ≤ 10) && xs.all fun x => decide (x ≤ 999)) = true := h
    rw [Bool.and_eq_true] at h
    exact ⟨of_decide_eq_true h.1, fun x hx => of_decide_eq_true (List.all_eq_true.mp h.2 x hx)⟩
theorem in1 : ∀ a, a < 3 → ((inputs [a]).all fun env => env.length == 1 && env.all valOkB) = true := by decide +kernel
theorem in2 : ∀ a, a < 3 → ∀ b, b < 3 → ((inputs [a, b]).all fun env => env.length == 2 && env.all valOkB) = true := by decide +kernel
theorem in1l : ∀ a, a < 3 → (inputs [a]).length ≤ 200 := by decide +kernel
theorem in2l : ∀ a, a < 3 → ∀ b, b < 3 → (inputs [a, b]).length ≤ 200 := by decide +kernel
theorem inputs_ok {l : List Nat} (hl : l.length = 1 ∨ l.length = 2) (hm : ∀ x ∈ l, x < 3) : (∀ env ∈ inputs l, env.length = l.length ∧ ∀ v ∈ env, ValOk v) ∧ (inputs l).length ≤ 200 := by
  match l, hl with
  | [a], _ =>
    have ha := hm a (by simp)
    refine ⟨fun env he => ?_, in1l a ha⟩
    have := List.all_eq_true.mp (in1 a ha) env he
    rw [Bool.and_eq_true, beq_iff_eq] at this
    exact ⟨this.1, fun v hv => valOk_of (List.all_eq_true.mp this.2 v hv)⟩
  | [a, b], _ =>
    have ha := hm a (by simp)
    have hb := hm b (by simp)
    refine ⟨fun env he => ?_, in2l a ha b hb⟩
    have := List.all_eq_true.mp (in2 a ha b hb) env he
    rw [Bool.and_eq_true, beq_iff_eq] at this
    exact ⟨this.1, fun v hv => valOk_of (List.all_eq_true.mp this.2 v hv)⟩
  | [], h => simp at h
  | _ :: _ :: _ :: _, h => simp at h
theorem TestIn.run {p : Program} {C : List Wd} {fst : List Nat} {t : Test} {s : Nat} (I : TestIn p C fst t s) {env : List Val} (h : env ∈ inputs t.shapes) : ∃ n e, Ran p C fst t s env n e :=
  run_one I ((inputs_ok I.len I.sh).1 env h).1 ((inputs_ok I.len I.sh).1 env h).2
theorem firstFrom_cons (p : Program) (b : List Tok) (i : Nat) (e : List Val) (l : List (List Val)) : firstFrom p b i (e :: l) = match bad (runOne p b e) with
    | some w => some (i, e, w)
    | none => firstFrom p b (i + 1) l := rfl
end Pf
namespace Pf
open Ty01
/-- where the expressions begin, from the end on (the nearest first); none: a word lacks parts -/
def stk : List Nat → Nat → Option (List Nat)
  | [], _ => some []
  | m :: l, p => match stk l (p + 1) with
    | none => none
    | some W => if W.length < m then none else some (p :: W.drop m)
theorem stk_cons (m : Nat) (l : List Nat) (p : Nat) : stk (m :: l) p = match stk l (p + 1) with
    | none => none
    | some W => if W.length < m then none else some (p :: W.drop m) := rfl
theorem stk_none : ∀ (l : List Nat) (p j : Nat), stk (l.drop j) (p + j) = none → stk l p = none
  | l, p, 0, h => by simpa using h
  | [], p, j + 1, h => by simp [stk] at h
  | m :: l, p, j + 1, h => by
    have := stk_none l (p + 1) j (by rw [show p + 1 + j = p + (j + 1) by omega]; simpa using h)
    rw [stk_cons, this]
theorem oneFrom_stk (a : List Nat) : ∀ (ts : List Tok) (n p : Nat), oneFrom a n ts = true ↔ ∃ W, stk (ts.map (arityOf a)) p = some W ∧ W.length = n
  | [], n, p => by
    cases n with
    | zero => simp [oneFrom, stk]
    | succ n => simp [oneFrom, stk]
  | t :: l, n, p => by
    rw [List.map_cons, stk_cons]
    cases n with
    | zero =>
      constructor
      · intro h; simp [oneFrom] at h
      · rintro ⟨W, h, hl⟩
        cases hs : stk (l.map (arityOf a)) (p + 1) with
        | none => rw [hs] at h; cases h
        | some W0 =>
          rw [hs] at h
          simp only at h
          split at h
          · cases h
          · cases h; simp at hl
    | succ n =>
      have e : oneFrom a (n + 1) (t :: l) = oneFrom a (n + arityOf a t) l := rfl
      rw [e, oneFrom_stk a l _ (p + 1)]
      constructor
      · rintro ⟨W0, h, hl⟩
        rw [h]
        simp only
        rw [if_neg (by omega)]
        exact ⟨_, rfl, by rw [List.length_cons, List.length_drop]; omega⟩
      · rintro ⟨W, h, hl⟩
        cases hs : stk (l.map (arityOf a)) (p + 1) with
        | none => rw [hs] at h; cases h
        | some W0 =>
          rw [hs] at h
          simp only at h
          split at h
          · cases h
          · rename_i hn
            cases h
            rw [List.length_cons, List.length_drop] at hl
            exact ⟨W0, rfl, by omega⟩
theorem skip_stk (a : List Nat) : ∀ (ts : List Tok) (n p : Nat) (W : List Nat), stk (ts.map (arityOf a)) p = some W → n ≤ W.length → stk ((skip a n ts p).1.map (arityOf a)) (skip a n ts p).2 = some (W.drop n)
  | ts, 0, p, W, h, _ => by rw [skip_zero]; simpa using h
  | [], n + 1, p, W, h, hl => by
    cases h
    simp at hl
  | t :: l, n + 1, p, W, h, hl => by
    rw [List.map_cons, stk_cons] at h
    cases hs : stk (l.map (arityOf a)) (p + 1) with
    | none => rw [hs] at h; cases h
    | some W0 =>
      rw [hs] at h
      simp only at h
      split at h
      · cases h
      · rename_i hn
        cases h
        rw [List.length_cons, List.length_drop] at hl
        have := skip_stk a l (n + arityOf a t) (p + 1) W0 hs (by omega)
        show stk ((skip a (n + arityOf a t) l (p + 1)).1.map (arityOf a)) (skip a (n + arityOf a t) l (p + 1)).2 = _
        rw [this, List.drop_succ_cons, List.drop_drop, Nat.add_comm]
theorem starts_stk (a : List Nat) : ∀ (k : Nat) (ts : List Tok) (p : Nat) (W : List Nat), stk (ts.map (arityOf a)) p = some W → k ≤ W.length → starts a k ts p = W.take k
  | 0, _, _, _, _, _ => by simp [starts]
  | k + 1, ts, p, W, h, hl => by
    cases ts with
    | nil => cases h; simp at hl
    | cons t l =>
      have h0 := h
      rw [List.map_cons, stk_cons] at h
      cases hs : stk (l.map (arityOf a)) (p + 1) with
      | none => rw [hs] at h; cases h
      | some W0 =>
        rw [hs] at h
        simp only at h
        split at h
        · cases h
        · cases h
          have h1 := skip_stk a (t :: l) 1 p _ h0 (by simp)
          have := starts_stk a k _ _ _ h1 (by simpa using hl)
          show p :: starts a k (skip a 1 (t :: l) p).1 (skip a 1 (t :: l) p).2 = _
          rw [this]
          rfl
/-- what the parts of the words are, when they are just one expression -/
theorem parts_stk {a : List Nat} {ts : List Tok} {s j : Nat} {t : Tok} (h : ∃ W, stk (ts.map (arityOf a)) 0 = some W) (e : ts[j]? = some t) :
    ∃ W, stk ((ts.map (arityOf a)).drop (j + 1)) (j + 1) = some W ∧ partsOf a s ts j t = (W.take (arityOf a t)).map (s + ·) := by
  cases hs : stk ((ts.map (arityOf a)).drop (j + 1)) (j + 1) with
  | none =>
    obtain ⟨W, hW⟩ := h
    rw [stk_none _ 0 (j + 1) (by rw [Nat.zero_add]; exact hs)] at hW
    cases hW
  | some W =>
    refine ⟨W, rfl, ?_⟩
    have hle : arityOf a t ≤ W.length := by
      apply Nat.le_of_not_lt
      intro hlt
      obtain ⟨W0, hW⟩ := h
      have : stk ((ts.map (arityOf a)).drop j) j = none := by
        have hj : j < (ts.map (arityOf a)).length := by rw [List.length_map]; exact lt_of_get e
        rw [List.drop_eq_getElem_cons hj, stk_cons, hs]
        simp only
        rw [if_pos]
        rw [List.getElem_map]
        have : ts[j]'(lt_of_get e) = t := by
          rw [List.getElem?_eq_getElem (lt_of_get e)] at e
          exact Option.some.inj e
        rw [this]
        exact hlt
      rw [stk_none _ 0 j (by rw [Nat.zero_add]; exact this)] at hW
      cases hW
    unfold partsOf
    rw [← List.map_drop] at hs
    rw [starts_stk a _ _ _ _ hs hle]
end Pf
namespace Pf
open Ty01
structure MP where
  p : Program
  fst : List Nat
  tst : List Nat
  code : List Wd
/-- the words of an expression from s on -/
def wordsOf (a : List Nat) (s : Nat) (ts : List Tok) : List Wd := (List.range ts.length).map fun i => ⟨ts.getD i (.num 0), arityOf a (ts.getD i (.num 0)), partsOf a s ts i (ts.getD i (.num 0))⟩
theorem wordsOf_len (a : List Nat) (s : Nat) (ts : List Tok) : (wordsOf a s ts).length = ts.length := by unfold wordsOf; rw [List.length_map, List.length_range]
theorem wordsOf_get {a : List Nat} {s : Nat} {ts : List Tok} {i : Nat} {t : Tok} (h : ts[i]? = some t) : (wordsOf a s ts)[i]? = some ⟨t, arityOf a t, partsOf a s ts i t⟩ := by
  unfold wordsOf
  rw [List.getElem?_map, List.getElem?_range (lt_of_get h)]
  have : ts.getD i (.num 0) = t := by rw [List.getD_eq_getElem?_getD, h]; rfl
  rw [Option.map_some, this]
/-! ### arities that agree -/
section
variable {a a' : List Nat}
theorem skip_congr : ∀ (l : List Tok) (n p : Nat), (∀ t ∈ l, arityOf a t = arityOf a' t) → skip a n l p = skip a' n l p
  | l, 0, p, _ => by rw [skip_zero, skip_zero]
  | [], n + 1, p, _ => by rw [skip_nil, skip_nil]
  | t :: l, n + 1, p, h => by
    show skip a (n + arityOf a t) l (p + 1) = skip a' (n + arityOf a' t) l (p + 1)
    rw [h t (List.mem_cons_self ..)]
    exact skip_congr l _ _ fun x hx => h x (List.mem_cons_of_mem _ hx)
theorem skip_sub : ∀ (l : List Tok) (n p : Nat), ∀ t ∈ (skip a n l p).1, t ∈ l
  | l, 0, p => by rw [skip_zero]; exact fun t h => h
  | [], n + 1, p => by rw [skip_nil]; exact fun t h => h
  | t :: l, n + 1, p => fun x hx => List.mem_cons_of_mem _ (skip_sub l (n + arityOf a t) (p + 1) x hx)
theorem starts_congr : ∀ (k : Nat) (l : List Tok) (p : Nat), (∀ t ∈ l, arityOf a t = arityOf a' t) → starts a k l p = starts a' k l p
  | 0, _, _, _ => rfl
  | k + 1, l, p, h => by
    show p :: starts a k (skip a 1 l p).1 (skip a 1 l p).2 = p :: starts a' k (skip a' 1 l p).1 (skip a' 1 l p).2
    rw [← skip_congr l 1 p h, starts_congr k _ _ fun t ht => h t (skip_sub l 1 p t ht)]
theorem oneFrom_congr : ∀ (l : List Tok) (n : Nat), (∀ t ∈ l, arityOf a t = arityOf a' t) → oneFrom a n l = oneFrom a' n l
  | l, 0, _ => by cases l <;> rfl
  | [], n + 1, _ => rfl
  | t :: l, n + 1, h => by
    show oneFrom a (n + arityOf a t) l = oneFrom a' (n + arityOf a' t) l
    rw [h t (List.mem_cons_self ..)]
    exact oneFrom_congr l _ fun x hx => h x (List.mem_cons_of_mem _ hx)
theorem partsOf_congr {ts : List Tok} (h : ∀ t ∈ ts, arityOf a t = arityOf a' t) (s i : Nat) (t : Tok) (ht : t ∈ ts) : partsOf a s ts i t = partsOf a' s ts i t := by
  unfold partsOf
  rw [h t ht, starts_congr _ _ _ fun x hx => h x (List.mem_of_mem_drop hx)]
end
theorem arity_app {a b : List Nat} {ts : List Tok} (h : ∀ g, Tok.call g ∈ ts → g < a.length) : ∀ t ∈ ts, arityOf a t = arityOf (a ++ b) t := by
  intro t ht
  cases t with
  | call g =>
    show a.getD g 0 = (a ++ b).getD g 0
    rw [List.getD_eq_getElem?_getD, List.getD_eq_getElem?_getD, List.getElem?_append_left (h g ht)]
  | num n => rfl
  | arg i => rfl
  | op o => rfl
theorem lies_app {C D : List Wd} {a b : List Nat} {s : Nat} {ts : List Tok} (hc : ∀ g, Tok.call g ∈ ts → g < a.length) (h : Lies C a s ts) : Lies (C ++ D) (a ++ b) s ts := by
  intro i t ht
  have hm := List.mem_of_getElem? ht
  have e := h i t ht
  rw [List.getElem?_append_left (lt_of_get e), e, arity_app hc t hm, partsOf_congr (arity_app hc) s i t hm]
theorem lies_new {C : List Wd} {a : List Nat} {ts : List Tok} : Lies (C ++ wordsOf a C.length ts) a C.length ts := by
  intro i t ht
  rw [List.getElem?_append_right (by omega), Nat.add_sub_cancel_left]
  exact wordsOf_get ht
theorem lies_lt {C : List Wd} {a : List Nat} {s : Nat} {ts : List Tok} (h : Lies C a s ts) {j : Nat} (hj : j < ts.length) : s + j < C.length := by
  have e := h j ts[j] (List.getElem?_eq_getElem hj)
  exact lt_of_get e
/-! ### what a program is, as it is held -/
structure Good (m : MP) : Prop where
  F : FunsIn m.p m.code m.fst
  ok : CodeOk m.code
  tl : m.tst.length = m.p.tests.length
  T : ∀ (k : Nat) (t : Test) (s : Nat), m.p.tests[k]? = some t → m.tst[k]? = some s → TestIn m.p m.code m.fst t s
  calls : ∀ w ∈ m.code, ∀ g, w.tok = .call g → g < m.fst.length
  fl : m.p.funs.length ≤ 8
  tn : m.p.tests.length ≤ 4
  tot : total m.p ≤ 30
  tb : ∀ t ∈ m.p.tests, t.body.length ≤ 20
  cl : m.code.length = total m.p + (m.p.tests.map fun t => t.body.length).sum
  fs : ∀ (g : Nat) (h : Ty01.Fun), m.p.funs[g]? = some h → (h.said.drop 4).mapM (tokOf ((m.p.funs.map fun f => f.name).take (g + 1)) h.arity) = some h.body ∧ h.said[0]? = some wFun ∧ h.said[1]? = some h.name
  ts : ∀ t ∈ m.p.tests, (∃ n, n ≤ m.p.funs.length ∧ (t.said.drop 4).mapM (tokOf ((m.p.funs.map fun f => f.name).take n) t.shapes.length) = some t.body) ∧ t.said[0]? = some wTest
  nm : ∀ f ∈ m.p.funs, isName f.name = true
  nd : (m.p.funs.map fun f => f.name).Nodup
  ar : ∀ f ∈ m.p.funs, f.arity ≤ 3
def MP.start : MP := ⟨⟨[], []⟩, [], [], []⟩
theorem good_start : Good MP.start where
  F := ⟨rfl, (fun g h s e => by cases e), (fun g h e => by cases e), (fun g h e => by cases e), (fun g h s g' h' s' e => by cases e)⟩
  ok := ⟨(fun w h => by cases h), (fun w h => by cases h)⟩
  tl := rfl
  T := fun k t s e => by cases e
  calls := fun w h => by cases h
  fl := by decide
  tn := by decide
  tot := by decide
  tb := fun t h => by cases h
  cl := rfl
  fs := fun g h e => by cases e
  ts := fun t h => by cases h
  nm := fun f h => by cases h
  nd := List.nodup_nil
  ar := fun f h => by cases h
theorem snoc_get {α : Type} {l : List α} {x y : α} {i : Nat} (h : (l ++ [x])[i]? = some y) : (i < l.length ∧ l[i]? = some y) ∨ (i = l.length ∧ y = x) := by
  by_cases hi : i < l.length
  · rw [List.getElem?_append_left hi] at h; exact .inl ⟨hi, h⟩
  · rw [List.getElem?_append_right (by omega)] at h
    have : i - l.length = 0 := by have := lt_of_get h; simp at this; omega
    rw [this] at h
    exact .inr ⟨by omega, by simpa using h.symm⟩
theorem mem_code {C D : List Wd} {P : Wd → Prop} (h1 : ∀ w ∈ C, P w) (h2 : ∀ w ∈ D, P w) : ∀ w ∈ C ++ D, P w := fun w hw => (List.mem_append.mp hw).elim (h1 w) (h2 w)
theorem mem_wordsOf {a : List Nat} {s : Nat} {ts : List Tok} {w : Wd} (h : w ∈ wordsOf a s ts) : ∃ i t, ts[i]? = some t ∧ w = ⟨t, arityOf a t, partsOf a s ts i t⟩ := by
  obtain ⟨i, hi⟩ := List.mem_iff_getElem?.mp h
  have hlt : i < ts.length := by rw [← wordsOf_len a s ts]; exact lt_of_get hi
  refine ⟨i, ts[i], List.getElem?_eq_getElem hlt, ?_⟩
  rw [wordsOf_get (List.getElem?_eq_getElem hlt)] at hi
  exact (Option.some.inj hi).symm
theorem opAr3 : ∀ o, o < 12 → opArity.getD o 0 ≤ 3 := by decide
theorem arity3 {a : List Nat} {ar fn : Nat} {ts : List Tok} (tk : Toks ar fn ts) (ha : ∀ x ∈ a, x ≤ 3) : ∀ t ∈ ts, arityOf a t ≤ 3 := by
  intro t ht
  cases t with
  | num n => exact Nat.zero_le _
  | arg i => exact Nat.zero_le _
  | op o => exact opAr3 o (tk.op o ht)
  | call g =>
    show a.getD g 0 ≤ 3
    rw [List.getD_eq_getElem?_getD]
    cases h : a[g]? with
    | none => exact Nat.zero_le _
    | some x => exact ha x (List.mem_of_getElem? h)
theorem codeOk_new {a : List Nat} {ar fn s : Nat} {ts : List Tok} (tk : Toks ar fn ts) (ha : ∀ x ∈ a, x ≤ 3) : CodeOk (wordsOf a s ts) where
  parts := fun w hw => by
    obtain ⟨i, t, ht, rfl⟩ := mem_wordsOf hw
    show (partsOf a s ts i t).length ≤ 3
    unfold partsOf
    rw [List.length_map, starts_len]
    exact arity3 tk ha t (List.mem_of_getElem? ht)
  op := fun w hw o ho => by
    obtain ⟨i, t, ht, rfl⟩ := mem_wordsOf hw
    have ho : t = .op o := ho
    subst ho
    exact ⟨tk.op o (List.mem_of_getElem? ht), rfl⟩
theorem TestIn.app {p : Program} {C D : List Wd} {fst : List Nat} {t : Test} {s : Nat} (I : TestIn p C fst t s) {f : Ty01.Fun} (F : FunsIn { p with funs := p.funs ++ [f] } (C ++ D) (fst ++ [C.length])) (ok : CodeOk (C ++ D)) : TestIn { p with funs := p.funs ++ [f] } (C ++ D) (fst ++ [C.length]) t s where
  F := F
  ok := ok
  lies := by
    show Lies (C ++ D) ((p.funs ++ [f]).map fun f => f.arity) s t.body
    rw [List.map_append]
    exact lies_app (fun g hg => by show g < (p.funs.map fun f => f.arity).length; rw [List.length_map]; exact I.toks.call g hg) I.lies
  one := by
    have e : oneFrom ((p.funs ++ [f]).map fun f => f.arity) 1 t.body = oneFrom (p.funs.map fun f => f.arity) 1 t.body := by
      rw [List.map_append]
      exact (oneFrom_congr t.body 1 (arity_app fun g hg => by rw [List.length_map]; exact I.toks.call g hg)).symm
    exact e.trans I.one
  toks := ⟨I.toks.arg, fun g hg => by show g < (p.funs ++ [f]).length; rw [List.length_append]; have := I.toks.call g hg; omega, I.toks.num, I.toks.op⟩
  far := fun q hq g h s' j hg hs hj => by
    have hlt := lies_lt I.lies hq
    rcases snoc_get hg with ⟨g1, g2⟩ | ⟨g1, rfl⟩
    · rcases snoc_get hs with ⟨_, s2⟩ | ⟨s1, _⟩
      · exact I.far q hq g h s' j g2 s2 hj
      · rw [I.F.len] at s1; omega
    · rcases snoc_get hs with ⟨s1, _⟩ | ⟨_, rfl⟩
      · rw [I.F.len] at s1; omega
      · omega
  len := I.len
  sh := I.sh
theorem TestIn.code {p q : Program} {C D : List Wd} {fst : List Nat} {t : Test} {s : Nat} (I : TestIn p C fst t s) (e : q.funs = p.funs) (F : FunsIn q (C ++ D) fst) (ok : CodeOk (C ++ D)) : TestIn q (C ++ D) fst t s where
  F := F
  ok := ok
  lies := by
    have : arities q = arities p ++ [] := by unfold arities; rw [e, List.append_nil]
    rw [this]
    exact lies_app (fun g hg => by show g < (p.funs.map fun f => f.arity).length; rw [List.length_map]; exact I.toks.call g hg) I.lies
  one := by have : arities q = arities p := by unfold arities; rw [e]
            rw [this]; exact I.one
  toks := by rw [e]; exact I.toks
  far := by rw [e]; exact I.far
  len := I.len
  sh := I.sh
end Pf
namespace Pf
open Ty01
def takenB (p : Program) (n : Bytes) : Bool := (p.funs.any fun f => f.name == n) || p.tests.any fun t => t.name == n
def MP.addFun (m : MP) (f : Ty01.Fun) : MP := ⟨{ m.p with funs := m.p.funs ++ [f] }, m.fst ++ [m.code.length], m.tst, m.code ++ wordsOf ((m.p.funs ++ [f]).map fun f => f.arity) m.code.length f.body⟩
def MP.addTest (m : MP) (t : Test) : MP := ⟨{ m.p with tests := m.p.tests ++ [t] }, m.fst, m.tst ++ [m.code.length], m.code ++ wordsOf (arities m.p) m.code.length t.body⟩
theorem sum_snoc {α : Type} (l : List α) (f : α → Nat) (x : α) : ((l ++ [x]).map f).sum = (l.map f).sum + f x := by
  rw [List.map_append, List.sum_append]; simp
theorem toks_of {names : List Bytes} {k : Nat} : ∀ {b : List Bytes} {t : List Tok}, b.mapM (tokOf names k) = some t → Toks k names.length t ∧ t.length = b.length
  | [], t, h => by
    have : t = [] := by simpa using h.symm
    subst this
    exact ⟨⟨(fun i h => by cases h), (fun i h => by cases h), (fun i h => by cases h), (fun i h => by cases h)⟩, rfl⟩
  | w :: b, t, h => by
    rw [List.mapM_cons] at h
    cases h1 : tokOf names k w with
    | none => rw [h1] at h; cases h
    | some x =>
      rw [h1] at h
      cases h2 : b.mapM (tokOf names k) with
      | none => rw [h2] at h; cases h
      | some r =>
        rw [h2] at h
        have : t = x :: r := by simpa using h.symm
        subst this
        obtain ⟨i1, i2⟩ := toks_of h2
        have hx : (∀ i, x = .arg i → i < k) ∧ (∀ g, x = .call g → g < names.length) ∧ (∀ n, x = .num n → n < 100) ∧ (∀ o, x = .op o → o < 12) := by
          unfold tokOf at h1
          split at h1
          · rename_i n hn
            cases h1
            refine ⟨(fun i e => by cases e), (fun i e => by cases e), fun n' e => ?_, (fun i e => by cases e)⟩
            cases e
            unfold number at hn
            split at hn
            · cases hn
            · rename_i hc
              cases hn
              match w with
              | [] => exact absurd (.inl rfl) hc
              | [c] =>
                have hd : digit c = true := by
                  cases hq : digit c with
                  | true => rfl
                  | false => exact absurd (.inr (.inr (.inl (by simp [hq])))) hc
                unfold digit at hd
                rw [Bool.and_eq_true, decide_eq_true_eq, decide_eq_true_eq] at hd
                show 10 * 0 + (c - 48) < 100
                omega
              | [c, d] =>
                have hd : digit c = true ∧ digit d = true := by
                  cases hq : ([c, d] : List Nat).all digit with
                  | true => simpa using hq
                  | false => exact absurd (.inr (.inr (.inl hq))) hc
                unfold digit at hd
                simp only [Bool.and_eq_true, decide_eq_true_eq] at hd
                show 10 * (10 * 0 + (c - 48)) + (d - 48) < 100
                omega
              | _ :: _ :: _ :: _ => exact absurd (.inr (.inl (by simp))) hc
          · split at h1
            · rename_i o ho
              cases h1
              refine ⟨(fun i e => by cases e), (fun i e => by cases e), (fun i e => by cases e), fun o' e => ?_⟩
              cases e
              exact (List.findIdx?_eq_some_iff_getElem.mp ho).1
            · split at h1
              · rename_i hc
                cases h1
                exact ⟨(fun i e => by cases e; exact hc.2), (fun i e => by cases e), (fun i e => by cases e), (fun i e => by cases e)⟩
              · split at h1
                · rename_i hc
                  cases h1
                  exact ⟨(fun i e => by cases e; exact hc.2), (fun i e => by cases e), (fun i e => by cases e), (fun i e => by cases e)⟩
                · split at h1
                  · rename_i hc
                    cases h1
                    exact ⟨(fun i e => by cases e; exact hc.2), (fun i e => by cases e), (fun i e => by cases e), (fun i e => by cases e)⟩
                  · cases h3 : names.findIdx? fun n => n == w with
                    | none => rw [h3] at h1; cases h1
                    | some g =>
                      rw [h3] at h1
                      cases h1
                      refine ⟨(fun i e => by cases e), (fun g' e => ?_), (fun i e => by cases e), (fun i e => by cases e)⟩
                      cases e
                      exact (List.findIdx?_eq_some_iff_getElem.mp h3).1
        refine ⟨⟨fun i hi => ?_, fun g hg => ?_, fun n hn => ?_, fun o ho => ?_⟩, by rw [List.length_cons, List.length_cons, i2]⟩
        · rcases List.mem_cons.mp hi with e | e
          · exact hx.1 i e.symm
          · exact i1.arg i e
        · rcases List.mem_cons.mp hg with e | e
          · exact hx.2.1 g e.symm
          · exact i1.call g e
        · rcases List.mem_cons.mp hn with e | e
          · exact hx.2.2.1 n e.symm
          · exact i1.num n e
        · rcases List.mem_cons.mp ho with e | e
          · exact hx.2.2.2 o e.symm
          · exact i1.op o e
theorem Toks.mono {a b c d : Nat} {ts : List Tok} (t : Toks a b ts) (h1 : a ≤ c) (h2 : b ≤ d) : Toks c d ts := ⟨fun i h => by have := t.arg i h; omega, fun g h => by have := t.call g h; omega, t.num, t.op⟩
theorem good_fun {m : MP} (G : Good m) {n : Bytes} {k : Nat} {t : List Tok} {ws : List Bytes} (hk : k ≤ 3) (hn : isName n = true) (ht : takenB m.p n = false)
    (hm : (ws.drop 4).mapM (tokOf ((m.p.funs.map fun f => f.name) ++ [n]) k) = some t) (h1 : oneFrom ((m.p.funs.map fun f => f.arity) ++ [k]) 1 t = true) (h8 : m.p.funs.length < 8) (h30 : total m.p + t.length ≤ 30)
    (h0 : ws[0]? = some wFun) (hw1 : ws[1]? = some n) : Good (m.addFun ⟨n, k, t, ws⟩) := by
  obtain ⟨tk, tlen⟩ := toks_of hm
  have hnl : ((m.p.funs.map fun f => f.name) ++ [n]).length = m.p.funs.length + 1 := by simp
  rw [hnl] at tk
  have ea : (m.p.funs ++ [(⟨n, k, t, ws⟩ : Ty01.Fun)]).map (fun f => f.arity) = (m.p.funs.map fun f => f.arity) ++ [k] := by simp
  have a3 : ∀ x ∈ (m.p.funs.map fun f => f.arity) ++ [k], x ≤ 3 := by
    intro x hx
    rcases List.mem_append.mp hx with hx | hx
    · obtain ⟨f, hf, rfl⟩ := List.mem_map.mp hx
      exact G.ar f hf
    · rw [List.mem_singleton.mp hx]; exact hk
  have ok : CodeOk (m.addFun ⟨n, k, t, ws⟩).code := by
    have o2 : CodeOk (wordsOf ((m.p.funs ++ [(⟨n, k, t, ws⟩ : Ty01.Fun)]).map fun f => f.arity) m.code.length t) := by rw [ea]; exact codeOk_new tk a3
    exact ⟨mem_code G.ok.parts o2.parts, mem_code G.ok.op o2.op⟩
  have F : FunsIn (m.addFun ⟨n, k, t, ws⟩).p (m.addFun ⟨n, k, t, ws⟩).code (m.addFun ⟨n, k, t, ws⟩).fst := by
    refine ⟨?_, fun g h s hg hs => ?_, fun g h hg => ?_, fun g h hg => ?_, fun g h s g' h' s' hg hs hg' hs' j j' hj hj' e => ?_⟩
    · show (m.fst ++ [m.code.length]).length = (m.p.funs ++ [_]).length
      rw [List.length_append, List.length_append, G.F.len]; rfl
    · show Lies (m.code ++ wordsOf ((m.p.funs ++ [(⟨n, k, t, ws⟩ : Ty01.Fun)]).map fun f => f.arity) m.code.length t) ((m.p.funs ++ [(⟨n, k, t, ws⟩ : Ty01.Fun)]).map fun f => f.arity) s h.body
      rcases snoc_get hg with ⟨g1, g2⟩ | ⟨g1, rfl⟩
      · rcases snoc_get hs with ⟨_, s2⟩ | ⟨s1, _⟩
        · rw [ea]
          exact lies_app (fun x hx => by rw [List.length_map]; exact (G.F.toks g h g2).call x hx) (G.F.lies g h s g2 s2)
        · rw [G.F.len] at s1; omega
      · rcases snoc_get hs with ⟨s1, _⟩ | ⟨_, rfl⟩
        · rw [G.F.len] at s1; omega
        · exact lies_new
    · show oneFrom ((m.p.funs ++ [(⟨n, k, t, ws⟩ : Ty01.Fun)]).map fun f => f.arity) 1 h.body = true
      rw [ea]
      rcases snoc_get hg with ⟨g1, g2⟩ | ⟨g1, rfl⟩
      · rw [← oneFrom_congr h.body 1 (arity_app fun x hx => by rw [List.length_map]; exact (G.F.toks g h g2).call x hx)]
        exact G.F.one g h g2
      · exact h1
    · show Toks h.arity (m.p.funs ++ [_]).length h.body
      rw [List.length_append]
      rcases snoc_get hg with ⟨g1, g2⟩ | ⟨g1, rfl⟩
      · exact (G.F.toks g h g2).mono (Nat.le_refl _) (Nat.le_add_right _ _)
      · exact tk
    · rcases snoc_get hg with ⟨g1, g2⟩ | ⟨g1, rfl⟩
      · rcases snoc_get hs with ⟨_, s2⟩ | ⟨s1, _⟩
        · have lt1 := lies_lt (G.F.lies g h s g2 s2) hj
          rcases snoc_get hg' with ⟨g1', g2'⟩ | ⟨g1', rfl⟩
          · rcases snoc_get hs' with ⟨_, s2'⟩ | ⟨s1', _⟩
            · exact G.F.apart g h s g' h' s' g2 s2 g2' s2' j j' hj hj' e
            · rw [G.F.len] at s1'; omega
          · rcases snoc_get hs' with ⟨s1', _⟩ | ⟨_, rfl⟩
            · rw [G.F.len] at s1'; omega
            · omega
        · rw [G.F.len] at s1; omega
      · rcases snoc_get hs with ⟨s1, _⟩ | ⟨_, rfl⟩
        · rw [G.F.len] at s1; omega
        · rcases snoc_get hg' with ⟨g1', g2'⟩ | ⟨g1', rfl⟩
          · rcases snoc_get hs' with ⟨_, s2'⟩ | ⟨s1', _⟩
            · have lt1 := lies_lt (G.F.lies g' h' s' g2' s2') hj'
              omega
            · rw [G.F.len] at s1'; omega
          · rcases snoc_get hs' with ⟨s1', _⟩ | ⟨_, rfl⟩
            · rw [G.F.len] at s1'; omega
            · exact ⟨by omega, by omega⟩
  have htot : total (m.addFun ⟨n, k, t, ws⟩).p = total m.p + t.length := sum_snoc m.p.funs (fun f => f.body.length) _
  have hnames : (m.addFun ⟨n, k, t, ws⟩).p.funs.map (fun f => f.name) = (m.p.funs.map fun f => f.name) ++ [n] := by
    show (m.p.funs ++ [_]).map _ = _
    rw [List.map_append]; rfl
  have tk2 : ∀ l : Nat, l ≤ m.p.funs.length → ((m.p.funs.map fun f => f.name) ++ [n]).take l = (m.p.funs.map fun f => f.name).take l := fun l hl => by
    rw [List.take_append_of_le_length (by rw [List.length_map]; exact hl)]
  refine ⟨F, ok, G.tl, fun i tt s hi hs => (G.T i tt s hi hs).app F ok, ?_, ?_, G.tn, by rw [htot]; exact h30, G.tb, ?_, fun g h hg => ?_, fun tt htt => ?_, ?_, ?_, ?_⟩
  · refine mem_code (fun w hw g e => ?_) (fun w hw g e => ?_)
    · show g < (m.fst ++ [m.code.length]).length
      rw [List.length_append]
      have := G.calls w hw g e
      omega
    · obtain ⟨i, x, hx, rfl⟩ := mem_wordsOf hw
      have e : x = .call g := e
      subst e
      show g < (m.fst ++ [m.code.length]).length
      rw [List.length_append, G.F.len]
      exact tk.call g (List.mem_of_getElem? hx)
  · show (m.p.funs ++ [_]).length ≤ 8
    rw [List.length_append]; show _ + 1 ≤ 8; omega
  · show (m.code ++ wordsOf _ m.code.length t).length = total (m.addFun ⟨n, k, t, ws⟩).p + (m.p.tests.map fun t => t.body.length).sum
    rw [htot, List.length_append, wordsOf_len, G.cl]
    omega
  · rw [hnames]
    rcases snoc_get hg with ⟨g1, g2⟩ | ⟨g1, rfl⟩
    · rw [tk2 (g + 1) (by omega)]
      exact G.fs g h g2
    · rw [g1, List.take_of_length_le (by rw [hnl]; omega)]
      exact ⟨hm, h0, hw1⟩
  · obtain ⟨⟨l, l1, l2⟩, l3⟩ := G.ts tt htt
    refine ⟨⟨l, by show l ≤ (m.p.funs ++ [_]).length; rw [List.length_append]; omega, ?_⟩, l3⟩
    rw [hnames, tk2 l l1]
    exact l2
  · intro f hf
    rcases List.mem_append.mp hf with hf | hf
    · exact G.nm f hf
    · rw [List.mem_singleton.mp hf]; exact hn
  · rw [hnames]
    refine List.nodup_append.mpr ⟨G.nd, by simp, fun a ha b hb => ?_⟩
    rw [List.mem_singleton.mp hb]
    intro e
    subst e
    obtain ⟨f, hf, e⟩ := List.mem_map.mp ha
    have : takenB m.p a = true := by
      unfold takenB
      rw [Bool.or_eq_true, List.any_eq_true]
      exact .inl ⟨f, hf, by rw [beq_iff_eq]; exact e⟩
    rw [this] at ht
    cases ht
  · intro f hf
    rcases List.mem_append.mp hf with hf | hf
    · exact G.ar f hf
    · rw [List.mem_singleton.mp hf]; exact hk
theorem good_test {m : MP} (G : Good m) {n : Bytes} {sh : List Nat} {t : List Tok} {ws : List Bytes} (hl : sh.length = 1 ∨ sh.length = 2) (hs3 : ∀ x ∈ sh, x < 3)
    (hm : (ws.drop 4).mapM (tokOf (m.p.funs.map fun f => f.name) sh.length) = some t) (h1 : oneFrom (m.p.funs.map fun f => f.arity) 1 t = true) (h4 : m.p.tests.length < 4) (h20 : t.length ≤ 20)
    (h0 : ws[0]? = some wTest) : Good (m.addTest ⟨n, sh, t, ws⟩) := by
  obtain ⟨tk, tlen⟩ := toks_of hm
  rw [List.length_map] at tk
  have a3 : ∀ x ∈ arities m.p, x ≤ 3 := by
    intro x hx
    obtain ⟨f, hf, rfl⟩ := List.mem_map.mp hx
    exact G.ar f hf
  have ok : CodeOk (m.addTest ⟨n, sh, t, ws⟩).code := by
    have o2 : CodeOk (wordsOf (arities m.p) m.code.length t) := codeOk_new tk a3
    exact ⟨mem_code G.ok.parts o2.parts, mem_code G.ok.op o2.op⟩
  have F : FunsIn (m.addTest ⟨n, sh, t, ws⟩).p (m.addTest ⟨n, sh, t, ws⟩).code (m.addTest ⟨n, sh, t, ws⟩).fst := by
    refine ⟨G.F.len, fun g h s hg hs => ?_, G.F.one, G.F.toks, G.F.apart⟩
    have : arities (m.addTest ⟨n, sh, t, ws⟩).p = arities m.p ++ [] := by rw [List.append_nil]; rfl
    rw [this]
    exact lies_app (fun x hx => by show x < (m.p.funs.map fun f => f.arity).length; rw [List.length_map]; exact (G.F.toks g h hg).call x hx) (G.F.lies g h s hg hs)
  have htot : total (m.addTest ⟨n, sh, t, ws⟩).p = total m.p := rfl
  refine ⟨F, ok, ?_, fun i tt s hi hs => ?_, ?_, G.fl, ?_, G.tot, ?_, ?_, G.fs, ?_, G.nm, G.nd, G.ar⟩
  · show (m.tst ++ [_]).length = (m.p.tests ++ [_]).length
    rw [List.length_append, List.length_append, G.tl]; rfl
  · rcases snoc_get hi with ⟨g1, g2⟩ | ⟨g1, rfl⟩
    · rcases snoc_get hs with ⟨_, s2⟩ | ⟨s1, _⟩
      · exact (G.T i tt s g2 s2).code rfl F ok
      · rw [G.tl] at s1; omega
    · rcases snoc_get hs with ⟨s1, _⟩ | ⟨_, rfl⟩
      · rw [G.tl] at s1; omega
      · refine ⟨F, ok, lies_new, h1, tk, fun q hq g h s' j hg hs hj => ?_, hl, hs3⟩
        have lt1 := lies_lt (G.F.lies g h s' hg hs) hj
        omega
  · refine mem_code G.calls (fun w hw g e => ?_)
    obtain ⟨i, x, hx, rfl⟩ := mem_wordsOf hw
    have e : x = .call g := e
    subst e
    show g < m.fst.length
    rw [G.F.len]
    exact tk.call g (List.mem_of_getElem? hx)
  · show (m.p.tests ++ [_]).length ≤ 4
    rw [List.length_append]; show _ + 1 ≤ 4; omega
  · intro tt htt
    rcases List.mem_append.mp htt with htt | htt
    · exact G.tb tt htt
    · rw [List.mem_singleton.mp htt]; exact h20
  · show (m.code ++ wordsOf _ m.code.length t).length = total m.p + ((m.p.tests ++ [(⟨n, sh, t, ws⟩ : Test)]).map fun (t : Test) => t.body.length).sum
    rw [sum_snoc, List.length_append, wordsOf_len, G.cl]
    show _ + t.length = _ + (_ + t.length)
    omega
  · intro tt htt
    rcases List.mem_append.mp htt with htt | htt
    · exact G.ts tt htt
    · rw [List.mem_singleton.mp htt]
      exact ⟨⟨m.p.funs.length, Nat.le_refl _, by rw [List.take_of_length_le (by rw [List.length_map]; exact Nat.le_refl _)]; exact hm⟩, h0⟩
end Pf
namespace Pf
open Ty01
/-! ### a row, as the program reads it -/
def areShB (w : List Nat) : Bool := (decide (w.length = 1) || decide (w.length = 2)) && w.all fun c => (shapeOf c).isSome
def isRowB (ws : List (List Nat)) : Bool := match ws with
  | w0 :: _ :: w2 :: w3 :: _ => decide (w3 = [61]) && (if w0 = wFun then ([[48], [49], [50], [51]] : List (List Nat)).contains w2 else decide (w0 = wTest) && areShB w2)
  | _ => false
/-- how many are handed over -/
def manyOf (ws : List Bytes) : Nat := match ws with
  | w0 :: _ :: z :: _ => if w0 = wFun then (number z).getD 0 else z.length
  | _ => 0
def namesOf (p : Program) (ws : List Bytes) : List Bytes := match ws with
  | w0 :: n :: _ => (p.funs.map fun f => f.name) ++ (if w0 = wFun then [n] else [])
  | _ => []
def arsOf (p : Program) (ws : List Bytes) : List Nat := match ws with
  | w0 :: _ => (p.funs.map fun f => f.arity) ++ (if w0 = wFun then [manyOf ws] else [])
  | _ => []
def tooP (p : Program) (ws : List Bytes) (l : Nat) : Bool := if ws.head? = some wFun then decide (p.funs.length = 8) || decide (30 < total p + l) else decide (p.tests.length = 4) || decide (20 < l)
def shOf (z : Bytes) : List Nat := z.map fun c => (shapeOf c).getD 0
def rowP (m : MP) (ws : List Bytes) : Except Nat MP :=
  if isRowB ws = false then .error 1 else if isName (ws.getD 1 []) = false ∨ takenB m.p (ws.getD 1 []) = true then .error 2 else
  match (ws.drop 4).mapM (tokOf (namesOf m.p ws) (manyOf ws)) with
  | none => .error 3
  | some t => if oneFrom (arsOf m.p ws) 1 t = false then .error 4 else if tooP m.p ws t.length = true then .error 5 else
    .ok (if ws.head? = some wFun then m.addFun ⟨ws.getD 1 [], manyOf ws, t, ws⟩ else m.addTest ⟨ws.getD 1 [], shOf (ws.getD 2 []), t, ws⟩)
theorem num3 (k : Bytes) : ([[48], [49], [50], [51]] : List (List Nat)).contains k = true ↔ ∃ n, number k = some n ∧ n ≤ 3 := by
  constructor
  · intro h
    have h := List.contains_iff_mem.mp h
    simp only [List.mem_cons, List.not_mem_nil, or_false] at h
    rcases h with rfl | rfl | rfl | rfl
    · exact ⟨0, rfl, by omega⟩
    · exact ⟨1, rfl, by omega⟩
    · exact ⟨2, rfl, by omega⟩
    · exact ⟨3, rfl, by omega⟩
  · rintro ⟨n, h, h3⟩
    unfold number at h
    split at h
    · cases h
    · rename_i hc
      cases h
      match k with
      | [] => exact absurd (.inl rfl) hc
      | [c] =>
        have hd : digit c = true := by
          cases hq : digit c with
          | true => rfl
          | false => exact absurd (.inr (.inr (.inl (by simp [hq])))) hc
        unfold digit at hd
        rw [Bool.and_eq_true, decide_eq_true_eq, decide_eq_true_eq] at hd
        have h3 : 10 * 0 + (c - 48) ≤ 3 := h3
        have : c = 48 ∨ c = 49 ∨ c = 50 ∨ c = 51 := by omega
        rcases this with rfl | rfl | rfl | rfl <;> decide
      | [c, d] =>
        have hd : digit c = true ∧ digit d = true := by
          cases hq : ([c, d] : List Nat).all digit with
          | true => simpa using hq
          | false => exact absurd (.inr (.inr (.inl hq))) hc
        unfold digit at hd
        simp only [Bool.and_eq_true, decide_eq_true_eq] at hd
        have h3 : 10 * (10 * 0 + (c - 48)) + (d - 48) ≤ 3 := h3
        have : c = 48 := by omega
        subst this
        exact absurd (.inr (.inr (.inr ⟨by simp, rfl⟩))) hc
      | _ :: _ :: _ :: _ => exact absurd (.inr (.inl (by simp))) hc
theorem mapM_sh : ∀ z : Bytes, z.mapM shapeOf = if (z.all fun c => (shapeOf c).isSome) = true then some (shOf z) else none
  | [] => rfl
  | c :: z => by
    rw [List.mapM_cons, mapM_sh z, List.all_cons]
    cases h : shapeOf c with
    | none => rfl
    | some s =>
      show (do let ys ← (if (z.all fun c => (shapeOf c).isSome) = true then some (shOf z) else none); pure (s :: ys)) = _
      by_cases hz : (z.all fun c => (shapeOf c).isSome) = true
      · rw [if_pos hz, if_pos (by rw [hz]; rfl)]
        unfold shOf
        rw [List.map_cons, h]
        rfl
      · rw [if_neg hz, if_neg (by simpa using hz)]
        rfl
theorem sh_lt (z : Bytes) : ∀ x ∈ shOf z, x < 3 := by
  intro x hx
  obtain ⟨c, _, rfl⟩ := List.mem_map.mp hx
  unfold shapeOf
  split
  · decide
  · split
    · decide
    · split <;> decide
theorem take_fun (p : Program) (n : Bytes) : ((p.funs.any fun f => f.name == n) || p.tests.any fun t => t.name == n) = takenB p n := rfl
/-- **a row is read as the specification reads it** -/
theorem row_is {m : MP} (G : Good m) (w : Bytes) : rowFrom m.p w = if words w = [] then .ok m.p else (match rowP m (words w) with
    | .error e => .error e
    | .ok m' => .ok m'.p) := by
  unfold rowFrom
  generalize words w = ws
  match ws with
  | [] => rfl
  | [c] =>
    rw [if_neg (by intro h; cases h)]
    show (if c = wFun then _ else if c = wTest then _ else _) = _
    have : rowP m [c] = .error 1 := rfl
    rw [this]
    split
    · rfl
    · split <;> rfl
  | [c, n] =>
    rw [if_neg (by intro h; cases h)]
    have : rowP m [c, n] = .error 1 := rfl
    rw [this]
    show (if c = wFun then _ else if c = wTest then _ else _) = _
    split
    · rfl
    · split <;> rfl
  | [c, n, k] =>
    rw [if_neg (by intro h; cases h)]
    have : rowP m [c, n, k] = .error 1 := rfl
    rw [this]
    show (if c = wFun then _ else if c = wTest then _ else _) = _
    split
    · rfl
    · split <;> rfl
  | c :: n :: k :: e :: b =>
    rw [if_neg (by intro h; cases h)]
    have erow : isRowB (c :: n :: k :: e :: b) = (decide (e = [61]) && (if c = wFun then ([[48], [49], [50], [51]] : List (List Nat)).contains k else decide (c = wTest) && areShB k)) := rfl
    unfold rowP
    rw [erow]
    have hg1 : (c :: n :: k :: e :: b).getD 1 [] = n := rfl
    have hg2 : (c :: n :: k :: e :: b).getD 2 [] = k := rfl
    have hd4 : (c :: n :: k :: e :: b).drop 4 = b := rfl
    rw [hg1, hg2, hd4]
    by_cases hc : c = wFun
    · have hmany : manyOf (c :: n :: k :: e :: b) = (number k).getD 0 := by show (if c = wFun then _ else _) = _; rw [if_pos hc]
      have hnames : namesOf m.p (c :: n :: k :: e :: b) = (m.p.funs.map fun f => f.name) ++ [n] := by show _ ++ (if c = wFun then _ else _) = _; rw [if_pos hc]
      have hars : arsOf m.p (c :: n :: k :: e :: b) = (m.p.funs.map fun f => f.arity) ++ [(number k).getD 0] := by show _ ++ (if c = wFun then _ else _) = _; rw [if_pos hc, hmany]
      have hhead : ((c :: n :: k :: e :: b).head? = some wFun) = True := by simp [hc]
      simp only [if_pos hc]
      rw [hmany, hnames, hars]
      unfold tooP
      simp only [hhead, if_true]
      cases hk : number k with
      | none =>
        have : ([[48], [49], [50], [51]] : List (List Nat)).contains k = false := by
          cases hq : ([[48], [49], [50], [51]] : List (List Nat)).contains k with
          | false => rfl
          | true => obtain ⟨x, hx, _⟩ := (num3 k).mp hq; rw [hk] at hx; cases hx
        rw [this, Bool.and_false]
        rfl
      | some kk =>
        simp only [Option.getD_some]
        by_cases h3 : 3 < kk ∨ e ≠ wIs
        · rw [if_pos h3]
          have : (decide (e = [61]) && ([[48], [49], [50], [51]] : List (List Nat)).contains k) = false := by
            rcases h3 with h3 | h3
            · have : ([[48], [49], [50], [51]] : List (List Nat)).contains k = false := by
                cases hq : ([[48], [49], [50], [51]] : List (List Nat)).contains k with
                | false => rfl
                | true => obtain ⟨x, hx, hl⟩ := (num3 k).mp hq; rw [hk] at hx; cases hx; omega
              rw [this, Bool.and_false]
            · rw [decide_eq_false (by exact h3), Bool.false_and]
          rw [this]
          rfl
        · rw [if_neg h3]
          have h3' : kk ≤ 3 ∧ e = wIs := by
            constructor
            · exact Nat.le_of_not_lt fun z => h3 (.inl z)
            · exact Decidable.byContradiction fun z => h3 (.inr z)
          have : (decide (e = [61]) && ([[48], [49], [50], [51]] : List (List Nat)).contains k) = true := by
            rw [decide_eq_true (by exact h3'.2), (num3 k).mpr ⟨kk, hk, h3'.1⟩]; rfl
          rw [this, if_neg (show ¬ (true = false) by decide)]
          by_cases h2 : isName n = false ∨ takenB m.p n = true
          · rw [if_pos h2]; exact if_pos h2
          · rw [if_neg h2]
            refine (if_neg h2).trans ?_
            cases hmm : b.mapM (tokOf ((m.p.funs.map fun f => f.name) ++ [n]) kk) with
            | none => rfl
            | some t =>
              simp only
              by_cases h4 : oneFrom ((m.p.funs.map fun f => f.arity) ++ [kk]) 1 t = false
              · rw [if_pos h4, if_pos h4]
              · rw [if_neg h4, if_neg h4]
                have fl := G.fl
                by_cases h5 : 8 ≤ m.p.funs.length ∨ 30 < (m.p.funs.map fun f => f.body.length).sum + t.length
                · rw [if_pos h5, if_pos]
                  rw [Bool.or_eq_true, decide_eq_true_eq, decide_eq_true_eq]
                  rcases h5 with h5 | h5
                  · exact .inl (by omega)
                  · exact .inr h5
                · rw [if_neg h5, if_neg]
                  · rfl
                  · rw [Bool.or_eq_true, decide_eq_true_eq, decide_eq_true_eq]
                    rintro (z | z)
                    · exact h5 (.inl (by omega))
                    · exact h5 (.inr z)
    · have hmany : manyOf (c :: n :: k :: e :: b) = k.length := by show (if c = wFun then _ else _) = _; rw [if_neg hc]
      have hnames : namesOf m.p (c :: n :: k :: e :: b) = (m.p.funs.map fun f => f.name) := by show _ ++ (if c = wFun then _ else _) = _; rw [if_neg hc, List.append_nil]
      have hars : arsOf m.p (c :: n :: k :: e :: b) = (m.p.funs.map fun f => f.arity) := by show _ ++ (if c = wFun then _ else _) = _; rw [if_neg hc, List.append_nil]
      have hhead : ((c :: n :: k :: e :: b).head? = some wFun) = False := by simp [hc]
      simp only [if_neg hc]
      rw [hmany, hnames, hars]
      unfold tooP
      simp only [hhead, if_false]
      by_cases ht : c = wTest
      · rw [if_pos ht, decide_eq_true ht, Bool.true_and, mapM_sh]
        have hlen : (shOf k).length = k.length := by unfold shOf; rw [List.length_map]
        by_cases ha : (k.all fun c => (shapeOf c).isSome) = true
        · rw [if_pos ha]
          simp only
          by_cases h3 : shOf k = [] ∨ 2 < (shOf k).length ∨ e ≠ wIs
          · rw [if_pos h3]
            have : (decide (e = [61]) && areShB k) = false := by
              unfold areShB
              rw [ha, Bool.and_true]
              rcases h3 with h3 | h3 | h3
              · have : k.length = 0 := by rw [← hlen, h3]; rfl
                rw [this]; simp
              · rw [hlen] at h3
                have n1 : ¬ k.length = 1 := fun z => by rw [z] at h3; omega
                have n2 : ¬ k.length = 2 := fun z => by rw [z] at h3; omega
                have e1 : decide (k.length = 1) = false := decide_eq_false n1
                have e2 : decide (k.length = 2) = false := decide_eq_false n2
                show (decide (e = [61]) && (decide (k.length = 1) || decide (k.length = 2))) = false
                rw [e1, e2]; simp
              · rw [decide_eq_false (by exact h3)]; simp
            rw [this]
            rfl
          · rw [if_neg h3]
            have e1 : shOf k ≠ [] := fun z => h3 (.inl z)
            have e2 : ¬ 2 < (shOf k).length := fun z => h3 (.inr (.inl z))
            have e3 : e = wIs := Decidable.byContradiction fun z => h3 (.inr (.inr z))
            have e4 : k.length = 1 ∨ k.length = 2 := by
              rw [← hlen]
              have : 0 < (shOf k).length := List.length_pos_iff.mpr e1
              generalize (shOf k).length = q at e2 this
              show q = 1 ∨ q = 2
              omega
            have : (decide (e = [61]) && areShB k) = true := by
              unfold areShB
              rw [ha, Bool.and_true, decide_eq_true (by exact e3), Bool.true_and, Bool.or_eq_true, decide_eq_true_eq, decide_eq_true_eq]
              exact e4
            rw [this, if_neg (show ¬ (true = false) by decide), hlen]
            by_cases h2 : isName n = false ∨ takenB m.p n = true
            · rw [if_pos h2]; exact if_pos h2
            · rw [if_neg h2]
              refine (if_neg h2).trans ?_
              cases hmm : b.mapM (tokOf (m.p.funs.map fun f => f.name) k.length) with
              | none => rfl
              | some t =>
                simp only
                by_cases h4 : oneFrom (m.p.funs.map fun f => f.arity) 1 t = false
                · rw [if_pos h4, if_pos h4]
                · rw [if_neg h4, if_neg h4]
                  have tn := G.tn
                  by_cases h5 : 4 ≤ m.p.tests.length ∨ 20 < t.length
                  · rw [if_pos h5, if_pos]
                    rw [Bool.or_eq_true, decide_eq_true_eq, decide_eq_true_eq]
                    rcases h5 with h5 | h5
                    · exact .inl (by omega)
                    · exact .inr h5
                  · rw [if_neg h5, if_neg]
                    · rfl
                    · rw [Bool.or_eq_true, decide_eq_true_eq, decide_eq_true_eq]
                      rintro (z | z)
                      · exact h5 (.inl (by omega))
                      · exact h5 (.inr z)
        · rw [if_neg ha]
          have : (decide (e = [61]) && areShB k) = false := by
            unfold areShB
            have : (k.all fun c => (shapeOf c).isSome) = false := by simpa using ha
            rw [this, Bool.and_false, Bool.and_false]
          rw [this]
          rfl
      · rw [if_neg ht, decide_eq_false ht, Bool.false_and, Bool.and_false]
        rfl
theorem row_good {m m' : MP} (G : Good m) {ws : List Bytes} (h : rowP m ws = .ok m') : Good m' := by
  unfold rowP at h
  split at h
  · cases h
  · rename_i h1
    split at h
    · cases h
    · rename_i h2
      split at h
      · cases h
      · rename_i t hm
        split at h
        · cases h
        · rename_i h4
          split at h
          · cases h
          · rename_i h5
            cases h
            have h1 : isRowB ws = true := by simpa using h1
            have h4 : oneFrom (arsOf m.p ws) 1 t = true := by simpa using h4
            have hn : isName (ws.getD 1 []) = true := by
              cases hq : isName (ws.getD 1 []) with
              | true => rfl
              | false => exact absurd (.inl hq) h2
            have htk : takenB m.p (ws.getD 1 []) = false := by
              cases hq : takenB m.p (ws.getD 1 []) with
              | false => rfl
              | true => exact absurd (.inr hq) h2
            match ws with
            | [] => cases h1
            | [_] => cases h1
            | [_, _] => cases h1
            | [_, _, _] => cases h1
            | c :: n :: k :: e :: b =>
              have erow : (decide (e = [61]) && (if c = wFun then ([[48], [49], [50], [51]] : List (List Nat)).contains k else decide (c = wTest) && areShB k)) = true := h1
              rw [Bool.and_eq_true] at erow
              by_cases hc : c = wFun
              · rw [if_pos hc] at erow
                obtain ⟨kk, hk, h3⟩ := (num3 k).mp erow.2
                have hmany : manyOf (c :: n :: k :: e :: b) = kk := by show (if c = wFun then _ else _) = _; rw [if_pos hc, hk]; rfl
                have hnames : namesOf m.p (c :: n :: k :: e :: b) = (m.p.funs.map fun f => f.name) ++ [n] := by show _ ++ (if c = wFun then _ else _) = _; rw [if_pos hc]
                have hars : arsOf m.p (c :: n :: k :: e :: b) = (m.p.funs.map fun f => f.arity) ++ [kk] := by show _ ++ (if c = wFun then _ else _) = _; rw [if_pos hc, hmany]
                have hhead : (c :: n :: k :: e :: b).head? = some wFun := by simp [hc]
                rw [if_pos hhead]
                rw [hmany, hnames] at hm
                rw [hars] at h4
                unfold tooP at h5
                rw [if_pos hhead, Bool.or_eq_true, decide_eq_true_eq, decide_eq_true_eq] at h5
                have fl := G.fl
                rw [hmany]
                exact good_fun G h3 hn htk hm h4 (by omega) (by omega) (by rw [← hc]; rfl) rfl
              · rw [if_neg hc, Bool.and_eq_true] at erow
                have ht := of_decide_eq_true erow.2.1
                have hsh := erow.2.2
                unfold areShB at hsh
                rw [Bool.and_eq_true, Bool.or_eq_true, decide_eq_true_eq, decide_eq_true_eq] at hsh
                have hmany : manyOf (c :: n :: k :: e :: b) = k.length := by show (if c = wFun then _ else _) = _; rw [if_neg hc]
                have hnames : namesOf m.p (c :: n :: k :: e :: b) = (m.p.funs.map fun f => f.name) := by show _ ++ (if c = wFun then _ else _) = _; rw [if_neg hc, List.append_nil]
                have hars : arsOf m.p (c :: n :: k :: e :: b) = (m.p.funs.map fun f => f.arity) := by show _ ++ (if c = wFun then _ else _) = _; rw [if_neg hc, List.append_nil]
                have hhead : ¬ (c :: n :: k :: e :: b).head? = some wFun := by simp [hc]
                rw [if_neg hhead]
                rw [hmany, hnames] at hm
                rw [hars] at h4
                unfold tooP at h5
                rw [if_neg hhead, Bool.or_eq_true, decide_eq_true_eq, decide_eq_true_eq] at h5
                have tn := G.tn
                have hl2 : (shOf k).length = k.length := by unfold shOf; rw [List.length_map]
                show Good (m.addTest ⟨n, shOf k, t, c :: n :: k :: e :: b⟩)
                have hm : b.mapM (tokOf (m.p.funs.map fun f => f.name) k.length) = some t := hm
                refine good_test G (by rw [hl2]; exact hsh.1) (sh_lt k) (by rw [hl2]; exact hm) h4 (by omega) (by omega) (by rw [← ht]; rfl)
end Pf
namespace Pf
open Ty01
/-- the sign that a number stands for -/
def sgn (c : Nat) : Nat := if c = 10 then 10 else if c = 32 then 32 else if c = 61 then 61 else if 48 ≤ c ∧ c ≤ 57 then c else if 97 ≤ c ∧ c ≤ 122 then c else 63
/-! ### the text, read row by row -/
def readP : Nat → MP → List (List Bytes) → Except (Nat × Nat) MP
  | _, m, [] => .ok m
  | i, m, ws :: l => if ws = [] then readP (i + 1) m l else match rowP m ws with
    | .error e => .error (i, e)
    | .ok m' => readP (i + 1) m' l
theorem readP_cons (i : Nat) (m : MP) (ws : List Bytes) (l : List (List Bytes)) : readP i m (ws :: l) = if ws = [] then readP (i + 1) m l else match rowP m ws with
    | .error e => .error (i, e)
    | .ok m' => readP (i + 1) m' l := rfl
theorem readP_is : ∀ (l : List Bytes) (i : Nat) (m : MP), Good m → programFrom i m.p l = (match readP i m (l.map words) with
    | .error e => .error e
    | .ok m' => .ok m'.p) ∧ ∀ m', readP i m (l.map words) = .ok m' → Good m'
  | [], i, m, G => ⟨rfl, fun m' h => by cases h; exact G⟩
  | w :: l, i, m, G => by
    rw [List.map_cons, readP_cons]
    unfold programFrom
    rw [row_is G w]
    by_cases hw : words w = []
    · rw [if_pos hw, if_pos hw]
      exact readP_is l (i + 1) m G
    · rw [if_neg hw, if_neg hw]
      cases hr : rowP m (words w) with
      | error e => exact ⟨rfl, fun m' h => by cases h⟩
      | ok m1 => exact readP_is l (i + 1) m1 (row_good G hr)
/-! ### signs that mean nothing -/
def Cln (y : Bytes) : Prop := ∀ c ∈ y, c ≠ 63 ∧ sgn c = c
abbrev sg (x : Bytes) : Bytes := x.map sgn
theorem sgn_inv {c d : Nat} (h : sgn c = d) (hd : d ≠ 63) : c = d := by
  unfold sgn at h
  split at h
  · omega
  · split at h
    · omega
    · split at h
      · omega
      · split at h
        · omega
        · split at h
          · omega
          · omega
theorem sg_cln : ∀ {x : Bytes}, Cln x → sg x = x
  | [], _ => rfl
  | c :: x, h => by
    show sgn c :: sg x = c :: x
    rw [(h c (List.mem_cons_self ..)).2, sg_cln fun d hd => h d (List.mem_cons_of_mem _ hd)]
theorem sg_of : ∀ {x y : Bytes}, Cln y → sg x = y → x = y
  | [], y, _, h => h
  | c :: x, [], _, h => by cases h
  | c :: x, d :: y, hy, h => by
    have h : sgn c :: sg x = d :: y := h
    injection h with h1 h2
    rw [sgn_inv h1 (hy d (List.mem_cons_self ..)).1, sg_of (fun e he => hy e (List.mem_cons_of_mem _ he)) h2]
theorem sg_eq {x y : Bytes} (h : Cln y) : (sg x = y) = (x = y) := propext ⟨sg_of h, fun e => by rw [e]; exact sg_cln h⟩
instance (y : Bytes) : Decidable (Cln y) := inferInstanceAs (Decidable (∀ c ∈ y, c ≠ 63 ∧ sgn c = c))
theorem contains_sg {L : List Bytes} (h : ∀ y ∈ L, Cln y) (x : Bytes) : L.contains (sg x) = L.contains x := by
  rw [Bool.eq_iff_iff, List.contains_iff_mem, List.contains_iff_mem]
  constructor
  · intro hm
    have := sg_of (h _ hm) rfl
    rw [this]
    exact hm
  · intro hm
    rw [sg_cln (h _ hm)]
    exact hm
theorem shape_sg (c : Nat) : shapeOf (sgn c) = shapeOf c := by
  have h : ∀ d, d ≠ 63 → sgn d = d → (sgn c = d) = (c = d) := fun d h1 h2 => propext ⟨fun e => sgn_inv e h1, fun e => by rw [e]; exact h2⟩
  unfold shapeOf
  simp only [h 110 (by decide) (by decide), h 108 (by decide) (by decide), h 98 (by decide) (by decide)]
theorem all_sg {p : Nat → Bool} (h : ∀ c, p (sgn c) = p c) (x : Bytes) : (sg x).all p = x.all p := by
  rw [List.all_map]
  congr 1
  funext c
  exact h c
theorem rng_sg (lo hi : Nat) (h : ∀ c, lo ≤ c → c ≤ hi → c ≠ 63 ∧ sgn c = c) (c : Nat) : (decide (lo ≤ sgn c) && decide (sgn c ≤ hi)) = (decide (lo ≤ c) && decide (c ≤ hi)) := by
  rw [Bool.eq_iff_iff]
  simp only [Bool.and_eq_true, decide_eq_true_eq]
  constructor
  · rintro ⟨h1, h2⟩
    obtain ⟨h3, h4⟩ := h (sgn c) h1 h2
    have := sgn_inv (c := c) rfl h3
    rw [this]
    exact ⟨h1, h2⟩
  · rintro ⟨h1, h2⟩
    rw [(h c h1 h2).2]
    exact ⟨h1, h2⟩
theorem dig_in (c : Nat) (h1 : 48 ≤ c) (h2 : c ≤ 57) : c ≠ 63 ∧ sgn c = c := by
  refine ⟨by omega, ?_⟩
  unfold sgn
  rw [if_neg (by omega), if_neg (by omega), if_neg (by omega), if_pos ⟨h1, h2⟩]
theorem low_in (c : Nat) (h1 : 97 ≤ c) (h2 : c ≤ 122) : c ≠ 63 ∧ sgn c = c := by
  refine ⟨by omega, ?_⟩
  unfold sgn
  rw [if_neg (by omega), if_neg (by omega), if_neg (by omega), if_neg (by omega), if_pos ⟨h1, h2⟩]
theorem dig_sg (c : Nat) : digit (sgn c) = digit c := rng_sg 48 57 dig_in c
theorem cln_dig {x : Bytes} (h : x.all digit = true) : Cln x := fun c hc => by
  have := List.all_eq_true.mp h c hc
  unfold digit at this
  simp only [Bool.and_eq_true, decide_eq_true_eq] at this
  exact dig_in c this.1 this.2
theorem cln_ops : ∀ y ∈ wFun :: wTest :: opWords, Cln y := by decide
theorem cln_nums : ∀ y ∈ ([[48], [49], [50], [51]] : List Bytes), Cln y := by decide
theorem isName_sg (x : Bytes) : isName (sg x) = isName x := by
  unfold isName
  rw [List.length_map, contains_sg cln_ops, all_sg (p := fun c => decide (97 ≤ c) && decide (c ≤ 122)) (rng_sg 97 122 low_in)]
theorem cln_name {x : Bytes} (h : isName x = true) : Cln x := fun c hc => by
  unfold isName at h
  simp only [Bool.and_eq_true] at h
  have := List.all_eq_true.mp h.2.2.1 c hc
  simp only [Bool.and_eq_true, decide_eq_true_eq] at this
  exact low_in c this.1 this.2
theorem number_sg (x : Bytes) : number (sg x) = number x := by
  cases hd : x.all digit with
  | true => rw [sg_cln (cln_dig hd)]
  | false =>
    have h2 : (sg x).all digit = false := by rw [all_sg dig_sg]; exact hd
    unfold number
    rw [if_pos (.inr (.inr (.inl h2))), if_pos (.inr (.inr (.inl hd)))]
theorem cln_number {x : Bytes} {n : Nat} (h : number x = some n) : Cln x := by
  unfold number at h
  split at h
  · cases h
  · rename_i hn
    refine cln_dig ?_
    cases hd : x.all digit with
    | true => rfl
    | false => exact absurd (.inr (.inr (.inl hd))) hn
theorem find_sg {L : List Bytes} (h : ∀ y ∈ L, Cln y) (x : Bytes) : (L.findIdx? fun n => n == sg x) = L.findIdx? fun n => n == x := by
  induction L with
  | nil => rfl
  | cons y L ih =>
    have : (y == sg x) = (y == x) := by
      rw [Bool.eq_iff_iff, beq_iff_eq, beq_iff_eq]
      constructor
      · intro e; exact (sg_of (h y (List.mem_cons_self ..)) e.symm).symm
      · intro e; rw [← e]; exact (sg_cln (h y (List.mem_cons_self ..))).symm
    rw [List.findIdx?_cons, List.findIdx?_cons, this, ih fun z hz => h z (List.mem_cons_of_mem _ hz)]
theorem tok_sg {names : List Bytes} (h : ∀ y ∈ names, Cln y) (k : Nat) (x : Bytes) : tokOf names k (sg x) = tokOf names k x := by
  unfold tokOf
  rw [number_sg, find_sg (fun y hy => cln_ops y (List.mem_cons_of_mem _ (List.mem_cons_of_mem _ hy))), find_sg h]
  simp only [sg_eq (x := x) (show Cln [97] by decide), sg_eq (x := x) (show Cln [98] by decide), sg_eq (x := x) (show Cln [99] by decide)]
theorem find_mem {L : List Bytes} {x : Bytes} {i : Nat} (h : (L.findIdx? fun n => n == x) = some i) : x ∈ L := by
  obtain ⟨h1, h2, _⟩ := List.findIdx?_eq_some_iff_getElem.mp h
  rw [← eq_of_beq h2]
  exact List.getElem_mem h1
theorem cln_tok {names : List Bytes} (h : ∀ y ∈ names, Cln y) {k : Nat} {x : Bytes} {t : Tok} (e : tokOf names k x = some t) : Cln x := by
  unfold tokOf at e
  split at e
  · rename_i hn; exact cln_number hn
  · split at e
    · rename_i hn; exact cln_ops x (List.mem_cons_of_mem _ (List.mem_cons_of_mem _ (find_mem hn)))
    · split at e
      · rename_i hx; rw [hx.1]; decide
      · split at e
        · rename_i hx; rw [hx.1]; decide
        · split at e
          · rename_i hx; rw [hx.1]; decide
          · cases hf : names.findIdx? fun n => n == x with
            | none => rw [hf] at e; cases e
            | some i => exact h x (find_mem hf)
theorem mapM_tok_sg {names : List Bytes} (h : ∀ y ∈ names, Cln y) (k : Nat) : ∀ b : List Bytes, (b.map sg).mapM (tokOf names k) = b.mapM (tokOf names k)
  | [] => rfl
  | x :: b => by rw [List.map_cons, List.mapM_cons, List.mapM_cons, tok_sg h, mapM_tok_sg h k b]
theorem mapM_cln {names : List Bytes} (h : ∀ y ∈ names, Cln y) {k : Nat} : ∀ {b : List Bytes} {t : List Tok}, b.mapM (tokOf names k) = some t → b.map sg = b
  | [], _, _ => rfl
  | x :: b, t, e => by
    rw [List.mapM_cons] at e
    cases hx : tokOf names k x with
    | none => rw [hx] at e; cases e
    | some tx =>
      rw [hx] at e
      cases hb : b.mapM (tokOf names k) with
      | none => rw [hb] at e; cases e
      | some tb => rw [List.map_cons, sg_cln (cln_tok h hx), mapM_cln h hb]
theorem areSh_sg (x : Bytes) : areShB (sg x) = areShB x := by
  unfold areShB
  rw [List.length_map, all_sg fun c => by rw [shape_sg]]
theorem isRow_sg (ws : List Bytes) : isRowB (ws.map sg) = isRowB ws := by
  match ws with
  | [] => rfl
  | [_] => rfl
  | [_, _] => rfl
  | [_, _, _] => rfl
  | w0 :: n :: z :: e :: r =>
    show (decide (sg e = [61]) && (if sg w0 = wFun then ([[48], [49], [50], [51]] : List Bytes).contains (sg z) else decide (sg w0 = wTest) && areShB (sg z))) = (decide (e = [61]) && (if w0 = wFun then ([[48], [49], [50], [51]] : List Bytes).contains z else decide (w0 = wTest) && areShB z))
    rw [contains_sg cln_nums, areSh_sg]
    simp only [sg_eq (x := e) (show Cln [61] by decide), sg_eq (x := w0) (show Cln wFun by decide), sg_eq (x := w0) (show Cln wTest by decide)]
theorem cln_sh {z : Bytes} (h : (z.all fun c => (shapeOf c).isSome) = true) : Cln z := fun c hc => by
  have := List.all_eq_true.mp h c hc
  unfold shapeOf at this
  split at this
  · rename_i e; rw [e]; decide
  · split at this
    · rename_i e; rw [e]; decide
    · split at this
      · rename_i e; rw [e]; decide
      · cases this
theorem Good.clean {m : MP} (G : Good m) : ∀ y ∈ m.p.funs.map fun f => f.name, Cln y := fun y hy => by
  obtain ⟨f, hf, rfl⟩ := List.mem_map.mp hy
  exact cln_name (G.nm f hf)
theorem rowP_sg {m : MP} (G : Good m) (ws : List Bytes) : rowP m (ws.map sg) = rowP m ws := by
  cases hr : isRowB ws with
  | false =>
    unfold rowP
    rw [isRow_sg, if_pos hr, if_pos hr]
  | true =>
    match ws, hr with
    | w0 :: n :: z :: e :: r, hr =>
      have erow : (decide (e = [61]) && (if w0 = wFun then ([[48], [49], [50], [51]] : List Bytes).contains z else decide (w0 = wTest) && areShB z)) = true := hr
      rw [Bool.and_eq_true, decide_eq_true_eq] at erow
      have c0 : sg w0 = w0 ∧ sg z = z := by
        have e2 := erow.2
        by_cases c : w0 = wFun
        · rw [if_pos c] at e2
          exact ⟨by rw [c]; decide, sg_cln (cln_nums z (List.contains_iff_mem.mp e2))⟩
        · rw [if_neg c, Bool.and_eq_true, decide_eq_true_eq] at e2
          have e3 := e2.2
          unfold areShB at e3
          rw [Bool.and_eq_true] at e3
          exact ⟨by rw [e2.1]; decide, sg_cln (cln_sh e3.2)⟩
      have ce : sg e = e := by rw [erow.1]; decide
      have ews : (w0 :: n :: z :: e :: r).map sg = w0 :: sg n :: z :: e :: r.map sg := by
        rw [List.map_cons, List.map_cons, List.map_cons, List.map_cons, c0.1, c0.2, ce]
      cases hn : isName n with
      | false =>
        have hn' : isName (sg n) = false := by rw [isName_sg]; exact hn
        have h1 : rowP m ((w0 :: n :: z :: e :: r).map sg) = .error 2 := by
          unfold rowP
          rw [isRow_sg, hr, if_neg (by decide), ews]
          exact if_pos (.inl hn')
        have h2 : rowP m (w0 :: n :: z :: e :: r) = .error 2 := by
          unfold rowP
          rw [hr, if_neg (by decide)]
          exact if_pos (.inl hn)
        rw [h1, h2]
      | true =>
        have cn : sg n = n := sg_cln (cln_name hn)
        rw [cn] at ews
        rw [ews]
        have nms : ∀ y ∈ namesOf m.p (w0 :: n :: z :: e :: r), Cln y := by
          show ∀ y ∈ (m.p.funs.map fun f => f.name) ++ (if w0 = wFun then [n] else []), Cln y
          intro y hy
          rcases List.mem_append.mp hy with hy | hy
          · exact G.clean y hy
          · by_cases c : w0 = wFun
            · rw [if_pos c] at hy
              have : y = n := by simpa using hy
              rw [this]
              exact cln_name hn
            · rw [if_neg c] at hy; cases hy
        cases hm : r.mapM (tokOf (namesOf m.p (w0 :: n :: z :: e :: r)) (manyOf (w0 :: n :: z :: e :: r))) with
        | some t => rw [mapM_cln nms hm]
        | none =>
          have h1 : (r.map sg).mapM (tokOf (namesOf m.p (w0 :: n :: z :: e :: r)) (manyOf (w0 :: n :: z :: e :: r))) = none := by rw [mapM_tok_sg nms]; exact hm
          unfold rowP
          have hr1 : isRowB (w0 :: n :: z :: e :: r.map sg) = true := hr
          rw [hr, hr1]
          have g1 : (w0 :: n :: z :: e :: r.map sg).drop 4 = r.map sg := rfl
          have g2 : (w0 :: n :: z :: e :: r).drop 4 = r := rfl
          have g3 : namesOf m.p (w0 :: n :: z :: e :: r.map sg) = namesOf m.p (w0 :: n :: z :: e :: r) := rfl
          have g4 : manyOf (w0 :: n :: z :: e :: r.map sg) = manyOf (w0 :: n :: z :: e :: r) := rfl
          rw [g1, g2, g3, g4, h1, hm]
          rfl
theorem words_sg : ∀ (w r : Bytes), wordsFrom (sg r) (sg w) = (wordsFrom r w).map sg
  | [], r => by
    show (if sg r = [] then [] else [(sg r).reverse]) = (if r = [] then [] else [r.reverse]).map sg
    cases r with
    | nil => rfl
    | cons c r =>
      rw [if_neg (by intro h; cases h), if_neg (by intro h; cases h)]
      show [(sg (c :: r)).reverse] = [sg (c :: r).reverse]
      unfold sg
      rw [List.map_reverse]
  | c :: w, r => by
    show (if sgn c = 32 then (if sg r = [] then wordsFrom [] (sg w) else (sg r).reverse :: wordsFrom [] (sg w)) else wordsFrom (sgn c :: sg r) (sg w)) = (if c = 32 then (if r = [] then wordsFrom [] w else r.reverse :: wordsFrom [] w) else wordsFrom (c :: r) w).map sg
    have e : (sgn c = 32) = (c = 32) := propext ⟨fun h => sgn_inv h (by decide), fun h => by rw [h]; decide⟩
    have i0 := words_sg w []
    have i1 := words_sg w (c :: r)
    by_cases hc : c = 32
    · rw [if_pos (by rw [e]; exact hc), if_pos hc]
      cases r with
      | nil => exact i0
      | cons d r =>
        rw [if_neg (by intro h; cases h), if_neg (by intro h; cases h), List.map_cons, ← i0]
        show (sg (d :: r)).reverse :: _ = sg (d :: r).reverse :: _
        unfold sg
        rw [List.map_reverse]
        rfl
    · rw [if_neg (by rw [e]; exact hc), if_neg hc]
      exact i1
theorem rows_sg : ∀ (w r : Bytes), rowsFrom (sg r) (sg w) = (rowsFrom r w).map sg
  | [], r => by
    show [(sg r).reverse] = [sg r.reverse]
    unfold sg
    rw [List.map_reverse]
  | c :: w, r => by
    show (if sgn c = 10 then (sg r).reverse :: rowsFrom [] (sg w) else rowsFrom (sgn c :: sg r) (sg w)) = (if c = 10 then r.reverse :: rowsFrom [] w else rowsFrom (c :: r) w).map sg
    have e : (sgn c = 10) = (c = 10) := propext ⟨fun h => sgn_inv h (by decide), fun h => by rw [h]; decide⟩
    by_cases hc : c = 10
    · rw [if_pos (by rw [e]; exact hc), if_pos hc, List.map_cons, ← rows_sg w []]
      unfold sg
      rw [List.map_reverse]
      rfl
    · rw [if_neg (by rw [e]; exact hc), if_neg hc]
      exact rows_sg w (c :: r)
theorem readP_sg : ∀ (l : List (List Bytes)) (i : Nat) (m : MP), Good m → readP i m (l.map fun ws => ws.map sg) = readP i m l
  | [], _, _, _ => rfl
  | ws :: l, i, m, G => by
    rw [List.map_cons, readP_cons, readP_cons, rowP_sg G]
    cases ws with
    | nil => exact readP_sg l (i + 1) m G
    | cons w ws =>
      rw [if_neg (by intro h; cases h), if_neg (by intro h; cases h)]
      cases hr : rowP m (w :: ws) with
      | error e => rfl
      | ok m' => exact readP_sg l (i + 1) m' (row_good G hr)
/-- **the text is read as the specification reads it** -/
theorem read_is (ns : Bytes) : read ns = (match readP 0 MP.start ((rows (ns.map sgn)).map words) with
    | .error e => .error e
    | .ok m => .ok m.p) ∧ ∀ m, readP 0 MP.start ((rows (ns.map sgn)).map words) = .ok m → Good m := by
  have e : (rows (ns.map sgn)).map words = ((rows ns).map words).map fun ws => ws.map sg := by
    show (rowsFrom (sg []) (sg ns)).map words = ((rowsFrom [] ns).map words).map _
    rw [rows_sg, List.map_map, List.map_map]
    congr 1
    funext r
    show wordsFrom (sg []) (sg r) = (wordsFrom [] r).map sg
    exact words_sg r []
  rw [e, readP_sg _ _ _ good_start]
  exact readP_is (rows ns) 0 MP.start good_start
end Pf
namespace Pf
open Ty01
/-! ### what only the arities tell -/
theorem skip_map {a : List Nat} : ∀ (l l' : List Tok) (n p : Nat), l.map (arityOf a) = l'.map (arityOf a) → (skip a n l p).1.map (arityOf a) = (skip a n l' p).1.map (arityOf a) ∧ (skip a n l p).2 = (skip a n l' p).2
  | l, l', 0, p, h => by rw [skip_zero, skip_zero]; exact ⟨h, rfl⟩
  | [], [], n + 1, p, h => ⟨rfl, rfl⟩
  | [], _ :: _, n + 1, p, h => by cases h
  | _ :: _, [], n + 1, p, h => by cases h
  | t :: l, t' :: l', n + 1, p, h => by
    rw [List.map_cons, List.map_cons] at h
    injection h with h1 h2
    show (skip a (n + arityOf a t) l (p + 1)).1.map _ = (skip a (n + arityOf a t') l' (p + 1)).1.map _ ∧ (skip a (n + arityOf a t) l (p + 1)).2 = (skip a (n + arityOf a t') l' (p + 1)).2
    rw [h1]
    exact skip_map l l' _ _ h2
theorem starts_map {a : List Nat} : ∀ (k : Nat) (l l' : List Tok) (p : Nat), l.map (arityOf a) = l'.map (arityOf a) → starts a k l p = starts a k l' p
  | 0, _, _, _, _ => rfl
  | k + 1, l, l', p, h => by
    obtain ⟨h1, h2⟩ := skip_map l l' 1 p h
    show p :: starts a k (skip a 1 l p).1 (skip a 1 l p).2 = p :: starts a k (skip a 1 l' p).1 (skip a 1 l' p).2
    rw [h2, starts_map k _ _ _ h1]
theorem partsOf_map {a : List Nat} {ts ts' : List Tok} (h : ts.map (arityOf a) = ts'.map (arityOf a)) (s i : Nat) {t t' : Tok} (e : arityOf a t = arityOf a t') : partsOf a s ts i t = partsOf a s ts' i t' := by
  unfold partsOf
  rw [e, starts_map _ (ts.drop (i + 1)) (ts'.drop (i + 1)) _ (by rw [List.map_drop, List.map_drop, h])]
theorem oneFrom_map {a : List Nat} : ∀ (l l' : List Tok) (n : Nat), l.map (arityOf a) = l'.map (arityOf a) → oneFrom a n l = oneFrom a n l'
  | [], [], _, _ => rfl
  | [], _ :: _, _, h => by cases h
  | _ :: _, [], _, h => by cases h
  | t :: l, t' :: l', 0, h => rfl
  | t :: l, t' :: l', n + 1, h => by
    rw [List.map_cons, List.map_cons] at h
    injection h with h1 h2
    show oneFrom a (n + arityOf a t) l = oneFrom a (n + arityOf a t') l'
    rw [h1]
    exact oneFrom_map l l' _ h2
theorem spoil_op {o : Nat} {k : Nat} {t : Tok} (h : spoil k (.op o) = some t) : ∃ o', t = .op o' ∧ o' < 12 ∧ opArity.getD o' 0 = opArity.getD o 0 := by
  unfold spoil at h
  simp only at h
  split at h
  · rename_i e; cases h; subst e; exact ⟨1, rfl, by decide, rfl⟩
  · split at h
    · rename_i e; cases h; rcases e with rfl | rfl
      · exact ⟨0, rfl, by decide, rfl⟩
      · exact ⟨0, rfl, by decide, rfl⟩
    · split at h
      · rename_i e; cases h; subst e; exact ⟨4, rfl, by decide, rfl⟩
      · split at h
        · rename_i e; cases h; subst e; exact ⟨3, rfl, by decide, rfl⟩
        · split at h
          · rename_i e; cases h; subst e; exact ⟨11, rfl, by decide, rfl⟩
          · split at h
            · rename_i e; cases h; subst e; exact ⟨5, rfl, by decide, rfl⟩
            · cases h
theorem spoil_ar {k : Nat} {t t' : Tok} (h : spoil k t = some t') (a : List Nat) : arityOf a t' = arityOf a t := by
  cases t with
  | num n => cases h; rfl
  | arg i =>
    unfold spoil at h
    simp only at h
    split at h
    · cases h; rfl
    · cases h
  | op o => obtain ⟨o', rfl, _, e⟩ := spoil_op h; exact e
  | call g => cases h
theorem spoil_tok {k fn : Nat} {t t' : Tok} (h : spoil k t = some t') : Toks k fn [t'] := by
  cases t with
  | num n =>
    cases h
    refine ⟨(fun i h => by simp at h), (fun i h => by simp at h), (fun i h => ?_), (fun i h => by simp at h)⟩
    have : i = (n + 1) % 100 := by simpa using h
    rw [this]
    exact Nat.mod_lt _ (by decide)
  | arg i =>
    unfold spoil at h
    simp only at h
    split at h
    · cases h
      refine ⟨(fun j h => ?_), (fun i h => by simp at h), (fun i h => by simp at h), (fun i h => by simp at h)⟩
      have : j = (i + 1) % k := by simpa using h
      rw [this]
      exact Nat.mod_lt _ (by omega)
    · cases h
  | op o =>
    obtain ⟨o', rfl, hlt, e⟩ := spoil_op h
    refine ⟨(fun i h => by simp at h), (fun i h => by simp at h), (fun i h => by simp at h), (fun i h => ?_)⟩
    have : i = o' := by simpa using h
    rw [this]
    exact hlt
  | call g => cases h
/-- the program, spoilt at the j-th word of the g-th function -/
def spAt (p : Program) (g j : Nat) (h : Ty01.Fun) (t : Tok) : Program := { p with funs := p.funs.set g { h with body := h.body.set j t } }
theorem set_map {α β : Type} {f : α → β} : ∀ {l : List α} {g : Nat} {x y : α}, l[g]? = some x → f y = f x → (l.set g y).map f = l.map f
  | [], _, _, _, h, _ => by cases h
  | z :: l, 0, x, y, h, e => by cases h; rw [List.set_cons_zero, List.map_cons, List.map_cons, e]
  | z :: l, g + 1, x, y, h, e => by rw [List.set_cons_succ, List.map_cons, List.map_cons, set_map (l := l) h e]
section
variable {p : Program} {C : List Wd} {fst : List Nat} {g j s0 : Nat} {h : Ty01.Fun} {tk t' : Tok}
theorem sp_ar (hg : p.funs[g]? = some h) : arities (spAt p g j h t') = arities p := set_map hg rfl
theorem sp_body (hb : h.body[j]? = some tk) (hs : spoil h.arity tk = some t') (a : List Nat) : (h.body.set j t').map (arityOf a) = h.body.map (arityOf a) := set_map hb (spoil_ar hs a)
/-- a function of the spoilt program -/
theorem sp_fun (hg : p.funs[g]? = some h) {g1 : Nat} {h1 : Ty01.Fun} (e : (spAt p g j h t').funs[g1]? = some h1) : (g1 = g ∧ h1 = { h with body := h.body.set j t' }) ∨ (g1 ≠ g ∧ p.funs[g1]? = some h1) := by
  have e : (p.funs.set g { h with body := h.body.set j t' })[g1]? = some h1 := e
  by_cases c : g1 = g
  · subst c
    rw [List.getElem?_set_self (lt_of_get hg)] at e
    cases e
    exact .inl ⟨rfl, rfl⟩
  · rw [List.getElem?_set_ne (fun z => c z.symm)] at e
    exact .inr ⟨c, e⟩
/-- its length is the same -/
theorem sp_len (hg : p.funs[g]? = some h) {g1 : Nat} {h1 : Ty01.Fun} (e : (spAt p g j h t').funs[g1]? = some h1) : ∃ h2, p.funs[g1]? = some h2 ∧ h2.body.length = h1.body.length ∧ h2.arity = h1.arity := by
  rcases sp_fun hg e with ⟨rfl, rfl⟩ | ⟨_, e⟩
  · exact ⟨h, hg, by show _ = (h.body.set j t').length; rw [List.length_set], rfl⟩
  · exact ⟨h1, e, rfl, rfl⟩
def spWd (C : List Wd) (q : Nat) (t' : Tok) : List Wd := match C[q]? with
  | some w => C.set q ⟨t', w.many, w.parts⟩
  | none => C
theorem spWd_eq {w : Wd} {q : Nat} (e : C[q]? = some w) : spWd C q t' = C.set q ⟨t', w.many, w.parts⟩ := by unfold spWd; rw [e]
theorem sp_in (F : FunsIn p C fst) (ok : CodeOk C) (hg : p.funs[g]? = some h) (hf : fst[g]? = some s0) (hb : h.body[j]? = some tk) (hs : spoil h.arity tk = some t') : FunsIn (spAt p g j h t') (spWd C (s0 + j) t') fst ∧ CodeOk (spWd C (s0 + j) t') := by
  have hw := F.lies g h s0 hg hf j tk hb
  rw [spWd_eq hw]
  have hj := lt_of_get hb
  constructor
  · refine ⟨?_, ?_, ?_, ?_, ?_⟩
    · show _ = (p.funs.set g _).length
      rw [List.length_set]
      exact F.len
    · intro g1 h1 s1 e1 e2
      rw [sp_ar hg]
      rcases sp_fun hg e1 with ⟨rfl, rfl⟩ | ⟨c, e1⟩
      · rw [hf] at e2
        cases e2
        intro i t1 ht1
        have ht1 : (h.body.set j t')[i]? = some t1 := ht1
        by_cases ci : i = j
        · subst ci
          rw [List.getElem?_set_self hj] at ht1
          cases ht1
          rw [List.getElem?_set_self (lt_of_get hw), spoil_ar hs]
          show some (Wd.mk _ _ _) = some (Wd.mk _ _ _)
          rw [partsOf_map (sp_body hb hs (arities p)) s0 i (spoil_ar hs (arities p))]
        · rw [List.getElem?_set_ne (fun z => ci z.symm)] at ht1
          rw [List.getElem?_set_ne (by omega), F.lies g1 h s0 hg hf i t1 ht1]
          show some (Wd.mk _ _ _) = some (Wd.mk _ _ _)
          rw [partsOf_map (sp_body hb hs (arities p)) s0 i rfl]
      · intro i t1 ht1
        rw [List.getElem?_set_ne, F.lies g1 h1 s1 e1 e2 i t1 ht1]
        intro z
        exact c (F.apart g1 h1 s1 g h s0 e1 e2 hg hf i j (lt_of_get ht1) hj z.symm).1
    · intro g1 h1 e1
      rw [sp_ar hg]
      rcases sp_fun hg e1 with ⟨rfl, rfl⟩ | ⟨c, e1⟩
      · show oneFrom _ 1 (h.body.set j t') = true
        rw [oneFrom_map _ _ 1 (sp_body hb hs (arities p))]
        exact F.one g1 h hg
      · exact F.one g1 h1 e1
    · intro g1 h1 e1
      have el : (spAt p g j h t').funs.length = p.funs.length := List.length_set ..
      rw [el]
      rcases sp_fun hg e1 with ⟨rfl, rfl⟩ | ⟨c, e1⟩
      · have T := F.toks g1 h hg
        have S := spoil_tok (fn := p.funs.length) hs
        have mem : ∀ x, x ∈ h.body.set j t' → x ∈ h.body ∨ x ∈ [t'] := fun x hx => by
          rcases List.mem_or_eq_of_mem_set hx with z | z
          · exact .inl z
          · exact .inr (by rw [z]; exact List.mem_singleton.mpr rfl)
        exact ⟨fun i hi => (mem _ hi).elim (T.arg i) (S.arg i), fun i hi => (mem _ hi).elim (T.call i) (S.call i), fun i hi => (mem _ hi).elim (T.num i) (S.num i), fun i hi => (mem _ hi).elim (T.op i) (S.op i)⟩
      · exact F.toks g1 h1 e1
    · intro g1 h1 s1 g2 h2 s2 e1 f1 e2 f2 j1 j2 l1 l2 ee
      obtain ⟨k1, a1, b1, _⟩ := sp_len hg e1
      obtain ⟨k2, a2, b2, _⟩ := sp_len hg e2
      exact F.apart g1 k1 s1 g2 k2 s2 a1 f1 a2 f2 j1 j2 (by omega) (by omega) ee
  · have wm : (⟨tk, arityOf (arities p) tk, partsOf (arities p) s0 h.body j tk⟩ : Wd) ∈ C := List.mem_of_getElem? hw
    refine ⟨fun w hwm => ?_, fun w hwm o ho => ?_⟩
    · rcases List.mem_or_eq_of_mem_set hwm with z | z
      · exact ok.parts w z
      · rw [z]
        have := ok.parts _ wm
        exact this
    · rcases List.mem_or_eq_of_mem_set hwm with z | z
      · exact ok.op w z o ho
      · rw [z] at ho ⊢
        have ho : t' = .op o := ho
        subst ho
        cases tk with
        | op o0 =>
          obtain ⟨o', e1, e2, e3⟩ := spoil_op hs
          cases e1
          exact ⟨e2, by rw [e3]; exact (ok.op _ wm o0 rfl).2⟩
        | num n => cases hs
        | arg i =>
          unfold spoil at hs
          simp only at hs
          split at hs <;> cases hs
        | call c => cases hs
theorem TestIn.spoilt {t : Test} {s : Nat} (I : TestIn p C fst t s) (hg : p.funs[g]? = some h) (hf : fst[g]? = some s0) (hb : h.body[j]? = some tk) (hs : spoil h.arity tk = some t') : TestIn (spAt p g j h t') (spWd C (s0 + j) t') fst t s := by
  obtain ⟨F, ok⟩ := sp_in I.F I.ok hg hf hb hs
  have hw := I.F.lies g h s0 hg hf j tk hb
  refine ⟨F, ok, ?_, ?_, ?_, ?_, I.len, I.sh⟩
  · rw [sp_ar hg, spWd_eq hw]
    intro i t1 ht1
    rw [List.getElem?_set_ne, I.lies i t1 ht1]
    intro z
    exact I.far i (lt_of_get ht1) g h s0 j hg hf (lt_of_get hb) z.symm
  · rw [sp_ar hg]; exact I.one
  · have el : (spAt p g j h t').funs.length = p.funs.length := List.length_set ..
    rw [el]; exact I.toks
  · intro q hq g1 h1 s1 j1 e1 f1 l1
    obtain ⟨k1, a1, b1, _⟩ := sp_len hg e1
    exact I.far q hq g1 k1 s1 j1 a1 f1 (by omega)
end
/-! ### where a place is -/
theorem spoil_where : ∀ (l : List Ty01.Fun) (f i : Nat), (whereFrom f i l = none → spoilFrom i l = none ∧ (l.map fun h => h.body.length).sum ≤ i) ∧ ∀ g j, whereFrom f i l = some (g, j) → f ≤ g ∧ ∃ h, l[g - f]? = some h ∧ j < h.body.length ∧ i < (l.map fun h => h.body.length).sum ∧ spoilFrom i l = ((h.body[j]?).bind (spoil h.arity)).map fun t => l.set (g - f) { h with body := h.body.set j t }
  | [], f, i => ⟨fun _ => ⟨rfl, Nat.zero_le _⟩, fun g j e => by cases e⟩
  | x :: l, f, i => by
    unfold whereFrom spoilFrom
    rw [List.map_cons, List.sum_cons]
    by_cases c : i < x.body.length
    · rw [if_pos c, if_pos c]
      refine ⟨(fun e => by cases e), fun g j e => ?_⟩
      cases e
      refine ⟨Nat.le_refl _, x, by rw [Nat.sub_self]; rfl, c, by omega, ?_⟩
      rw [Nat.sub_self]
      rfl
    · rw [if_neg c, if_neg c]
      obtain ⟨i1, i2⟩ := spoil_where l (f + 1) (i - x.body.length)
      refine ⟨fun e => ?_, fun g j e => ?_⟩
      · obtain ⟨z1, z2⟩ := i1 e
        exact ⟨by rw [z1]; rfl, by omega⟩
      · obtain ⟨h1, h, h2, h3, h4, h5⟩ := i2 g j e
        have eg : g - f = (g - (f + 1)) + 1 := by omega
        refine ⟨by omega, h, by rw [eg]; exact h2, h3, by omega, ?_⟩
        rw [h5, eg]
        cases (h.body[j]?).bind (spoil h.arity) with
        | none => rfl
        | some t => rfl
end Pf
namespace Pf
open Ty01
def bodyOf (p : Program) (g : Nat) : List Tok := (p.funs[g]?).elim [] fun x => x.body
def addN (a : List Nat) (g : Nat) : List Nat := if a.contains g = true then a else a ++ [g]
theorem mem_addN {a : List Nat} {g x : Nat} : x ∈ addN a g ↔ x ∈ a ∨ x = g := by
  unfold addN
  split
  · rename_i h
    have hg : g ∈ a := by simpa using h
    exact ⟨.inl, fun h => h.elim id fun e => e ▸ hg⟩
  · simp
theorem mem_addNs {x : Nat} : ∀ {l a : List Nat}, x ∈ l.foldl addN a ↔ x ∈ a ∨ x ∈ l
  | [], a => by simp
  | g :: l, a => by
    rw [List.foldl_cons, mem_addNs (l := l), mem_addN, List.mem_cons, or_assoc]
theorem mem_addNss {x : Nat} {c : Nat → List Nat} : ∀ {l a : List Nat}, x ∈ l.foldl (fun a f => (c f).foldl addN a) a ↔ x ∈ a ∨ ∃ f ∈ l, x ∈ c f
  | [], a => by simp
  | g :: l, a => by
    rw [List.foldl_cons, mem_addNss (l := l), mem_addNs, or_assoc]
    simp
theorem mem_once {x : Nat} {l : List Nat} : x ∈ once l ↔ x ∈ l := by
  have : once l = l.foldl addN [] := rfl
  rw [this, mem_addNs]; simp
def usesStep (p : Program) (l : List Nat) : List Nat := l.foldl (fun a f => (calls (bodyOf p f)).foldl addN a) l
theorem uses_succ (p : Program) (n : Nat) (l : List Nat) : uses p (n + 1) l = uses p n (usesStep p l) := rfl
theorem mem_usesStep {p : Program} {l : List Nat} {x : Nat} : x ∈ usesStep p l ↔ x ∈ l ∨ ∃ f ∈ l, x ∈ calls (bodyOf p f) := mem_addNss
inductive Path (p : Program) : Nat → Nat → Prop
  | refl (g : Nat) : Path p g g
  | head {g g' h : Nat} (c : g' ∈ calls (bodyOf p g)) (r : Path p g' h) : Path p g h
theorem Path.snoc {p : Program} {g h x : Nat} (r : Path p g h) (c : x ∈ calls (bodyOf p h)) : Path p g x := by
  induction r with
  | refl g => exact .head c (.refl _)
  | head c' _ ih => exact .head c' (ih c)
theorem uses_mono {p : Program} : ∀ {n : Nat} {l : List Nat} {x : Nat}, x ∈ l → x ∈ uses p n l
  | 0, _, _, h => h
  | n + 1, l, x, h => by
    rw [uses_succ]
    exact uses_mono (mem_usesStep.mpr (.inl h))
theorem uses_sub {p : Program} : ∀ {n : Nat} {l : List Nat} {x : Nat}, x ∈ uses p n l → ∃ g ∈ l, Path p g x
  | 0, l, x, h => ⟨x, h, .refl _⟩
  | n + 1, l, x, h => by
    rw [uses_succ] at h
    obtain ⟨g, hg, r⟩ := uses_sub h
    rcases mem_usesStep.mp hg with h1 | ⟨f, h1, h2⟩
    · exact ⟨g, h1, r⟩
    · exact ⟨f, h1, .head h2 r⟩
theorem uses_all {p : Program} (hd : ∀ g x, x ∈ calls (bodyOf p g) → x ≤ g) : ∀ {n : Nat} {l : List Nat} {g h : Nat}, g ∈ l → g ≤ n → Path p g h → h ∈ uses p n l := by
  intro n
  induction n with
  | zero =>
    intro l g h hg hn r
    have : ∀ {g h}, Path p g h → g = 0 → h = 0 := by
      intro g h r
      induction r with
      | refl g => exact id
      | head c _ ih => intro e; exact ih (by have := hd _ _ c; omega)
    have hg0 : g = 0 := by omega
    rw [this r hg0]
    rw [hg0] at hg
    exact hg
  | succ n ih =>
    intro l g h hg hn r
    induction r with
    | refl g => exact uses_mono hg
    | @head g g' h c r ih2 =>
      have hle := hd _ _ c
      by_cases e : g' = g
      · subst e; exact ih2 hg hn
      · rw [uses_succ]
        exact ih (mem_usesStep.mpr (.inr ⟨g, hg, c⟩)) (by omega) r
/-! ### a row's words and its calls -/
theorem isName_tok {names : List Bytes} {k : Nat} {w : Bytes} (h : isName w = true) : tokOf names k w = (names.findIdx? fun n => n == w).map .call := by
  unfold isName at h
  simp only [Bool.and_eq_true, decide_eq_true_eq, Bool.not_eq_true'] at h
  obtain ⟨h1, h2, h3, h4⟩ := h
  match w, h1, h3, h4 with
  | c :: d :: w, _, h3, h4 =>
    have hc := (List.all_eq_true.mp h3) c (List.mem_cons_self ..)
    simp only [Bool.and_eq_true, decide_eq_true_eq] at hc
    unfold tokOf
    have hnum : number (c :: d :: w) = none := by
      unfold number
      refine if_pos (.inr (.inr (.inl ?_)))
      rw [List.all_cons]
      have : digit c = false := by unfold digit; rw [decide_eq_false (show ¬ c ≤ 57 by omega), Bool.and_false]
      rw [this, Bool.false_and]
    have hop : (opWords.findIdx? fun o => o == c :: d :: w) = none := by
      rw [List.findIdx?_eq_none_iff]
      intro x hx
      rw [beq_eq_false_iff_ne]
      rintro rfl
      have : (wFun :: wTest :: opWords).contains (c :: d :: w) = true := by
        rw [List.contains_iff_mem]
        exact List.mem_cons_of_mem _ (List.mem_cons_of_mem _ hx)
      rw [this] at h4
      cases h4
    rw [hnum, hop]
    simp
theorem tok_call {names : List Bytes} {k : Nat} {w : Bytes} {g : Nat} (h : tokOf names k w = some (.call g)) : (names.findIdx? fun n => n == w) = some g := by
  unfold tokOf at h
  split at h
  · cases h
  · split at h
    · cases h
    · split at h
      · cases h
      · split at h
        · cases h
        · split at h
          · cases h
          · cases e : names.findIdx? (fun n => n == w) with
            | none => rw [e] at h; cases h
            | some j => rw [e] at h; cases h; rfl
theorem findIdx_get {names : List Bytes} {w : Bytes} {g : Nat} (h : (names.findIdx? fun n => n == w) = some g) : names[g]? = some w := by
  obtain ⟨h1, h2, _⟩ := List.findIdx?_eq_some_iff_getElem.mp h
  rw [List.getElem?_eq_getElem h1]
  exact congrArg some (by simpa using h2)
theorem mapM_mem {α β : Type} {f : α → Option β} : ∀ {l : List α} {r : List β}, l.mapM f = some r → (∀ t, t ∈ r ↔ ∃ w ∈ l, f w = some t) ∧ ∀ w ∈ l, ∃ t, f w = some t
  | [], r, h => by
    have : r = [] := by simpa using h.symm
    subst this
    simp
  | w :: l, r, h => by
    rw [List.mapM_cons] at h
    cases h1 : f w with
    | none => rw [h1] at h; cases h
    | some x =>
      rw [h1] at h
      cases h2 : l.mapM f with
      | none => rw [h2] at h; cases h
      | some s =>
        rw [h2] at h
        have : r = x :: s := by simpa using h.symm
        subst this
        obtain ⟨i1, i2⟩ := mapM_mem h2
        refine ⟨fun t => ?_, fun v hv => ?_⟩
        · rw [List.mem_cons, i1]
          constructor
          · rintro (e | ⟨v, hv, e⟩)
            · exact ⟨w, List.mem_cons_self .., by rw [e]; exact h1⟩
            · exact ⟨v, List.mem_cons_of_mem _ hv, e⟩
          · rintro ⟨v, hv, e⟩
            rcases List.mem_cons.mp hv with rfl | hv
            · rw [h1] at e; exact .inl (Option.some.inj e).symm
            · exact .inr ⟨v, hv, e⟩
        · rcases List.mem_cons.mp hv with rfl | hv
          · exact ⟨x, h1⟩
          · exact i2 v hv
theorem mem_calls {b : List Tok} {g : Nat} : g ∈ calls b ↔ Tok.call g ∈ b := by
  unfold calls
  rw [List.mem_filterMap]
  constructor
  · rintro ⟨t, h1, h2⟩
    cases t with
    | call f => cases h2; exact h1
    | num _ => cases h2
    | arg _ => cases h2
    | op _ => cases h2
  · exact fun h => ⟨_, h, rfl⟩
theorem said_calls {names : List Bytes} {n k : Nat} {ws : List Bytes} {b : List Tok} (hm : ws.mapM (tokOf (names.take n) k) = some b) (nm : ∀ w ∈ names, isName w = true) (nd : names.Nodup) :
    (∀ g, g ∈ calls b ↔ ∃ w ∈ ws, names[g]? = some w) ∧ ∀ g ∈ calls b, g < n := by
  obtain ⟨h1, h2⟩ := mapM_mem hm
  have key : ∀ g, g ∈ calls b → (∃ w ∈ ws, (names.take n)[g]? = some w) := fun g hg => by
    obtain ⟨w, hw, e⟩ := (h1 _).mp (mem_calls.mp hg)
    exact ⟨w, hw, findIdx_get (tok_call e)⟩
  refine ⟨fun g => ⟨fun hg => ?_, ?_⟩, fun g hg => ?_⟩
  · obtain ⟨w, hw, e⟩ := key g hg
    refine ⟨w, hw, ?_⟩
    rw [List.getElem?_take] at e
    split at e
    · exact e
    · cases e
  · rintro ⟨w, hw, e⟩
    obtain ⟨t, ht⟩ := h2 w hw
    rw [isName_tok (nm w (List.mem_of_getElem? e))] at ht
    cases hj : (names.take n).findIdx? fun n => n == w with
    | none => rw [hj] at ht; cases ht
    | some j =>
      have ej := findIdx_get hj
      have ej' : names[j]? = some w := by
        rw [List.getElem?_take] at ej
        split at ej
        · exact ej
        · cases ej
      have : j = g := by
        have l1 := (List.getElem?_eq_some_iff.mp ej').1
        skip
        exact (List.getElem?_inj l1 nd).mp (ej'.trans e.symm)
      subst this
      rw [mem_calls, h1]
      refine ⟨w, hw, ?_⟩
      rw [isName_tok (nm w (List.mem_of_getElem? e)), hj]; rfl
  · obtain ⟨w, _, e⟩ := key g hg
    have := (List.getElem?_eq_some_iff.mp e).1
    rw [List.length_take] at this
    omega
abbrev fnNames (p : Program) : List Bytes := p.funs.map fun f => f.name
section
variable {m : MP} (G : Good m)
include G
theorem good_names : ∀ w ∈ fnNames m.p, isName w = true := fun w hw => by
  obtain ⟨f, hf, rfl⟩ := List.mem_map.mp hw
  exact G.nm f hf
theorem fun_calls {g : Nat} {h : Ty01.Fun} (e : m.p.funs[g]? = some h) : (∀ x, x ∈ calls h.body ↔ ∃ w ∈ h.said.drop 4, (fnNames m.p)[x]? = some w) ∧ ∀ x ∈ calls h.body, x ≤ g := by
  obtain ⟨h1, _⟩ := G.fs g h e
  obtain ⟨k1, k2⟩ := said_calls h1 (good_names G) G.nd
  exact ⟨k1, fun x hx => Nat.le_of_lt_succ (k2 x hx)⟩
theorem test_calls {t : Ty01.Test} (ht : t ∈ m.p.tests) : (∀ x, x ∈ calls t.body ↔ ∃ w ∈ t.said.drop 4, (fnNames m.p)[x]? = some w) ∧ ∀ x ∈ calls t.body, x < m.p.funs.length := by
  obtain ⟨⟨n, hn, h1⟩, _⟩ := G.ts t ht
  obtain ⟨k1, k2⟩ := said_calls h1 (good_names G) G.nd
  exact ⟨k1, fun x hx => by have := k2 x hx; omega⟩
theorem body_down : ∀ g x, x ∈ calls (bodyOf m.p g) → x ≤ g := by
  intro g x hx
  unfold bodyOf at hx
  cases e : m.p.funs[g]? with
  | none => rw [e] at hx; cases hx
  | some h =>
    rw [e] at hx
    exact (fun_calls G e).2 x hx
end
theorem bodyOf_get {p : Program} {g : Nat} {h : Ty01.Fun} (e : p.funs[g]? = some h) : bodyOf p g = h.body := by unfold bodyOf; rw [e]; rfl
/-- the work list: functions met, rows that wait, the row at hand -/
structure WL (m : MP) (t : Ty01.Test) (met : List Nat) (wait : List (List Bytes)) (cur : Option (List Bytes)) : Prop where
  nd : met.Nodup
  ex : ∀ g ∈ met, g < m.p.funs.length ∧ ∃ g0 ∈ calls t.body, Path m.p g0 g
  kn : ∀ r, r ∈ wait ∨ cur = some r → r = t.said ∨ ∃ g h, g ∈ met ∧ m.p.funs[g]? = some h ∧ h.said = r
  cl : ∀ g h, g ∈ met → m.p.funs[g]? = some h → h.said ∈ wait ∨ cur = some h.said ∨ ∀ x ∈ calls h.body, x ∈ met
  ct : t.said ∈ wait ∨ cur = some t.said ∨ ∀ x ∈ calls t.body, x ∈ met
section
variable {m : MP} {t : Ty01.Test} {met : List Nat} {wait : List (List Bytes)} {r : List Bytes}
theorem WL.start (m : MP) (t : Ty01.Test) : WL m t [] [t.said] none where
  nd := List.nodup_nil
  ex := fun g h => by cases h
  kn := fun r h => .inl (by rcases h with h | h; exact List.mem_singleton.mp h; cases h)
  cl := fun g h hm => by cases hm
  ct := .inl (List.mem_singleton.mpr rfl)
theorem WL.pop (w : WL m t met (wait ++ [r]) none) : WL m t met wait (some r) where
  nd := w.nd
  ex := w.ex
  kn := fun r' h => w.kn r' (.inl (by
    rcases h with h | h
    · exact List.mem_append.mpr (.inl h)
    · cases h; exact List.mem_append.mpr (.inr (List.mem_singleton.mpr rfl))))
  cl := fun g h hm e => by
    rcases w.cl g h hm e with c | c | c
    · rcases List.mem_append.mp c with c | c
      · exact .inl c
      · exact .inr (.inl (by rw [List.mem_singleton.mp c]))
    · cases c
    · exact .inr (.inr c)
  ct := by
    rcases w.ct with c | c | c
    · rcases List.mem_append.mp c with c | c
      · exact .inl c
      · exact .inr (.inl (by rw [List.mem_singleton.mp c]))
    · cases c
    · exact .inr (.inr c)
theorem WL.add (w : WL m t met wait (some r)) (G : Good m) (ht : t ∈ m.p.tests) {wd : Bytes} (hw : wd ∈ r.drop 4) {g : Nat} {h : Ty01.Fun} (hg : m.p.funs[g]? = some h) (hn : h.name = wd) (nm : g ∉ met) : WL m t (met ++ [g]) (wait ++ [h.said]) (some r) where
  nd := by
    rw [List.nodup_append]
    exact ⟨w.nd, by simp, fun a ha b hb => by rw [List.mem_singleton.mp hb]; rintro rfl; exact nm ha⟩
  ex := fun x hx => by
    rcases List.mem_append.mp hx with hx | hx
    · exact w.ex x hx
    · have hx := List.mem_singleton.mp hx
      subst hx
      refine ⟨(List.getElem?_eq_some_iff.mp hg).1, ?_⟩
      have en : (fnNames m.p)[x]? = some wd := by rw [List.getElem?_map, hg]; exact congrArg some hn
      rcases w.kn r (.inr rfl) with e | ⟨g', h', m1, m2, m3⟩
      · exact ⟨x, ((test_calls G ht).1 x).mpr ⟨wd, by rw [← e]; exact hw, en⟩, .refl _⟩
      · obtain ⟨g0, q1, q2⟩ := (w.ex g' m1).2
        exact ⟨g0, q1, q2.snoc (by rw [bodyOf_get m2]; exact ((fun_calls G m2).1 x).mpr ⟨wd, by rw [m3]; exact hw, en⟩)⟩
  kn := fun r' hr => by
    have lift : (r' = t.said ∨ ∃ g h, g ∈ met ∧ m.p.funs[g]? = some h ∧ h.said = r') → r' = t.said ∨ ∃ g_1 h, g_1 ∈ met ++ [g] ∧ m.p.funs[g_1]? = some h ∧ h.said = r' := fun z => z.imp id fun ⟨a, b, c, d⟩ => ⟨a, b, List.mem_append.mpr (.inl c), d⟩
    rcases hr with hr | hr
    · rcases List.mem_append.mp hr with hr | hr
      · exact lift (w.kn r' (.inl hr))
      · exact .inr ⟨g, h, List.mem_append.mpr (.inr (List.mem_singleton.mpr rfl)), hg, (List.mem_singleton.mp hr).symm⟩
    · exact lift (w.kn r' (.inr hr))
  cl := fun x y hx hy => by
    rcases List.mem_append.mp hx with hx | hx
    · rcases w.cl x y hx hy with c | c | c
      · exact .inl (List.mem_append.mpr (.inl c))
      · exact .inr (.inl c)
      · exact .inr (.inr fun z hz => List.mem_append.mpr (.inl (c z hz)))
    · have hx := List.mem_singleton.mp hx
      subst hx
      rw [hg] at hy
      cases hy
      exact .inl (List.mem_append.mpr (.inr (List.mem_singleton.mpr rfl)))
  ct := by
    rcases w.ct with c | c | c
    · exact .inl (List.mem_append.mpr (.inl c))
    · exact .inr (.inl c)
    · exact .inr (.inr fun z hz => List.mem_append.mpr (.inl (c z hz)))
theorem WL.done (w : WL m t met wait (some r)) (G : Good m) (ht : t ∈ m.p.tests) (hw : ∀ wd ∈ r.drop 4, ∀ g, (fnNames m.p)[g]? = some wd → g ∈ met) : WL m t met wait none where
  nd := w.nd
  ex := w.ex
  kn := fun r' hr => w.kn r' (.inl (by rcases hr with h | h; exact h; cases h))
  cl := fun g h hm e => by
    rcases w.cl g h hm e with c | c | c
    · exact .inl c
    · cases c
      exact .inr (.inr fun x hx => by
        obtain ⟨wd, h1, h2⟩ := ((fun_calls G e).1 x).mp hx
        exact hw wd h1 x h2)
    · exact .inr (.inr c)
  ct := by
    rcases w.ct with c | c | c
    · exact .inl c
    · cases c
      exact .inr (.inr fun x hx => by
        obtain ⟨wd, h1, h2⟩ := ((test_calls G ht).1 x).mp hx
        exact hw wd h1 x h2)
    · exact .inr (.inr c)
theorem WL.end (w : WL m t met [] none) (G : Good m) (ht : t ∈ m.p.tests) (x : Nat) : x ∈ met ↔ x ∈ uses m.p m.p.funs.length (once (calls t.body)) := by
  constructor
  · intro hx
    obtain ⟨_, g0, q1, q2⟩ := w.ex x hx
    exact uses_all (body_down G) (mem_once.mpr q1) (Nat.le_of_lt ((test_calls G ht).2 g0 q1)) q2
  · intro hx
    obtain ⟨g0, q1, q2⟩ := uses_sub hx
    have hb : g0 ∈ met := by
      rcases w.ct with c | c | c
      · cases c
      · cases c
      · exact c g0 (mem_once.mp q1)
    clear q1 hx
    induction q2 with
    | refl g => exact hb
    | @head g g' h c _ ih =>
      refine ih ?_
      obtain ⟨f, hf⟩ : ∃ f, m.p.funs[g]? = some f := ⟨_, List.getElem?_eq_getElem (w.ex g hb).1⟩
      rw [bodyOf_get hf] at c
      rcases w.cl g f hb hf with d | d | d
      · cases d
      · cases d
      · exact d _ c
end
/-- the rows that a test comes by -/
theorem canTouch_is {m o : MP} (G : Good m) (Go : Good o) {t : Ty01.Test} (ht : t ∈ m.p.tests) {met : List Nat} (hm : ∀ x, x ∈ met ↔ x ∈ uses m.p m.p.funs.length (once (calls t.body))) {R : List (List Bytes)} (hR : ∀ r, r ∈ R ↔ ∃ g h, g ∈ met ∧ m.p.funs[g]? = some h ∧ h.said = r)
    {told : List Bytes → Bool} (htold : ∀ r, told r = true ↔ (∃ f ∈ o.p.funs, f.said = r) ∨ ∃ u ∈ o.p.tests, u.said = r) : canTouch o.p m.p t = (t.said :: R).any fun r => !told r := by
  have h0 : (o.p.tests.any fun u => u.said == t.said) = told t.said := by
    rw [Bool.eq_iff_iff, htold, List.any_eq_true]
    constructor
    · rintro ⟨u, h1, h2⟩
      exact .inr ⟨u, h1, by simpa using h2⟩
    · rintro (⟨f, h1, h2⟩ | ⟨u, h1, h2⟩)
      · obtain ⟨g, hg⟩ := List.mem_iff_getElem?.mp h1
        have e1 := (Go.fs g f hg).2.1
        have e2 := (G.ts t ht).2
        rw [h2, e2] at e1
        exact absurd (Option.some.inj e1) (by decide)
      · exact ⟨u, h1, by simpa using h2⟩
  unfold canTouch
  rw [h0, List.any_cons]
  congr 1
  rw [Bool.eq_iff_iff, List.any_eq_true, List.any_eq_true]
  have key : ∀ (g : Nat) (h : Ty01.Fun), m.p.funs[g]? = some h → (o.p.funs.any fun f => f.said == h.said) = told h.said := fun g h e => by
    rw [Bool.eq_iff_iff, htold, List.any_eq_true]
    constructor
    · rintro ⟨u, h1, h2⟩
      exact .inl ⟨u, h1, by simpa using h2⟩
    · rintro (⟨f, h1, h2⟩ | ⟨u, h1, h2⟩)
      · exact ⟨f, h1, by simpa using h2⟩
      · have e1 := (Go.ts u h1).2
        have e2 := (G.fs g h e).2.1
        rw [h2, e2] at e1
        exact absurd (Option.some.inj e1) (by decide)
  constructor
  · rintro ⟨g, h1, h2⟩
    rw [Option.any_eq_true] at h2
    obtain ⟨h, h2, h3⟩ := h2
    refine ⟨h.said, (hR _).mpr ⟨g, h, (hm g).mpr h1, h2, rfl⟩, ?_⟩
    rw [key g h h2] at h3
    exact h3
  · rintro ⟨r, h1, h2⟩
    obtain ⟨g, h, q1, q2, rfl⟩ := (hR r).mp h1
    refine ⟨g, (hm g).mp q1, ?_⟩
    rw [Option.any_eq_true]
    refine ⟨h, q2, ?_⟩
    rw [key g h q2]
    exact h2
end Pf
namespace Pf
/-- a call's numbers as they lie in the row of all -/
def enc : Ty01.Call → List Nat
  | .write w => 0 :: w.length :: w
  | .test k => [1, k]
  | .all => [2]
  | .run k r => 3 :: k :: r.length :: r
  | .reach k => [4, k]
  | .place i => [5, i]
  | .sees i => [6, i]
  | .unseen => [7]
  | .fewest => [8]
  | .touched => [9]
/-- the call as the specification tells it -/
def tellC : Ty01.Call → List Nat
  | .write w => 0 :: w
  | .run k r => 3 :: k :: r
  | c => enc c
def smallC : Ty01.Call → Prop
  | .write w => w.length ≤ 700 ∧ ∀ x ∈ w, x < 2 ^ 32
  | .run k r => k < 2 ^ 32 ∧ r.length ≤ 40 ∧ ∀ x ∈ r, x < 2 ^ 32
  | .test k => k < 2 ^ 32
  | .reach k => k < 2 ^ 32
  | .place k => k < 2 ^ 32
  | .sees k => k < 2 ^ 32
  | _ => True
def natI (l : List Nat) : List Int := l.map fun (n : Nat) => (n : Int)
theorem natI_app (a b : List Nat) : natI (a ++ b) = natI a ++ natI b := List.map_append
theorem natI_len (a : List Nat) : (natI a).length = a.length := List.length_map ..
theorem natI_nat (a : List Nat) : (natI a).map Int.toNat = a := by
  unfold natI
  rw [List.map_map]
  exact (List.map_congr_left fun x _ => Int.toNat_natCast x).trans (List.map_id a)
theorem within_nat : ∀ {l : List Int}, (l.all (PyInside.within 0 4294967295)) = true → ∃ w : List Nat, l = natI w ∧ ∀ x ∈ w, x < 2 ^ 32
  | [], _ => ⟨[], rfl, fun x h => by cases h⟩
  | z :: l, h => by
    rw [List.all_cons, Bool.and_eq_true] at h
    obtain ⟨w, e, hw⟩ := within_nat h.2
    have h1 := h.1
    unfold PyInside.within at h1
    rw [Bool.and_eq_true, decide_eq_true_eq, decide_eq_true_eq] at h1
    refine ⟨z.toNat :: w, ?_, fun x hx => ?_⟩
    · rw [e]
      show z :: natI w = ((z.toNat : Nat) : Int) :: natI w
      rw [Int.toNat_of_nonneg h1.1]
    · rcases List.mem_cons.mp hx with rfl | hx
      · omega
      · exact hw x hx
theorem nat_all {w : List Nat} (h : ∀ x ∈ w, x < 2 ^ 32) : (natI w).all Ty01Neutral.nat = true := by
  rw [List.all_eq_true]
  intro z hz
  obtain ⟨x, hx, rfl⟩ := List.mem_map.mp hz
  have := h x hx
  unfold Ty01Neutral.nat
  rw [Bool.and_eq_true, decide_eq_true_eq, decide_eq_true_eq]
  exact ⟨by omega, by omega⟩
theorem callOf_tell {c : Ty01.Call} (h : smallC c) : Ty01Neutral.callOf (natI (tellC c)) = some c := by
  have key : ∀ w : List Nat, (∀ x ∈ w, x < 2 ^ 32) → Ty01Neutral.callOf (natI w) = Ty01Neutral.callIn w := fun w hw => by
    unfold Ty01Neutral.callOf
    rw [nat_all hw, if_neg (by decide), natI_nat]
  cases c with
  | write w =>
    rw [key _ (fun x hx => by rcases List.mem_cons.mp hx with rfl | hx; decide; exact h.2 x hx)]; rfl
  | run k r =>
    rw [key _ (fun x hx => by
      rcases List.mem_cons.mp hx with rfl | hx
      · decide
      · rcases List.mem_cons.mp hx with rfl | hx
        · exact h.1
        · exact h.2.2 x hx)]; rfl
  | all => rfl
  | unseen => rfl
  | fewest => rfl
  | touched => rfl
  | test k =>
    have h : k < 2 ^ 32 := h
    rw [key _ (by simp [tellC, enc]; omega)]; rfl
  | reach k =>
    have h : k < 2 ^ 32 := h
    rw [key _ (by simp [tellC, enc]; omega)]; rfl
  | place k =>
    have h : k < 2 ^ 32 := h
    rw [key _ (by simp [tellC, enc]; omega)]; rfl
  | sees k =>
    have h : k < 2 ^ 32 := h
    rw [key _ (by simp [tellC, enc]; omega)]; rfl
theorem shape_cases {p : Int} {x : Nat × Nat} (h : PyTy01.shape p = some x) : (p = 0 ∧ x = (0, 1)) ∨ (p = 3 ∧ x = (1, 1)) ∨ ((p = 1 ∨ p = 4 ∨ p = 5 ∨ p = 6) ∧ x = (1, 0)) ∨ ((p = 2 ∨ p = 7 ∨ p = 8 ∨ p = 9) ∧ x = (0, 0)) := by
  unfold PyTy01.shape at h
  split at h
  · exact .inl ⟨by assumption, (Option.some.inj h).symm⟩
  split at h
  · exact .inr (.inr (.inl ⟨.inl (by assumption), (Option.some.inj h).symm⟩))
  split at h
  · exact .inr (.inr (.inr ⟨.inl (by assumption), (Option.some.inj h).symm⟩))
  split at h
  · exact .inr (.inl ⟨by assumption, (Option.some.inj h).symm⟩)
  split at h
  · exact .inr (.inr (.inl ⟨.inr (.inl (by assumption)), (Option.some.inj h).symm⟩))
  split at h
  · exact .inr (.inr (.inl ⟨.inr (.inr (.inl (by assumption))), (Option.some.inj h).symm⟩))
  split at h
  · exact .inr (.inr (.inl ⟨.inr (.inr (.inr (by assumption))), (Option.some.inj h).symm⟩))
  split at h
  · exact .inr (.inr (.inr ⟨.inr (.inl (by assumption)), (Option.some.inj h).symm⟩))
  split at h
  · exact .inr (.inr (.inr ⟨.inr (.inr (.inl (by assumption))), (Option.some.inj h).symm⟩))
  split at h
  · exact .inr (.inr (.inr ⟨.inr (.inr (.inr (by assumption))), (Option.some.inj h).symm⟩))
  cases h
theorem row_inv {l x t : List Int} (h : PyFlat.row l = some (x, t)) : l = (x.length : Int) :: (x ++ t) := by
  cases l with
  | nil => cases h
  | cons n r =>
    have h : (if 0 ≤ n ∧ n.toNat ≤ r.length then some (r.take n.toNat, r.drop n.toNat) else none) = some (x, t) := h
    by_cases c : 0 ≤ n ∧ n.toNat ≤ r.length
    · rw [if_pos c] at h
      have h := Option.some.inj h
      have h1 : r.take n.toNat = x := congrArg Prod.fst h
      have h2 : r.drop n.toNat = t := congrArg Prod.snd h
      rw [← h1, ← h2, List.take_append_drop, List.length_take, Nat.min_eq_left c.2, Int.toNat_of_nonneg c.1]
    · rw [if_neg c] at h
      cases h
theorem rows1_inv {l t : List Int} {xs : List (List Int)} (h : PyFlat.rows 1 l = some (xs, t)) : ∃ x, xs = [x] ∧ l = (x.length : Int) :: (x ++ t) := by
  unfold PyFlat.rows at h
  cases e : PyFlat.row l with
  | none => rw [e] at h; cases h
  | some y =>
    obtain ⟨x, s⟩ := y
    rw [e] at h
    have h : some ([x], s) = some (xs, t) := h
    cases h
    exact ⟨x, rfl, row_inv e⟩
theorem call_inv {l t : List Int} {c : List (List Int)} (h : PyFlat.call PyTy01.shape l = some (c, t)) (b : PyInside.call PyTy01.bound c = true) : ∃ k : Ty01.Call, l = natI (enc k) ++ t ∧ smallC k ∧ PyTy01.whole c = [natI (tellC k)] := by
  cases l with
  | nil => cases h
  | cons p r =>
    unfold PyFlat.call at h
    simp only at h
    cases e : PyTy01.shape p with
    | none => rw [e] at h; cases h
    | some x =>
      rw [e] at h
      rcases shape_cases e with ⟨rfl, rfl⟩ | ⟨rfl, rfl⟩ | ⟨hp, rfl⟩ | ⟨hp, rfl⟩
      · simp only at h
        rw [if_neg (by omega)] at h
        cases e2 : PyFlat.rows 1 (r.drop 0) with
        | none => rw [e2] at h; cases h
        | some y =>
          obtain ⟨xs, s⟩ := y
          rw [e2] at h
          cases h
          obtain ⟨x, rfl, er⟩ := rows1_inv e2
          rw [List.drop_zero] at er
          have b : (true && (decide (0 ≤ x.length) && decide (x.length ≤ 700) && x.all (PyInside.within 0 4294967295) && true)) = true := b
          simp only [Bool.true_and, Bool.and_true, Bool.and_eq_true, decide_eq_true_eq] at b
          obtain ⟨w, rfl, hw⟩ := within_nat b.2
          rw [natI_len] at b er
          exact ⟨.write w, by rw [er]; rfl, ⟨b.1.2, hw⟩, rfl⟩
      · simp only at h
        cases r with
        | nil => cases h
        | cons k r =>
          rw [if_neg (by simp)] at h
          cases e2 : PyFlat.rows 1 ((k :: r).drop 1) with
          | none => rw [e2] at h; cases h
          | some y =>
            obtain ⟨xs, s⟩ := y
            rw [e2] at h
            cases h
            obtain ⟨x, rfl, er⟩ := rows1_inv e2
            have b : ((PyInside.within 0 4294967295 k && true) && (decide (0 ≤ x.length) && decide (x.length ≤ 40) && x.all (PyInside.within 0 4294967295) && true)) = true := b
            simp only [Bool.and_true, Bool.and_eq_true, decide_eq_true_eq] at b
            obtain ⟨w, rfl, hw⟩ := within_nat b.2.2
            obtain ⟨kk, ek, hk⟩ := within_nat (l := [k]) (by rw [List.all_cons, b.1]; rfl)
            match kk, ek, hk with
            | [n], ek, hk =>
              have ek : k = (n : Int) := (List.cons.inj ek).1
              subst ek
              rw [natI_len] at b er
              have er : r = _ := er
              exact ⟨.run n w, by rw [er]; rfl, ⟨hk n (List.mem_singleton.mpr rfl), b.2.1.2, hw⟩, rfl⟩
      · simp only at h
        cases r with
        | nil => cases h
        | cons k r =>
          rw [if_neg (by simp)] at h
          cases h
          have b : (PyInside.each (PyTy01.bound p).1 [k] && PyInside.lists (PyTy01.bound p).2 []) = true := b
          have bk : PyInside.within 0 4294967295 k = true := by
            rw [Bool.and_eq_true] at b
            rcases hp with rfl | rfl | rfl | rfl <;> (have b1 : (PyInside.within 0 4294967295 k && true) = true := b.1; simpa using b1)
          obtain ⟨kk, ek, hk⟩ := within_nat (l := [k]) (by rw [List.all_cons, bk]; rfl)
          match kk, ek, hk with
          | [n], ek, hk =>
            have ek : k = (n : Int) := (List.cons.inj ek).1
            subst ek
            have hn : n < 2 ^ 32 := hk n (List.mem_singleton.mpr rfl)
            rcases hp with rfl | rfl | rfl | rfl
            · exact ⟨.test n, rfl, hn, rfl⟩
            · exact ⟨.reach n, rfl, hn, rfl⟩
            · exact ⟨.place n, rfl, hn, rfl⟩
            · exact ⟨.sees n, rfl, hn, rfl⟩
      · simp only at h
        rw [if_neg (by omega)] at h
        cases h
        rcases hp with rfl | rfl | rfl | rfl
        · exact ⟨.all, rfl, trivial, rfl⟩
        · exact ⟨.unseen, rfl, trivial, rfl⟩
        · exact ⟨.fewest, rfl, trivial, rfl⟩
        · exact ⟨.touched, rfl, trivial, rfl⟩
theorem calls_inv : ∀ {f : Nat} {l : List Int} {raw : List (List (List Int))}, PyFlat.calls PyTy01.shape f l = some raw → PyInside.calls PyTy01.bound raw = true → ∃ cs : List Ty01.Call, l = natI (cs.flatMap enc) ∧ (∀ c ∈ cs, smallC c) ∧ raw.map PyTy01.whole = cs.map fun c => [natI (tellC c)]
  | f, [], raw, h, _ => by
    have : PyFlat.calls PyTy01.shape f [] = some [] := by cases f <;> rfl
    rw [this] at h
    cases h
    exact ⟨[], rfl, fun c h => (by cases h), rfl⟩
  | 0, p :: r, raw, h, _ => by cases h
  | f + 1, p :: r, raw, h, b => by
    unfold PyFlat.calls at h
    cases e : PyFlat.call PyTy01.shape (p :: r) with
    | none => rw [e] at h; cases h
    | some y =>
      obtain ⟨c, t⟩ := y
      rw [e] at h
      simp only at h
      cases e2 : PyFlat.calls PyTy01.shape f t with
      | none => rw [e2] at h; cases h
      | some cs =>
        rw [e2] at h
        cases h
        unfold PyInside.calls at b
        rw [List.all_cons, Bool.and_eq_true] at b
        obtain ⟨k, h1, h2, h3⟩ := call_inv e b.1
        obtain ⟨ks, i1, i2, i3⟩ := calls_inv e2 b.2
        refine ⟨k :: ks, ?_, fun x hx => ?_, ?_⟩
        · rw [h1, i1, List.flatMap_cons, natI_app]
        · rcases List.mem_cons.mp hx with rfl | hx
          · exact h2
          · exact i2 x hx
        · rw [List.map_cons, List.map_cons, h3, i3]
def runC : Ty01.St → List Ty01.Call → List (List Int)
  | _, [] => []
  | s, c :: r => (Ty01.step s c).2 :: runC (Ty01.step s c).1 r
theorem played_run : ∀ (cs : List Ty01.Call) (s : Ty01.St), (∀ c ∈ cs, smallC c) → PyFlat.played (fun s c => Ty01Neutral.step s (c.headD [])) s (cs.map fun c => [natI (tellC c)]) = runC s cs
  | [], s, _ => rfl
  | c :: cs, s, h => by
    have e : Ty01Neutral.step s (natI (tellC c)) = Ty01.step s c := by
      unfold Ty01Neutral.step
      rw [callOf_tell (h c (List.mem_cons_self ..))]
    show (Ty01Neutral.step s (natI (tellC c))).2 :: PyFlat.played _ (Ty01Neutral.step s (natI (tellC c))).1 _ = _
    rw [e, played_run cs _ fun x hx => h x (List.mem_cons_of_mem _ hx)]
    rfl
/-- what is asked, as calls -/
theorem asked_calls {l : List Int} (h : PyTy01.answers_asked l = true) : ∃ cs : List Ty01.Call, l = natI (cs.flatMap enc) ∧ (∀ c ∈ cs, smallC c) ∧ cs.length ≤ 40 ∧ PyTy01.answers l = PyFlat.told (runC Ty01.init cs) ∧ (PyTy01.answers l).length ≤ 10000000 := by
  unfold PyTy01.answers_asked at h
  cases e : PyFlat.calls PyTy01.shape l.length l with
  | none => rw [e] at h; cases h
  | some raw =>
    rw [e] at h
    simp only [Bool.and_eq_true] at h
    obtain ⟨⟨⟨⟨_, h2⟩, h3⟩, _⟩, h5⟩ := h
    obtain ⟨cs, i1, i2, i3⟩ := calls_inv e h3
    refine ⟨cs, i1, i2, ?_, ?_, of_decide_eq_true h5⟩
    · have l1 : raw.length ≤ 40 := of_decide_eq_true h2
      have l2 := congrArg List.length i3
      rw [List.length_map, List.length_map] at l2
      omega
    · unfold PyTy01.answers PyTy01.calls
      rw [e]
      simp only
      rw [i3, ← played_run cs _ i2]
      rfl
end Pf
namespace Pf
open PySem PySem.Spec PyProof.Rows L2
section
variable {X : Cx}
theorem isList_of {h : Heap} {a : Addr} {its : Array Value} (p : PlainL h a its) : h.IsList a its := by
  obtain ⟨o, n, e, c, _, d⟩ := p
  exact ⟨o, e, c, n, d⟩
/-- a list beside [] -/
def rEqE (K : PySem.W.Frag) : R2 := fun x y H Q => ∃ a b xs, x = .ref a ∧ y = .ref b ∧ SqL K H a xs ∧ SqL K H b [] ∧ Q (.bl xs.isEmpty) H
def rNeE (K : PySem.W.Frag) : R2 := fun x y H Q => ∃ a b xs, x = .ref a ∧ y = .ref b ∧ SqL K H a xs ∧ SqL K H b [] ∧ Q (.bl (!xs.isEmpty)) H
theorem op_eqE (hu : X.A.units < cLine) : OpR X (compareOp .Eq) (rEqE X.K) := by
  intro pins s σ H x y v u Q I rx ry h
  obtain ⟨a, b, xs, rfl, rfl, ha, hb, q⟩ := h
  obtain rfl : v = Value.ref a := rx
  obtain rfl : u = Value.ref b := ry
  obtain ⟨its, rv, p, _⟩ := I.list ha
  obtain ⟨its2, rv2, p2, _⟩ := I.list hb
  cases rv2
  cases xs with
  | nil =>
    cases rv
    exact SeqAt.eq_listAt (e := fun _ => true) (isList_of p) (isList_of p2) rfl hu (fun j h1 _ => by simp at h1) ⟨.bl true, H, I, rfl, q⟩
  | cons x xs =>
    cases rv with
    | cons r rs => exact SeqAt.eq_list_lengthsAt (isList_of p) (isList_of p2) (by simp) hu ⟨.bl false, H, I, rfl, q⟩
theorem op_neE (hu : X.A.units < cLine) : OpR X (compareOp .NotEq) (rNeE X.K) := by
  intro pins s σ H x y v u Q I rx ry h
  obtain ⟨a, b, xs, rfl, rfl, ha, hb, q⟩ := h
  obtain rfl : v = Value.ref a := rx
  obtain rfl : u = Value.ref b := ry
  obtain ⟨its, rv, p, _⟩ := I.list ha
  obtain ⟨its2, rv2, p2, _⟩ := I.list hb
  cases rv2
  cases xs with
  | nil =>
    cases rv
    exact SeqAt.RcNeAt.lists (e := fun _ => true) (isList_of p) (isList_of p2) rfl hu (fun j h1 _ => by simp at h1) _ _ _ _ ⟨.bl false, H, I, rfl, q⟩
  | cons x xs =>
    cases rv with
    | cons r rs => exact SeqAt.RcNeAt.lists_lengths (isList_of p) (isList_of p2) (by simp) hu _ _ _ _ ⟨.bl true, H, I, rfl, q⟩
/-- d.update(e), two dicts -/
def rUpdate : V → List V → Hp → VK → Prop := fun x vs H Q => ∃ (a b : Addr) (kvs more : List (Key × V)), x = .ref a ∧ vs = [.ref b] ∧ H a = some (.dK kvs) ∧ H b = some (.dK more) ∧ a ≠ b ∧ kvs.length + more.length ≤ sizeLine ∧ Q .non (upd H a (.dK (mergeK kvs more)))
theorem mt_update : MtM X "dict.update" rUpdate := by
  intro pins s σ H x xs v us Q I rx rxs h
  obtain ⟨a, b, kvs, more, rfl, rfl, ha, hb, hne, hz, q⟩ := h
  cases rx
  obtain ⟨u1, rfl, r1⟩ := vals1 rxs
  cases r1
  obtain ⟨z, lo, vs, rk, hd⟩ := (show ObjOk X.prog X.w H s.heap a (.dK kvs) from I.hok a _ ha)
  obtain ⟨z2, lo2, vs2, rk2, hd2⟩ := (show ObjOk X.prog X.w H s.heap b (.dK more) from I.hok b _ hb)
  refine call_meetsIn PySem.F.slot_dict_update hd.typeIs PySem.F.entry_dict_update (PySem.F.args_dict_update_2 _ _) (meets_dict_update (mixKind X.prog X.w) a b hne lo2) ⟨vs, vs2, hd, hd2, by rw [← rk.length, ← rk2.length]; exact hz, fun h' d1 d2 sb => ?_⟩
  have len : (mergeK kvs more).length ≤ sizeLine := Nat.le_trans (length_mergeK more kvs) hz
  obtain ⟨o, es, ep, hq, rest⟩ := d1
  exact ⟨.non, _, d_write (t' := s.toks) I (by rw [ha]; exact True.intro) sb ⟨o, hq⟩ (dk_new len lo (KV.merge rk2 rk) ⟨o, es, ep, hq, rest⟩), rfl, q⟩
/-- list(e.values()) -/
def rValsL : V → Hp → VK → Prop := fun x H Q => ∃ (d : Addr) (kvs : List (Key × V)), x = .ref d ∧ H d = some (.dK kvs) ∧ ∀ p, H p = none → Q (.ref p) (upd H p (.lst (kvs.map (·.2))))
def tListVals (te : TE) : TE := fun σ H Q => te σ H fun x H1 => rValsL x H1 Q
variable {e : Expr} {te : TE} {p apos cpos pos : Pos}
theorem pe_listVals (hc : X.calm = true) (he : PE X e te) (hg : Gl X "list") (hm : X.mg "list" = none) (hv : bootBuiltins "list" = some (.type "list")) (hbase : attributeBase e "values" X.env (eval e X.env) = eval e X.env := by rfl) (hline : (apos.endLine == cpos.line) = true := by rfl)
    (hs : starEach [.Call (.Attribute e "values" apos) [] [] cpos] X.env = (false, eval (.Call (.Attribute e "values" apos) [] [] cpos) X.env) :: starEach [] X.env := by rfl) :
    PE X (.Call (.Name "list" p) [.Call (.Attribute e "values" apos) [] [] cpos] [] pos) (tListVals te) := by
  refine ⟨fun pins s σ H Q I hq => ?_⟩
  refine wpAny_Call_Name_kw (ld_blt I hg hm hv ?_)
  refine PyProof.Rows.callWith_type1 ?_ hs rfl
  rw [hs]
  show wpAny _ _ (spliced ((false, eval (.Call (.Attribute e "values" apos) [] [] cpos) X.env) :: backTo pos (starEach [] X.env))) _ _ s
  refine Calls.spliced_cons ?_
  refine wpAny_Call_method (T := "dict") (id := "dict.values") hbase rfl hline F.plainAttrs_dict F.slot_dict_values F.type_dict_values (thn (he.run pins s σ H _ I hq) fun u s1 ⟨x, H1, I1, rx, d, kvs, ex, hd, q⟩ => ?_)
  subst ex
  obtain rfl : u = Value.ref d := rx
  obtain ⟨hz, hs0, vs, kv, hdo⟩ := I1.hok d _ hd
  obtain ⟨ep, hat⟩ := hdo.dictAt
  have lk : kvs.length = vs.length := Paired.length kv
  have I2 : Inv X pins σ H1 { s1 with heap := s1.heap.push { cls := .type "dict_values", data := .fields #[.ref d] } } := I1.kept (t' := s1.toks) fun b ob q => Heap.get?_push_of_some _ q
  refine ⟨hdo.typeIs, hdo.mapOf.noDict, ?_⟩
  show wpAny _ _ (callWith cpos (.builtin "dict.values") [.ref d] [] []) _ X.xe s1
  refine method_meetsIn F.slot_dict_values F.entry_dict_values rfl (PySem.evalArgs_none ⟨rfl, hdo.typeIs, F.args_dict_values_1 _, _, meets_dict_values (mixKind X.prog X.w) d hs0, ⟨⟨vs, hdo⟩, ?_⟩⟩)
  refine Calls.spliced_nil ?_
  refine PySem.W.kdl_call (PySem.W.kdl_values (knd := mixKind X.prog X.w) (kvs := vs) (ep := ep)) (I1.ok.hd hc) ⟨⟨_, Heap.get?_push_size _ rfl, rfl, rfl⟩, hat.push _⟩ (by rw [← lk]; exact hz) fun h' tk acc' c' hkeep hS hacc => ?_
  refine ⟨.ref _, upd H1 _ (.lst (kvs.map (·.2))), I2.laid hkeep (Nat.le_refl _) (show ObjOk X.prog X.w _ _ _ (.lst (kvs.map (·.2))) from ⟨?_, acc'.toList, c', ?_, ?_⟩), rfl, q _ (I2.hok.fresh (Nat.le_refl _))⟩
  · rw [List.length_map]; exact hz
  · have el : acc'.toList.length = acc'.size := by simp
    refine vals_of_at (by rw [List.length_map, el, hacc.1, lk]) fun j x w h1 h2 => ?_
    obtain ⟨k, hk⟩ := hacc.2 j w (by rw [← Array.getElem?_toList]; exact h2)
    rw [List.getElem?_map] at h1
    cases e1 : kvs[j]? with
    | none => rw [e1] at h1; cases h1
    | some pq =>
      rw [e1] at h1
      cases h1
      obtain ⟨y, hy, _, ry⟩ := LiI.paired_get kv e1
      rw [hk] at hy
      cases hy
      exact ry
  · rw [Array.toArray_toList]; exact hS
/-- d.get(key), d a dict of the module with text keys -/
def tKGet (K : PySem.W.Frag) (d : Addr) (td ty : TE) : TE := fun σ H Q => td σ H fun x H1 => x = .ref d ∧ ty σ H1 fun y H2 => ∃ (z : Str) (r : Option Value) (v : V), y = .str z ∧ PySem.W.nsIn K d z = some r ∧ RelV v (r.getD .none) ∧ Q v H2
theorem pe_kget {o e : Expr} {td ty : TE} {d : Addr} {es : Array DictEntry} {n : Nat} {apos cpos : Pos} (D : KDict X.K X.w d es n) (ho : PE X o td) (he : PE X e ty) (m : M1 X o "get" apos e cpos) : PE X (.Call (.Attribute o "get" apos) [e] [] cpos) (tKGet X.K d td ty) := by
  refine ⟨fun pins s σ H Q I h => ?_⟩
  refine wpAny_Call_method m.base m.few m.line PySem.F.plainAttrs_dict PySem.F.slot_dict_get PySem.F.type_dict_get (thn (ho.run pins s σ H _ I h) fun u s1 ⟨x, H1, I1, rx, ex, q1⟩ => ?_)
  subst ex
  obtain rfl : u = Value.ref d := rx
  refine ⟨kd_type D I1, (fun a ea => by cases ea; exact ⟨_, I1.kIn d _ D.at_, rfl⟩), ?_⟩
  rw [m.trees]
  refine Calls.callWith_builtin rfl (Calls.evalArgs_plain (Calls.spliced_cons (thn (he.run pins s1 σ H1 _ I1 q1) fun iv s2 ⟨y, H2, I2, ry, z, r, v, ey, en, rv, q2⟩ => Calls.spliced_nil ?_)))
  subst ey
  obtain ⟨t, rfl⟩ := ry
  have hm := PySem.W.mapOf_K (prog := X.prog) (w := X.w) I2.kIn D.at_ D.lit
  refine call_meetsIn PySem.F.slot_dict_get hm.typeIs PySem.F.entry_dict_get (PySem.F.args_dict_get_2 _ _) (meets_dict_get (PySem.strKind X.prog X.w) d (PySem.strKind_is X.prog X.w z t) D.low) ⟨_, hm, ?_⟩
  rw [PySem.W.find_K D.at_ en]
  exact ⟨v, H2, I2.tok _, rv, q2⟩
end
end Pf
namespace Pf
open PySem PySem.Spec PyProof.Rows L2 SX
open C8 (Cal Met Mak Def cal0 met0 mak0 pe_c pe_mk pe_mt pe_mt0 pe_gc fnScope fnBody fnArgs fnScope_by)
def top (i : Nat) : Stmt := PySem.Challenge.pw_spoiltplaces_s01_answers.main.body.getD i (.Pass ⟨0, 0, 0, 0⟩)
/-- a name of the top that holds a constant -/
def Gc (mg : Str → Option Value) (x : Str) (v : V) : Prop := ∃ u, mg x = some u ∧ RelV v u
/-- the classes -/
structure Ad where
  W : Addr
  F : Addr
  T : Addr
  P : Addr
  G : Addr
  R : Addr
  H : Addr
/-- what the top has written, by names -/
structure Tp (K : PySem.W.Frag) (mg : Str → Option Value) (A : Ad) : Prop where
  AHEAD : Gc mg "AHEAD" (.int 4)
  NUMBER : Gc mg "NUMBER" (.int 0)
  HANDED : Gc mg "HANDED" (.int 1)
  OPERATION : Gc mg "OPERATION" (.int 2)
  CHOICE : Gc mg "CHOICE" (.int 3)
  CALL : Gc mg "CALL" (.int 4)
  LETTERS : Gc mg "LETTERS" (.str "abcdefghijklmnopqrstuvwxyz")
  DIGITS : Gc mg "DIGITS" (.str "0123456789")
  NO_FAULT : Gc mg "NO_FAULT" (.int 0)
  NO_ROW : Gc mg "NO_ROW" (.int 1)
  NO_NAME : Gc mg "NO_NAME" (.int 2)
  NO_MEANING : Gc mg "NO_MEANING" (.int 3)
  NO_EXPRESSION : Gc mg "NO_EXPRESSION" (.int 4)
  TOO_MUCH : Gc mg "TOO_MUCH" (.int 5)
  MOST_FUNCTIONS : Gc mg "MOST_FUNCTIONS" (.int 8)
  MOST_TESTS : Gc mg "MOST_TESTS" (.int 4)
  MOST_PLACES : Gc mg "MOST_PLACES" (.int 30)
  MOST_TEST_WORDS : Gc mg "MOST_TEST_WORDS" (.int 20)
  NONE : Gc mg "NONE" (.int 0)
  MISFIT : Gc mg "MISFIT" (.int 1)
  EMPTY : Gc mg "EMPTY" (.int 2)
  STEPS : Gc mg "STEPS" (.int 3)
  LENGTH : Gc mg "LENGTH" (.int 4)
  MODULUS : Gc mg "MODULUS" (.int 1000)
  LONGEST : Gc mg "LONGEST" (.int 10)
  MOST_STEPS : Gc mg "MOST_STEPS" (.int 100)
  NUMBERS : Gc mg "NUMBERS" (.int 100)
  MOST_BYTES : Gc mg "MOST_BYTES" (.int 600)
  HIGHEST_BYTE : Gc mg "HIGHEST_BYTE" (.int 255)
  WRITE : Gc mg "WRITE" (.int 0)
  TEST : Gc mg "TEST" (.int 1)
  ALL : Gc mg "ALL" (.int 2)
  RUN : Gc mg "RUN" (.int 3)
  REACH : Gc mg "REACH" (.int 4)
  PLACE : Gc mg "PLACE" (.int 5)
  SEES : Gc mg "SEES" (.int 6)
  UNSEEN : Gc mg "UNSEEN" (.int 7)
  FEWEST : Gc mg "FEWEST" (.int 8)
  b_len : mg "len" = none
  b_isinstance : mg "isinstance" = none
  b_tuple : mg "tuple" = none
  b_range : mg "range" = none
  b_int : mg "int" = none
  b_enumerate : mg "enumerate" = none
  b_any : mg "any" = none
  b_all : mg "all" = none
  b_dict : mg "dict" = none
  b_list : mg "list" = none
  b_max : mg "max" = none
  b_reversed : mg "reversed" = none
  b_sum : mg "sum" = none
  cW : Cls K A.W
  cF : Cls K A.F
  cT : Cls K A.T
  cP : Cls K A.P
  cG : Cls K A.G
  cR : Cls K A.R
  cH : Cls K A.H
  w_kind : NoAttr K A.W "kind"
  w_what : NoAttr K A.W "what"
  w_many : NoAttr K A.W "many"
  w_parts : NoAttr K A.W "parts"
  f_row : NoAttr K A.F "row"
  f_many : NoAttr K A.F "many"
  f_start : NoAttr K A.F "start"
  t_row : NoAttr K A.T "row"
  t_shapes : NoAttr K A.T "shapes"
  t_start : NoAttr K A.T "start"
  p_position : NoAttr K A.P "position"
  p_function : NoAttr K A.P "function"
  p_which : NoAttr K A.P "which"
  p_many : NoAttr K A.P "many"
  g_code : NoAttr K A.G "code"
  g_places : NoAttr K A.G "places"
  g_functions : NoAttr K A.G "functions"
  g_tests : NoAttr K A.G "tests"
  g_taken : NoAttr K A.G "taken"
  r_code : NoAttr K A.R "code"
  r_steps : NoAttr K A.R "steps"
  r_why : NoAttr K A.R "why"
  r_reached : NoAttr K A.R "reached"
  r_todo : NoAttr K A.R "todo"
  r_results : NoAttr K A.R "results"
  h_program : NoAttr K A.H "program"
  h_earlier : NoAttr K A.H "earlier"
/-! ### small words -/
theorem Same.new {H : Hp} {p : Addr} {o : HO} (h : H p = none) : Same H (upd H p o) := fun b u e => by
  rw [upd_ne (ne_of_none e h)]; exact e
theorem Same.put {Hi H : Hp} {p : Addr} {o : HO} (s : Same Hi H) (h : Hi p = none) : Same Hi (upd H p o) := fun b u e => by
  rw [upd_ne (ne_of_none e h)]; exact s b u e
theorem Same.both {Hi H : Hp} {p : Addr} {o : HO} (s : Same Hi H) (h : H p = none) : Same (upd Hi p o) (upd H p o) := fun b u e => by
  by_cases q : b = p
  · subst q; rw [upd_same] at e ⊢; exact e
  · rw [upd_ne q] at e ⊢; exact s b u e
theorem if_true_of {c : Bool} {A B : Prop} (hc : c = true) (h : A) : if c = true then A else B := by
  rw [if_pos hc]
  exact h
theorem if_false_of {c : Bool} {A B : Prop} (hc : c = false) (h : B) : if c = true then A else B := by
  rw [hc, if_neg Bool.false_ne_true]
  exact h
/-- both ways of a test -/
theorem if_of {c : Bool} {A B : Prop} (h1 : c = true → A) (h2 : c = false → B) : if c = true then A else B := by
  cases c
  · exact if_false_of rfl (h2 rfl)
  · exact if_true_of rfl (h1 rfl)
theorem lk_here {k : Str} {v : V} {r : List (Str × V)} : List.lookup k ((k, v) :: r) = some v := by
  have e : (k == k) = true := beq_self_eq_true k
  simp only [List.lookup, e]
theorem lk_past {k g : Str} {v : V} {r : List (Str × V)} (h : (k == g) = false) : List.lookup k ((g, v) :: r) = List.lookup k r := by
  simp only [List.lookup, h]
theorem lk_1 {k g : Str} {u v : V} {r : List (Str × V)} (h : (k == g) = false) : List.lookup k ((g, u) :: (k, v) :: r) = some v := (lk_past h).trans lk_here
theorem lk_2 {k g g1 : Str} {u u1 v : V} {r : List (Str × V)} (h : (k == g) = false) (h1 : (k == g1) = false) : List.lookup k ((g, u) :: (g1, u1) :: (k, v) :: r) = some v := (lk_past h).trans (lk_1 h1)
theorem lk_3 {k g g1 g2 : Str} {u u1 u2 v : V} {r : List (Str × V)} (h : (k == g) = false) (h1 : (k == g1) = false) (h2 : (k == g2) = false) : List.lookup k ((g, u) :: (g1, u1) :: (g2, u2) :: (k, v) :: r) = some v := (lk_past h).trans (lk_2 h1 h2)
theorem lk_4 {k g g1 g2 g3 : Str} {u u1 u2 u3 v : V} {r : List (Str × V)} (h : (k == g) = false) (h1 : (k == g1) = false) (h2 : (k == g2) = false) (h3 : (k == g3) = false) : List.lookup k ((g, u) :: (g1, u1) :: (g2, u2) :: (g3, u3) :: (k, v) :: r) = some v := (lk_past h).trans (lk_3 h1 h2 h3)
theorem lk_5 {k g g1 g2 g3 g4 : Str} {u u1 u2 u3 u4 v : V} {r : List (Str × V)} (h : (k == g) = false) (h1 : (k == g1) = false) (h2 : (k == g2) = false) (h3 : (k == g3) = false) (h4 : (k == g4) = false) : List.lookup k ((g, u) :: (g1, u1) :: (g2, u2) :: (g3, u3) :: (g4, u4) :: (k, v) :: r) = some v := (lk_past h).trans (lk_4 h1 h2 h3 h4)
theorem put_here {f : Str} {v x : V} {r : List (Str × V)} : putF f v ((f, x) :: r) = (f, v) :: r := if_pos rfl
theorem put_past {f g : Str} {v x : V} {r : List (Str × V)} (h : ¬ g = f) : putF f v ((g, x) :: r) = (g, x) :: putF f v r := if_neg h
/-! ### values of the language -/
abbrev Val := Ty01.Val
abbrev iV (l : List Nat) : List V := l.map fun (n : Nat) => V.int (n : Int)
def ValAt (H : Hp) : Val → V → Prop
  | .n x, v => v = .int (x : Int)
  | .l xs, v => ∃ a, v = .ref a ∧ H a = some (.tup (iV xs))
def isL : Val → Bool
  | .n _ => false
  | .l _ => true
theorem ValAt.mono {H H' : Hp} (e : Same H H') : ∀ {x : Val} {v : V}, ValAt H x v → ValAt H' x v
  | .n _, _, h => h
  | .l _, _, ⟨a, h1, h2⟩ => ⟨a, h1, e _ _ h2⟩
def ResAt (H : Hp) (r : Except Nat Val) (p : Addr) : Prop := match r with
  | .ok u => ∃ v, H p = some (.tup [.int 0, v]) ∧ ValAt H u v
  | .error e => H p = some (.tup [.int (e : Int), .int 0])
abbrev opS (o : Nat) : Str := S (Ty01.opWords.getD o [])
def dVal : Val → PyData
  | .n x => .int (x : Int)
  | .l xs => .tuple (xs.map fun (n : Nat) => .int (n : Int))
theorem dp_ints {K : PySem.W.Frag} {H : Hp} : ∀ xs : List Nat, DpAll K H (iV xs) (xs.map fun (n : Nat) => .int (n : Int))
  | [] => .nil
  | x :: xs => .cons (.int _) (dp_ints xs)
theorem ValAt.dp {K : PySem.W.Frag} {H : Hp} : ∀ {x : Val} {v : V}, ValAt H x v → Dp K H v (dVal x)
  | .n _, _, h => by cases h; exact .int _
  | .l xs, _, ⟨a, h1, h2⟩ => by cases h1; exact .tup (SqT.of h2) (dp_ints xs)
theorem canLay_ints : ∀ xs : List Nat, PyData.canLayAll0 (xs.map fun (n : Nat) => PyData.int (n : Int)) = true
  | [] => rfl
  | x :: xs => by
    show (PyData.canLay0 (.int _) && PyData.canLayAll0 _) = true
    rw [canLay_ints xs]; rfl
theorem depth_ints : ∀ xs : List Nat, PyData.depthAll (xs.map fun (n : Nat) => PyData.int (n : Int)) = 0
  | [] => by rw [List.map_nil, PyData.depthAll]
  | x :: xs => by
    rw [List.map_cons, PyData.depthAll, depth_ints xs, PyData.depth]; rfl
theorem shaped_val (x : Val) : SeqAt.shaped (dVal x) = true := by
  cases x with
  | n x => rfl
  | l xs =>
    show (PyData.canLay0 (.tuple _) && decide (PyData.depth (.tuple _) ≤ 64)) = true
    have h1 : PyData.canLay0 (.tuple (xs.map fun (n : Nat) => PyData.int (n : Int))) = true := by
      rw [PyData.canLay0]; exact canLay_ints xs
    have h2 : PyData.depth (.tuple (xs.map fun (n : Nat) => PyData.int (n : Int))) = 1 := by
      rw [PyData.depth, depth_ints]
    rw [h1, h2]; rfl
theorem eqv_ints : ∀ xs ys : List Nat, PyData.eqvAll (xs.map fun (n : Nat) => PyData.int (n : Int)) (ys.map fun (n : Nat) => PyData.int (n : Int)) = (xs == ys)
  | [], [] => by rw [List.map_nil, PyData.eqvAll]; rfl
  | [], _ :: _ => by rw [List.map_nil, List.map_cons, PyData.eqvAll]; rfl
  | _ :: _, [] => by rw [List.map_nil, List.map_cons, PyData.eqvAll]; rfl
  | x :: xs, y :: ys => by
    rw [List.map_cons, List.map_cons, PyData.eqvAll, eqv_ints xs ys, PyData.eqv, List.cons_beq_cons]
    congr 1
    rw [Bool.eq_iff_iff, beq_iff_eq, beq_iff_eq]
    omega
theorem eqv_val (x y : Val) : PyData.eqv (dVal x) (dVal y) = decide (x = y) := by
  cases x with
  | n x =>
    cases y with
    | n y =>
      show PyData.eqv (.int _) (.int _) = _
      rw [PyData.eqv, Bool.eq_iff_iff, beq_iff_eq, decide_eq_true_eq]
      constructor
      · intro h; rw [show x = y by omega]
      · intro h; cases h; rfl
    | l ys => show PyData.eqv (.int _) (.tuple _) = _; rw [PyData.eqv]; symm; exact decide_eq_false (by intro h; cases h)
  | l xs =>
    cases y with
    | n y => show PyData.eqv (.tuple _) (.int _) = _; rw [PyData.eqv]; symm; exact decide_eq_false (by intro h; cases h)
    | l ys =>
      show PyData.eqv (.tuple _) (.tuple _) = _
      rw [PyData.eqv, eqv_ints, Bool.eq_iff_iff, beq_iff_eq, decide_eq_true_eq]
      constructor
      · intro h; rw [h]
      · intro h; cases h; rfl
end Pf
namespace Pf
open PySem PySem.Spec PyProof.Rows L2 SX
open C8 (Cal Met Mak Def cal0 met0 mak0 pe_c pe_mk pe_mt pe_mt0 pe_gc fnScope fnBody fnArgs fnScope_by)
def spIsList : Sp := fun vs H Q _ => ∃ (x : Val) (v : V), vs = [v] ∧ ValAt H x v ∧ Q (.bl (isL x)) H
def RetRes (H : Hp) (r : Except Nat Val) (Q : VK) : Prop := ∀ p H', Same H H' → ResAt H' r p → Q (.ref p) H'
def spOfNum : Sp := fun vs H Q _ => ∃ (o : Nat) (x y : Val) (v w : V), vs = [.str (opS o), v, w] ∧ o < 4 ∧ ValAt H x v ∧ ValAt H y w ∧ ValOk x ∧ ValOk y ∧ RetRes H (Ty01.apply2 o x y) Q
def spCons : Sp := fun vs H Q _ => ∃ (x y : Val) (v w : V), vs = [v, w] ∧ ValAt H x v ∧ ValAt H y w ∧ ValOk y ∧ RetRes H (Ty01.apply2 7 x y) Q
def spOfList : Sp := fun vs H Q _ => ∃ (o : Nat) (x : Val) (v : V), vs = [.str (opS o), v] ∧ (o = 8 ∨ o = 9 ∨ o = 10) ∧ ValAt H x v ∧ ValOk x ∧ RetRes H (Ty01.apply1 o x) Q
section
variable {P : PySem.Program} {w : World} {K : PySem.W.Frag} {mg : Str → Option Value} {base : Heap} {A : Ad}
theorem ok_is_list (T : Tp K mg A) {f : Addr} {fd : FuncData} (F : Def K mg "is_list" (top 55) f fd) (b : Binds K fd ["value"] []) : Cal P w K mg base 1 "is_list" spIsList [] := by
  refine cal0 F b .nil (N := ["value"]) (fnScope_by (by decide +kernel)) (fun vs H Q E h => ?_) (fun cdv A outer s H vs Q E hr h => ?_)
  · obtain ⟨x, v, rfl, _⟩ := h
    rfl
  · obtain ⟨x, v, rfl, hx, k⟩ := h
    refine ⟨_, pss_one (ps_ret (pe_callB call_isi (by rfl) T.b_isinstance (by decide +kernel) (pa_cons (pv 0) (pa_cons (pe_bltn (v := .ty "tuple") (by rfl) T.b_tuple (by decide +kernel) rfl) pa_nil)))), ?_⟩
    refine ⟨_, rfl, v, .ty "tuple", ?_⟩
    cases x with
    | n x =>
      cases hx
      exact ⟨_, _, false, rfl, .ty _, .base (.int _), kit_ty (by decide +kernel), k⟩
    | l xs =>
      obtain ⟨a, rfl, ha⟩ := hx
      exact ⟨_, _, true, rfl, .ty _, .base (.tup ha), kit_ty (by decide +kernel), k⟩
theorem res_new {H : Hp} {p : Addr} {u : Val} {v : V} (hp : H p = none) (h : ValAt H u v) : ResAt (upd H p (.tup [.int 0, v])) (.ok u) p := ⟨v, upd_same, h.mono (Same.new hp)⟩
theorem isL_of : ∀ {x : Val}, isL x = true → ∃ xs, x = .l xs
  | .l xs, _ => ⟨xs, rfl⟩
theorem isN_of : ∀ {x : Val}, isL x = false → ∃ n, x = .n n
  | .n n, _ => ⟨n, rfl⟩
theorem apply2_lx {o : Nat} {xs : List Nat} {y : Val} (h : o < 4) : Ty01.apply2 o (.l xs) y = .error 1 := by
  cases y with
  | n y => simp only [Ty01.apply2]; rw [if_neg (by omega)]
  | l y => simp only [Ty01.apply2]; rw [if_neg (by omega)]
theorem apply2_xl {o : Nat} {ys : List Nat} {x : Val} (h : o < 4) : Ty01.apply2 o x (.l ys) = .error 1 := by
  cases x with
  | n y => simp only [Ty01.apply2]; rw [if_neg (by omega), if_neg (by omega)]
  | l y => simp only [Ty01.apply2]; rw [if_neg (by omega)]
theorem ok_of_numbers (T : Tp K mg A) (cI : Cal P w K mg base 1 "is_list" spIsList []) {f : Addr} {fd : FuncData} (F : Def K mg "of_numbers" (top 56) f fd) (b : Binds K fd ["name", "first", "second"] []) : Cal P w K mg base 2 "of_numbers" spOfNum [] := by
  refine cal0 F b .nil (N := ["name", "first", "second"]) (fnScope_by (by decide +kernel)) (fun vs H Q E h => ?_) (fun cdv A outer s H vs Q E hr h => ?_)
  · obtain ⟨o, x, y, v, w, rfl, _⟩ := h
    rfl
  · obtain ⟨o, x, y, v, w, rfl, ho, hx, hy, ox, oy, k⟩ := h
    refine ⟨_, pss_cons (ps_if (PW.pt (pw_or (pt_val (pe_c cI hr (by decide) (by rfl) (pa_cons (pv 1) pa_nil))) (pw_or1 (pt_val (pe_c cI hr (by decide) (by rfl) (pa_cons (pv 2) pa_nil))))))
          (pss_one (ps_ret (pe_tup (pa_cons (pe_gc (by rfl) T.MISFIT) (pa_cons pe_int pa_nil))))) pss_nil)
      (pss_cons (ps_if (pt_cmpR op_eq (pv 0) pe_str (nomark _)) (pss_one (ps_ret (pe_tup (pa_cons (pe_gc (by rfl) T.NONE) (pa_cons (pe_op op_mod (pe_op op_add (pv 1) (pv 2)) (pe_gc (by rfl) T.MODULUS)) pa_nil))))) pss_nil)
      (pss_cons (ps_if (pt_cmpR op_eq (pv 0) pe_str (nomark _)) (pss_one (ps_ret (pe_tup (pa_cons (pe_gc (by rfl) T.NONE) (pa_cons (pe_callB (call_max2 rfl) (by rfl) T.b_max (by decide +kernel) (pa_cons (pe_op op_sub (pv 1) (pv 2)) (pa_cons pe_int pa_nil))) pa_nil))))) pss_nil)
      (pss_cons (ps_if (pt_cmpR op_eq (pv 0) pe_str (nomark _)) (pss_one (ps_ret (pe_tup (pa_cons (pe_gc (by rfl) T.NONE) (pa_cons (pe_op op_mod (pe_op op_mul (pv 1) (pv 2)) (pe_gc (by rfl) T.MODULUS)) pa_nil))))) pss_nil)
      (pss_one (ps_ret (pe_tup (pa_cons (pe_gc (by rfl) T.NONE) (pa_cons (pe_ifExp (pt_cmpR op_lt (pv 1) (pv 2) (nomark _)) pe_int pe_int) pa_nil)))))))), ?_⟩
    refine ⟨_, rfl, x, v, rfl, hx, _, rfl, if_of (fun c => ?_) (fun c => ?_)⟩
    · obtain ⟨xs, rfl⟩ := isL_of c
      refine if_true_of rfl ⟨by show 2 ≤ sizeLine; decide, fun p hp => k p _ (Same.new hp) ?_⟩
      rw [apply2_lx ho]
      exact upd_same
    · refine ⟨_, rfl, y, w, rfl, hy, _, rfl, if_of (fun d => ?_) (fun d => ?_)⟩
      · obtain ⟨ys, rfl⟩ := isL_of d
        refine ⟨by show 2 ≤ sizeLine; decide, fun p hp => k p _ (Same.new hp) ?_⟩
        rw [apply2_xl ho]
        exact upd_same
      · obtain ⟨m, rfl⟩ := isN_of c
        obtain ⟨n, rfl⟩ := isN_of d
        have hm : m ≤ 999 := ox
        have hn : n ≤ 999 := oy
        cases hx
        cases hy
        have hcase : o = 0 ∨ o = 1 ∨ o = 2 ∨ o = 3 := by omega
        rcases hcase with rfl | rfl | rfl | rfl
        · refine ⟨_, rfl, rfl, _, rfl, if_true_of (by decide +kernel) ?_⟩
          refine ⟨_, rfl, _, rfl, _, _, rfl, rfl, _, _, rfl, rfl, (by show (0 : Int) < 1000; decide), by show 2 ≤ sizeLine; decide, fun p hp => k p _ (Same.new hp) ?_⟩
          refine res_new hp ?_
          show V.int _ = V.int _
          congr 1
        · refine ⟨_, rfl, rfl, _, rfl, if_false_of (by decide +kernel) ?_⟩
          refine ⟨_, rfl, rfl, _, rfl, if_true_of (by decide +kernel) ?_⟩
          refine ⟨_, rfl, _, rfl, _, _, rfl, rfl, _, _, rfl, by show 2 ≤ sizeLine; decide, fun p hp => k p _ (Same.new hp) ?_⟩
          refine res_new hp ?_
          show V.int _ = V.int _
          congr 1
          show (if (0 : Int) > (m : Int) - (n : Int) then (0 : Int) else (m : Int) - (n : Int)) = ((m - n : Nat) : Int)
          split <;> omega
        · refine ⟨_, rfl, rfl, _, rfl, if_false_of (by decide +kernel) ?_⟩
          refine ⟨_, rfl, rfl, _, rfl, if_false_of (by decide +kernel) ?_⟩
          refine ⟨_, rfl, rfl, _, rfl, if_true_of (by decide +kernel) ?_⟩
          refine ⟨_, rfl, _, rfl, _, _, rfl, rfl, .inl ⟨by omega, by omega⟩, _, _, rfl, rfl, (by show (0 : Int) < 1000; decide), by show 2 ≤ sizeLine; decide, fun p hp => k p _ (Same.new hp) ?_⟩
          refine res_new hp ?_
          show V.int _ = V.int _
          congr 1
        · refine ⟨_, rfl, rfl, _, rfl, if_false_of (by decide +kernel) ?_⟩
          refine ⟨_, rfl, rfl, _, rfl, if_false_of (by decide +kernel) ?_⟩
          refine ⟨_, rfl, rfl, _, rfl, if_false_of (by decide +kernel) ?_⟩
          refine ⟨_, rfl, _, rfl, _, _, rfl, rfl, _, rfl, if_of (fun c => ?_) (fun c => ?_)⟩
          · refine ⟨by show 2 ≤ sizeLine; decide, fun p hp => k p _ (Same.new hp) ?_⟩
            have c : m < n := by have := of_decide_eq_true c; omega
            show ResAt _ (.ok (Ty01.bit (decide (m < n)))) p
            rw [decide_eq_true c]
            exact res_new hp rfl
          · refine ⟨by show 2 ≤ sizeLine; decide, fun p hp => k p _ (Same.new hp) ?_⟩
            have c : ¬ m < n := by have := of_decide_eq_false c; omega
            show ResAt _ (.ok (Ty01.bit (decide (m < n)))) p
            rw [decide_eq_false c]
            exact res_new hp rfl
theorem pd_get {α : Type} {F : α → V → Prop} {xs : List α} {vs : List V} (h : Paired F xs vs) {i : Nat} {x : α} (e : xs[i]? = some x) : ∃ v, vs[i]? = some v ∧ F x v := LiI.paired_get h e
theorem apply2_cons (n : Nat) (ys : List Nat) : Ty01.apply2 7 (.n n) (.l ys) = if 10 ≤ ys.length then .error 4 else .ok (.l (n :: ys)) := rfl
theorem apply2_same (x y : Val) : Ty01.apply2 4 x y = .ok (Ty01.bit (decide (x = y))) := by
  cases x with
  | n x =>
    cases y with
    | n y =>
      show Except.ok (Ty01.bit (x == y)) = _
      congr 2
      rw [Bool.eq_iff_iff]; simp
    | l y => rfl
  | l x =>
    cases y with
    | n y => rfl
    | l y =>
      show Except.ok (Ty01.bit (x == y)) = _
      congr 2
      rw [Bool.eq_iff_iff]; simp
theorem ok_cons (T : Tp K mg A) (cI : Cal P w K mg base 1 "is_list" spIsList []) {f : Addr} {fd : FuncData} (F : Def K mg "cons" (top 57) f fd) (b : Binds K fd ["first", "second"] []) : Cal P w K mg base 2 "cons" spCons [] := by
  refine cal0 F b .nil (N := ["first", "second"]) (fnScope_by (by decide +kernel)) (fun vs H Q E h => ?_) (fun cdv A outer s H vs Q E hr h => ?_)
  · obtain ⟨x, y, v, w, rfl, _⟩ := h
    rfl
  · obtain ⟨x, y, v, w, rfl, hx, hy, oy, k⟩ := h
    refine ⟨_, pss_cons (ps_if (PW.pt (pw_or (pt_val (pe_c cI hr (by decide) (by rfl) (pa_cons (pv 0) pa_nil))) (pw_or1 (pt_not (pt_val (pe_c cI hr (by decide) (by rfl) (pa_cons (pv 1) pa_nil)))))))
          (pss_one (ps_ret (pe_tup (pa_cons (pe_gc (by rfl) T.MISFIT) (pa_cons pe_int pa_nil))))) pss_nil)
      (pss_cons (ps_if (pt_cmpR op_eq (pe_callB call_len_seq (by rfl) T.b_len PySem.boot_len (pa_cons (pv 1) pa_nil)) (pe_gc (by rfl) T.LONGEST) (nomark _)) (pss_one (ps_ret (pe_tup (pa_cons (pe_gc (by rfl) T.LENGTH) (pa_cons pe_int pa_nil))))) pss_nil)
      (pss_one (ps_ret (pe_tup (pa_cons (pe_gc (by rfl) T.NONE) (pa_cons (pe_op op_catA (pe_tup (pa_cons (pv 0) pa_nil)) (pv 1)) pa_nil)))))), ?_⟩
    refine ⟨_, rfl, x, v, rfl, hx, _, rfl, if_of (fun c => ?_) (fun c => ?_)⟩
    · obtain ⟨xs, rfl⟩ := isL_of c
      refine if_true_of rfl ⟨by show 2 ≤ sizeLine; decide, fun p hp => k p _ (Same.new hp) ?_⟩
      have e : Ty01.apply2 7 (.l xs) y = .error 1 := by cases y <;> rfl
      rw [e]
      exact upd_same
    · refine ⟨_, rfl, y, w, rfl, hy, _, rfl, ?_⟩
      obtain ⟨n, rfl⟩ := isN_of c
      cases y with
      | n m =>
        refine if_true_of rfl ⟨by show 2 ≤ sizeLine; decide, fun p hp => k p _ (Same.new hp) ?_⟩
        exact upd_same
      | l ys =>
        obtain ⟨a, rfl, ha⟩ := hy
        cases hx
        have hl : ys.length ≤ 10 := oy.1
        refine if_false_of rfl ⟨_, rfl, a, _, rfl, .inr (SqT.of ha), rfl, _, rfl, if_of (fun c => ?_) (fun c => ?_)⟩
        · have c := of_decide_eq_true c
          have c : ((iV ys).length : Int) = 10 := V.int.inj c
          rw [List.length_map] at c
          refine ⟨by show 2 ≤ sizeLine; decide, fun p hp => k p _ (Same.new hp) ?_⟩
          have e : Ty01.apply2 7 (.n n) (.l ys) = .error 4 := by
            rw [apply2_cons, if_pos (by omega)]
          rw [e]
          exact upd_same
        · have c := of_decide_eq_false c
          have c : ys.length ≠ 10 := fun z => c (by rw [List.length_map, z]; rfl)
          refine ⟨_, rfl, by show 1 ≤ sizeLine; decide, fun t ht => ?_⟩
          have ha' : (upd H t (.tup [V.int (n : Int)])) a = some (.tup (iV ys)) := Same.new ht _ _ ha
          have e : Ty01.apply2 7 (.n n) (.l ys) = .ok (.l (n :: ys)) := by
            rw [apply2_cons, if_neg (by omega)]
          rw [e] at k
          refine ⟨_, rfl, t, a, _, _, rfl, rfl, SqT.of upd_same, SqT.of ha', (by rw [List.length_map]; show 1 + ys.length ≤ 2 ^ 24; omega), (fun z => by cases z), (fun _ z => ?_), (fun _ _ q hq => ?_)⟩
          · refine ⟨by show 2 ≤ sizeLine; decide, fun p hp => k p _ (Same.trans (Same.new ht) (Same.new hp)) (res_new hp ⟨t, rfl, ?_⟩)⟩
            have : ys = [] := by simpa using z
            rw [this]
            exact upd_same
          · refine ⟨by show 2 ≤ sizeLine; decide, fun p hp => k p _ (Same.trans (Same.trans (Same.new ht) (Same.new hq)) (Same.new hp)) (res_new hp ⟨q, rfl, ?_⟩)⟩
            exact upd_same
theorem ok_of_list (T : Tp K mg A) (cI : Cal P w K mg base 1 "is_list" spIsList []) {f : Addr} {fd : FuncData} (F : Def K mg "of_list" (top 58) f fd) (b : Binds K fd ["name", "value"] []) : Cal P w K mg base 2 "of_list" spOfList [] := by
  refine cal0 F b .nil (N := ["name", "value"]) (fnScope_by (by decide +kernel)) (fun vs H Q E h => ?_) (fun cdv A outer s H vs Q E hr h => ?_)
  · obtain ⟨o, x, v, rfl, _⟩ := h
    rfl
  · obtain ⟨o, x, v, rfl, ho, hx, ox, k⟩ := h
    refine ⟨_, pss_cons (ps_if (pt_not (pt_val (pe_c cI hr (by decide) (by rfl) (pa_cons (pv 1) pa_nil)))) (pss_one (ps_ret (pe_tup (pa_cons (pe_gc (by rfl) T.MISFIT) (pa_cons pe_int pa_nil))))) pss_nil)
      (pss_cons (ps_if (pt_cmpR op_eq (pv 0) pe_str (nomark _)) (pss_one (ps_ret (pe_tup (pa_cons (pe_gc (by rfl) T.NONE) (pa_cons (pe_ifExp (pt_cmpR (op_eqD hr.units) (pv 1) (pe_tup pa_nil) (nomark _)) pe_int pe_int) pa_nil))))) pss_nil)
      (pss_cons (ps_if (pt_cmpR (op_eqD hr.units) (pv 1) (pe_tup pa_nil) (nomark _)) (pss_one (ps_ret (pe_tup (pa_cons (pe_gc (by rfl) T.EMPTY) (pa_cons pe_int pa_nil))))) pss_nil)
      (pss_one (ps_ret (pe_tup (pa_cons (pe_gc (by rfl) T.NONE) (pa_cons (pe_ifExp (pt_cmpR op_eq (pv 0) pe_str (nomark _)) (pe_ix ix_tup (pv 1) pe_int (fun _ _ => rfl)) (pe_slice sl_tup (pv 1) (po_some pe_int) po_none)) pa_nil))))))), ?_⟩
    refine ⟨_, rfl, x, v, rfl, hx, _, rfl, ?_⟩
    cases x with
    | n x =>
      refine if_true_of rfl ⟨by show 2 ≤ sizeLine; decide, fun p hp => k p _ (Same.new hp) ?_⟩
      exact upd_same
    | l xs =>
      refine if_false_of rfl ?_
      have dpE : ∀ {H : Hp} {t : Addr}, Dp K (upd H t (.tup [])) (.ref t) (dVal (.l [])) := fun {H t} => ValAt.dp ⟨t, rfl, upd_same⟩
      rcases ho with rfl | rfl | rfl
      · refine ⟨_, rfl, rfl, _, rfl, if_false_of (by decide +kernel) ?_⟩
        refine ⟨_, rfl, by show 0 ≤ sizeLine; decide, fun t ht => ?_⟩
        have hx' := hx.mono (Same.new (o := .tup []) ht)
        refine ⟨_, _, hx'.dp, dpE, shaped_val _, shaped_val _, _, rfl, ?_⟩
        rw [eqv_val]
        refine if_of (fun c => ?_) (fun c => ?_)
        · have c := of_decide_eq_true c
          cases c
          exact ⟨by show 2 ≤ sizeLine; decide, fun p hp => k p _ (Same.trans (Same.new ht) (Same.new hp)) upd_same⟩
        · cases xs with
          | nil => exact absurd c (by decide)
          | cons y ys =>
            obtain ⟨a, rfl, ha⟩ := hx'
            refine ⟨_, rfl, rfl, _, rfl, if_true_of (by decide +kernel) ?_⟩
            refine ⟨_, rfl, a, _, _, _, rfl, rfl, SqT.of ha, atI_nat (j := 0) rfl, by show 2 ≤ sizeLine; decide, fun p hp => k p _ (Same.trans (Same.new ht) (Same.new hp)) (res_new hp rfl)⟩
      · refine ⟨_, rfl, rfl, _, rfl, if_false_of (by decide +kernel) ?_⟩
        refine ⟨_, rfl, by show 0 ≤ sizeLine; decide, fun t ht => ?_⟩
        have hx' := hx.mono (Same.new (o := .tup []) ht)
        refine ⟨_, _, hx'.dp, dpE, shaped_val _, shaped_val _, _, rfl, ?_⟩
        rw [eqv_val]
        refine if_of (fun c => ?_) (fun c => ?_)
        · have c := of_decide_eq_true c
          cases c
          exact ⟨by show 2 ≤ sizeLine; decide, fun p hp => k p _ (Same.trans (Same.new ht) (Same.new hp)) upd_same⟩
        · cases xs with
          | nil => exact absurd c (by decide)
          | cons y ys =>
            obtain ⟨a, rfl, ha⟩ := hx'
            refine ⟨_, rfl, rfl, _, rfl, if_false_of (by decide +kernel) ?_⟩
            refine ⟨_, rfl, 1, rfl, a, _, rfl, SqT.of ha, ?_, fun q hq => ?_⟩
            · rintro ⟨z, _⟩
              rw [List.length_map, show (some (1 : Int)) = some ((1 : Nat) : Int) by rfl, HT.sIx_nat, List.length_cons] at z
              omega
            · refine ⟨by show 2 ≤ sizeLine; decide, fun p hp => k p _ (Same.trans (Same.trans (Same.new ht) (Same.new hq)) (Same.new hp)) (res_new hp ⟨q, rfl, ?_⟩)⟩
              rw [upd_same]
              congr 2
              unfold cutV
              rw [show (some (1 : Int)) = some ((1 : Nat) : Int) by rfl, HT.sIx_nat, HT.sIx_none, List.length_map, List.length_cons, Nat.min_eq_left (by omega)]
              show ((iV ys)).take (ys.length + 1 - 1) = iV ys
              rw [List.take_of_length_le (by rw [List.length_map]; omega)]
      · refine ⟨_, rfl, rfl, _, rfl, if_true_of (by decide +kernel) ?_⟩
        refine ⟨_, rfl, by show 0 ≤ sizeLine; decide, fun t ht => ?_⟩
        have hx' := hx.mono (Same.new (o := .tup []) ht)
        refine ⟨_, _, hx'.dp, dpE, shaped_val _, shaped_val _, _, rfl, ?_⟩
        rw [eqv_val]
        refine if_of (fun c => ?_) (fun c => ?_)
        · have c := of_decide_eq_true c
          cases c
          exact ⟨by show 2 ≤ sizeLine; decide, fun p hp => k p _ (Same.trans (Same.new ht) (Same.new hp)) (res_new hp rfl)⟩
        · cases xs with
          | nil => exact absurd c (by decide)
          | cons y ys => exact ⟨by show 2 ≤ sizeLine; decide, fun p hp => k p _ (Same.trans (Same.new ht) (Same.new hp)) (res_new hp rfl)⟩
/-- the values of a list -/
def ValsAt (H : Hp) : List Val → List V → Prop := Paired (ValAt H)
theorem ValsAt.mono {H H' : Hp} (e : Same H H') {xs : List Val} {vs : List V} (h : ValsAt H xs vs) : ValsAt H' xs vs := Paired.mapP h fun _ _ z => ValAt.mono e z
def spOperate : Sp := fun vs H Q _ => ∃ (o : Nat) (pl : Addr) (args : List Val) (us : List V), vs = [.str (opS o), .ref pl] ∧ o < 12 ∧ isCh o = false ∧ H pl = some (.lst us) ∧ ValsAt H args us ∧ args.length = Ty01.opArity.getD o 0 ∧ (∀ v ∈ args, ValOk v) ∧ RetRes H (opApply o args) Q
theorem ok_operate (T : Tp K mg A) (cN : Cal P w K mg base 2 "of_numbers" spOfNum []) (cC : Cal P w K mg base 2 "cons" spCons []) (cL : Cal P w K mg base 2 "of_list" spOfList []) {f : Addr} {fd : FuncData} (F : Def K mg "operate" (top 59) f fd) (b : Binds K fd ["name", "parts"] []) : Cal P w K mg base 3 "operate" spOperate [] := by
  refine cal0 F b .nil (N := ["name", "parts"]) (fnScope_by (by decide +kernel)) (fun vs H Q E h => ?_) (fun cdv A outer s H vs Q E hr h => ?_)
  · obtain ⟨o, pl, args, us, rfl, _⟩ := h
    rfl
  · obtain ⟨o, pl, args, us, rfl, ho, hch, hpl, hv, hlen, hok, k⟩ := h
    refine ⟨_, pss_cons (ps_if (pt_cmpR op_eq (pv 0) pe_str (nomark _)) (pss_one (ps_ret (pe_tup (pa_cons (pe_gc (by rfl) T.NONE) (pa_cons (pe_tup pa_nil) pa_nil))))) pss_nil)
      (pss_cons (ps_if (pt_cmpR op_in_seq (pv 0) (pe_tup (pa_cons pe_str (pa_cons pe_str (pa_cons pe_str pa_nil)))) (by rfl)) (pss_one (ps_ret (pe_c cL hr (by decide) (by rfl) (pa_cons (pv 0) (pa_cons (pe_ix ix_list (pv 1) pe_int (fun _ _ => rfl)) pa_nil))))) pss_nil)
      (pss_cons (ps_if (pt_cmpR op_eq (pv 0) pe_str (nomark _)) (pss_one (ps_ret (pe_c cC hr (by decide) (by rfl) (pa_cons (pe_ix ix_list (pv 1) pe_int (fun _ _ => rfl)) (pa_cons (pe_ix ix_list (pv 1) pe_int (fun _ _ => rfl)) pa_nil))))) pss_nil)
      (pss_cons (ps_if (pt_cmpR op_eq (pv 0) pe_str (nomark _)) (pss_one (ps_ret (pe_tup (pa_cons (pe_gc (by rfl) T.NONE) (pa_cons (pe_ifExp (pt_cmpR (op_eqD hr.units) (pe_ix ix_list (pv 1) pe_int (fun _ _ => rfl)) (pe_ix ix_list (pv 1) pe_int (fun _ _ => rfl)) (nomark _)) pe_int pe_int) pa_nil))))) pss_nil)
      (pss_one (ps_ret (pe_c cN hr (by decide) (by rfl) (pa_cons (pv 0) (pa_cons (pe_ix ix_list (pv 1) pe_int (fun _ _ => rfl)) (pa_cons (pe_ix ix_list (pv 1) pe_int (fun _ _ => rfl)) pa_nil))))))))), ?_⟩
    have e1 : ∀ o, o < 12 → o ≠ 6 → decide (V.str (opS o) = V.str "nil") = false := by decide +kernel
    have e2 : ∀ o, o < 8 → inV (V.str (opS o)) [.str "head", .str "tail", .str "isnil"] = false := by decide +kernel
    have e3 : ∀ o, o < 12 → o ≠ 7 → decide (V.str (opS o) = V.str "cons") = false := by decide +kernel
    have e4 : ∀ o, o < 12 → o ≠ 4 → decide (V.str (opS o) = V.str "same") = false := by decide +kernel
    obtain ⟨a3, a0, a1, a2⟩ := arity_op (a := []) ho
    by_cases h6 : o = 6
    · subst h6
      have hlen : args.length = 0 := hlen
      have : args = [] := List.length_eq_zero_iff.mp hlen
      subst this
      refine ⟨_, rfl, rfl, _, rfl, if_true_of (by decide +kernel) ?_⟩
      exact ⟨by show 0 ≤ sizeLine; decide, fun t ht => ⟨by show 2 ≤ sizeLine; decide, fun p hp => k p _ (Same.trans (Same.new ht) (Same.new hp)) (res_new hp ⟨t, rfl, upd_same⟩)⟩⟩
    · refine ⟨_, rfl, rfl, _, rfl, if_false_of (e1 o ho h6) ?_⟩
      refine ⟨_, rfl, by show 3 ≤ sizeLine; decide, fun t ht => ?_⟩
      have s1 : Same H (upd H t (.tup [.str "head", .str "tail", .str "isnil"])) := Same.new ht
      have k1 : RetRes (upd H t (.tup [.str "head", .str "tail", .str "isnil"])) (opApply o args) Q := fun p H' s2 r => k p H' (s1.trans s2) r
      have hv1 := hv.mono s1
      have hpl1 := s1 _ _ hpl
      refine ⟨t, _, rfl, .inr (SqT.of upd_same), rfl, rfl, _, rfl, ?_⟩
      by_cases h8 : 8 ≤ o
      · have hl : args.length = 1 := hlen.trans (a1 hch h8)
        obtain ⟨x, rfl⟩ := List.length_eq_one_iff.mp hl
        obtain ⟨u, hu, hxu⟩ := pd_get hv1 (i := 0) rfl
        have h11 : o ≠ 11 := by intro z; subst z; revert hch; decide
        have h3 : o = 8 ∨ o = 9 ∨ o = 10 := by omega
        refine if_true_of (by rcases h3 with rfl | rfl | rfl <;> decide +kernel) ?_
        exact ⟨_, rfl, _, rfl, pl, us, 0, u, rfl, rfl, SqL.of hpl1, atI_nat (j := 0) hu, o, x, u, rfl, h3, hxu, hok x (by simp), k1⟩
      · refine if_false_of (e2 o (by omega)) ?_
        have hl : args.length = 2 := hlen.trans (a2 hch (by omega) h6)
        obtain ⟨x, y, rfl⟩ : ∃ x y, args = [x, y] := by
          match args, hl with
          | [x, y], _ => exact ⟨x, y, rfl⟩
        obtain ⟨u, hu, hxu⟩ := pd_get hv1 (i := 0) rfl
        obtain ⟨z, hz, hyz⟩ := pd_get hv1 (i := 1) rfl
        by_cases h7 : o = 7
        · subst h7
          refine ⟨_, rfl, rfl, _, rfl, if_true_of (by decide +kernel) ?_⟩
          exact ⟨_, rfl, pl, us, 0, u, rfl, rfl, SqL.of hpl1, atI_nat (j := 0) hu, _, rfl, pl, us, 1, z, rfl, rfl, SqL.of hpl1, atI_nat (j := 1) hz, x, y, u, z, rfl, hxu, hyz, hok y (by simp), k1⟩
        · refine ⟨_, rfl, rfl, _, rfl, if_false_of (e3 o ho h7) ?_⟩
          by_cases h4 : o = 4
          · subst h4
            refine ⟨_, rfl, rfl, _, rfl, if_true_of (by decide +kernel) ?_⟩
            have key : opApply 4 [x, y] = .ok (Ty01.bit (decide (x = y))) := apply2_same x y
            rw [key] at k1
            refine ⟨_, rfl, pl, us, 0, u, rfl, rfl, SqL.of hpl1, atI_nat (j := 0) hu, _, rfl, pl, us, 1, z, rfl, rfl, SqL.of hpl1, atI_nat (j := 1) hz, _, _, hxu.dp, hyz.dp, shaped_val _, shaped_val _, _, rfl, ?_⟩
            rw [eqv_val]
            refine if_of (fun c => ?_) (fun c => ?_)
            · rw [c] at k1
              exact ⟨by show 2 ≤ sizeLine; decide, fun p hp => k1 p _ (Same.new hp) (res_new hp rfl)⟩
            · rw [c] at k1
              exact ⟨by show 2 ≤ sizeLine; decide, fun p hp => k1 p _ (Same.new hp) (res_new hp rfl)⟩
          · refine ⟨_, rfl, rfl, _, rfl, if_false_of (e4 o ho h4) ?_⟩
            have h5 : o ≠ 5 := by intro z; subst z; revert hch; decide
            exact ⟨_, rfl, _, rfl, pl, us, 0, u, rfl, rfl, SqL.of hpl1, atI_nat (j := 0) hu, _, rfl, pl, us, 1, z, rfl, rfl, SqL.of hpl1, atI_nat (j := 1) hz, o, x, y, u, z, rfl, by omega, hxu, hyz, hok x (by simp), hok y (by simp), k1⟩
end
end Pf
namespace Pf
open PySem PySem.Spec PyProof.Rows L2 SX
open C8 (Cal Met Mak Def cal0 met0 mak0 pe_c pe_mk pe_mt pe_mt0 pe_gc fnScope fnBody fnArgs fnScope_by)
abbrev Fs := List (Str × V)
abbrev wF (k wh m p : V) : Fs := [("kind", k), ("what", wh), ("many", m), ("parts", p)]
abbrev fF (r m s : V) : Fs := [("row", r), ("many", m), ("start", s)]
abbrev tF (r sh s : V) : Fs := [("row", r), ("shapes", sh), ("start", s)]
abbrev pF (p f wh m : V) : Fs := [("position", p), ("function", f), ("which", wh), ("many", m)]
abbrev gF (c p f t k : V) : Fs := [("code", c), ("places", p), ("functions", f), ("tests", t), ("taken", k)]
abbrev rF (c s y re td rs : V) : Fs := [("code", c), ("steps", s), ("why", y), ("reached", re), ("todo", td), ("results", rs)]
abbrev hF (p e : V) : Fs := [("program", p), ("earlier", e)]
/-- what was tracked but p is as it was -/
def But (p : Addr) (H H' : Hp) : Prop := ∀ b o, H b = some o → b ≠ p → H' b = some o
theorem But.refl (p : Addr) (H : Hp) : But p H H := fun _ _ e _ => e
theorem But.trans {p : Addr} {H H1 H2 : Hp} (a : But p H H1) (b : But p H1 H2) : But p H H2 := fun c o e n => b c o (a c o e n) n
theorem But.put {p : Addr} {H : Hp} {o : HO} : But p H (upd H p o) := fun b u e n => by rw [upd_ne n]; exact e
theorem But.of {p : Addr} {H H' : Hp} (s : Same H H') : But p H H' := fun b o e _ => s b o e
/-! ### the makers' promises -/
def spWInit (C : Addr) : Sp := fun vs H Q _ => ∃ (p dx : Addr) (k wh m : V), vs = [.ref p, k, wh, m] ∧ H p = some (.ins C dx []) ∧
  ∀ (H' : Hp) (pl : Addr), H pl = none → pl ≠ p → H' p = some (.ins C dx (wF k wh m (.ref pl))) → H' pl = some (.lst []) → But p H H' → Q .non H'
def spPInit (C : Addr) : Sp := fun vs H Q _ => ∃ (p dx : Addr) (a b c d : V), vs = [.ref p, a, b, c, d] ∧ H p = some (.ins C dx []) ∧
  ∀ H' : Hp, H' p = some (.ins C dx (pF a b c d)) → But p H H' → Q .non H'
def spFInit (C : Addr) : Sp := fun vs H Q _ => ∃ (p dx r : Addr) (st : V) (ws : List V) (z : List Nat), vs = [.ref p, .ref r, st] ∧ H p = some (.ins C dx []) ∧ H r = some (.tup ws) ∧ ws[2]? = some (.str (S z)) ∧
  z.all (fun c => decide (48 ≤ c) && decide (c ≤ 57)) = true ∧ z ≠ [] ∧ z.length ≤ 600 ∧
  ∀ H' : Hp, H' p = some (.ins C dx (fF (.ref r) (.int ((NumText.digitsVal z : Nat) : Int)) st)) → But p H H' → Q .non H'
def spTInit (C : Addr) : Sp := fun vs H Q _ => ∃ (p dx r : Addr) (st : V) (ws : List V) (z : V), vs = [.ref p, .ref r, st] ∧ H p = some (.ins C dx []) ∧ H r = some (.tup ws) ∧ ws[2]? = some z ∧
  ∀ H' : Hp, H' p = some (.ins C dx (tF (.ref r) z st)) → But p H H' → Q .non H'
def spGInit (C : Addr) : Sp := fun vs H Q _ => ∃ (p dx : Addr), vs = [.ref p] ∧ H p = some (.ins C dx []) ∧
  ∀ (H' : Hp) (cd pl fn ts tk : Addr), H cd = none → H pl = none → H fn = none → H ts = none → H tk = none → [p, cd, pl, fn, ts, tk].Nodup →
    H' p = some (.ins C dx (gF (.ref cd) (.ref pl) (.ref fn) (.ref ts) (.ref tk))) → H' cd = some (.lst []) → H' pl = some (.lst []) → H' fn = some (.dK []) → H' ts = some (.lst []) → H' tk = some (.dK []) → But p H H' → Q .non H'
def spRInit (C : Addr) : Sp := fun vs H Q _ => ∃ (p dx : Addr) (c : V), vs = [.ref p, c] ∧ H p = some (.ins C dx []) ∧
  ∀ (H' : Hp) (re td rs : Addr), H re = none → H td = none → H rs = none → [p, re, td, rs].Nodup →
    H' p = some (.ins C dx (rF c (.int 0) (.int 0) (.ref re) (.ref td) (.ref rs))) → H' re = some (.dK []) → H' td = some (.lst []) → H' rs = some (.lst []) → But p H H' → Q .non H'
section
variable {P : PySem.Program} {w : World} {K : PySem.W.Frag} {mg : Str → Option Value} {base : Heap} {A : Ad}
theorem put_new {f : Str} {v : V} : ∀ {r : Fs}, (∀ p ∈ r, p.1 ≠ f) → putF f v r = r ++ [(f, v)]
  | [], _ => rfl
  | (g, x) :: r, h => by
    rw [put_past (h (g, x) (List.mem_cons_self ..)), put_new fun p hp => h p (List.mem_cons_of_mem _ hp)]
    rfl
theorem ok_Word (T : Tp K mg A) (hm : mg "Word" = some (.ref A.W)) {f : Addr} {fd : FuncData} (F : C8.Fun K "__init__" "Word.__init__" (inClass (top 7) 0) f fd) (M : Mk K A.W f) (b : Binds K fd ["self", "kind", "what", "many"] []) : Mak P w K mg base 1 "Word" A.W (spWInit A.W) [] := by
  refine mak0 M hm F b .nil (N := ["self", "kind", "what", "many"]) (fnScope_by (by decide +kernel)) (fun vs H Q E h => ?_) (fun cdv A' outer s H vs Q E hr h => ?_)
  · obtain ⟨p, dx, k, wh, m, rfl, _⟩ := h
    rfl
  · obtain ⟨p, dx, k, wh, m, rfl, hp, q⟩ := h
    refine ⟨_, pss_cons (ps_fld (pv 0) (pv 1) rfl) (pss_cons (ps_fld (pv 0) (pv 2) rfl) (pss_cons (ps_fld (pv 0) (pv 3) rfl) (pss_one (ps_fld (pv 0) (pe_lst pa_nil) rfl)))), ?_⟩
    refine ⟨_, rfl, _, rfl, p, _, dx, [], rfl, hp, T.cW, T.w_kind, (by show 0 < 1000; decide), ?_⟩
    refine ⟨_, rfl, _, rfl, p, _, dx, _, rfl, upd_same, T.cW, T.w_what, (by show 1 < 1000; decide), ?_⟩
    refine ⟨_, rfl, _, rfl, p, _, dx, _, rfl, upd_same, T.cW, T.w_many, (by show 2 < 1000; decide), ?_⟩
    refine ⟨by show 0 ≤ sizeLine; decide, fun pl hpl => ?_⟩
    have ne : pl ≠ p := fun z => by rw [z, upd_same] at hpl; cases hpl
    rw [upd_ne ne, upd_ne ne, upd_ne ne] at hpl
    refine ⟨_, rfl, p, _, dx, _, rfl, (upd_ne ne.symm).trans upd_same, T.cW, T.w_parts, (by show 3 < 1000; decide), ?_⟩
    refine q _ pl hpl ne (upd_same.trans ?_) ((upd_ne ne).trans upd_same) ?_
    · rfl
    · exact ((But.put.trans But.put).trans But.put).trans ((But.of (Same.new (by rw [upd_ne ne, upd_ne ne, upd_ne ne]; exact hpl))).trans But.put)
theorem ok_Place (T : Tp K mg A) (hm : mg "Place" = some (.ref A.P)) {f : Addr} {fd : FuncData} (F : C8.Fun K "__init__" "Place.__init__" (inClass (top 10) 0) f fd) (M : Mk K A.P f) (b : Binds K fd ["self", "position", "function", "which", "many"] []) : Mak P w K mg base 1 "Place" A.P (spPInit A.P) [] := by
  refine mak0 M hm F b .nil (N := ["self", "position", "function", "which", "many"]) (fnScope_by (by decide +kernel)) (fun vs H Q E h => ?_) (fun cdv A' outer s H vs Q E hr h => ?_)
  · obtain ⟨p, dx, k, wh, m, e, rfl, _⟩ := h
    rfl
  · obtain ⟨p, dx, k, wh, m, e, rfl, hp, q⟩ := h
    refine ⟨_, pss_cons (ps_fld (pv 0) (pv 1) rfl) (pss_cons (ps_fld (pv 0) (pv 2) rfl) (pss_cons (ps_fld (pv 0) (pv 3) rfl) (pss_one (ps_fld (pv 0) (pv 4) rfl)))), ?_⟩
    refine ⟨_, rfl, _, rfl, p, _, dx, [], rfl, hp, T.cP, T.p_position, (by show 0 < 1000; decide), ?_⟩
    refine ⟨_, rfl, _, rfl, p, _, dx, _, rfl, upd_same, T.cP, T.p_function, (by show 1 < 1000; decide), ?_⟩
    refine ⟨_, rfl, _, rfl, p, _, dx, _, rfl, upd_same, T.cP, T.p_which, (by show 2 < 1000; decide), ?_⟩
    refine ⟨_, rfl, _, rfl, p, _, dx, _, rfl, upd_same, T.cP, T.p_many, (by show 3 < 1000; decide), ?_⟩
    exact q _ (upd_same.trans rfl) (((But.put.trans But.put).trans But.put).trans But.put)
theorem ok_Function (T : Tp K mg A) (hm : mg "Function" = some (.ref A.F)) {f : Addr} {fd : FuncData} (F : C8.Fun K "__init__" "Function.__init__" (inClass (top 8) 0) f fd) (M : Mk K A.F f) (b : Binds K fd ["self", "row", "start"] []) : Mak P w K mg base 1 "Function" A.F (spFInit A.F) [] := by
  refine mak0 M hm F b .nil (N := ["self", "row", "start"]) (fnScope_by (by decide +kernel)) (fun vs H Q E h => ?_) (fun cdv A' outer s H vs Q E hr h => ?_)
  · obtain ⟨p, dx, r, st, ws, z, rfl, _⟩ := h
    rfl
  · obtain ⟨p, dx, r, st, ws, z, rfl, hp, hr', hz, z1, z2, z3, q⟩ := h
    refine ⟨_, pss_cons (ps_fld (pv 0) (pv 1) rfl) (pss_cons (ps_fld (pv 0) (pe_callTy call_int_str (by rfl) T.b_int (by decide +kernel) (pa_cons (pe_ix ix_tup (pv 1) pe_int (fun _ _ => rfl)) pa_nil)) rfl) (pss_one (ps_fld (pv 0) (pv 2) rfl))), ?_⟩
    have hrp : r ≠ p := ne_of hr' hp (by intro e; cases e)
    refine ⟨_, rfl, _, rfl, p, _, dx, [], rfl, hp, T.cF, T.f_row, (by show 0 < 1000; decide), ?_⟩
    refine ⟨_, rfl, r, ws, 2, _, rfl, rfl, SqT.of ((upd_ne hrp).trans hr'), atI_nat (j := 2) hz, S z, _, rfl, int_S z1 z2 (by omega), (by rw [S_len]; omega), _, rfl, p, _, dx, _, rfl, upd_same, T.cF, T.f_many, (by show 1 < 1000; decide), ?_⟩
    refine ⟨_, rfl, _, rfl, p, _, dx, _, rfl, upd_same, T.cF, T.f_start, (by show 2 < 1000; decide), ?_⟩
    exact q _ (upd_same.trans rfl) ((But.put.trans But.put).trans But.put)
theorem ok_Test (T : Tp K mg A) (hm : mg "Test" = some (.ref A.T)) {f : Addr} {fd : FuncData} (F : C8.Fun K "__init__" "Test.__init__" (inClass (top 9) 0) f fd) (M : Mk K A.T f) (b : Binds K fd ["self", "row", "start"] []) : Mak P w K mg base 1 "Test" A.T (spTInit A.T) [] := by
  refine mak0 M hm F b .nil (N := ["self", "row", "start"]) (fnScope_by (by decide +kernel)) (fun vs H Q E h => ?_) (fun cdv A' outer s H vs Q E hr h => ?_)
  · obtain ⟨p, dx, r, st, ws, z, rfl, _⟩ := h
    rfl
  · obtain ⟨p, dx, r, st, ws, z, rfl, hp, hr', hz, q⟩ := h
    refine ⟨_, pss_cons (ps_fld (pv 0) (pv 1) rfl) (pss_cons (ps_fld (pv 0) (pe_ix ix_tup (pv 1) pe_int (fun _ _ => rfl)) rfl) (pss_one (ps_fld (pv 0) (pv 2) rfl))), ?_⟩
    have hrp : r ≠ p := ne_of hr' hp (by intro e; cases e)
    refine ⟨_, rfl, _, rfl, p, _, dx, [], rfl, hp, T.cT, T.t_row, (by show 0 < 1000; decide), ?_⟩
    refine ⟨_, rfl, r, ws, 2, _, rfl, rfl, SqT.of ((upd_ne hrp).trans hr'), atI_nat (j := 2) hz, _, rfl, p, _, dx, _, rfl, upd_same, T.cT, T.t_shapes, (by show 1 < 1000; decide), ?_⟩
    refine ⟨_, rfl, _, rfl, p, _, dx, _, rfl, upd_same, T.cT, T.t_start, (by show 2 < 1000; decide), ?_⟩
    exact q _ (upd_same.trans rfl) ((But.put.trans But.put).trans But.put)
/-- a field's store at p, what else was stays -/
theorem free_put {H : Hp} {p q : Addr} {o : HO} (h : upd H p o q = none) : q ≠ p ∧ H q = none := by
  have ne : q ≠ p := fun z => by rw [z, upd_same] at h; cases h
  rw [upd_ne ne] at h
  exact ⟨ne, h⟩
theorem ok_Program (T : Tp K mg A) (hm : mg "Program" = some (.ref A.G)) {f : Addr} {fd : FuncData} (F : C8.Fun K "__init__" "Program.__init__" (inClass (top 11) 0) f fd) (M : Mk K A.G f) (b : Binds K fd ["self"] []) : Mak P w K mg base 1 "Program" A.G (spGInit A.G) [] := by
  refine mak0 M hm F b .nil (N := ["self"]) (fnScope_by (by decide +kernel)) (fun vs H Q E h => ?_) (fun cdv A' outer s H vs Q E hr h => ?_)
  · obtain ⟨p, dx, rfl, _⟩ := h
    rfl
  · obtain ⟨p, dx, rfl, hp, q⟩ := h
    refine ⟨_, pss_cons (ps_fld (pv 0) (pe_lst pa_nil) rfl) (pss_cons (ps_fld (pv 0) (pe_lst pa_nil) rfl) (pss_cons (ps_fld (pv 0) pe_dnewK rfl) (pss_cons (ps_fld (pv 0) (pe_lst pa_nil) rfl) (pss_one (ps_fld (pv 0) pe_dnewK rfl))))), ?_⟩
    refine ⟨by show 0 ≤ sizeLine; decide, fun cd h1 => ?_⟩
    have n1 : p ≠ cd := ne_of_none hp h1
    refine ⟨_, rfl, p, _, dx, [], rfl, (upd_ne n1).trans hp, T.cG, T.g_code, (by show 0 < 1000; decide), ?_⟩
    refine ⟨by show 0 ≤ sizeLine; decide, fun pl h2 => ?_⟩
    obtain ⟨a2, h2'⟩ := free_put h2
    obtain ⟨b2, g2⟩ := free_put h2'
    refine ⟨_, rfl, p, _, dx, _, rfl, (upd_ne a2.symm).trans upd_same, T.cG, T.g_places, (by show 1 < 1000; decide), ?_⟩
    intro fn h3
    obtain ⟨a3, h3'⟩ := free_put h3
    obtain ⟨b3, h3''⟩ := free_put h3'
    obtain ⟨_, h3''⟩ := free_put h3''
    obtain ⟨c3, g3⟩ := free_put h3''
    refine ⟨_, rfl, p, _, dx, _, rfl, (upd_ne a3.symm).trans upd_same, T.cG, T.g_functions, (by show 2 < 1000; decide), ?_⟩
    refine ⟨by show 0 ≤ sizeLine; decide, fun ts h4 => ?_⟩
    obtain ⟨a4, h4'⟩ := free_put h4
    obtain ⟨b4, h4'⟩ := free_put h4'
    obtain ⟨_, h4'⟩ := free_put h4'
    obtain ⟨c4, h4'⟩ := free_put h4'
    obtain ⟨_, h4'⟩ := free_put h4'
    obtain ⟨d4, g4⟩ := free_put h4'
    refine ⟨_, rfl, p, _, dx, _, rfl, (upd_ne a4.symm).trans upd_same, T.cG, T.g_tests, (by show 3 < 1000; decide), ?_⟩
    intro tk h5
    obtain ⟨a5, h5'⟩ := free_put h5
    obtain ⟨b5, h5'⟩ := free_put h5'
    obtain ⟨_, h5'⟩ := free_put h5'
    obtain ⟨c5, h5'⟩ := free_put h5'
    obtain ⟨_, h5'⟩ := free_put h5'
    obtain ⟨d5, h5'⟩ := free_put h5'
    obtain ⟨_, h5'⟩ := free_put h5'
    obtain ⟨e5, g5⟩ := free_put h5'
    refine ⟨_, rfl, p, _, dx, _, rfl, (upd_ne a5.symm).trans upd_same, T.cG, T.g_taken, (by show 4 < 1000; decide), ?_⟩
    refine q _ cd pl fn ts tk h1 g2 g3 g4 g5 ?_ (upd_same.trans rfl) ?_ ?_ ?_ ?_ ?_ ?_
    · simp only [List.nodup_cons, List.mem_cons, List.not_mem_nil, or_false, not_or, not_false_eq_true, List.nodup_nil, and_true]
      exact ⟨⟨n1, a2.symm, a3.symm, a4.symm, a5.symm⟩, ⟨b2.symm, c3.symm, d4.symm, e5.symm⟩, ⟨b3.symm, c4.symm, d5.symm⟩, ⟨b4.symm, c5.symm⟩, b5.symm⟩
    · rw [upd_ne n1.symm, upd_ne e5.symm, upd_ne n1.symm, upd_ne d4.symm, upd_ne n1.symm, upd_ne c3.symm, upd_ne n1.symm, upd_ne b2.symm, upd_ne n1.symm]; exact upd_same
    · rw [upd_ne a2, upd_ne d5.symm, upd_ne a2, upd_ne c4.symm, upd_ne a2, upd_ne b3.symm, upd_ne a2]; exact upd_same
    · rw [upd_ne a3, upd_ne c5.symm, upd_ne a3, upd_ne b4.symm, upd_ne a3]; exact upd_same
    · rw [upd_ne a4, upd_ne b5.symm, upd_ne a4]; exact upd_same
    · rw [upd_ne a5]; exact upd_same
    · refine But.trans ?_ But.put
      refine But.trans ?_ (But.of (Same.new h5))
      refine But.trans ?_ But.put
      refine But.trans ?_ (But.of (Same.new h4))
      refine But.trans ?_ But.put
      refine But.trans ?_ (But.of (Same.new h3))
      refine But.trans ?_ But.put
      refine But.trans ?_ (But.of (Same.new h2))
      refine But.trans ?_ But.put
      exact But.of (Same.new h1)
theorem ok_Run (T : Tp K mg A) (hm : mg "Run" = some (.ref A.R)) {f : Addr} {fd : FuncData} (F : C8.Fun K "__init__" "Run.__init__" (inClass (top 62) 0) f fd) (M : Mk K A.R f) (b : Binds K fd ["self", "code"] []) : Mak P w K mg base 1 "Run" A.R (spRInit A.R) [] := by
  refine mak0 M hm F b .nil (N := ["self", "code"]) (fnScope_by (by decide +kernel)) (fun vs H Q E h => ?_) (fun cdv A' outer s H vs Q E hr h => ?_)
  · obtain ⟨p, dx, c, rfl, _⟩ := h
    rfl
  · obtain ⟨p, dx, c, rfl, hp, q⟩ := h
    refine ⟨_, pss_cons (ps_fld (pv 0) (pv 1) rfl) (pss_cons (ps_fld (pv 0) pe_int rfl) (pss_cons (ps_fld (pv 0) (pe_gc (by rfl) T.NONE) rfl) (pss_cons (ps_fld (pv 0) pe_dnewK rfl) (pss_cons (ps_fld (pv 0) (pe_lst pa_nil) rfl) (pss_one (ps_fld (pv 0) (pe_lst pa_nil) rfl)))))), ?_⟩
    refine ⟨_, rfl, _, rfl, p, _, dx, [], rfl, hp, T.cR, T.r_code, (by show 0 < 1000; decide), ?_⟩
    refine ⟨_, rfl, p, _, dx, _, rfl, upd_same, T.cR, T.r_steps, (by show 1 < 1000; decide), ?_⟩
    refine ⟨_, rfl, p, _, dx, _, rfl, upd_same, T.cR, T.r_why, (by show 2 < 1000; decide), ?_⟩
    intro re h3
    obtain ⟨a3, h3'⟩ := free_put h3
    obtain ⟨_, h3'⟩ := free_put h3'
    obtain ⟨_, g3⟩ := free_put h3'
    refine ⟨_, rfl, p, _, dx, _, rfl, (upd_ne a3.symm).trans upd_same, T.cR, T.r_reached, (by show 3 < 1000; decide), ?_⟩
    refine ⟨by show 0 ≤ sizeLine; decide, fun td h4 => ?_⟩
    obtain ⟨a4, h4'⟩ := free_put h4
    obtain ⟨b4, h4'⟩ := free_put h4'
    obtain ⟨_, h4'⟩ := free_put h4'
    obtain ⟨_, h4'⟩ := free_put h4'
    obtain ⟨_, g4⟩ := free_put h4'
    refine ⟨_, rfl, p, _, dx, _, rfl, (upd_ne a4.symm).trans upd_same, T.cR, T.r_todo, (by show 4 < 1000; decide), ?_⟩
    refine ⟨by show 0 ≤ sizeLine; decide, fun rs h5 => ?_⟩
    obtain ⟨a5, h5'⟩ := free_put h5
    obtain ⟨b5, h5'⟩ := free_put h5'
    obtain ⟨_, h5'⟩ := free_put h5'
    obtain ⟨c5, h5'⟩ := free_put h5'
    obtain ⟨_, h5'⟩ := free_put h5'
    obtain ⟨_, h5'⟩ := free_put h5'
    obtain ⟨_, g5⟩ := free_put h5'
    refine ⟨_, rfl, p, _, dx, _, rfl, (upd_ne a5.symm).trans upd_same, T.cR, T.r_results, (by show 5 < 1000; decide), ?_⟩
    refine q _ re td rs g3 g4 g5 ?_ (upd_same.trans rfl) ?_ ?_ ?_ ?_
    · simp only [List.nodup_cons, List.mem_cons, List.not_mem_nil, or_false, not_or, not_false_eq_true, List.nodup_nil, and_true]
      exact ⟨⟨a3.symm, a4.symm, a5.symm⟩, ⟨b4.symm, c5.symm⟩, b5.symm⟩
    · rw [upd_ne a3, upd_ne c5.symm, upd_ne a3, upd_ne b4.symm, upd_ne a3]; exact upd_same
    · rw [upd_ne a4, upd_ne b5.symm, upd_ne a4]; exact upd_same
    · rw [upd_ne a5]; exact upd_same
    · refine But.trans ?_ But.put
      refine But.trans ?_ (But.of (Same.new h5))
      refine But.trans ?_ But.put
      refine But.trans ?_ (But.of (Same.new h4))
      refine But.trans ?_ But.put
      refine But.trans ?_ (But.of (Same.new h3))
      exact (But.put.trans But.put).trans But.put
end
end Pf
namespace Pf
open PySem PySem.Spec PyProof.Rows L2 SX
open C8 (Cal Met Mak Def cal0 met0 mak0 pe_c pe_mk pe_mt pe_mt0 pe_gc fnScope fnBody fnArgs fnScope_by)
/-! ### words in the heap -/
def kindOf : Ty01.Tok → Nat
  | .num _ => 0
  | .arg _ => 1
  | .op o => if isCh o = true then 3 else 2
  | .call _ => 4
def whatV (fst : List Nat) : Ty01.Tok → V
  | .num n => .int (n : Nat)
  | .arg i => .int (i : Nat)
  | .op o => .str (opS o)
  | .call g => .int (fst.getD g 0 : Nat)
def WordAt (A : Ad) (H : Hp) (fst : List Nat) (w : Wd) (v : V) : Prop := ∃ a dx pl, v = .ref a ∧
  H a = some (.ins A.W dx (wF (.int (kindOf w.tok : Nat)) (whatV fst w.tok) (.int (w.many : Nat)) (.ref pl))) ∧ H pl = some (.lst (iV w.parts))
theorem WordAt.mono {A : Ad} {H H' : Hp} (e : Same H H') {fst : List Nat} {w : Wd} {v : V} (h : WordAt A H fst w v) : WordAt A H' fst w v := by
  obtain ⟨a, dx, pl, h1, h2, h3⟩ := h
  exact ⟨a, dx, pl, h1, e _ _ h2, e _ _ h3⟩
def CodeAt (A : Ad) (H : Hp) (fst : List Nat) (C : List Wd) (cd : Addr) : Prop := ∃ cvs, H cd = some (.lst cvs) ∧ Paired (WordAt A H fst) C cvs
theorem CodeAt.mono {A : Ad} {H H' : Hp} (e : Same H H') {fst : List Nat} {C : List Wd} {cd : Addr} (h : CodeAt A H fst C cd) : CodeAt A H' fst C cd := by
  obtain ⟨cvs, h1, h2⟩ := h
  exact ⟨cvs, e _ _ h1, Paired.mapP h2 fun _ _ z => z.mono e⟩
def TaskAt (H : Hp) (t : Task) (v : V) : Prop := ∃ a h us, v = .ref a ∧ H a = some (.tup [.bl t.1, .int (t.2.1 : Nat), .ref h]) ∧ H h = some (.lst us) ∧ ValsAt H t.2.2 us
theorem TaskAt.mono {H H' : Hp} (e : Same H H') {t : Task} {v : V} (h : TaskAt H t v) : TaskAt H' t v := by
  obtain ⟨a, b, us, h1, h2, h3, h4⟩ := h
  exact ⟨a, b, us, h1, e _ _ h2, e _ _ h3, h4.mono e⟩
def seenK (l : List Nat) : List (Key × V) := l.map fun (p : Nat) => (Sum.inl (p : Int), .bl true)
/-! ### lists -/
theorem cutV_from (xs : List V) (k : Nat) : cutV xs (some (k : Int)) none = xs.drop k := by
  unfold cutV
  rw [HT.sIx_nat, HT.sIx_none]
  by_cases h : k ≤ xs.length
  · rw [Nat.min_eq_left h, List.take_of_length_le (by rw [List.length_drop]; omega)]
  · rw [Nat.min_eq_right (by omega), List.drop_eq_nil_of_le (Nat.le_refl _), List.drop_eq_nil_of_le (by omega), List.take_nil]
theorem cutV_to (xs : List V) (k : Nat) : cutV xs none (some (k : Int)) = xs.take k := by
  unfold cutV
  rw [HT.sIx_nat, HT.sIx_none, List.drop_zero, Nat.sub_zero]
  by_cases h : k ≤ xs.length
  · rw [Nat.min_eq_left h]
  · rw [Nat.min_eq_right (by omega), List.take_of_length_le (Nat.le_refl _), List.take_of_length_le (by omega)]
theorem cutV_ft (xs : List V) (i k : Nat) : cutV xs (some (i : Int)) (some (k : Int)) = (xs.drop i).take (k - i) := by
  unfold cutV
  rw [HT.sIx_nat, HT.sIx_nat]
  by_cases h : i ≤ xs.length
  · rw [Nat.min_eq_left h]
    by_cases h2 : k ≤ xs.length
    · rw [Nat.min_eq_left h2]
    · rw [Nat.min_eq_right (by omega), List.take_of_length_le (by rw [List.length_drop]; omega), List.take_of_length_le (by rw [List.length_drop]; omega)]
  · rw [Nat.min_eq_right (show xs.length ≤ i by omega), List.drop_eq_nil_of_le (Nat.le_refl _), List.drop_eq_nil_of_le (show xs.length ≤ i by omega), List.take_nil, List.take_nil]
theorem pd_append {α β : Type} {F : α → β → Prop} : ∀ {xs ys : List α} {us vs : List β}, Paired F xs us → Paired F ys vs → Paired F (xs ++ ys) (us ++ vs)
  | _, _, _, _, .nil, s => s
  | _, _, _, _, .cons r t, s => .cons r (pd_append t s)
theorem pd_one {α β : Type} {F : α → β → Prop} {x : α} {u : β} (h : F x u) : Paired F [x] [u] := .cons h .nil
theorem pd_split {α β : Type} {F : α → β → Prop} : ∀ {xs ys : List α} {us : List β}, Paired F (xs ++ ys) us → ∃ a b, us = a ++ b ∧ Paired F xs a ∧ Paired F ys b
  | [], _, us, h => ⟨[], us, rfl, .nil, h⟩
  | x :: xs, ys, _, h => by
    cases h with
    | cons r t =>
      obtain ⟨a, b, e, h1, h2⟩ := pd_split (xs := xs) t
      exact ⟨_ :: a, b, by rw [e]; rfl, .cons r h1, h2⟩
theorem pd_snoc {α β : Type} {F : α → β → Prop} {xs : List α} {x : α} {us : List β} (h : Paired F (xs ++ [x]) us) : ∃ a u, us = a ++ [u] ∧ Paired F xs a ∧ F x u := by
  obtain ⟨a, b, e, h1, h2⟩ := pd_split h
  cases h2 with
  | cons r t =>
    cases t
    exact ⟨a, _, e, h1, r⟩
/-! ### a run in the heap -/
structure RunX (A : Ad) (fst : List Nat) (C : List Wd) (Hi H : Hp) (r dx cd re td rs : Addr) (m : MS) : Prop where
  sm : Same Hi H
  ins : H r = some (.ins A.R dx (rF (.ref cd) (.int (m.steps : Nat)) (.int (m.why : Nat)) (.ref re) (.ref td) (.ref rs)))
  nr : Hi r = none
  nre : Hi re = none
  ntd : Hi td = none
  nrs : Hi rs = none
  ne : td ≠ rs
  code : CodeAt A Hi fst C cd
  hre : H re = some (.dK (seenK m.seen))
  td_ : ∃ tvs, H td = some (.lst tvs) ∧ Paired (TaskAt Hi) m.todo tvs
  rs_ : ∃ rvs, H rs = some (.lst rvs) ∧ ValsAt Hi m.res rvs
section
variable {A : Ad} {fst : List Nat} {C : List Wd} {Hi H : Hp} {r dx cd re td rs : Addr} {m : MS}
theorem RunX.rtd (x : RunX A fst C Hi H r dx cd re td rs m) : r ≠ td := by
  obtain ⟨tvs, h, _⟩ := x.td_
  exact L2.ne_of x.ins h (by intro z; cases z)
theorem RunX.rrs (x : RunX A fst C Hi H r dx cd re td rs m) : r ≠ rs := by
  obtain ⟨tvs, h, _⟩ := x.rs_
  exact L2.ne_of x.ins h (by intro z; cases z)
theorem RunX.rre (x : RunX A fst C Hi H r dx cd re td rs m) : r ≠ re := L2.ne_of x.ins x.hre (by intro z; cases z)
theorem RunX.retd (x : RunX A fst C Hi H r dx cd re td rs m) : re ≠ td := by
  obtain ⟨tvs, h, _⟩ := x.td_
  exact L2.ne_of x.hre h (by intro z; cases z)
theorem RunX.rers (x : RunX A fst C Hi H r dx cd re td rs m) : re ≠ rs := by
  obtain ⟨tvs, h, _⟩ := x.rs_
  exact L2.ne_of x.hre h (by intro z; cases z)
theorem RunX.todo (x : RunX A fst C Hi H r dx cd re td rs m) {T : List Task} {tvs : List V} (h : Paired (TaskAt Hi) T tvs) : RunX A fst C Hi (upd H td (.lst tvs)) r dx cd re td rs { m with todo := T } where
  sm := Same.put x.sm x.ntd
  ins := (upd_ne x.rtd).trans x.ins
  nr := x.nr
  nre := x.nre
  ntd := x.ntd
  nrs := x.nrs
  ne := x.ne
  code := x.code
  hre := (upd_ne x.retd).trans x.hre
  td_ := ⟨tvs, upd_same, h⟩
  rs_ := let ⟨rvs, h1, h2⟩ := x.rs_; ⟨rvs, (upd_ne x.ne.symm).trans h1, h2⟩
theorem RunX.res (x : RunX A fst C Hi H r dx cd re td rs m) {R : List Val} {rvs : List V} (h : ValsAt Hi R rvs) : RunX A fst C Hi (upd H rs (.lst rvs)) r dx cd re td rs { m with res := R } where
  sm := Same.put x.sm x.nrs
  ins := (upd_ne x.rrs).trans x.ins
  nr := x.nr
  nre := x.nre
  ntd := x.ntd
  nrs := x.nrs
  ne := x.ne
  code := x.code
  hre := (upd_ne x.rers).trans x.hre
  td_ := let ⟨tvs, h1, h2⟩ := x.td_; ⟨tvs, (upd_ne x.ne).trans h1, h2⟩
  rs_ := ⟨rvs, upd_same, h⟩
theorem RunX.fld (x : RunX A fst C Hi H r dx cd re td rs m) (st y : Nat) : RunX A fst C Hi (upd H r (.ins A.R dx (rF (.ref cd) (.int (st : Nat)) (.int (y : Nat)) (.ref re) (.ref td) (.ref rs)))) r dx cd re td rs { m with steps := st, why := y } where
  sm := Same.put x.sm x.nr
  ins := upd_same
  nr := x.nr
  nre := x.nre
  ntd := x.ntd
  nrs := x.nrs
  ne := x.ne
  code := x.code
  hre := (upd_ne x.rre.symm).trans x.hre
  td_ := let ⟨tvs, h1, h2⟩ := x.td_; ⟨tvs, (upd_ne x.rtd.symm).trans h1, h2⟩
  rs_ := let ⟨rvs, h1, h2⟩ := x.rs_; ⟨rvs, (upd_ne x.rrs.symm).trans h1, h2⟩
theorem RunX.seen (x : RunX A fst C Hi H r dx cd re td rs m) (sn : List Nat) : RunX A fst C Hi (upd H re (.dK (seenK sn))) r dx cd re td rs { m with seen := sn } where
  sm := Same.put x.sm x.nre
  ins := (upd_ne x.rre).trans x.ins
  nr := x.nr
  nre := x.nre
  ntd := x.ntd
  nrs := x.nrs
  ne := x.ne
  code := x.code
  hre := upd_same
  td_ := let ⟨tvs, h1, h2⟩ := x.td_; ⟨tvs, (upd_ne x.retd.symm).trans h1, h2⟩
  rs_ := let ⟨rvs, h1, h2⟩ := x.rs_; ⟨rvs, (upd_ne x.rers.symm).trans h1, h2⟩
/-- a new thing that may be forgotten -/
theorem RunX.new (x : RunX A fst C Hi H r dx cd re td rs m) {p : Addr} {o : HO} (h : H p = none) : RunX A fst C Hi (upd H p o) r dx cd re td rs m where
  sm := x.sm.trans (Same.new h)
  ins := Same.new h _ _ x.ins
  nr := x.nr
  nre := x.nre
  ntd := x.ntd
  nrs := x.nrs
  ne := x.ne
  code := x.code
  hre := Same.new h _ _ x.hre
  td_ := let ⟨tvs, h1, h2⟩ := x.td_; ⟨tvs, Same.new h _ _ h1, h2⟩
  rs_ := let ⟨rvs, h1, h2⟩ := x.rs_; ⟨rvs, Same.new h _ _ h1, h2⟩
/-- more that stays; what the run changes is not in it -/
theorem RunX.more (x : RunX A fst C Hi H r dx cd re td rs m) {Hj : Hp} (s : Same Hi Hj) (s2 : Same Hj H) (n1 : Hj r = none) (n2 : Hj re = none) (n3 : Hj td = none) (n4 : Hj rs = none) : RunX A fst C Hj H r dx cd re td rs m where
  sm := s2
  ins := x.ins
  nr := n1
  nre := n2
  ntd := n3
  nrs := n4
  ne := x.ne
  code := x.code.mono s
  hre := x.hre
  td_ := let ⟨tvs, h1, h2⟩ := x.td_; ⟨tvs, h1, Paired.mapP h2 fun _ _ z => z.mono s⟩
  rs_ := let ⟨rvs, h1, h2⟩ := x.rs_; ⟨rvs, h1, h2.mono s⟩
/-- a new thing that stays -/
theorem RunX.newI (x : RunX A fst C Hi H r dx cd re td rs m) {p : Addr} {o : HO} (h : H p = none) : RunX A fst C (upd Hi p o) (upd H p o) r dx cd re td rs m := by
  have hi : Hi p = none := x.sm.free h
  refine (x.new h).more (Same.new hi) (Same.both x.sm h) ?_ ?_ ?_ ?_
  · rw [upd_ne (ne_of_none x.ins h)]; exact x.nr
  · rw [upd_ne (ne_of_none x.hre h)]; exact x.nre
  · obtain ⟨tvs, h1, _⟩ := x.td_
    rw [upd_ne (ne_of_none h1 h)]; exact x.ntd
  · obtain ⟨tvs, h1, _⟩ := x.rs_
    rw [upd_ne (ne_of_none h1 h)]; exact x.nrs
end
def spTake (A : Ad) : Sp := fun vs H Q _ => ∃ (fst : List Nat) (C : List Wd) (Hi : Hp) (r dx cd re td rs : Addr) (m : MS) (R args : List Val), vs = [.ref r, .int (args.length : Nat)] ∧ RunX A fst C Hi H r dx cd re td rs m ∧ m.res = R ++ args ∧
  ∀ (Hi' H' : Hp) (rs' h : Addr) (us : List V), Same Hi Hi' → RunX A fst C Hi' H' r dx cd re td rs' { m with res := R } → Hi' h = some (.lst us) → ValsAt Hi' args us → Q (.ref h) H'
section
variable {P : PySem.Program} {w : World} {K : PySem.W.Frag} {mg : Str → Option Value} {base : Heap} {A : Ad}
theorem ok_take (T : Tp K mg A) {f : Addr} {fd : FuncData} (F : C8.Fun K "take" "Run.take" (inClass (top 62) 6) f fd) (me : Meth K A.R "take" f) (b : Binds K fd ["self", "many"] []) : Met P w K mg base 1 A.R "take" (spTake A) [] := by
  have sc : FnScope ["self", "many", "kept", "taken"] ["self", "many"] (fnScope (inClass (top 62) 6)) := fnScope_by (by decide +kernel)
  refine met0 T.cR me F b sc (fun vs H Q E h => ?_) (fun cdv A' outer s H vs Q E hr h => ?_)
  · obtain ⟨fst, C, Hi, r, dx, cd, re, td, rs, m, R, args, rfl, _⟩ := h
    rfl
  · obtain ⟨fst, C, Hi, r, dx, cd, re, td, rs, m, R, args, rfl, X, er, q⟩ := h
    refine ⟨_, pss_cons (ps_set (i := 2) sc.nd rfl (.inl rfl) (pe_op op_sub (pe_callB call_len_seq (by rfl) T.b_len PySem.boot_len (pa_cons (pe_fld (pv 0) rfl) pa_nil)) (pv 1)))
      (pss_cons (ps_set (i := 3) sc.nd rfl (.inl rfl) (pe_slice sl_list (pe_fld (pv 0) rfl) (po_some (pv 2)) po_none))
      (pss_cons (ps_fld (pv 0) (pe_slice sl_list (pe_fld (pv 0) rfl) po_none (po_some (pv 2))) rfl)
      (pss_one (ps_ret (pv 3))))), ?_⟩
    obtain ⟨rvs, h1, h2⟩ := X.rs_
    have lk : ∀ v : V, (rF (.ref cd) (.int (m.steps : Nat)) (.int (m.why : Nat)) (.ref re) (.ref td) v).lookup ("results" : Str) = some v := fun v => lk_5 (by decide +kernel) (by decide +kernel) (by decide +kernel) (by decide +kernel) (by decide +kernel)
    refine ⟨_, rfl, r, _, dx, _, _, rfl, X.ins, T.cR, T.r_results, lk _, rs, rvs, rfl, .inl (SqL.of h1), _, rfl, _, _, rfl, rfl, ?_⟩
    rw [er] at h2
    obtain ⟨rv, av, rfl, h3, h4⟩ := pd_split h2
    have l1 : args.length = av.length := Paired.length h4
    have ek : (((rv ++ av).length : Nat) : Int) - ((args.length : Nat) : Int) = ((rv.length : Nat) : Int) := by
      rw [List.length_append, l1]; omega
    refine ⟨_, rfl, r, _, dx, _, _, rfl, X.ins, T.cR, T.r_results, lk _, _, rfl, _, rfl, rs, _, rfl, SqL.of h1, fun h hh => ?_⟩
    have X2 := X.newI (o := .lst (cutV (rv ++ av) (some ((((rv ++ av).length : Nat) : Int) - ((args.length : Nat) : Int))) none)) hh
    have s2 : Same Hi (upd Hi h (.lst (cutV (rv ++ av) (some ((((rv ++ av).length : Nat) : Int) - ((args.length : Nat) : Int))) none))) := Same.new (X.sm.free hh)
    have hrs2 := Same.new (o := .lst (cutV (rv ++ av) (some ((((rv ++ av).length : Nat) : Int) - ((args.length : Nat) : Int))) none)) hh _ _ h1
    refine ⟨_, rfl, r, _, dx, _, _, rfl, X2.ins, T.cR, T.r_results, lk _, _, rfl, _, rfl, rs, _, rfl, SqL.of hrs2, fun rs' hrs' => ?_⟩
    have X3 := X2.new (o := .lst (cutV (rv ++ av) none (some ((((rv ++ av).length : Nat) : Int) - ((args.length : Nat) : Int))))) hrs'
    refine ⟨_, rfl, r, _, dx, _, rfl, X3.ins, T.cR, T.r_results, (by show 6 < 1000; decide), ?_⟩
    refine ⟨_, rfl, ?_⟩
    refine q _ _ rs' h _ s2 ?_ upd_same ?_
    · have nr' : rs' ≠ r := fun z => by rw [z, X2.ins] at hrs'; cases hrs'
      refine ⟨?_, upd_same.trans rfl, X2.nr, X2.nre, X2.ntd, X2.sm.free hrs', ?_, X2.code, ?_, ?_, ?_⟩
      · exact Same.put X3.sm X2.nr
      · obtain ⟨tvs, t1, _⟩ := X2.td_
        exact ne_of_none t1 hrs'
      · exact (upd_ne X3.rre.symm).trans X3.hre
      · obtain ⟨tvs, t1, t2⟩ := X3.td_
        exact ⟨tvs, (upd_ne X3.rtd.symm).trans t1, t2⟩
      · refine ⟨_, (upd_ne nr').trans upd_same, ?_⟩
        rw [show cutV (rv ++ av) none (some ((((rv ++ av).length : Nat) : Int) - ((args.length : Nat) : Int))) = rv by rw [ek, cutV_to, List.take_left' rfl]]
        exact ValsAt.mono s2 h3
    · rw [show cutV (rv ++ av) (some ((((rv ++ av).length : Nat) : Int) - ((args.length : Nat) : Int))) none = av by rw [ek, cutV_from, List.drop_left' rfl]] at s2 ⊢
      exact ValsAt.mono s2 h4
end
end Pf
namespace Pf
open PySem PySem.Spec PyProof.Rows L2 SX
open C8 (Cal Met Mak Def cal0 met0 mak0 pe_c pe_mk pe_mt pe_mt0 pe_gc fnScope fnBody fnArgs fnScope_by)
section
variable {c s y re td rs : V}
theorem rl_code : (rF c s y re td rs).lookup ("code" : Str) = some c := lk_here
theorem rl_steps : (rF c s y re td rs).lookup ("steps" : Str) = some s := lk_1 (by decide +kernel)
theorem rl_why : (rF c s y re td rs).lookup ("why" : Str) = some y := lk_2 (by decide +kernel) (by decide +kernel)
theorem rl_reached : (rF c s y re td rs).lookup ("reached" : Str) = some re := lk_3 (by decide +kernel) (by decide +kernel) (by decide +kernel)
theorem rl_todo : (rF c s y re td rs).lookup ("todo" : Str) = some td := lk_4 (by decide +kernel) (by decide +kernel) (by decide +kernel) (by decide +kernel)
theorem rl_results : (rF c s y re td rs).lookup ("results" : Str) = some rs := lk_5 (by decide +kernel) (by decide +kernel) (by decide +kernel) (by decide +kernel) (by decide +kernel)
theorem rl_none {m : Str} (h : (["code", "steps", "why", "reached", "todo", "results"] : List Str).all (fun x => !(m == x)) = true) : (rF c s y re td rs).lookup m = none := by
  simp only [List.all_cons, List.all_nil, Bool.and_eq_true, Bool.not_eq_true'] at h
  obtain ⟨h1, h2, h3, h4, h5, h6, _⟩ := h
  exact (lk_past h1).trans ((lk_past h2).trans ((lk_past h3).trans ((lk_past h4).trans ((lk_past h5).trans ((lk_past h6).trans rfl)))))
end
section
variable {k wh m p : V}
theorem wl_kind : (wF k wh m p).lookup ("kind" : Str) = some k := lk_here
theorem wl_what : (wF k wh m p).lookup ("what" : Str) = some wh := lk_1 (by decide +kernel)
theorem wl_many : (wF k wh m p).lookup ("many" : Str) = some m := lk_2 (by decide +kernel) (by decide +kernel)
theorem wl_parts : (wF k wh m p).lookup ("parts" : Str) = some p := lk_3 (by decide +kernel) (by decide +kernel) (by decide +kernel)
end
theorem take_next {α : Type} {l : List α} {i : Nat} {x : α} (h : l[i]? = some x) : l.take (i + 1) = l.take i ++ [x] := by
  rw [List.take_add_one, h]; rfl
theorem iV_take (l : List Nat) (n : Nat) : (iV l).take n = iV (l.take n) := List.map_take.symm
theorem iV_drop (l : List Nat) (n : Nat) : (iV l).drop n = iV (l.drop n) := List.map_drop.symm
def pushed (ps : List Nat) (env : List Val) : List Task := ps.map fun p => (false, p, env)
def spPlan (A : Ad) : Sp := fun vs H Q _ => ∃ (fst : List Nat) (C : List Wd) (Hi : Hp) (r dx cd re td rs : Addr) (m : MS) (wd : Wd) (v : V) (h : Addr) (us : List V) (env : List Val),
  vs = [.ref r, v, .ref h] ∧ RunX A fst C Hi H r dx cd re td rs m ∧ WordAt A Hi fst wd v ∧ Hi h = some (.lst us) ∧ ValsAt Hi env us ∧ m.todo.length ≤ 500 ∧ wd.parts.length ≤ 3 ∧
  ∀ (Hi' H' : Hp), Same Hi Hi' → RunX A fst C Hi' H' r dx cd re td rs { m with todo := m.todo ++ pushed (if kindOf wd.tok = 3 then wd.parts.take 1 else wd.parts).reverse env } → Q .non H'
/-- one more to do -/
theorem RunX.push {A : Ad} {fst : List Nat} {C : List Wd} {Hi H : Hp} {r dx cd re td rs : Addr} {m : MS} (x : RunX A fst C Hi H r dx cd re td rs m) {tvs : List V} (h1 : H td = some (.lst tvs)) {t h : Addr} {us : List V} {b : Bool} {q : Nat} {env : List Val}
    (ht : H t = none) (hh : Hi h = some (.lst us)) (hv : ValsAt Hi env us) :
    RunX A fst C (upd Hi t (.tup [.bl b, .int (q : Nat), .ref h])) (upd (upd H t (.tup [.bl b, .int (q : Nat), .ref h])) td (.lst (tvs ++ [.ref t]))) r dx cd re td rs { m with todo := m.todo ++ [(b, q, env)] } := by
  obtain ⟨tv, g1, g2⟩ := x.td_
  rw [h1] at g1
  cases g1
  have s : Same Hi (upd Hi t (.tup [.bl b, .int (q : Nat), .ref h])) := Same.new (x.sm.free ht)
  refine (x.newI ht).todo (pd_append (Paired.mapP g2 fun _ _ z => z.mono s) (pd_one ⟨t, h, us, rfl, upd_same, s _ _ hh, hv.mono s⟩))
section
variable {P : PySem.Program} {w : World} {K : PySem.W.Frag} {mg : Str → Option Value} {base : Heap} {A : Ad}
theorem ok_plan_parts (T : Tp K mg A) {f : Addr} {fd : FuncData} (F : C8.Fun K "plan_parts" "Run.plan_parts" (inClass (top 62) 3) f fd) (me : Meth K A.R "plan_parts" f) (b : Binds K fd ["self", "word", "handed"] []) : Met P w K mg base 1 A.R "plan_parts" (spPlan A) [] := by
  have sc : FnScope ["self", "word", "handed", "parts", "part"] ["self", "word", "handed"] (fnScope (inClass (top 62) 3)) := fnScope_by (by decide +kernel)
  refine met0 T.cR me F b sc (fun vs H Q E h => ?_) (fun cdv A' outer s H vs Q E hr h => ?_)
  · obtain ⟨fst, C, Hi, r, dx, cd, re, td, rs, m, wd, v, h, us, env, rfl, _⟩ := h
    rfl
  · obtain ⟨fst, C, Hi, r, dx, cd, re, td, rs, m, wd, v, h, us, env, rfl, X, hw, hh, hv, hb, hb2, q⟩ := h
    refine ⟨_, pss_cons (ps_set (i := 3) sc.nd rfl (.inl rfl) (pe_ifExp (pt_cmpR op_eq (pe_fld (pv 1) rfl) (pe_gc (by rfl) T.CHOICE) (nomark _)) (pe_slice sl_list (pe_fld (pv 1) rfl) po_none (po_some pe_int)) (pe_fld (pv 1) rfl)))
      (pss_one (ps_for PassesOwn.never rfl (pi_reversed (by rfl) T.b_reversed (pa_cons (pv 3) pa_nil)) (pg_name (i := 4) sc.nd rfl (.inl rfl))
        (pss_one (ps_expr (pe_bm PySem.F.plainAttrs_list PySem.F.slot_list_append PySem.F.type_list_append mt_append (pe_fld (pv 0) rfl) (pa_cons (pe_tup (pa_cons pe_bl (pa_cons (pv 4) (pa_cons (pv 2) pa_nil)))) pa_nil)))))), ?_⟩
    obtain ⟨wa, wdx, pl, rfl, hwa, hpl⟩ := hw
    have loop : ∀ (Hj H1 : Hp) (pa : Addr) (ps : List Nat), Same Hi Hj → RunX A fst C Hj H1 r dx cd re td rs m → Hj pa = some (.lst (iV ps)) → ps.length ≤ 3 → (if kindOf wd.tok = 3 then wd.parts.take 1 else wd.parts) = ps →
        tFor (iRev K (tCons (tVar 3) tNil)) (gName 4) (tDrop (tBM K "list" rAppend (tFld K (tVar 0) "todo") (tCons (tTup (tCons (tC (.bl false)) (tCons (tVar 4) (tCons (tVar 2) tNil)))) tNil)))
          { nx := fun _ H' => Q .non H', rt := Q } [some (.ref r), some (.ref wa), some (.ref h), some (.ref pa), none] H1 := by
      intro Hj H1 pa ps s1 X1 hpa hlen hps
      refine ⟨_, rfl, pa, iV ps, rfl, SqL.of (X1.sm _ _ hpa), ?_⟩
      refine for_it (walk_rev (K := K) (a := pa) (xs := iV ps)) (fun i σ H' => ∃ (Hk : Hp) (o : Option V), Same Hj Hk ∧ σ = [some (.ref r), some (.ref wa), some (.ref h), some (.ref pa), o] ∧ RunX A fst C Hk H' r dx cd re td rs { m with todo := m.todo ++ pushed (ps.reverse.take i) env })
        ⟨Hj, none, Same.refl _, rfl, by rw [List.take_zero]; show RunX A fst C Hj H1 r dx cd re td rs { m with todo := m.todo ++ [] }; rw [List.append_nil]; exact X1⟩ (fun i σ H' _ ⟨Hk, o, s2, _, X2⟩ => SqL.of (X2.sm _ _ (s2 _ _ hpa))) ?_ ?_
      · rintro i x σ H2 H3 hi ⟨Hk, o, s2, rfl, X2⟩ ⟨rfl, hx⟩
        rw [List.length_map] at hi
        obtain ⟨z, hz⟩ : ∃ z, ps[ps.length - 1 - i]? = some z := ⟨_, List.getElem?_eq_getElem (by omega)⟩
        have hx' : x = V.int ((z : Nat) : Int) := by
          rw [List.length_map, List.getElem?_map, hz] at hx
          exact (Option.some.inj hx).symm
        have hrev : ps.reverse[i]? = some z := by
          rw [List.getElem?_reverse (by omega)]; exact hz
        subst hx'
        obtain ⟨tvs, t1, t2⟩ := X2.td_
        have tl : tvs.length ≤ 600 := by
          rw [← Paired.length t2]
          show (m.todo ++ pushed (ps.reverse.take i) env).length ≤ 600
          unfold pushed
          rw [List.length_append, List.length_map, List.length_take, List.length_reverse]
          omega
        refine ⟨_, rfl, r, _, dx, _, _, rfl, X2.ins, T.cR, T.r_todo, rl_todo, .inl ⟨rfl, _, SqL.of t1⟩, _, rfl, _, rfl, (by show 3 ≤ sizeLine; decide), fun t ht => ?_⟩
        refine ⟨td, tvs, _, rfl, rfl, (Same.new ht _ _ t1), (by show tvs.length < 2 ^ 24; omega), ?_⟩
        refine ⟨upd Hk t (.tup [.bl false, .int (z : Nat), .ref h]), _, s2.trans (Same.new (X2.sm.free ht)), rfl, ?_⟩
        rw [take_next hrev]
        unfold pushed
        rw [List.map_append, ← List.append_assoc]
        exact X2.push t1 ht (s2 _ _ (s1 _ _ hh)) ((hv.mono s1).mono s2)
      · rintro σ H2 ⟨Hk, o, s2, rfl, X2⟩
        refine q Hk H2 (s1.trans s2) ?_
        rw [hps, ← List.take_length (l := ps.reverse), List.length_reverse]
        rw [List.length_map] at X2
        exact X2
    refine ⟨_, rfl, wa, _, wdx, _, _, rfl, X.sm _ _ hwa, T.cW, T.w_kind, wl_kind, rfl, _, rfl, if_of (fun c => ?_) (fun c => ?_)⟩
    · have c := V.int.inj (of_decide_eq_true c)
      refine ⟨_, rfl, wa, _, wdx, _, _, rfl, X.sm _ _ hwa, T.cW, T.w_parts, wl_parts, 1, rfl, pl, _, rfl, SqL.of (X.sm _ _ hpl), fun pa hpa => ?_⟩
      refine loop (upd Hi pa _) _ pa (wd.parts.take 1) (Same.new (X.sm.free hpa)) (X.newI hpa) ?_ (by rw [List.length_take]; omega) (by rw [if_pos (by omega)])
      rw [upd_same, show (1 : Int) = ((1 : Nat) : Int) by rfl, cutV_to, iV_take]
    · have c : ¬ kindOf wd.tok = 3 := fun z => of_decide_eq_false c (by rw [z]; rfl)
      refine ⟨_, rfl, wa, _, wdx, _, _, rfl, X.sm _ _ hwa, T.cW, T.w_parts, wl_parts, ?_⟩
      exact loop Hi _ pl wd.parts (Same.refl _) X hpl hb2 (by rw [if_neg c])
def spChoose (A : Ad) : Sp := fun vs H Q _ => ∃ (fst : List Nat) (C : List Wd) (Hi : Hp) (r dx cd re td rs : Addr) (m : MS) (wd : Wd) (v : V) (h : Addr) (us : List V) (env : List Val) (o : Nat) (R : List Val) (y : Val),
  vs = [.ref r, v, .ref h] ∧ RunX A fst C Hi H r dx cd re td rs m ∧ WordAt A Hi fst wd v ∧ Hi h = some (.lst us) ∧ ValsAt Hi env us ∧ m.todo.length ≤ 500 ∧ wd.tok = .op o ∧ isCh o = true ∧ m.res = R ++ [y] ∧ m.why = 0 ∧
  (∀ c, y = .n c → ∃ z, wd.parts[if ((c = 0) ↔ (o = 11)) then 1 else 2]? = some z) ∧
  (∀ xs, y = .l xs → ∀ (Hi' H' : Hp), Same Hi Hi' → RunX A fst C Hi' H' r dx cd re td rs { m with why := 1, res := R } → Q .non H') ∧
  (∀ c z, y = .n c → wd.parts[if ((c = 0) ↔ (o = 11)) then 1 else 2]? = some z → ∀ (Hi' H' : Hp), Same Hi Hi' → RunX A fst C Hi' H' r dx cd re td rs { m with todo := m.todo ++ [(false, z, env)], res := R } → Q .non H')
theorem ok_choose (T : Tp K mg A) (cI : Cal P w K mg base 1 "is_list" spIsList []) {f : Addr} {fd : FuncData} (F : C8.Fun K "choose" "Run.choose" (inClass (top 62) 5) f fd) (me : Meth K A.R "choose" f) (b : Binds K fd ["self", "word", "handed"] []) : Met P w K mg base 2 A.R "choose" (spChoose A) [] := by
  have sc : FnScope ["self", "word", "handed", "first", "wants_zero", "chosen"] ["self", "word", "handed"] (fnScope (inClass (top 62) 5)) := fnScope_by (by decide +kernel)
  refine met0 T.cR me F b sc (fun vs H Q E h => ?_) (fun cdv A' outer s H vs Q E hr h => ?_)
  · obtain ⟨fst, C, Hi, r, dx, cd, re, td, rs, m, wd, v, h, us, env, o, R, y, rfl, _⟩ := h
    rfl
  · obtain ⟨fst, C, Hi, r, dx, cd, re, td, rs, m, wd, v, h, us, env, o, R, y, rfl, X, hw, hh, hv, hb, ht, hch, hR, hwhy, hz, qL, qN⟩ := h
    refine ⟨_, pss_cons (ps_set (i := 3) sc.nd rfl (.inl rfl) (pe_bm0 PySem.F.plainAttrs_list PySem.F.slot_list_pop PySem.F.type_list_pop mt_pop (pe_fld (pv 0) rfl)))
      (pss_cons (ps_if (pt_val (pe_c cI hr (by decide) (by rfl) (pa_cons (pv 3) pa_nil))) (pss_cons (ps_fld (pv 0) (pe_gc (by rfl) T.MISFIT) rfl) (pss_one ps_retN)) pss_nil)
      (pss_cons (ps_set (i := 4) sc.nd rfl (.inl rfl) (pe_cmpR op_eq (pe_fld (pv 1) rfl) pe_str (nomark _)))
      (pss_cons (ps_set (i := 5) sc.nd rfl (.inl rfl) (pe_ifExp (pt_cmpR op_eq (pe_cmpR op_eq (pv 3) pe_int (nomark _)) (pv 4) (nomark _)) pe_int pe_int))
      (pss_one (ps_expr (pe_bm PySem.F.plainAttrs_list PySem.F.slot_list_append PySem.F.type_list_append mt_append (pe_fld (pv 0) rfl) (pa_cons (pe_tup (pa_cons pe_bl (pa_cons (pe_ix ix_list (pe_fld (pv 1) rfl) (pv 5) (fun _ _ => rfl)) (pa_cons (pv 2) pa_nil)))) pa_nil))))))), ?_⟩
    obtain ⟨wa, wdx, pl, rfl, hwa, hpl⟩ := hw
    obtain ⟨rvs, r1, r2⟩ := X.rs_
    rw [hR] at r2
    obtain ⟨rv, u, rfl, r3, r4⟩ := pd_snoc r2
    have elast : (rv ++ [u])[(rv ++ [u]).length - 1]? = some u := by
      rw [List.length_append, List.length_singleton, Nat.add_sub_cancel, List.getElem?_append_right (Nat.le_refl _), Nat.sub_self]; rfl
    refine ⟨_, rfl, r, _, dx, _, _, rfl, X.ins, T.cR, T.r_results, rl_results, .inl ⟨rfl, _, SqL.of r1⟩, rs, _, u, rfl, rfl, r1, elast, ?_⟩
    rw [List.dropLast_concat]
    have X1 := X.res r3
    refine ⟨_, rfl, y, u, rfl, ValAt.mono X1.sm r4, _, rfl, if_of (fun c0 => ?_) (fun c0 => ?_)⟩
    · obtain ⟨xs, rfl⟩ := isL_of c0
      refine ⟨_, rfl, r, _, dx, _, rfl, X1.ins, T.cR, T.r_why, (by show 6 < 1000; decide), ?_⟩
      have X2 := X1.fld m.steps 1
      exact qL xs rfl Hi _ (Same.refl _) X2
    · obtain ⟨c, rfl⟩ := isN_of c0
      cases r4
      have hwa1 := X1.sm _ _ hwa
      rw [ht] at hwa1
      obtain ⟨z, hz⟩ := hz c rfl
      refine ⟨_, rfl, wa, _, wdx, _, _, rfl, hwa1, T.cW, T.w_what, wl_what, rfl, ?_⟩
      have eW : decide (V.str (opS o) = V.str "unless") = decide (o = 11) := by
        have : o = 5 ∨ o = 11 := by simpa [isCh] using hch
        rcases this with rfl | rfl <;> decide +kernel
      have eZ : decide (V.int ((c : Nat) : Int) = V.int 0) = decide (c = 0) := by
        rw [Bool.eq_iff_iff, decide_eq_true_eq, decide_eq_true_eq]
        constructor
        · intro e; have := V.int.inj e; omega
        · intro e; rw [e]; rfl
      refine ⟨_, rfl, rfl, _, rfl, rfl, _, rfl, ?_⟩
      show (if decide (V.bl (decide (V.int ((c : Nat) : Int) = V.int 0)) = V.bl (decide (V.str (opS o) = V.str "unless"))) = true then _ else _)
      rw [eZ, eW]
      have fin : ∀ (i : Nat), (if ((c = 0) ↔ (o = 11)) then 1 else 2) = i → (tDrop (tBM K "list" rAppend (tFld K (tVar 0) "todo") (tCons (tTup (tCons (tC (.bl false)) (tCons (tOp (rIxL K) (tFld K (tVar 1) "parts") (tVar 5)) (tCons (tVar 2) tNil)))) tNil)))
          { nx := fun _ H' => Q .non H', rt := Q } [some (.ref r), some (.ref wa), some (.ref h), some (.int ((c : Nat) : Int)), some (.bl (decide (V.str (opS o) = V.str "unless"))), some (.int ((i : Nat) : Int))] (upd H rs (.lst rv)) := by
        intro i hi
        obtain ⟨tvs, t1, t2⟩ := X1.td_
        have tl : tvs.length ≤ 500 := by rw [← Paired.length t2]; exact hb
        refine ⟨_, rfl, r, _, dx, _, _, rfl, X1.ins, T.cR, T.r_todo, rl_todo, .inl ⟨rfl, _, SqL.of t1⟩, ?_⟩
        refine ⟨_, rfl, wa, _, wdx, _, _, rfl, hwa1, T.cW, T.w_parts, wl_parts, _, rfl, pl, _, _, _, rfl, rfl, SqL.of (X1.sm _ _ hpl), atI_nat (j := i) (v := V.int ((z : Nat) : Int)) (by rw [List.getElem?_map, ← hi, hz]; rfl), _, rfl, (by show 3 ≤ sizeLine; decide), fun t ht => ?_⟩
        refine ⟨td, tvs, _, rfl, rfl, (Same.new ht _ _ t1), (by show tvs.length < 2 ^ 24; omega), ?_⟩
        exact qN c z rfl hz _ _ (Same.new (X1.sm.free ht)) (X1.push t1 ht hh hv)
      refine if_of (fun d => ?_) (fun d => ?_)
      · have d : (c = 0) ↔ (o = 11) := by
          have := V.bl.inj (of_decide_eq_true d)
          exact decide_eq_decide.mp this
        exact fin 1 (if_pos d)
      · have d : ¬ ((c = 0) ↔ (o = 11)) := fun e => of_decide_eq_false d (congrArg V.bl (decide_eq_decide.mpr e))
        exact fin 2 (if_neg d)
end
end Pf
namespace Pf
open PySem PySem.Spec PyProof.Rows L2 SX
open C8 (Cal Met Mak Def cal0 met0 mak0 pe_c pe_mk pe_mt pe_mt0 pe_gc fnScope fnBody fnArgs fnScope_by)
theorem putK_seen (sn : List Nat) (q : Nat) : putK (seenK sn) (Sum.inl (q : Int)) (.bl true) = seenK (addS sn q) := by
  have e : ((seenK sn).any fun kv => decide (kv.1 = (Sum.inl (q : Int) : Key))) = decide (q ∈ sn) := by
    rw [Bool.eq_iff_iff, decide_eq_true_eq, List.any_eq_true]
    unfold seenK
    constructor
    · rintro ⟨x, hx, h⟩
      obtain ⟨p, hp, rfl⟩ := List.mem_map.mp hx
      have := Sum.inl.inj (of_decide_eq_true h)
      have : p = q := by omega
      exact this ▸ hp
    · intro h
      exact ⟨_, List.mem_map.mpr ⟨q, h, rfl⟩, decide_eq_true rfl⟩
  unfold putK addS
  rw [e]
  by_cases h : q ∈ sn
  · rw [decide_eq_true h, if_pos rfl, if_pos h]
    unfold seenK
    rw [List.map_map]
    apply List.map_congr_left
    intro p _
    show (if (Sum.inl (p : Int) : Key) = Sum.inl (q : Int) then _ else _) = _
    split
    · rfl
    · rfl
  · rw [decide_eq_false h, if_neg Bool.false_ne_true, if_neg h]
    unfold seenK
    rw [List.map_append]; rfl
/-- the word at a place of the code -/
theorem CodeAt.get {A : Ad} {H : Hp} {fst : List Nat} {C : List Wd} {cd : Addr} (h : CodeAt A H fst C cd) {q : Nat} {wd : Wd} (e : C[q]? = some wd) : ∃ cvs v, H cd = some (.lst cvs) ∧ cvs[q]? = some v ∧ WordAt A H fst wd v := by
  obtain ⟨cvs, h1, h2⟩ := h
  obtain ⟨v, h3, h4⟩ := LiI.paired_get h2 e
  exact ⟨cvs, v, h1, h3, h4⟩
def spFinish (A : Ad) : Sp := fun vs H Q _ => ∃ (fst : List Nat) (C : List Wd) (Hi : Hp) (r dx cd re td rs : Addr) (m : MS) (wd : Wd) (v : V) (h : Addr) (us : List V) (env : List Val) (q : Nat) (s' : MS),
  vs = [.ref r, v, .ref h] ∧ RunX A fst C Hi H r dx cd re td rs m ∧ CodeOk C ∧ WordAt A Hi fst wd v ∧ C[q]? = some wd ∧ Hi h = some (.lst us) ∧ ValsAt Hi env us ∧ m.todo.length ≤ 500 ∧ m.res.length ≤ 500 ∧ m.why = 0 ∧
  Step C fst ⟨m.steps, 0, m.seen, m.todo ++ [(true, q, env)], m.res⟩ s' ∧
  ∀ (Hi' H' : Hp) (rs' : Addr), Same Hi Hi' → RunX A fst C Hi' H' r dx cd re td rs' s' → Q .non H'
section
variable {P : PySem.Program} {w : World} {K : PySem.W.Frag} {mg : Str → Option Value} {base : Heap} {A : Ad}
theorem ok_finish (T : Tp K mg A) (cCh : Met P w K mg base 2 A.R "choose" (spChoose A) []) (cTk : Met P w K mg base 1 A.R "take" (spTake A) []) (cOp : Cal P w K mg base 3 "operate" spOperate [])
    {f : Addr} {fd : FuncData} (F : C8.Fun K "finish" "Run.finish" (inClass (top 62) 4) f fd) (me : Meth K A.R "finish" f) (b : Binds K fd ["self", "word", "handed"] []) : Met P w K mg base 4 A.R "finish" (spFinish A) [] := by
  have sc : FnScope ["self", "word", "handed", "outcome"] ["self", "word", "handed"] (fnScope (inClass (top 62) 4)) := fnScope_by (by decide +kernel)
  refine met0 T.cR me F b sc (fun vs H Q E h => ?_) (fun cdv A' outer s H vs Q E hr h => ?_)
  · obtain ⟨fst, C, Hi, r, dx, cd, re, td, rs, m, wd, v, h, us, env, q, s', rfl, _⟩ := h
    rfl
  · obtain ⟨fst, C, Hi, r, dx, cd, re, td, rs, m, wd, v, h, us, env, q, s', rfl, X, ok, hw, hC, hh, hv, hb, hb2, hwhy, st, k⟩ := h
    refine ⟨_, pss_one (ps_if (pt_cmpR op_eq (pe_fld (pv 1) rfl) (pe_gc (by rfl) T.CHOICE) (nomark _)) (pss_one (ps_expr (pe_mt cCh hr (by decide) (pv 0) (pa_cons (pv 1) (pa_cons (pv 2) pa_nil)))))
      (pss_one (ps_if (pt_cmpR op_eq (pe_fld (pv 1) rfl) (pe_gc (by rfl) T.CALL) (nomark _))
        (pss_one (ps_expr (pe_bm PySem.F.plainAttrs_list PySem.F.slot_list_append PySem.F.type_list_append mt_append (pe_fld (pv 0) rfl) (pa_cons (pe_tup (pa_cons pe_bl (pa_cons (pe_fld (pv 1) rfl) (pa_cons (pe_mt cTk hr (by decide) (pv 0) (pa_cons (pe_fld (pv 1) rfl) pa_nil)) pa_nil)))) pa_nil))))
        (pss_cons (ps_set (i := 3) sc.nd rfl (.inl rfl) (pe_c cOp hr (by decide) (by rfl) (pa_cons (pe_fld (pv 1) rfl) (pa_cons (pe_mt cTk hr (by decide) (pv 0) (pa_cons (pe_fld (pv 1) rfl) pa_nil)) pa_nil))))
        (pss_cons (ps_fld (pv 0) (pe_ix ix_tup (pv 3) pe_int (fun _ _ => rfl)) rfl)
        (pss_one (ps_expr (pe_bm PySem.F.plainAttrs_list PySem.F.slot_list_append PySem.F.type_list_append mt_append (pe_fld (pv 0) rfl) (pa_cons (pe_ix ix_tup (pv 3) pe_int (fun _ _ => rfl)) pa_nil))))))))), ?_⟩
    obtain ⟨wd', hC', inv⟩ := fin_inv st
    rw [hC] at hC'
    cases hC'
    have mem := List.mem_of_getElem? hC
    have hw0 := hw
    obtain ⟨wa, wdx, pl, rfl, hwa, hpl⟩ := hw
    have hwa1 := X.sm _ _ hwa
    rcases inv with ⟨o, R, xs, ht, hch, hR, rfl⟩ | ⟨o, R, c, z, ht, hch, hR, hz, rfl⟩ | ⟨g, R, args, z, ht, hz, hl, hR, rfl⟩ | ⟨o, R, args, ht, hch, hl, hok, hR, res⟩
    · have ek : kindOf wd.tok = 3 := by rw [ht]; show (if isCh o = true then 3 else 2) = 3; rw [if_pos hch]
      refine ⟨_, rfl, wa, _, wdx, _, _, rfl, hwa1, T.cW, T.w_kind, wl_kind, rfl, _, rfl, if_true_of (by rw [ek]; rfl) ?_⟩
      refine ⟨_, rfl, r, dx, _, rfl, X.ins, rl_none (by decide +kernel), _, rfl, _, rfl, ?_⟩
      exact ⟨fst, C, Hi, r, dx, cd, re, td, rs, m, wd, _, h, us, env, o, R, .l xs, rfl, X, hw0, hh, hv, hb, ht, hch, hR, hwhy, (fun c e => by cases e), (fun _ _ Hi' H' s2 X2 => k Hi' H' rs s2 X2), (fun c z e => by cases e)⟩
    · have ek : kindOf wd.tok = 3 := by rw [ht]; show (if isCh o = true then 3 else 2) = 3; rw [if_pos hch]
      refine ⟨_, rfl, wa, _, wdx, _, _, rfl, hwa1, T.cW, T.w_kind, wl_kind, rfl, _, rfl, if_true_of (by rw [ek]; rfl) ?_⟩
      refine ⟨_, rfl, r, dx, _, rfl, X.ins, rl_none (by decide +kernel), _, rfl, _, rfl, ?_⟩
      refine ⟨fst, C, Hi, r, dx, cd, re, td, rs, m, wd, _, h, us, env, o, R, .n c, rfl, X, hw0, hh, hv, hb, ht, hch, hR, hwhy, (fun c' e => by cases e; exact ⟨z, hz⟩), (fun xs e => by cases e), (fun c' z' e hz' Hi' H' s2 X2 => ?_)⟩
      cases e
      rw [hz] at hz'
      cases hz'
      refine k Hi' H' rs s2 ?_
      rw [hwhy] at X2
      exact X2
    · have ek : kindOf wd.tok = 4 := by rw [ht]; rfl
      refine ⟨_, rfl, wa, _, wdx, _, _, rfl, hwa1, T.cW, T.w_kind, wl_kind, rfl, _, rfl, if_false_of (by rw [ek]; rfl) ?_⟩
      refine ⟨_, rfl, wa, _, wdx, _, _, rfl, hwa1, T.cW, T.w_kind, wl_kind, rfl, _, rfl, if_true_of (by rw [ek]; rfl) ?_⟩
      obtain ⟨tvs0, t0, _⟩ := X.td_
      refine ⟨_, rfl, r, _, dx, _, _, rfl, X.ins, T.cR, T.r_todo, rl_todo, .inl ⟨rfl, _, SqL.of t0⟩, ?_⟩
      refine ⟨_, rfl, wa, _, wdx, _, _, rfl, hwa1, T.cW, T.w_what, wl_what, ?_⟩
      refine ⟨_, rfl, r, dx, _, rfl, X.ins, rl_none (by decide +kernel), _, rfl, wa, _, wdx, _, _, rfl, hwa1, T.cW, T.w_many, wl_many, ?_⟩
      refine ⟨fst, C, Hi, r, dx, cd, re, td, rs, m, R, args, (by rw [hl]; rfl), X, hR, fun Hi' H' rs' hl' us' s2 X2 hh2 hv2 => ?_⟩
      obtain ⟨tvs, t1, t2⟩ := X2.td_
      have tl : tvs.length ≤ 500 := by rw [← Paired.length t2]; exact hb
      have ez : whatV fst wd.tok = .int ((z : Nat) : Int) := by
        rw [ht]
        show V.int ((fst.getD g 0 : Nat) : Int) = _
        rw [List.getD_eq_getElem?_getD, hz]; rfl
      refine ⟨(by show 3 ≤ sizeLine; decide), fun t ht' => ?_⟩
      refine ⟨td, tvs, _, rfl, rfl, Same.new ht' _ _ t1, (by show tvs.length < 2 ^ 24; omega), ?_⟩
      rw [ez]
      have X3 := X2.push (b := false) (q := z) (env := args) t1 ht' hh2 hv2
      rw [hwhy] at X3
      exact k _ _ rs' (s2.trans (Same.new (X2.sm.free ht'))) X3
    · have ek : kindOf wd.tok = 2 := by rw [ht]; show (if isCh o = true then 3 else 2) = 2; rw [hch]; rfl
      refine ⟨_, rfl, wa, _, wdx, _, _, rfl, hwa1, T.cW, T.w_kind, wl_kind, rfl, _, rfl, if_false_of (by rw [ek]; rfl) ?_⟩
      refine ⟨_, rfl, wa, _, wdx, _, _, rfl, hwa1, T.cW, T.w_kind, wl_kind, rfl, _, rfl, if_false_of (by rw [ek]; rfl) ?_⟩
      obtain ⟨oo, om⟩ := ok.op wd mem o ht
      refine ⟨_, rfl, wa, _, wdx, _, _, rfl, hwa1, T.cW, T.w_what, wl_what, ?_⟩
      refine ⟨_, rfl, r, dx, _, rfl, X.ins, rl_none (by decide +kernel), _, rfl, wa, _, wdx, _, _, rfl, hwa1, T.cW, T.w_many, wl_many, ?_⟩
      refine ⟨fst, C, Hi, r, dx, cd, re, td, rs, m, R, args, (by rw [hl]; rfl), X, hR, fun Hi' H' rs' hl' us' s2 X2 hh2 hv2 => ?_⟩
      refine ⟨o, hl', args, us', (by rw [ht]; rfl), oo, hch, X2.sm _ _ hh2, ValsAt.mono X2.sm hv2, hl.trans om, hok, fun p H2 s3 ra => ?_⟩
      -- all that the run is made of stands behind operate; its answer stays
      have stay : ∀ (y : Nat) (uv : Val) (uo : V) (H3 : Hp), ValAt H3 uv uo → Same H' H3 → H3 p = some (.tup [.int (y : Nat), uo]) →
          (∀ (Hj Hk : Hp), Same Hi Hj → RunX A fst C Hj Hk r dx cd re td rs' ⟨m.steps, y, m.seen, m.todo, R ++ [uv]⟩ → Q .non Hk) →
          tSeq (sFld K (tVar 0) (tOp (rIxT K) (tVar 3) (tC (.int 0))) "why") (tDrop (tBM K "list" rAppend (tFld K (tVar 0) "results") (tCons (tOp (rIxT K) (tVar 3) (tC (.int 1))) tNil)))
            { nx := fun _ H' => Q .non H', rt := Q } [some (.ref r), some (.ref wa), some (.ref h), some (.ref p)] H3 := by
        intro y uv uo H3 hva s4 hp kk
        obtain ⟨rvs, g1, g2⟩ := X2.rs_
        obtain ⟨tvs, t1, t2⟩ := X2.td_
        have rl : rvs.length ≤ 500 := by
          rw [← Paired.length g2]
          show R.length ≤ 500
          rw [hR, List.length_append] at hb2
          omega
        -- the part that stays: all of H3 but what the run changes
        let Hj : Hp := fun b => if b = r ∨ b = re ∨ b = td ∨ b = rs' then none else H3 b
        have sj : Same Hi' Hj := fun b o e => by
          show (if b = r ∨ b = re ∨ b = td ∨ b = rs' then none else H3 b) = some o
          rw [if_neg ?_]
          · exact s4 _ _ (X2.sm _ _ e)
          · rintro (rfl | rfl | rfl | rfl)
            · rw [X2.nr] at e; cases e
            · rw [X2.nre] at e; cases e
            · rw [X2.ntd] at e; cases e
            · rw [X2.nrs] at e; cases e
        have sj2 : Same Hj H3 := fun b o e => by
          have e : (if b = r ∨ b = re ∨ b = td ∨ b = rs' then none else H3 b) = some o := e
          split at e
          · cases e
          · exact e
        have X3 : RunX A fst C Hj H3 r dx cd re td rs' { m with res := R } :=
          { sm := sj2, ins := s4 _ _ X2.ins, nr := if_pos (.inl rfl), nre := if_pos (.inr (.inl rfl)), ntd := if_pos (.inr (.inr (.inl rfl))), nrs := if_pos (.inr (.inr (.inr rfl))), ne := X2.ne, code := X2.code.mono sj, hre := s4 _ _ X2.hre,
            td_ := ⟨tvs, s4 _ _ t1, Paired.mapP t2 fun _ _ z => z.mono sj⟩, rs_ := ⟨rvs, s4 _ _ g1, g2.mono sj⟩ }
        have vj : ValAt Hj uv uo := by
          cases uv with
          | n x => exact hva
          | l xs =>
            obtain ⟨a, e1, e2⟩ := hva
            refine ⟨a, e1, ?_⟩
            show (if a = r ∨ a = re ∨ a = td ∨ a = rs' then none else H3 a) = _
            rw [if_neg ?_]
            · exact e2
            · rintro (rfl | rfl | rfl | rfl)
              · rw [X3.ins] at e2; cases e2
              · rw [X3.hre] at e2; cases e2
              · rw [s4 _ _ t1] at e2; cases e2
              · rw [s4 _ _ g1] at e2; cases e2
        refine ⟨_, rfl, p, _, 0, _, rfl, rfl, SqT.of hp, atI_nat (j := 0) rfl, _, rfl, r, _, dx, _, rfl, X3.ins, T.cR, T.r_why, (by show 6 < 1000; decide), ?_⟩
        have X4 := X3.fld m.steps y
        have hp4 : (upd H3 r (.ins A.R dx (rF (.ref cd) (.int (m.steps : Nat)) (.int (y : Nat)) (.ref re) (.ref td) (.ref rs')))) p = some (.tup [.int (y : Nat), uo]) := by
          rw [upd_ne (fun z => by rw [z, X3.ins] at hp; cases hp)]; exact hp
        have g4 : (upd H3 r (.ins A.R dx (rF (.ref cd) (.int (m.steps : Nat)) (.int (y : Nat)) (.ref re) (.ref td) (.ref rs')))) rs' = some (.lst rvs) := by
          rw [upd_ne X3.rrs.symm]; exact s4 _ _ g1
        refine ⟨_, rfl, r, _, dx, _, _, rfl, X4.ins, T.cR, T.r_results, rl_results, .inl ⟨rfl, _, SqL.of g4⟩, ?_⟩
        refine ⟨_, rfl, p, _, 1, _, rfl, rfl, SqT.of hp4, atI_nat (j := 1) rfl, rs', rvs, _, rfl, rfl, g4, (by show rvs.length < 2 ^ 24; omega), ?_⟩
        refine kk Hj _ (s2.trans sj) ?_
        exact X4.res (pd_append (g2.mono sj) (pd_one vj))
      rcases res with ⟨uv, hu, rfl⟩ | ⟨e, he, rfl⟩
      · rw [hu] at ra
        obtain ⟨uo, hp, hva⟩ := ra
        exact stay 0 uv uo H2 hva s3 hp fun Hj Hk s5 X5 => k Hj Hk rs' s5 X5
      · rw [he] at ra
        exact stay e (.n 0) (.int 0) H2 rfl s3 ra fun Hj Hk s5 X5 => k Hj Hk rs' s5 X5
def spCome (A : Ad) : Sp := fun vs H Q _ => ∃ (fst : List Nat) (C : List Wd) (Hi : Hp) (r dx cd re td rs : Addr) (m : MS) (h : Addr) (us : List V) (env : List Val) (q : Nat) (s' : MS),
  vs = [.ref r, .int (q : Nat), .ref h] ∧ RunX A fst C Hi H r dx cd re td rs m ∧ CodeOk C ∧ Hi h = some (.lst us) ∧ ValsAt Hi env us ∧ m.todo.length ≤ 400 ∧ m.res.length ≤ 400 ∧ m.seen.length ≤ 400 ∧ m.why = 0 ∧
  Step C fst ⟨m.steps, 0, m.seen, m.todo ++ [(false, q, env)], m.res⟩ s' ∧
  ∀ (Hi' H' : Hp) (rs' : Addr), Same Hi Hi' → RunX A fst C Hi' H' r dx cd re td rs' s' → Q .non H'
theorem ok_come_to (T : Tp K mg A) (cPl : Met P w K mg base 1 A.R "plan_parts" (spPlan A) [])
    {f : Addr} {fd : FuncData} (F : C8.Fun K "come_to" "Run.come_to" (inClass (top 62) 2) f fd) (me : Meth K A.R "come_to" f) (b : Binds K fd ["self", "position", "handed"] []) : Met P w K mg base 2 A.R "come_to" (spCome A) [] := by
  have sc : FnScope ["self", "position", "handed", "word"] ["self", "position", "handed"] (fnScope (inClass (top 62) 2)) := fnScope_by (by decide +kernel)
  refine met0 T.cR me F b sc (fun vs H Q E h => ?_) (fun cdv A' outer s H vs Q E hr h => ?_)
  · obtain ⟨fst, C, Hi, r, dx, cd, re, td, rs, m, h, us, env, q, s', rfl, _⟩ := h
    rfl
  · obtain ⟨fst, C, Hi, r, dx, cd, re, td, rs, m, h, us, env, q, s', rfl, X, ok, hh, hv, hb, hb2, hb3, hwhy, st, k⟩ := h
    refine ⟨_, pss_cons (ps_if (pt_cmpR op_eq (pe_fld (pv 0) rfl) (pe_gc (by rfl) T.MOST_STEPS) (nomark _)) (pss_cons (ps_fld (pv 0) (pe_gc (by rfl) T.STEPS) rfl) (pss_one ps_retN)) pss_nil)
      (pss_cons (ps_fldaug (pv 0) pe_int in_add)
      (pss_cons (ps_dput (hu_of hr) (pe_fld (pv 0) rfl) (pv 1) pe_bl rfl)
      (pss_cons (ps_set (i := 3) sc.nd rfl (.inl rfl) (pe_ix ix_list (pe_fld (pv 0) rfl) (pv 1) (fun _ _ => rfl)))
      (pss_one (ps_if (pt_cmpR op_eq (pe_fld (pv 3) rfl) (pe_gc (by rfl) T.NUMBER) (nomark _))
        (pss_one (ps_expr (pe_bm PySem.F.plainAttrs_list PySem.F.slot_list_append PySem.F.type_list_append mt_append (pe_fld (pv 0) rfl) (pa_cons (pe_fld (pv 3) rfl) pa_nil))))
        (pss_one (ps_if (pt_cmpR op_eq (pe_fld (pv 3) rfl) (pe_gc (by rfl) T.HANDED) (nomark _))
          (pss_one (ps_expr (pe_bm PySem.F.plainAttrs_list PySem.F.slot_list_append PySem.F.type_list_append mt_append (pe_fld (pv 0) rfl) (pa_cons (pe_ix ix_list (pv 2) (pe_fld (pv 3) rfl) (fun _ _ => rfl)) pa_nil))))
          (pss_cons (ps_expr (pe_bm PySem.F.plainAttrs_list PySem.F.slot_list_append PySem.F.type_list_append mt_append (pe_fld (pv 0) rfl) (pa_cons (pe_tup (pa_cons pe_bl (pa_cons (pv 1) (pa_cons (pv 2) pa_nil)))) pa_nil)))
          (pss_one (ps_expr (pe_mt cPl hr (by decide) (pv 0) (pa_cons (pv 3) (pa_cons (pv 2) pa_nil))))))))))))), ?_⟩
    rcases come_inv st with ⟨h100, rfl⟩ | ⟨h100, wd, hC, inv⟩
    · refine ⟨_, rfl, r, _, dx, _, _, rfl, X.ins, T.cR, T.r_steps, rl_steps, rfl, _, rfl, if_true_of (by rw [h100]; rfl) ?_⟩
      refine ⟨_, rfl, r, _, dx, _, rfl, X.ins, T.cR, T.r_why, (by show 6 < 1000; decide), ?_⟩
      have X2 := X.fld m.steps 3
      rw [h100] at X2
      refine k Hi _ rs (Same.refl _) ?_
      rw [h100]
      exact X2
    · refine ⟨_, rfl, r, _, dx, _, _, rfl, X.ins, T.cR, T.r_steps, rl_steps, rfl, _, rfl, if_false_of (decide_eq_false (fun z => by have := V.int.inj z; omega)) ?_⟩
      have X1 := X.fld (m.steps + 1) 0
      refine ⟨_, rfl, r, _, dx, _, _, rfl, X.ins, T.cR, T.r_steps, rl_steps, _, _, rfl, rfl, dx, _, X.ins, (by show 6 < 1000; decide), ?_⟩
      have e1 : putF "steps" (.int (((m.steps : Nat) : Int) + 1)) (rF (.ref cd) (.int (m.steps : Nat)) (.int (m.why : Nat)) (.ref re) (.ref td) (.ref rs)) = rF (.ref cd) (.int ((m.steps + 1 : Nat) : Int)) (.int ((0 : Nat) : Int)) (.ref re) (.ref td) (.ref rs) := by
        rw [hwhy]; rfl
      rw [e1]
      refine ⟨_, rfl, r, _, dx, _, _, rfl, X1.ins, T.cR, T.r_reached, rl_reached, _, rfl, re, _, rfl, DPut.k (k := Sum.inl (q : Int)) X1.hre (by unfold seenK; rw [List.length_map]; show m.seen.length < 2 ^ 24; omega), ?_⟩
      rw [putK_seen]
      have X2 := X1.seen (addS m.seen q)
      obtain ⟨cvs, wv, c1, c2, hwv⟩ := X2.code.get hC
      refine ⟨_, rfl, r, _, dx, _, _, rfl, X2.ins, T.cR, T.r_code, rl_code, _, rfl, cd, cvs, _, wv, rfl, rfl, SqL.of (X2.sm _ _ c1), atI_nat c2, ?_⟩
      have hwv0 := hwv
      obtain ⟨wa, wdx, pl, rfl, hwa, hpl⟩ := hwv
      have hwa2 := X2.sm _ _ hwa
      obtain ⟨rvs, g1, g2⟩ := X2.rs_
      obtain ⟨tvs, t1, t2⟩ := X2.td_
      have rl : rvs.length ≤ 400 := by rw [← Paired.length g2]; exact hb2
      have tl : tvs.length ≤ 400 := by rw [← Paired.length t2]; exact hb
      have mem := List.mem_of_getElem? hC
      have pl3 := ok.parts wd mem
      rcases inv with ⟨n, ht, rfl⟩ | ⟨i, v, ht, hi, rfl⟩ | ⟨o, ht, hch, rfl⟩ | ⟨ht, rfl⟩
      · have ek : kindOf wd.tok = 0 := by rw [ht]; rfl
        refine ⟨_, rfl, wa, _, wdx, _, _, rfl, hwa2, T.cW, T.w_kind, wl_kind, rfl, _, rfl, if_true_of (by rw [ek]; rfl) ?_⟩
        refine ⟨_, rfl, r, _, dx, _, _, rfl, X2.ins, T.cR, T.r_results, rl_results, .inl ⟨rfl, _, SqL.of g1⟩, ?_⟩
        refine ⟨_, rfl, wa, _, wdx, _, _, rfl, hwa2, T.cW, T.w_what, wl_what, rs, rvs, _, rfl, rfl, g1, (by show rvs.length < 2 ^ 24; omega), ?_⟩
        exact k Hi _ rs (Same.refl _) (X2.res (pd_append g2 (pd_one (by rw [ht]; rfl))))
      · have ek : kindOf wd.tok = 1 := by rw [ht]; rfl
        obtain ⟨u, u1, u2⟩ := LiI.paired_get hv hi
        refine ⟨_, rfl, wa, _, wdx, _, _, rfl, hwa2, T.cW, T.w_kind, wl_kind, rfl, _, rfl, if_false_of (by rw [ek]; rfl) ?_⟩
        refine ⟨_, rfl, wa, _, wdx, _, _, rfl, hwa2, T.cW, T.w_kind, wl_kind, rfl, _, rfl, if_true_of (by rw [ek]; rfl) ?_⟩
        refine ⟨_, rfl, r, _, dx, _, _, rfl, X2.ins, T.cR, T.r_results, rl_results, .inl ⟨rfl, _, SqL.of g1⟩, ?_⟩
        refine ⟨_, rfl, _, rfl, wa, _, wdx, _, _, rfl, hwa2, T.cW, T.w_what, wl_what, h, us, _, u, rfl, (by rw [ht]; rfl), SqL.of (X2.sm _ _ hh), atI_nat (j := i) u1, rs, rvs, _, rfl, rfl, g1, (by show rvs.length < 2 ^ 24; omega), ?_⟩
        exact k Hi _ rs (Same.refl _) (X2.res (pd_append g2 (pd_one u2)))
      · have ek : kindOf wd.tok = 3 := by rw [ht]; show (if isCh o = true then 3 else 2) = 3; rw [if_pos hch]
        refine ⟨_, rfl, wa, _, wdx, _, _, rfl, hwa2, T.cW, T.w_kind, wl_kind, rfl, _, rfl, if_false_of (by rw [ek]; rfl) ?_⟩
        refine ⟨_, rfl, wa, _, wdx, _, _, rfl, hwa2, T.cW, T.w_kind, wl_kind, rfl, _, rfl, if_false_of (by rw [ek]; rfl) ?_⟩
        refine ⟨_, rfl, r, _, dx, _, _, rfl, X2.ins, T.cR, T.r_todo, rl_todo, .inl ⟨rfl, _, SqL.of t1⟩, _, rfl, _, rfl, (by show 3 ≤ sizeLine; decide), fun t ht' => ?_⟩
        refine ⟨td, tvs, _, rfl, rfl, Same.new ht' _ _ t1, (by show tvs.length < 2 ^ 24; omega), ?_⟩
        have X3 := X2.push (b := true) (q := q) (env := env) t1 ht' hh hv
        have s3 : Same Hi (upd Hi t (.tup [.bl true, .int (q : Nat), .ref h])) := Same.new (X2.sm.free ht')
        refine ⟨_, rfl, r, dx, _, rfl, X3.ins, rl_none (by decide +kernel), _, rfl, _, rfl, ?_⟩
        refine ⟨fst, C, _, r, dx, cd, re, td, rs, _, wd, _, h, us, env, rfl, X3, hwv0.mono s3, s3 _ _ hh, hv.mono s3, (by show (m.todo ++ [(true, q, env)]).length ≤ 500; rw [List.length_append]; show m.todo.length + 1 ≤ 500; omega), pl3, fun Hi' H' s4 X4 => ?_⟩
        rw [if_pos ek] at X4
        exact k Hi' H' rs (s3.trans s4) X4
      · have ek : kindOf wd.tok ≠ 3 ∧ kindOf wd.tok ≠ 0 ∧ kindOf wd.tok ≠ 1 := by
          rcases ht with ⟨o, ht, hch⟩ | ⟨g, ht⟩
          · have : kindOf wd.tok = 2 := by rw [ht]; show (if isCh o = true then 3 else 2) = 2; rw [hch]; rfl
            omega
          · have : kindOf wd.tok = 4 := by rw [ht]; rfl
            omega
        refine ⟨_, rfl, wa, _, wdx, _, _, rfl, hwa2, T.cW, T.w_kind, wl_kind, rfl, _, rfl, if_false_of (decide_eq_false (fun z => by have := V.int.inj z; omega)) ?_⟩
        refine ⟨_, rfl, wa, _, wdx, _, _, rfl, hwa2, T.cW, T.w_kind, wl_kind, rfl, _, rfl, if_false_of (decide_eq_false (fun z => by have := V.int.inj z; omega)) ?_⟩
        refine ⟨_, rfl, r, _, dx, _, _, rfl, X2.ins, T.cR, T.r_todo, rl_todo, .inl ⟨rfl, _, SqL.of t1⟩, _, rfl, _, rfl, (by show 3 ≤ sizeLine; decide), fun t ht' => ?_⟩
        refine ⟨td, tvs, _, rfl, rfl, Same.new ht' _ _ t1, (by show tvs.length < 2 ^ 24; omega), ?_⟩
        have X3 := X2.push (b := true) (q := q) (env := env) t1 ht' hh hv
        have s3 : Same Hi (upd Hi t (.tup [.bl true, .int (q : Nat), .ref h])) := Same.new (X2.sm.free ht')
        refine ⟨_, rfl, r, dx, _, rfl, X3.ins, rl_none (by decide +kernel), _, rfl, _, rfl, ?_⟩
        refine ⟨fst, C, _, r, dx, cd, re, td, rs, _, wd, _, h, us, env, rfl, X3, hwv0.mono s3, s3 _ _ hh, hv.mono s3, (by show (m.todo ++ [(true, q, env)]).length ≤ 500; rw [List.length_append]; show m.todo.length + 1 ≤ 500; omega), pl3, fun Hi' H' s4 X4 => ?_⟩
        rw [if_neg ek.1] at X4
        exact k Hi' H' rs (s3.trans s4) X4
end
end Pf
namespace Pf
open PySem PySem.Spec PyProof.Rows L2 SX
open C8 (Cal Met Mak Def cal0 met0 mak0 pe_c pe_mk pe_mt pe_mt0 pe_gc fnScope fnBody fnArgs fnScope_by)
def shC (n : Nat) : Nat := if n = 0 then 110 else if n = 1 then 108 else 98
abbrev rowV (said : List (List Nat)) : List V := said.map fun w => V.str (S w)
def TestAt (A : Ad) (H : Hp) (t : Ty01.Test) (st : Nat) (v : V) : Prop := ∃ a dx r, v = .ref a ∧ H a = some (.ins A.T dx (tF (.ref r) (.str (S (t.shapes.map shC))) (.int (st : Nat)))) ∧ H r = some (.tup (rowV t.said))
theorem TestAt.mono {A : Ad} {H H' : Hp} (e : Same H H') {t : Ty01.Test} {st : Nat} {v : V} (h : TestAt A H t st v) : TestAt A H' t st v := by
  obtain ⟨a, dx, r, h1, h2, h3⟩ := h
  exact ⟨a, dx, r, h1, e _ _ h2, e _ _ h3⟩
theorem tl_row {r sh s : V} : (tF r sh s).lookup ("row" : Str) = some r := lk_here
theorem tl_shapes {r sh s : V} : (tF r sh s).lookup ("shapes" : Str) = some sh := lk_1 (by decide +kernel)
theorem tl_start {r sh s : V} : (tF r sh s).lookup ("start" : Str) = some s := lk_2 (by decide +kernel) (by decide +kernel)
def spGo (A : Ad) : Sp := fun vs H Q _ => ∃ (fst : List Nat) (C : List Wd) (Hi : Hp) (r dx cd re td rs : Addr) (m : MS) (h : Addr) (us : List V) (env : List Val) (st n : Nat) (e : MS),
  vs = [.ref r, .int (st : Nat), .ref h] ∧ RunX A fst C Hi H r dx cd re td rs m ∧ CodeOk C ∧ Hi h = some (.lst us) ∧ ValsAt Hi env us ∧ m.todo = [] ∧
  Bd { m with todo := [(false, st, env)] } ∧ Runs C fst { m with todo := [(false, st, env)] } n e ∧
  ∀ (Hi' H' : Hp) (rs' : Addr), Same Hi Hi' → RunX A fst C Hi' H' r dx cd re td rs' e → Q .non H'
def spValue (A : Ad) : Sp := fun vs H Q _ => ∃ (fst : List Nat) (C : List Wd) (Hi : Hp) (r dx cd re td rs : Addr) (m : MS) (x : Val) (R : List Val),
  vs = [.ref r] ∧ RunX A fst C Hi H r dx cd re td rs m ∧ m.res = x :: R ∧ ∀ u, ValAt Hi x u → Q u H
def spRunTest (A : Ad) : Sp := fun vs H Q _ => ∃ (fst : List Nat) (C : List Wd) (t : Ty01.Test) (st n : Nat) (e : MS) (cd : Addr) (v : V) (h : Addr) (us : List V) (env : List Val),
  vs = [.ref cd, v, .ref h] ∧ CodeAt A H fst C cd ∧ CodeOk C ∧ TestAt A H t st v ∧ H h = some (.lst us) ∧ ValsAt H env us ∧ Runs C fst ⟨0, 0, [], [(false, st, env)], []⟩ n e ∧
  ∀ (Hi' H' : Hp) (r dx re td rs : Addr), Same H Hi' → RunX A fst C Hi' H' r dx cd re td rs e → Q (.ref r) H'
section
variable {P : PySem.Program} {w : World} {K : PySem.W.Frag} {mg : Str → Option Value} {base : Heap} {A : Ad}
theorem ok_value (T : Tp K mg A) {f : Addr} {fd : FuncData} (F : C8.Fun K "value" "Run.value" (inClass (top 62) 7) f fd) (me : Meth K A.R "value" f) (b : Binds K fd ["self"] []) : Met P w K mg base 1 A.R "value" (spValue A) [] := by
  have sc : FnScope ["self"] ["self"] (fnScope (inClass (top 62) 7)) := fnScope_by (by decide +kernel)
  refine met0 T.cR me F b sc (fun vs H Q E h => ?_) (fun cdv A' outer s H vs Q E hr h => ?_)
  · obtain ⟨fst, C, Hi, r, dx, cd, re, td, rs, m, x, R, rfl, _⟩ := h
    rfl
  · obtain ⟨fst, C, Hi, r, dx, cd, re, td, rs, m, x, R, rfl, X, hR, q⟩ := h
    refine ⟨_, pss_one (ps_ret (pe_ix ix_list (pe_fld (pv 0) rfl) pe_int (fun _ _ => rfl))), ?_⟩
    obtain ⟨rvs, g1, g2⟩ := X.rs_
    rw [hR] at g2
    obtain ⟨u, u1, u2⟩ := LiI.paired_get g2 (i := 0) rfl
    exact ⟨_, rfl, r, _, dx, _, _, rfl, X.ins, T.cR, T.r_results, rl_results, rs, rvs, _, u, rfl, rfl, SqL.of g1, atI_nat (j := 0) u1, q u u2⟩
theorem ok_go (T : Tp K mg A) (cF : Met P w K mg base 4 A.R "finish" (spFinish A) []) (cC : Met P w K mg base 2 A.R "come_to" (spCome A) [])
    {f : Addr} {fd : FuncData} (F : C8.Fun K "go" "Run.go" (inClass (top 62) 1) f fd) (me : Meth K A.R "go" f) (b : Binds K fd ["self", "start", "handed"] []) : Met P w K mg base 5 A.R "go" (spGo A) [] := by
  have sc : FnScope ["self", "start", "handed", "task"] ["self", "start", "handed"] (fnScope (inClass (top 62) 1)) := fnScope_by (by decide +kernel)
  refine met0 T.cR me F b sc (fun vs H Q E h => ?_) (fun cdv A' outer s H vs Q E hr h => ?_)
  · obtain ⟨fst, C, Hi, r, dx, cd, re, td, rs, m, h, us, env, st, n, e, rfl, _⟩ := h
    rfl
  · obtain ⟨fst, C, Hi, r, dx, cd, re, td, rs, m, h, us, env, st, n, e, rfl, X, ok, hh, hv, htd, bd, rn, k⟩ := h
    refine ⟨_, pss_cons (ps_expr (pe_bm PySem.F.plainAttrs_list PySem.F.slot_list_append PySem.F.type_list_append mt_append (pe_fld (pv 0) rfl) (pa_cons (pe_tup (pa_cons pe_bl (pa_cons (pv 1) (pa_cons (pv 2) pa_nil)))) pa_nil)))
      (pss_one (ps_while PassesOwn.never (PW.pt (pw_and (pt_cmpR (op_neE hr.units0) (pe_fld (pv 0) rfl) (pe_lst pa_nil) (nomark _)) (pw_and1 (pt_cmpR op_eq (pe_fld (pv 0) rfl) (pe_gc (by rfl) T.NONE) (nomark _)))))
        (pss_cons (ps_set (i := 3) sc.nd rfl (.inl rfl) (pe_bm0 PySem.F.plainAttrs_list PySem.F.slot_list_pop PySem.F.type_list_pop mt_pop (pe_fld (pv 0) rfl)))
        (pss_one (ps_if (pt_val (pe_ix ix_tup (pv 3) pe_int (fun _ _ => rfl)))
          (pss_one (ps_expr (pe_mt cF hr (by decide) (pv 0) (pa_cons (pe_ix ix_list (pe_fld (pv 0) rfl) (pe_ix ix_tup (pv 3) pe_int (fun _ _ => rfl)) (fun _ _ => rfl)) (pa_cons (pe_ix ix_tup (pv 3) pe_int (fun _ _ => rfl)) pa_nil)))))
          (pss_one (ps_expr (pe_mt cC hr (by decide) (pv 0) (pa_cons (pe_ix ix_tup (pv 3) pe_int (fun _ _ => rfl)) (pa_cons (pe_ix ix_tup (pv 3) pe_int (fun _ _ => rfl)) pa_nil)))))))))), ?_⟩
    obtain ⟨tvs, t1, t2⟩ := X.td_
    rw [htd] at t2
    cases t2
    refine ⟨_, rfl, r, _, dx, _, _, rfl, X.ins, T.cR, T.r_todo, rl_todo, .inl ⟨rfl, _, SqL.of t1⟩, _, rfl, _, rfl, (by show 3 ≤ sizeLine; decide), fun t ht => ?_⟩
    refine ⟨td, [], _, rfl, rfl, Same.new ht _ _ t1, (by show 0 < 2 ^ 24; decide), ?_⟩
    have X0 := X.push (b := false) (q := st) (env := env) t1 ht hh hv
    rw [htd] at X0
    refine ⟨fun n σ H' => ∃ (Hj : Hp) (rs' : Addr) (m' : MS) (o : Option V), Same Hi Hj ∧ σ = [some (.ref r), some (.int (st : Nat)), some (.ref h), o] ∧ RunX A fst C Hj H' r dx cd re td rs' m' ∧ Bd m' ∧ Runs C fst m' n e,
      ⟨n, _, rs, _, none, Same.new (X.sm.free ht), rfl, X0, bd, rn⟩, ?_⟩
    rintro n1 σ H1 ⟨Hj, rs', m', o, s1, rfl, X1, bd1, rn1⟩
    obtain ⟨tvs, t1, t2⟩ := X1.td_
    refine ⟨_, rfl, r, _, dx, _, _, rfl, X1.ins, T.cR, T.r_todo, rl_todo, (by show 0 ≤ sizeLine; decide), fun em hem => ?_⟩
    have X2 := X1.new (o := .lst []) hem
    have t1' := Same.new (o := .lst []) hem _ _ t1
    refine ⟨td, em, tvs, rfl, rfl, SqL.of t1', SqL.of upd_same, _, rfl, ?_⟩
    cases rn1 with
    | stopT h1 h2 =>
      rw [h1] at t2
      cases t2
      refine if_false_of rfl ?_
      exact k Hj _ rs' s1 X2
    | stopW h1 =>
      refine if_of (fun c => ?_) (fun c => ?_)
      · refine ⟨_, rfl, r, _, dx, _, _, rfl, X2.ins, T.cR, T.r_why, rl_why, rfl, _, rfl, if_false_of (decide_eq_false (fun z => by have := V.int.inj z; omega)) ?_⟩
        exact k Hj _ rs' s1 X2
      · exact k Hj _ rs' s1 X2
    | @step _ m2 _ n2 h1 h2 =>
      obtain ⟨hw, T0, bb, q, env', htodo⟩ := step_at h1
      have bd2 := step_bd ok.parts h1 bd1
      rw [htodo] at t2
      obtain ⟨tv, u, rfl, t3, t4⟩ := pd_snoc t2
      refine if_true_of (by simp) ?_
      refine ⟨_, rfl, r, _, dx, _, _, rfl, X2.ins, T.cR, T.r_why, rl_why, rfl, _, rfl, if_true_of (by rw [hw]; rfl) ?_⟩
      refine ⟨fun σ' H' => ∃ (Hk : Hp) (rs2 : Addr) (o : Option V), Same Hi Hk ∧ σ' = [some (.ref r), some (.int (st : Nat)), some (.ref h), o] ∧ RunX A fst C Hk H' r dx cd re td rs2 m2, fun σ' H' ⟨Hk, rs2, o, s2, e2, X5⟩ => ⟨n2, Nat.lt_succ_self _, Hk, rs2, m2, o, s2, e2, X5, bd2, h2⟩, ?_⟩
      have elast : (tv ++ [u])[(tv ++ [u]).length - 1]? = some u := by
        rw [List.length_append, List.length_singleton, Nat.add_sub_cancel, List.getElem?_append_right (Nat.le_refl _), Nat.sub_self]; rfl
      refine ⟨_, rfl, r, _, dx, _, _, rfl, X2.ins, T.cR, T.r_todo, rl_todo, .inl ⟨rfl, _, SqL.of t1'⟩, td, _, u, rfl, rfl, t1', elast, ?_⟩
      rw [List.dropLast_concat]
      have X3 := X2.todo t3
      obtain ⟨ta, h', us', rfl, f1, f2, f3⟩ := t4
      have f1' := X3.sm _ _ f1
      obtain ⟨ms, mw, msn, mtd, mrs⟩ := m'
      have hw : mw = 0 := hw
      have htodo : mtd = T0 ++ [(bb, q, env')] := htodo
      subst hw htodo
      have b2 := bd1.sn
      have b3 := bd1.rs
      have b4 := bd1.td
      have b1 := bd1.st
      simp only [List.length_append, List.length_singleton] at b1 b2 b3 b4
      refine ⟨_, rfl, ta, _, 0, _, rfl, rfl, SqT.of f1', atI_nat (j := 0) rfl, bb, rfl, if_of (fun c => ?_) (fun c => ?_)⟩
      · cases bb with
        | false => cases c
        | true =>
          obtain ⟨wd, hC, _⟩ := fin_inv h1
          obtain ⟨cvs, wv, c1, c2, hwv⟩ := X3.code.get hC
          refine ⟨_, rfl, r, dx, _, rfl, X3.ins, rl_none (by decide +kernel), ?_⟩
          refine ⟨_, rfl, r, _, dx, _, _, rfl, X3.ins, T.cR, T.r_code, rl_code, _, rfl, ta, _, 1, _, rfl, rfl, SqT.of f1', atI_nat (j := 1) rfl, cd, cvs, _, wv, rfl, rfl, SqL.of (X3.sm _ _ c1), atI_nat c2, ?_⟩
          refine ⟨_, rfl, ta, _, 2, _, rfl, rfl, SqT.of f1', atI_nat (j := 2) rfl, ?_⟩
          exact ⟨fst, C, Hj, r, dx, cd, re, td, rs', _, wd, wv, h', us', env', q, m2, rfl, X3, ok, hwv, hC, f2, f3, (by show T0.length ≤ 500; omega), (by show mrs.length ≤ 500; omega), rfl, h1, fun Hi' H' rs2 s2 X5 => ⟨Hi', rs2, _, s1.trans s2, rfl, X5⟩⟩
      · cases bb with
        | true => cases c
        | false =>
          refine ⟨_, rfl, r, dx, _, rfl, X3.ins, rl_none (by decide +kernel), ?_⟩
          refine ⟨_, rfl, ta, _, 1, _, rfl, rfl, SqT.of f1', atI_nat (j := 1) rfl, ?_⟩
          refine ⟨_, rfl, ta, _, 2, _, rfl, rfl, SqT.of f1', atI_nat (j := 2) rfl, ?_⟩
          exact ⟨fst, C, Hj, r, dx, cd, re, td, rs', _, h', us', env', q, m2, rfl, X3, ok, f2, f3, (by show T0.length ≤ 400; omega), (by show mrs.length ≤ 400; omega), (by show msn.length ≤ 400; omega), rfl, h1, fun Hi' H' rs2 s2 X5 => ⟨Hi', rs2, _, s1.trans s2, rfl, X5⟩⟩
theorem ok_run_test (T : Tp K mg A) (cR : Mak P w K mg base 1 "Run" A.R (spRInit A.R) []) (cG : Met P w K mg base 5 A.R "go" (spGo A) []) {f : Addr} {fd : FuncData} (F : Def K mg "run_test" (top 63) f fd) (b : Binds K fd ["code", "test", "handed"] []) : Cal P w K mg base 6 "run_test" (spRunTest A) [] := by
  have sc : FnScope ["code", "test", "handed", "run"] ["code", "test", "handed"] (fnScope (top 63)) := fnScope_by (by decide +kernel)
  refine cal0 F b .nil sc (fun vs H Q E h => ?_) (fun cdv A' outer s H vs Q E hr h => ?_)
  · obtain ⟨fst, C, t, st, n, e, cd, v, h, us, env, rfl, _⟩ := h
    rfl
  · obtain ⟨fst, C, t, st, n, e, cd, v, h, us, env, rfl, hc, ok, ht, hh, hv, rn, k⟩ := h
    refine ⟨_, pss_cons (ps_set (i := 3) sc.nd rfl (.inl rfl) (pe_mk cR hr (by decide) (by rfl) (pa_cons (pv 0) pa_nil)))
      (pss_cons (ps_expr (pe_mt cG hr (by decide) (pv 3) (pa_cons (pe_fld (pv 1) rfl) (pa_cons (pv 2) pa_nil)))) (pss_one (ps_ret (pv 3)))), ?_⟩
    refine ⟨_, rfl, ?_⟩
    intro x dx nx nd ne
    refine ⟨x, dx, _, rfl, upd_same, fun H1 re td rs h1 h2 h3 nodup hins hre htd hrs kp => ⟨rfl, ?_⟩⟩
    have s1 : Same H H1 := Same.made nx nd kp
    have f1 : ∀ {a : Addr}, (upd (upd H dx (.own x)) x (.ins A.R dx [])) a = none → H a = none := fun {a} z => (free_put (free_put z).2).2
    have X : RunX A fst C H H1 x dx cd re td rs ⟨0, 0, [], [], []⟩ :=
      { sm := s1, ins := hins, nr := nx, nre := f1 h1, ntd := f1 h2, nrs := f1 h3, ne := by simp only [List.nodup_cons, List.mem_cons, not_or] at nodup; exact nodup.2.2.1.1, code := hc, hre := hre, td_ := ⟨[], htd, .nil⟩, rs_ := ⟨[], hrs, .nil⟩ }
    obtain ⟨ta, tdx, tr, rfl, g1, g2⟩ := ht
    refine ⟨_, rfl, x, dx, _, rfl, hins, rl_none (by decide +kernel), _, rfl, ta, _, tdx, _, _, rfl, s1 _ _ g1, T.cT, T.t_start, tl_start, _, rfl, ?_⟩
    refine ⟨fst, C, H, x, dx, cd, re, td, rs, _, h, us, env, st, n, e, rfl, X, ok, hh, hv, rfl, ⟨by show 0 ≤ 100; decide, by show 0 ≤ 0; decide, by show 0 ≤ 0; decide, by show 1 ≤ 1; decide⟩, rn, fun Hi' H' rs' s2 X2 => ⟨_, rfl, k Hi' H' x dx re td rs' s2 X2⟩⟩
end
end Pf
namespace Pf
open PySem PySem.Spec PyProof.Rows L2 SX
open C8 (Cal Met Mak Def cal0 met0 mak0 pe_c pe_mk pe_mt pe_mt0 pe_gc fnScope fnBody fnArgs fnScope_by)
theorem pe_c0 {X : Cx} {k j : Nat} {x : Str} {sp : Sp} {dvs : List V} {p pos : Pos} (c : Cal X.prog X.w X.K X.mg X.base k x sp dvs) (hr : Room j X.A) (hk : k ≤ j) (hg : Gl X x) (hdb : (x == ("__debug__" : Str)) = false := by decide) :
    PE X (.Call (.Name x p) [] [] pos) (tCall sp dvs C8.E0 tNil) := by
  obtain ⟨f, fd, ps, ds, F, hm, kp, b, d⟩ := c.ex
  exact pe_call0 F (hr.mono hk) hg hm kp b d C8.pass0 hdb
theorem pe_mk0 {X : Cx} {k j : Nat} {C : Addr} {x : Str} {sp : Sp} {dvs : List V} {p pos : Pos} (c : Mak X.prog X.w X.K X.mg X.base k x C sp dvs) (hr : Room j X.A) (hk : k + 1 ≤ j) (hg : Gl X x) (hdb : (x == ("__debug__" : Str)) = false := by decide) :
    PE X (.Call (.Name x p) [] [] pos) (tMake C sp dvs C8.E0 tNil) := by
  obtain ⟨f, fd, ps, ds, M, F, hm, b, d⟩ := c.ex
  exact pe_make0 M F (hr.mono hk) hg hm b d C8.pass0 hdb
theorem ValAt.putL {H : Hp} {l : Addr} {ys zs : List V} (hl : H l = some (.lst ys)) : ∀ {x : Val} {v : V}, ValAt H x v → ValAt (upd H l (.lst zs)) x v
  | .n _, _, h => h
  | .l _, _, ⟨a, h1, h2⟩ => ⟨a, h1, (upd_ne (L2.ne_of h2 hl (by intro z; cases z))).trans h2⟩
theorem ValsAt.putL {H : Hp} {l : Addr} {ys zs : List V} (hl : H l = some (.lst ys)) {xs : List Val} {vs : List V} (h : ValsAt H xs vs) : ValsAt (upd H l (.lst zs)) xs vs := Paired.mapP h fun _ _ z => z.putL hl
def sl1 (i : Nat) : List Val := .l [] :: (List.range i).map fun a => .l [a]
def sl2 (i : Nat) : List Val := sl1 3 ++ (List.range i).flatMap fun a => (List.range 3).map fun b => .l [a, b]
def sl3 (i j : Nat) : List Val := sl2 i ++ (List.range j).map fun b => .l [i, b]
theorem sl1_succ (i : Nat) : sl1 (i + 1) = sl1 i ++ [.l [i]] := by
  unfold sl1
  rw [List.range_succ, List.map_append, List.cons_append]; rfl
theorem sl2_succ (i : Nat) : sl2 (i + 1) = sl3 i 3 := by
  unfold sl3 sl2
  rw [List.range_succ (n := i), List.flatMap_append, ← List.append_assoc, List.flatMap_singleton]
theorem sl3_succ (i j : Nat) : sl3 i (j + 1) = sl3 i j ++ [.l [i, j]] := by
  unfold sl3
  rw [List.range_succ, List.map_append, ← List.append_assoc]; rfl
theorem sl3_zero (i : Nat) : sl3 i 0 = sl2 i := by unfold sl3; rw [List.range_zero, List.map_nil, List.append_nil]
theorem sl2_zero : sl2 0 = sl1 3 := by unfold sl2; rw [List.range_zero, List.flatMap_nil, List.append_nil]
theorem sl3_len : ∀ i, i < 3 → ∀ j, j < 3 → (sl3 i j).length ≤ 20 := by decide
theorem sl2_all : sl2 3 = Ty01.lists := by decide
def RetVals (H : Hp) (xs : List Val) (Q : VK) : Prop := ∀ p H' us, Same H H' → H p = none → H' p = some (.lst us) → ValsAt H' xs us → Q (.ref p) H'
def spShort : Sp := fun vs H Q _ => vs = [] ∧ RetVals H Ty01.lists Q
def spValuesOf : Sp := fun vs H Q _ => ∃ sh : Nat, vs = [.str (S [shC sh])] ∧ sh < 3 ∧ RetVals H (Ty01.domain sh) Q
/-- a list that grows by a value; what was stays -/
structure Gr (H H' : Hp) (l : Addr) (xs : List Val) : Prop where
  s : Same H H'
  n : H l = none
  at_ : ∃ us, H' l = some (.lst us) ∧ ValsAt H' xs us
theorem Gr.tup {H H' : Hp} {l t : Addr} {xs : List Val} (g : Gr H H' l xs) (ht : H' t = none) {ns : List Nat} {us : List V} (hu : H' l = some (.lst us)) :
    Gr H (upd (upd H' t (.tup (iV ns))) l (.lst (us ++ [.ref t]))) l (xs ++ [.l ns]) where
  s := Same.put (g.s.trans (Same.new ht)) g.n
  n := g.n
  at_ := by
    obtain ⟨us', h1, h2⟩ := g.at_
    rw [hu] at h1
    cases h1
    have hl : (upd H' t (.tup (iV ns))) l = some (.lst us) := Same.new ht _ _ hu
    exact ⟨_, upd_same, ValsAt.putL hl (pd_append (h2.mono (Same.new ht)) (pd_one ⟨t, rfl, upd_same⟩))⟩
section
variable {P : PySem.Program} {w : World} {K : PySem.W.Frag} {mg : Str → Option Value} {base : Heap} {A : Ad}
theorem ok_short_lists (T : Tp K mg A) {f : Addr} {fd : FuncData} (F : Def K mg "short_lists" (top 65) f fd) (b : Binds K fd [] []) : Cal P w K mg base 1 "short_lists" spShort [] := by
  have sc : FnScope ["lists", "first", "second"] [] (fnScope (top 65)) := fnScope_by (by decide +kernel)
  refine cal0 F b .nil sc (fun vs H Q E h => ?_) (fun cdv A' outer s H vs Q E hr h => ?_)
  · obtain ⟨rfl, _⟩ := h
    rfl
  · obtain ⟨rfl, k⟩ := h
    refine ⟨_, pss_cons (ps_set (i := 0) sc.nd rfl (.inl rfl) (pe_lst (pa_cons (pe_tup pa_nil) pa_nil)))
      (pss_cons (ps_for PassesOwn.never rfl (pi_range1 (by rfl) T.b_range (pa_cons pe_int pa_nil)) (pg_name (i := 1) sc.nd rfl (.inl rfl))
        (pss_one (ps_expr (pe_bm PySem.F.plainAttrs_list PySem.F.slot_list_append PySem.F.type_list_append mt_append (pv 0) (pa_cons (pe_tup (pa_cons (pv 1) pa_nil)) pa_nil)))))
      (pss_cons (ps_for PassesOwn.never rfl (pi_range1 (by rfl) T.b_range (pa_cons pe_int pa_nil)) (pg_name (i := 1) sc.nd rfl (.inl rfl))
        (pss_one (ps_for PassesOwn.never rfl (pi_range1 (by rfl) T.b_range (pa_cons pe_int pa_nil)) (pg_name (i := 2) sc.nd rfl (.inl rfl))
          (pss_one (ps_expr (pe_bm PySem.F.plainAttrs_list PySem.F.slot_list_append PySem.F.type_list_append mt_append (pv 0) (pa_cons (pe_tup (pa_cons (pv 1) (pa_cons (pv 2) pa_nil))) pa_nil)))))))
      (pss_one (ps_ret (pv 0))))), ?_⟩
    refine ⟨by show 0 ≤ sizeLine; decide, fun t0 ht0 => ⟨by show 1 ≤ sizeLine; decide, fun l hl => ?_⟩⟩
    have fl : H l = none := (free_put hl).2
    have g0 : Gr H (upd (upd H t0 (.tup [])) l (.lst [.ref t0])) l ([.l []]) :=
      ⟨Same.put (Same.new ht0) fl, fl, _, upd_same, pd_one ⟨t0, rfl, (upd_ne (free_put hl).1.symm).trans upd_same⟩⟩
    have dec : ∀ xs : List Val, ∀ (us : List V) (H' : Hp), ValsAt H' xs us → us.length = xs.length := fun xs us H' h => (Paired.length h).symm
    -- the first loop
    refine ⟨3, rfl, by decide, by decide, for_range (n := 3) (fun i σ H' => ∃ o : Option V, σ = [some (.ref l), o, none] ∧ Gr H H' l (sl1 i))
      ⟨none, rfl, g0⟩ ?_ ?_⟩
    · rintro i σ H' hi ⟨o, rfl, g⟩
      obtain ⟨us, h1, h2⟩ := g.at_
      have lu := dec _ _ _ h2
      refine ⟨_, rfl, .inl ⟨rfl, _, SqL.of h1⟩, _, rfl, (by show 1 ≤ sizeLine; decide), fun t ht => ?_⟩
      refine ⟨l, us, _, rfl, rfl, Same.new ht _ _ h1, (by rw [lu]; unfold sl1; rw [List.length_cons, List.length_map, List.length_range]; show i + 1 < 2 ^ 24; omega), ?_⟩
      refine ⟨_, rfl, ?_⟩
      have g2 := g.tup (ns := [i]) ht h1
      rw [sl1_succ]
      have e : iV [i] = [V.int (0 + (i : Int))] := by show [V.int (i : Int)] = _; rw [Int.zero_add]
      rw [e] at g2
      exact g2
    · rintro σ H' ⟨o, rfl, g⟩
      -- the second
      refine ⟨3, rfl, by decide, by decide, for_range (n := 3) (fun i σ H' => ∃ o o2 : Option V, σ = [some (.ref l), o, o2] ∧ Gr H H' l (sl2 i))
        ⟨o, none, rfl, by rw [sl2_zero]; exact g⟩ ?_ ?_⟩
      · rintro i σ H2 hi ⟨o, o2, rfl, g2⟩
        refine ⟨3, rfl, by decide, by decide, for_range (n := 3) (fun j σ H' => ∃ o2 : Option V, σ = [some (.ref l), some (.int (0 + (i : Int))), o2] ∧ Gr H H' l (sl3 i j))
          ⟨o2, rfl, by rw [sl3_zero]; exact g2⟩ ?_ ?_⟩
        · rintro j σ H3 hj ⟨o3, rfl, g3⟩
          obtain ⟨us, h1, h2⟩ := g3.at_
          have lu := dec _ _ _ h2
          refine ⟨_, rfl, .inl ⟨rfl, _, SqL.of h1⟩, _, rfl, _, rfl, (by show 2 ≤ sizeLine; decide), fun t ht => ?_⟩
          refine ⟨l, us, _, rfl, rfl, Same.new ht _ _ h1, (by rw [lu]; have := sl3_len i hi j hj; show _ < 2 ^ 24; omega), ?_⟩
          refine ⟨_, rfl, ?_⟩
          have g4 := g3.tup (ns := [i, j]) ht h1
          rw [sl3_succ]
          have e : iV [i, j] = [V.int (0 + (i : Int)), V.int (0 + (j : Int))] := by show [V.int (i : Int), V.int (j : Int)] = _; rw [Int.zero_add, Int.zero_add]
          rw [e] at g4
          exact g4
        · rintro σ H3 ⟨o3, rfl, g3⟩
          refine ⟨_, _, rfl, ?_⟩
          rw [sl2_succ]
          exact g3
      · rintro σ H2 ⟨o, o2, rfl, g2⟩
        obtain ⟨us, h1, h2⟩ := g2.at_
        rw [sl2_all] at h2
        exact ⟨_, rfl, k l H2 us g2.s fl h1 h2⟩
theorem ok_values_of (T : Tp K mg A) (cS : Cal P w K mg base 1 "short_lists" spShort []) {f : Addr} {fd : FuncData} (F : Def K mg "values_of" (top 66) f fd) (b : Binds K fd ["shape"] []) : Cal P w K mg base 2 "values_of" spValuesOf [] := by
  have sc : FnScope ["shape"] ["shape"] (fnScope (top 66)) := fnScope_by (by decide +kernel)
  refine cal0 F b .nil sc (fun vs H Q E h => ?_) (fun cdv A' outer s H vs Q E hr h => ?_)
  · obtain ⟨sh, rfl, _⟩ := h
    rfl
  · obtain ⟨sh, rfl, hsh, k⟩ := h
    refine ⟨_, pss_cons (ps_if (pt_cmpR op_eq (pv 0) pe_str (nomark _)) (pss_one (ps_ret (pe_lst (pa_cons pe_int (pa_cons pe_int (pa_cons pe_int (pa_cons pe_int (pa_cons pe_int pa_nil)))))))) pss_nil)
      (pss_cons (ps_if (pt_cmpR op_eq (pv 0) pe_str (nomark _)) (pss_one (ps_ret (pe_lst (pa_cons pe_int (pa_cons pe_int pa_nil))))) pss_nil)
      (pss_one (ps_ret (pe_c0 cS hr (by decide) (by rfl))))), ?_⟩
    have hcase : sh = 0 ∨ sh = 1 ∨ sh = 2 := by omega
    rcases hcase with rfl | rfl | rfl
    · refine ⟨_, rfl, rfl, _, rfl, if_true_of (by decide +kernel) ⟨by show 5 ≤ sizeLine; decide, fun p hp => ?_⟩⟩
      exact k p _ _ (Same.new hp) hp upd_same (.cons rfl (.cons rfl (.cons rfl (.cons rfl (.cons rfl .nil)))))
    · refine ⟨_, rfl, rfl, _, rfl, if_false_of (by decide +kernel) ?_⟩
      refine ⟨_, rfl, rfl, _, rfl, if_false_of (by decide +kernel) ?_⟩
      exact ⟨rfl, k⟩
    · refine ⟨_, rfl, rfl, _, rfl, if_false_of (by decide +kernel) ?_⟩
      refine ⟨_, rfl, rfl, _, rfl, if_true_of (by decide +kernel) ⟨by show 2 ≤ sizeLine; decide, fun p hp => ?_⟩⟩
      exact k p _ _ (Same.new hp) hp upd_same (.cons rfl (.cons rfl .nil))
end
end Pf
namespace Pf
open PySem PySem.Spec PyProof.Rows L2 SX
open C8 (Cal Met Mak Def cal0 met0 mak0 pe_c pe_mk pe_mt pe_mt0 pe_gc fnScope fnBody fnArgs fnScope_by)
/-! ### a list that is built: the heap without it stays -/
def but (H : Hp) (D : Addr) : Hp := fun b => if b = D then none else H b
theorem but_at {H : Hp} {D : Addr} : but H D D = none := if_pos rfl
theorem but_ne {H : Hp} {D b : Addr} (h : b ≠ D) : but H D b = H b := if_neg h
theorem but_same (H : Hp) (D : Addr) : Same (but H D) H := fun b o e => by
  by_cases h : b = D
  · rw [h, but_at] at e; cases e
  · rw [but_ne h] at e; exact e
theorem but_mono {H H' : Hp} (D : Addr) (s : Same H H') : Same (but H D) (but H' D) := fun b o e => by
  by_cases h : b = D
  · rw [h, but_at] at e; cases e
  · rw [but_ne h] at e ⊢; exact s b o e
theorem but_upd (H : Hp) (D : Addr) (o : HO) : but (upd H D o) D = but H D := by
  funext b
  by_cases h : b = D
  · rw [h, but_at, but_at]
  · rw [but_ne h, but_ne h, upd_ne h]
theorem but_of {H0 H : Hp} {D : Addr} (s : Same H0 H) (h : H0 D = none) : Same H0 (but H D) := fun b o e => by
  rw [but_ne (ne_of_none e h)]; exact s b o e
def Mono {α : Type} (R : Hp → α → V → Prop) : Prop := ∀ (H H' : Hp) (x : α) (v : V), Same H H' → R H x v → R H' x v
structure Bld {α : Type} (R : Hp → α → V → Prop) (H0 H : Hp) (D : Addr) (xs : List α) : Prop where
  s : Same H0 (but H D)
  ex : ∃ us, H D = some (.lst us) ∧ Paired (R (but H D)) xs us
theorem Bld.same {α : Type} {R : Hp → α → V → Prop} {H0 H : Hp} {D : Addr} {xs : List α} (b : Bld R H0 H D xs) : Same H0 H := b.s.trans (but_same H D)
theorem Bld.nil {α : Type} {R : Hp → α → V → Prop} {H0 H : Hp} {D : Addr} (s : Same H0 H) (n : H0 D = none) : Bld R H0 (upd H D (.lst [])) D [] := by
  refine ⟨?_, [], upd_same, .nil⟩
  rw [but_upd]
  exact but_of s n
theorem Bld.add {α : Type} {R : Hp → α → V → Prop} (mono : Mono R) {H0 H1 H2 : Hp} {D : Addr} {xs : List α} {x : α} {v : V} {us : List V} (b : Bld R H0 H1 D xs) (hu : H1 D = some (.lst us)) (s : Same (but H1 D) (but H2 D)) (h : R (but H2 D) x v) :
    Bld R H0 (upd H2 D (.lst (us ++ [v]))) D (xs ++ [x]) := by
  obtain ⟨us', e, p⟩ := b.ex
  rw [hu] at e
  cases e
  refine ⟨?_, _, upd_same, ?_⟩
  · rw [but_upd]; exact b.s.trans s
  · rw [but_upd]; exact pd_append (Paired.mapP p fun _ _ z => mono _ _ _ _ s z) (pd_one h)
/-- what is new and not in it -/
theorem Bld.new {α : Type} {R : Hp → α → V → Prop} (mono : Mono R) {H0 H1 H2 : Hp} {D : Addr} {xs : List α} (b : Bld R H0 H1 D xs) (s : Same H1 H2) : Bld R H0 H2 D xs := by
  obtain ⟨us, e, p⟩ := b.ex
  exact ⟨b.s.trans (but_mono D s), us, s _ _ e, Paired.mapP p fun _ _ z => mono _ _ _ _ (but_mono D s) z⟩
theorem Bld.out {α : Type} {R : Hp → α → V → Prop} (mono : Mono R) {H0 H : Hp} {D : Addr} {xs : List α} (b : Bld R H0 H D xs) : ∃ us, H D = some (.lst us) ∧ Paired (R H) xs us := by
  obtain ⟨us, e, p⟩ := b.ex
  exact ⟨us, e, Paired.mapP p fun _ _ z => mono _ _ _ _ (but_same H D) z⟩
def EnvAt (H : Hp) (env : List Val) (v : V) : Prop := ∃ h us, v = .ref h ∧ H h = some (.lst us) ∧ ValsAt H env us
theorem EnvAt.mono {H H' : Hp} {env : List Val} {v : V} (e : Same H H') (h : EnvAt H env v) : EnvAt H' env v := by
  obtain ⟨a, us, h1, h2, h3⟩ := h
  exact ⟨a, us, h1, e _ _ h2, h3.mono e⟩
theorem EnvAt.mn : Mono EnvAt := fun _ _ _ _ e h => EnvAt.mono e h
/-! ### pairs -/
def prP (xs ys : List Val) (t i : Nat) : Option (List Val) := if i ≤ t then (match xs[i]?, ys[t - i]? with
  | some x, some y => some [x, y]
  | _, _ => none) else none
def prRow (xs ys : List Val) (t n : Nat) : List (List Val) := (List.range n).filterMap (prP xs ys t)
def prAll (xs ys : List Val) (n : Nat) : List (List Val) := (List.range n).flatMap fun t => prRow xs ys t xs.length
theorem prRow_succ (xs ys : List Val) (t n : Nat) : prRow xs ys t (n + 1) = prRow xs ys t n ++ (prP xs ys t n).toList := by
  unfold prRow
  rw [List.range_succ, List.filterMap_append]
  congr 1
theorem prAll_succ (xs ys : List Val) (n : Nat) : prAll xs ys (n + 1) = prAll xs ys n ++ prRow xs ys n xs.length := by
  unfold prAll
  rw [List.range_succ, List.flatMap_append, List.flatMap_singleton]
theorem prRow_len (xs ys : List Val) (t n : Nat) : (prRow xs ys t n).length ≤ n := by
  induction n with
  | zero => exact Nat.le_refl _
  | succ n ih =>
    rw [prRow_succ, List.length_append]
    cases prP xs ys t n <;> simp <;> omega
theorem prAll_len (xs ys : List Val) (n : Nat) : (prAll xs ys n).length ≤ n * xs.length := by
  induction n with
  | zero => exact Nat.zero_le _
  | succ n ih =>
    rw [prAll_succ, List.length_append, Nat.succ_mul]
    have := prRow_len xs ys n xs.length
    omega
theorem prAll_is : ∀ a, a < 3 → ∀ b, b < 3 → prAll (Ty01.domain a) (Ty01.domain b) ((Ty01.domain a).length + (Ty01.domain b).length - 1) = Ty01.pairs (Ty01.domain a) (Ty01.domain b) := by decide +kernel
theorem domain_len : ∀ a, a < 3 → (Ty01.domain a).length ≤ 20 ∧ 0 < (Ty01.domain a).length := by decide +kernel
def RetEnvs (H : Hp) (ins : List (List Val)) (Q : VK) : Prop := ∀ p H' us, Same H H' → H p = none → H' p = some (.lst us) → Paired (EnvAt H') ins us → Q (.ref p) H'
def spPairs : Sp := fun vs H Q _ => ∃ (a b : Addr) (xs ys : List Val) (us ws : List V), vs = [.ref a, .ref b] ∧ H a = some (.lst us) ∧ ValsAt H xs us ∧ H b = some (.lst ws) ∧ ValsAt H ys ws ∧ xs.length ≤ 20 ∧ ys.length ≤ 20 ∧ 0 < xs.length ∧
  RetEnvs H (prAll xs ys (xs.length + ys.length - 1)) Q
def spInputs : Sp := fun vs H Q _ => ∃ (l : List Nat), vs = [.str (S (l.map shC))] ∧ (l.length = 1 ∨ l.length = 2) ∧ (∀ x ∈ l, x < 3) ∧ RetEnvs H (Ty01.inputs l) Q
section
variable {P : PySem.Program} {w : World} {K : PySem.W.Frag} {mg : Str → Option Value} {base : Heap} {A : Ad}
theorem ok_pairs_of (T : Tp K mg A) {f : Addr} {fd : FuncData} (F : Def K mg "pairs_of" (top 67) f fd) (b : Binds K fd ["firsts", "seconds"] []) : Cal P w K mg base 1 "pairs_of" spPairs [] := by
  have sc : FnScope ["firsts", "seconds", "pairs", "total", "place", "other"] ["firsts", "seconds"] (fnScope (top 67)) := fnScope_by (by decide +kernel)
  refine cal0 F b .nil sc (fun vs H Q E h => ?_) (fun cdv A' outer s H vs Q E hr h => ?_)
  · obtain ⟨a, b, xs, ys, us, ws, rfl, _⟩ := h
    rfl
  · obtain ⟨a, b, xs, ys, us, ws, rfl, ha, hxs, hb, hys, lx, ly, px, k⟩ := h
    refine ⟨_, pss_cons (ps_set (i := 2) sc.nd rfl (.inl rfl) (pe_lst pa_nil))
      (pss_cons (ps_for PassesOwn.never rfl (pi_range1 (by rfl) T.b_range (pa_cons (pe_op op_sub (pe_op op_add (pe_callB call_len_seq (by rfl) T.b_len PySem.boot_len (pa_cons (pv 0) pa_nil)) (pe_callB call_len_seq (by rfl) T.b_len PySem.boot_len (pa_cons (pv 1) pa_nil))) pe_int) pa_nil)) (pg_name (i := 3) sc.nd rfl (.inl rfl))
        (pss_one (ps_for PassesOwn.never rfl (pi_range1 (by rfl) T.b_range (pa_cons (pe_callB call_len_seq (by rfl) T.b_len PySem.boot_len (pa_cons (pv 0) pa_nil)) pa_nil)) (pg_name (i := 4) sc.nd rfl (.inl rfl))
          (pss_cons (ps_set (i := 5) sc.nd rfl (.inl rfl) (pe_op op_sub (pv 3) (pv 4)))
          (pss_one (ps_if (pt_chain op_le op_lt pe_int (pv 5) (pe_callB call_len_seq (by rfl) T.b_len PySem.boot_len (pa_cons (pv 1) pa_nil)))
            (pss_one (ps_expr (pe_bm PySem.F.plainAttrs_list PySem.F.slot_list_append PySem.F.type_list_append mt_append (pv 2) (pa_cons (pe_lst (pa_cons (pe_ix ix_list (pv 0) (pv 4) (fun _ _ => rfl)) (pa_cons (pe_ix ix_list (pv 1) (pv 5) (fun _ _ => rfl)) pa_nil))) pa_nil))))
            pss_nil))))))
      (pss_one (ps_ret (pv 2)))), ?_⟩
    have l1 : us.length = xs.length := (Paired.length hxs).symm
    have l2 : ws.length = ys.length := (Paired.length hys).symm
    refine ⟨by show 0 ≤ sizeLine; decide, fun D hD => ?_⟩
    have B0 : Bld EnvAt H (upd H D (.lst [])) D [] := Bld.nil (Same.refl _) hD
    have sa := B0.same _ _ ha
    have sb := B0.same _ _ hb
    refine ⟨_, rfl, a, us, rfl, .inl (SqL.of sa), _, rfl, b, ws, rfl, .inl (SqL.of sb), _, _, rfl, rfl, _, _, rfl, rfl, _, rfl, (by rw [l1, l2]; omega), (by rw [l1, l2]; omega), ?_⟩
    have en : ((us.length : Int) + (ws.length : Int) - 1).toNat = xs.length + ys.length - 1 := by rw [l1, l2]; omega
    rw [en]
    refine for_range (fun t σ H' => ∃ o3 o4 o5 : Option V, σ = [some (.ref a), some (.ref b), some (.ref D), o3, o4, o5] ∧ Bld EnvAt H H' D (prAll xs ys t)) ⟨none, none, none, rfl, B0⟩ ?_ ?_
    · rintro t σ H1 ht ⟨o3, o4, o5, rfl, B1⟩
      have sa1 := B1.same _ _ ha
      refine ⟨_, rfl, a, us, rfl, .inl (SqL.of sa1), _, rfl, (by rw [l1]; omega), (by rw [l1]; omega), ?_⟩
      rw [show ((us.length : Nat) : Int).toNat = xs.length by rw [l1]; omega]
      refine for_range (fun i σ H' => ∃ o4 o5 : Option V, σ = [some (.ref a), some (.ref b), some (.ref D), some (.int (0 + (t : Int))), o4, o5] ∧ Bld EnvAt H H' D (prAll xs ys t ++ prRow xs ys t i)) ⟨o4, o5, rfl, by show Bld EnvAt H H1 D (prAll xs ys t ++ []); rw [List.append_nil]; exact B1⟩ ?_ ?_
      · rintro i σ H2 hi ⟨o4, o5, rfl, B2⟩
        have sa2 := B2.same _ _ ha
        have sb2 := B2.same _ _ hb
        refine ⟨_, rfl, _, rfl, _, _, rfl, rfl, ?_⟩
        obtain ⟨x, hx⟩ : ∃ x, xs[i]? = some x := ⟨_, List.getElem?_eq_getElem hi⟩
        have skip : prP xs ys t i = none → Bld EnvAt H H2 D (prAll xs ys t ++ prRow xs ys t (i + 1)) := fun e => by
          rw [prRow_succ, e]
          show Bld EnvAt H H2 D (prAll xs ys t ++ (prRow xs ys t i ++ []))
          rw [List.append_nil]; exact B2
        refine ⟨_, rfl, _, _, rfl, rfl, _, rfl, if_of (fun c => ?_) (fun c => ?_)⟩
        · have c : i ≤ t := by have := of_decide_eq_true c; omega
          refine ⟨_, rfl, b, ws, rfl, .inl (SqL.of sb2), _, _, rfl, rfl, _, rfl, if_of (fun d => ?_) (fun d => ?_)⟩
          · have d : t - i < ys.length := by have := of_decide_eq_true d; rw [l2] at this; omega
            obtain ⟨y, hy⟩ : ∃ y, ys[t - i]? = some y := ⟨_, List.getElem?_eq_getElem d⟩
            obtain ⟨u, u1, u2⟩ := LiI.paired_get hxs hx
            obtain ⟨z, z1, z2⟩ := LiI.paired_get hys hy
            obtain ⟨ps, p1, p2⟩ := B2.ex
            have lp : ps.length < 2000 := by
              rw [← Paired.length p2, List.length_append]
              have h1 := prAll_len xs ys t
              have h2 := prRow_len xs ys t i
              have h3 : t * xs.length ≤ 40 * 20 := Nat.mul_le_mul (by omega) lx
              omega
            have ei : (0 : Int) + (i : Int) = ((i : Nat) : Int) := by omega
            have eo : (0 : Int) + (t : Int) - (0 + (i : Int)) = ((t - i : Nat) : Int) := by omega
            refine ⟨_, rfl, .inl ⟨rfl, _, SqL.of p1⟩, ?_⟩
            refine ⟨_, rfl, _, rfl, a, us, _, u, rfl, rfl, SqL.of sa2, (by rw [ei]; exact atI_nat u1), _, rfl, _, rfl, b, ws, _, z, rfl, rfl, SqL.of sb2, (by rw [eo]; exact atI_nat z1), (by show 2 ≤ sizeLine; decide), fun h hh => ?_⟩
            refine ⟨D, ps, _, rfl, rfl, Same.new hh _ _ p1, (by show ps.length < 2 ^ 24; omega), ?_⟩
            refine ⟨_, _, rfl, ?_⟩
            have ep : prP xs ys t i = some [x, y] := by
              unfold prP
              rw [if_pos c, hx, hy]
            rw [prRow_succ, ep, ← List.append_assoc]
            have ne : h ≠ D := fun z => by rw [z, p1] at hh; cases hh
            have sh : Same (but H2 D) (but (upd H2 h (.lst [u, z])) D) := but_mono D (Same.new hh)
            refine B2.add EnvAt.mn p1 sh ⟨h, _, rfl, (but_ne ne).trans upd_same, ?_⟩
            exact .cons (u2.mono (B2.s.trans sh)) (.cons (z2.mono (B2.s.trans sh)) .nil)
          · refine ⟨_, _, rfl, skip ?_⟩
            have d : ¬ t - i < ys.length := by have := of_decide_eq_false d; rw [l2] at this; omega
            unfold prP
            rw [if_pos c, hx, List.getElem?_eq_none (by omega)]
        · refine ⟨_, rfl, ?_⟩
          refine if_false_of rfl ⟨_, _, rfl, skip ?_⟩
          have c : ¬ i ≤ t := by have := of_decide_eq_false c; omega
          unfold prP
          rw [if_neg c]
      · rintro σ H2 ⟨o4, o5, rfl, B2⟩
        exact ⟨_, _, _, rfl, by rw [prAll_succ]; exact B2⟩
    · rintro σ H1 ⟨o3, o4, o5, rfl, B1⟩
      obtain ⟨ps, p1, p2⟩ := B1.out EnvAt.mn
      exact ⟨_, rfl, k D H1 ps B1.same hD p1 p2⟩
end
end Pf
namespace Pf
open PySem PySem.Spec PyProof.Rows L2 SX
open C8 (Cal Met Mak Def cal0 met0 mak0 pe_c pe_mk pe_mt pe_mt0 pe_gc fnScope fnBody fnArgs fnScope_by)
/-! ### values told: the mathematics -/
def lenTold (ns : List Nat) (sh : Nat) : Nat :=
  if ns.length < 2 then 0 else if sh ≠ 1 then (if ns.getD 0 0 = 0 ∧ ns.getD 1 0 < 1000 then 2 else 0)
  else if ns.getD 0 0 ≠ 1 ∨ ns.getD 1 0 > 10 ∨ ns.length < 2 + ns.getD 1 0 then 0 else if ((ns.drop 2).take (ns.getD 1 0)).all (fun x => decide (x < 1000)) = true then 2 + ns.getD 1 0 else 0
def valTold (ns : List Nat) (sh : Nat) : Val := if sh = 1 then .l ((ns.drop 2).take (ns.getD 1 0)) else .n (ns.getD 1 0)
theorem all_any (l : List Nat) : l.any (fun x => decide (999 < x)) = !l.all (fun x => decide (x < 1000)) := by
  induction l with
  | nil => rfl
  | cons x l ih =>
    rw [List.any_cons, List.all_cons, ih, Bool.not_and]
    congr 1
    rw [Bool.eq_iff_iff]
    simp
    omega
theorem valsFrom_cons (s : Nat) (ss ns : List Nat) : Ty01.valsFrom (s :: ss) ns = if lenTold ns s = 0 then none else (Ty01.valsFrom ss (ns.drop (lenTold ns s))).map fun r => valTold ns s :: r := by
  match ns with
  | [] => rfl
  | [x] =>
    have : lenTold [x] s = 0 := by unfold lenTold; rw [if_pos (by show 1 < 2; omega)]
    rw [this, if_pos rfl]
    match x with
    | 0 => rfl
    | 1 => rfl
    | x + 2 => rfl
  | 0 :: x :: l =>
    show (if s = 1 ∨ 999 < x then none else (Ty01.valsFrom ss l).map fun r => .n x :: r) = _
    by_cases hs : s = 1
    · have : lenTold (0 :: x :: l) s = 0 := by
        unfold lenTold
        rw [if_neg (by simp), if_neg (by omega), if_pos (.inl (by show (0 : Nat) ≠ 1; omega))]
      rw [if_pos (.inl hs), this, if_pos rfl]
    · by_cases hx : 999 < x
      · have : lenTold (0 :: x :: l) s = 0 := by
          unfold lenTold
          rw [if_neg (by simp), if_pos hs, if_neg (by rintro ⟨_, h⟩; have h : x < 1000 := h; omega)]
        rw [if_pos (.inr hx), this, if_pos rfl]
      · have : lenTold (0 :: x :: l) s = 2 := by
          unfold lenTold
          rw [if_neg (by simp), if_pos hs, if_pos ⟨rfl, by show x < 1000; omega⟩]
        rw [if_neg (by omega), this, if_neg (by omega)]
        unfold valTold
        rw [if_neg hs]
        rfl
  | 1 :: n :: l =>
    show (if s ≠ 1 ∨ Ty01.LONG < n ∨ l.length < n ∨ (l.take n).any (fun x => decide (999 < x)) = true then none else (Ty01.valsFrom ss (l.drop n)).map fun r => .l (l.take n) :: r) = _
    by_cases hs : s = 1
    · by_cases h1 : n > 10 ∨ l.length < n
      · have : lenTold (1 :: n :: l) s = 0 := by
          unfold lenTold
          rw [if_neg (by simp), if_neg (by omega), if_pos]
          rcases h1 with h | h
          · exact .inr (.inl h)
          · exact .inr (.inr (by show l.length + 1 + 1 < 2 + n; omega))
        rw [if_pos (by rcases h1 with h | h; exact .inr (.inl h); exact .inr (.inr (.inl h))), this, if_pos rfl]
      · have e : lenTold (1 :: n :: l) s = if (l.take n).all (fun x => decide (x < 1000)) = true then 2 + n else 0 := by
          unfold lenTold
          rw [if_neg (by simp), if_neg (by omega), if_neg]
          · rfl
          · rintro (h | h | h)
            · exact h rfl
            · exact h1 (.inl h)
            · have h : l.length + 1 + 1 < 2 + n := h
              exact h1 (.inr (by omega))
        rw [e]
        by_cases ha : (l.take n).all (fun x => decide (x < 1000)) = true
        · rw [if_pos ha, if_neg (show ¬ (2 + n = 0) by omega), if_neg]
          · unfold valTold
            rw [if_pos hs]
            show _ = (Ty01.valsFrom ss ((1 :: n :: l).drop (2 + n))).map _
            rw [Nat.add_comm 2 n]
            rfl
          · rintro (h | h | h | h)
            · exact h hs
            · exact h1 (.inl h)
            · exact h1 (.inr h)
            · rw [all_any, ha] at h; cases h
        · rw [if_neg ha, if_pos rfl, if_pos]
          refine .inr (.inr (.inr ?_))
          rw [all_any]
          cases h : (l.take n).all fun x => decide (x < 1000)
          · rfl
          · exact absurd h ha
    · have : lenTold (1 :: n :: l) s = 0 := by
        unfold lenTold
        rw [if_neg (by simp), if_pos hs, if_neg (by rintro ⟨h, _⟩; cases h)]
      rw [if_pos (.inl hs), this, if_pos rfl]
  | (k + 2) :: x :: l =>
    have : lenTold ((k + 2) :: x :: l) s = 0 := by
      unfold lenTold
      rw [if_neg (by simp)]
      by_cases hs : s ≠ 1
      · rw [if_pos hs, if_neg (by rintro ⟨h, _⟩; have h : k + 2 = 0 := h; omega)]
      · rw [if_neg hs, if_pos (.inl (by show k + 2 ≠ 1; omega))]
    rw [this, if_pos rfl]
    rfl
theorem valsFrom_nil (ns : List Nat) : Ty01.valsFrom [] ns = if ns = [] then some [] else none := by
  cases ns with
  | nil => rfl
  | cons x l =>
    rw [if_neg (by intro h; cases h)]
    match x with
    | 0 => rfl
    | 1 => rfl
    | x + 2 => rfl
theorem lenTold_pos {ns : List Nat} {s : Nat} (h : lenTold ns s ≠ 0) : 2 ≤ ns.length ∧ (s ≠ 1 → lenTold ns s = 2 ∧ ns.getD 1 0 < 1000) ∧ (s = 1 → lenTold ns s = 2 + ns.getD 1 0 ∧ ns.getD 1 0 ≤ 10 ∧ lenTold ns s ≤ ns.length ∧ ∀ x ∈ (ns.drop 2).take (ns.getD 1 0), x < 1000) := by
  unfold lenTold at h ⊢
  by_cases h1 : ns.length < 2
  · rw [if_pos h1] at h; exact absurd rfl h
  · rw [if_neg h1] at h ⊢
    refine ⟨by omega, fun hs => ?_, fun hs => ?_⟩
    · rw [if_pos hs] at h ⊢
      by_cases h2 : ns.getD 0 0 = 0 ∧ ns.getD 1 0 < 1000
      · rw [if_pos h2]; exact ⟨rfl, h2.2⟩
      · rw [if_neg h2] at h; exact absurd rfl h
    · rw [if_neg (by omega)] at h ⊢
      by_cases h2 : ns.getD 0 0 ≠ 1 ∨ ns.getD 1 0 > 10 ∨ ns.length < 2 + ns.getD 1 0
      · rw [if_pos h2] at h; exact absurd rfl h
      · rw [if_neg h2] at h ⊢
        by_cases h3 : ((ns.drop 2).take (ns.getD 1 0)).all (fun x => decide (x < 1000)) = true
        · rw [if_pos h3]
          refine ⟨rfl, by omega, by omega, fun x hx => ?_⟩
          exact of_decide_eq_true (List.all_eq_true.mp h3 x hx)
        · rw [if_neg h3] at h; exact absurd rfl h
theorem valTold_ok {ns : List Nat} {s : Nat} (h : lenTold ns s ≠ 0) : ValOk (valTold ns s) := by
  obtain ⟨h1, h2, h3⟩ := lenTold_pos h
  unfold valTold
  by_cases hs : s = 1
  · rw [if_pos hs]
    obtain ⟨a, b, c, d⟩ := h3 hs
    refine ⟨by rw [List.length_take]; omega, fun x hx => by have := d x hx; omega⟩
  · rw [if_neg hs]
    have := (h2 hs).2
    show ns.getD 1 0 ≤ 999
    omega
theorem valsFrom_ok : ∀ (ss ns : List Nat) (env : List Val), Ty01.valsFrom ss ns = some env → env.length = ss.length ∧ ∀ v ∈ env, ValOk v
  | [], ns, env, h => by
    rw [valsFrom_nil] at h
    split at h
    · cases h; exact ⟨rfl, fun v hv => by cases hv⟩
    · cases h
  | s :: ss, ns, env, h => by
    rw [valsFrom_cons] at h
    split at h
    · cases h
    · rename_i h0
      cases e : Ty01.valsFrom ss (ns.drop (lenTold ns s)) with
      | none => rw [e] at h; cases h
      | some r =>
        rw [e] at h
        cases h
        obtain ⟨i1, i2⟩ := valsFrom_ok ss _ r e
        refine ⟨by rw [List.length_cons, List.length_cons, i1], fun v hv => ?_⟩
        rcases List.mem_cons.mp hv with rfl | hv
        · exact valTold_ok h0
        · exact i2 v hv
def spTold : Sp := fun vs H Q _ => ∃ (x : Val) (v : V), vs = [v] ∧ ValAt H x v ∧ ValOk x ∧ ∀ p H', Same H H' → H p = none → H' p = some (.lst (iV (Ty01.toldVal x))) → Q (.ref p) H'
def spLenTold : Sp := fun vs H Q _ => ∃ (a : Addr) (ns : List Nat) (sh : Nat), vs = [.ref a, .str (S [shC sh])] ∧ sh < 3 ∧ H a = some (.lst (iV ns)) ∧ ns.length ≤ 1000 ∧ ∀ H', Same H H' → Q (.int (lenTold ns sh : Nat)) H'
section
variable {P : PySem.Program} {w : World} {K : PySem.W.Frag} {mg : Str → Option Value} {base : Heap} {A : Ad}
theorem ok_inputs_of (T : Tp K mg A) (cV : Cal P w K mg base 2 "values_of" spValuesOf []) (cP : Cal P w K mg base 1 "pairs_of" spPairs []) {f : Addr} {fd : FuncData} (F : Def K mg "inputs_of" (top 68) f fd) (b : Binds K fd ["shapes"] []) : Cal P w K mg base 3 "inputs_of" spInputs [] := by
  have sc : FnScope ["shapes", "firsts", "value"] ["shapes"] (fnScope (top 68)) := fnScope_by (by decide +kernel)
  refine cal0 F b .nil sc (fun vs H Q E h => ?_) (fun cdv A' outer s H vs Q E hr h => ?_)
  · obtain ⟨l, rfl, _⟩ := h
    rfl
  · obtain ⟨l, rfl, hl, hm, k⟩ := h
    refine ⟨_, pss_cons (ps_set (i := 1) sc.nd rfl (.inl rfl) (pe_c cV hr (by decide) (by rfl) (pa_cons (pe_ix ix_str (pv 0) pe_int (fun _ _ => rfl)) pa_nil)))
      (pss_cons (ps_if (pt_cmpR op_eq (pe_callB call_len_str (by rfl) T.b_len PySem.boot_len (pa_cons (pv 0) pa_nil)) pe_int (nomark _))
        (pss_one (ps_ret (pe_lc (own := [("value", 2)]) (g := gName 2) (tt := tYes) rfl sc.nd (pi_list (pv 1)) (blkOk_by (N := ["shapes", "firsts", "value"]) (sc := fnScope (top 68)) (by decide +kernel)) (fun _ _ _ _ _ => pg_name (i := 2) sc.nd rfl (Or.inl rfl)) (fun _ _ _ _ _ => pts_nil) (fun _ _ _ _ _ => pe_lst (pa_cons (pv 2) pa_nil))))) pss_nil)
      (pss_one (ps_ret (pe_c cP hr (by decide) (by rfl) (pa_cons (pv 1) (pa_cons (pe_c cV hr (by decide) (by rfl) (pa_cons (pe_ix ix_str (pv 0) pe_int (fun _ _ => rfl)) pa_nil)) pa_nil)))))), ?_⟩
    have lz : (S (l.map shC)).length = l.length := by rw [S_len, List.length_map]
    obtain ⟨x, r, rfl⟩ : ∃ x r, l = x :: r := by
      cases l with
      | nil => simp at hl
      | cons x r => exact ⟨x, r, rfl⟩
    have hx : x < 3 := hm x (List.mem_cons_self ..)
    obtain ⟨dl, dp⟩ := domain_len x hx
    refine ⟨_, rfl, _, 0, shC x, rfl, rfl, (by rw [lz]; show _ ≤ 2 ^ 24; omega), atI_nat (j := 0) rfl, x, rfl, hx, fun p1 H1 us s1 np1 hp1 hv1 => ?_⟩
    refine ⟨_, rfl, _, rfl, (by rw [lz]; show _ ≤ 2 ^ 24; omega), rfl, _, rfl, ?_⟩
    rw [lz]
    have lu : us.length = (Ty01.domain x).length := (Paired.length hv1).symm
    rcases hl with hl | hl
    · have : r = [] := by simpa using hl
      subst this
      refine if_true_of rfl ?_
      refine ⟨_, rfl, p1, rfl, ⟨_, SqL.of hp1⟩, fun D hD => ?_⟩
      refine lc_it (walk_list (K := K) (a := p1) (xs := us)) (fun i H' => Bld EnvAt H1 H' D (((Ty01.domain x).map fun v => [v]).take i)) (Bld.nil (Same.refl _) hD) (fun i H' _ B => SqL.of (B.same _ _ hp1)) ?_ ?_
      · rintro i u H2 H3 hi B ⟨rfl, hu⟩
        refine ⟨rfl, _, rfl, (by show 1 ≤ sizeLine; decide), fun h hh => ?_⟩
        obtain ⟨ps, q1, q2⟩ := B.ex
        have lp : ps.length ≤ 20 := by
          rw [← Paired.length q2, List.length_take, List.length_map]; omega
        refine ⟨ps, Same.new hh _ _ q1, (by show ps.length < 2 ^ 24; omega), ?_⟩
        obtain ⟨v, hv⟩ : ∃ v, (Ty01.domain x)[i]? = some v := ⟨_, List.getElem?_eq_getElem (by omega)⟩
        obtain ⟨u', e1, e2⟩ := LiI.paired_get hv1 hv
        rw [hu] at e1
        cases e1
        rw [take_next (x := [v]) (by rw [List.getElem?_map, hv]; rfl)]
        have sh : Same (but H3 D) (but (upd H3 h (.lst [u])) D) := but_mono D (Same.new hh)
        have ne : h ≠ D := fun z => by rw [z, q1] at hh; cases hh
        exact B.add EnvAt.mn q1 sh ⟨h, _, rfl, (but_ne ne).trans upd_same, .cons (e2.mono (B.s.trans sh)) .nil⟩
      · rintro H2 B
        rw [lu, ← List.length_map (f := fun v => [v]), List.take_length] at B
        obtain ⟨ps, q1, q2⟩ := B.out EnvAt.mn
        exact k D H2 ps (s1.trans B.same) (s1.free hD) q1 q2
    · obtain ⟨y, rfl⟩ : ∃ y, r = [y] := List.length_eq_one_iff.mp (by simpa using hl)
      have hy : y < 3 := hm y (by simp)
      obtain ⟨dl2, dp2⟩ := domain_len y hy
      refine if_false_of rfl ?_
      refine ⟨_, rfl, _, rfl, _, 1, shC y, rfl, rfl, (by rw [lz]; show 2 ≤ 2 ^ 24; omega), atI_nat (j := 1) rfl, y, rfl, hy, fun p2 H2 ws s2 np2 hp2 hv2 => ?_⟩
      refine ⟨p1, p2, _, _, us, ws, rfl, s2 _ _ hp1, hv1.mono s2, hp2, hv2, dl, dl2, dp, fun p H' qs s3 np hp hq => ?_⟩
      rw [prAll_is x hx y hy] at hq
      exact k p H' qs ((s1.trans s2).trans s3) ((s1.trans s2).free np) hp hq
theorem ok_told (T : Tp K mg A) (cI : Cal P w K mg base 1 "is_list" spIsList []) {f : Addr} {fd : FuncData} (F : Def K mg "told" (top 69) f fd) (b : Binds K fd ["value"] []) : Cal P w K mg base 2 "told" spTold [] := by
  have sc : FnScope ["value"] ["value"] (fnScope (top 69)) := fnScope_by (by decide +kernel)
  refine cal0 F b .nil sc (fun vs H Q E h => ?_) (fun cdv A' outer s H vs Q E hr h => ?_)
  · obtain ⟨x, v, rfl, _⟩ := h
    rfl
  · obtain ⟨x, v, rfl, hx, ox, k⟩ := h
    refine ⟨_, pss_cons (ps_if (pt_val (pe_c cI hr (by decide) (by rfl) (pa_cons (pv 0) pa_nil))) (pss_one (ps_ret (pe_op op_cat (pe_lst (pa_cons pe_int (pa_cons (pe_callB call_len_seq (by rfl) T.b_len PySem.boot_len (pa_cons (pv 0) pa_nil)) pa_nil))) (pe_callTy call_list_of (by rfl) T.b_list (by decide +kernel) (pa_cons (pv 0) pa_nil))))) pss_nil)
      (pss_one (ps_ret (pe_lst (pa_cons pe_int (pa_cons (pv 0) pa_nil))))), ?_⟩
    refine ⟨_, rfl, x, v, rfl, hx, _, rfl, ?_⟩
    cases x with
    | n x =>
      cases hx
      exact if_false_of rfl ⟨_, rfl, (by show 2 ≤ sizeLine; decide), fun p hp => k p _ (Same.new hp) hp upd_same⟩
    | l xs =>
      obtain ⟨a, rfl, ha⟩ := hx
      have hl : xs.length ≤ 10 := ox.1
      refine if_true_of rfl ⟨_, rfl, a, _, rfl, .inr (SqT.of ha), (by show 2 ≤ sizeLine; decide), fun p1 h1 => ?_⟩
      refine ⟨_, rfl, a, _, rfl, .inr (SqT.of (Same.new h1 _ _ ha)), fun p2 h2 => ?_⟩
      refine ⟨p1, p2, _, _, rfl, rfl, Same.new h2 _ _ upd_same, upd_same, (by rw [List.length_map]; show 2 + xs.length ≤ 2 ^ 24; omega), fun p hp => ?_⟩
      refine k p _ (((Same.new h1).trans (Same.new h2)).trans (Same.new hp)) (((Same.new h1).trans (Same.new h2)).free hp) ?_
      rw [upd_same, List.length_map]
      rfl
end
end Pf
namespace Pf
open PySem PySem.Spec PyProof.Rows L2 SX
open C8 (Cal Met Mak Def cal0 met0 mak0 pe_c pe_mk pe_mt pe_mt0 pe_gc fnScope fnBody fnArgs fnScope_by)
theorem iV_get {l : List Nat} {i x : Nat} (h : l[i]? = some x) : (iV l)[i]? = some (V.int (x : Int)) := by
  show (l.map _)[i]? = _
  rw [List.getElem?_map, h]; rfl
theorem getD_get {l : List Nat} {i x : Nat} (h : l[i]? = some x) : l.getD i 0 = x := by rw [List.getD_eq_getElem?_getD, h]; rfl
def spReadV : Sp := fun vs H Q _ => ∃ (a : Addr) (ns l : List Nat), vs = [.ref a, .str (S (l.map shC))] ∧ H a = some (.lst (iV ns)) ∧ ns.length ≤ 1000 ∧ (∀ x ∈ l, x < 3) ∧ l.length ≤ 10 ∧
  (Ty01.valsFrom l ns = none → ∀ H', Same H H' → Q .non H') ∧ (∀ env, Ty01.valsFrom l ns = some env → ∀ p H' us, Same H H' → H' p = some (.lst us) → ValsAt H' env us → Q (.ref p) H')
section
variable {P : PySem.Program} {w : World} {K : PySem.W.Frag} {mg : Str → Option Value} {base : Heap} {A : Ad}
theorem ok_length_told (T : Tp K mg A) {f : Addr} {fd : FuncData} (F : Def K mg "length_told" (top 70) f fd) (b : Binds K fd ["numbers", "shape"] []) : Cal P w K mg base 1 "length_told" spLenTold [] := by
  have sc : FnScope ["numbers", "shape", "behind", "number"] ["numbers", "shape"] (fnScope (top 70)) := fnScope_by (by decide +kernel)
  refine cal0 F b .nil sc (fun vs H Q E h => ?_) (fun cdv A' outer s H vs Q E hr h => ?_)
  · obtain ⟨a, ns, sh, rfl, _⟩ := h
    rfl
  · obtain ⟨a, ns, sh, rfl, hsh, ha, hl, k⟩ := h
    refine ⟨_, pss_cons (ps_if (pt_cmpR op_lt (pe_callB call_len_seq (by rfl) T.b_len PySem.boot_len (pa_cons (pv 0) pa_nil)) pe_int (nomark _)) (pss_one (ps_ret pe_int)) pss_nil)
      (pss_cons (ps_if (pt_cmpR op_ne (pv 1) pe_str (nomark _)) (pss_one (ps_ret (pe_ifExp (PW.pt (pw_and (pt_cmpR op_eq (pe_ix ix_list (pv 0) pe_int (fun _ _ => rfl)) pe_int (nomark _)) (pw_and1 (pt_cmpR op_lt (pe_ix ix_list (pv 0) pe_int (fun _ _ => rfl)) (pe_gc (by rfl) T.MODULUS) (nomark _))))) pe_int pe_int))) pss_nil)
      (pss_cons (ps_set (i := 2) sc.nd rfl (.inl rfl) (pe_op op_add pe_int (pe_ix ix_list (pv 0) pe_int (fun _ _ => rfl))))
      (pss_cons (ps_if (PW.pt (pw_or (pt_cmpR op_ne (pe_ix ix_list (pv 0) pe_int (fun _ _ => rfl)) pe_int (nomark _)) (pw_or (pt_cmpR op_gt (pe_ix ix_list (pv 0) pe_int (fun _ _ => rfl)) (pe_gc (by rfl) T.LONGEST) (nomark _)) (pw_or1 (pt_cmpR op_lt (pe_callB call_len_seq (by rfl) T.b_len PySem.boot_len (pa_cons (pv 0) pa_nil)) (pv 2) (nomark _)))))) (pss_one (ps_ret pe_int)) pss_nil)
      (pss_one (ps_ret (pe_ifExp (pt_val (pe_callB (cr_all rfl) (by rfl) T.b_all (by decide +kernel) (pa_cons (pe_lc (own := [("number", 3)]) (g := gName 3) (tt := tYes) rfl sc.nd (pi_list (pe_slice sl_list (pv 0) (po_some pe_int) (po_some (pv 2)))) (blkOk_by (N := ["numbers", "shape", "behind", "number"]) (sc := fnScope (top 70)) (by decide +kernel)) (fun _ _ _ _ _ => pg_name (i := 3) sc.nd rfl (Or.inl rfl)) (fun _ _ _ _ _ => pts_nil) (fun _ _ _ _ _ => pe_cmpR op_lt (pv 3) (pe_gc (by rfl) T.MODULUS) (nomark _))) pa_nil))) (pv 2) pe_int)))))), ?_⟩
    refine ⟨_, rfl, a, _, rfl, .inl (SqL.of ha), _, _, rfl, rfl, _, rfl, if_of (fun c => ?_) (fun c => ?_)⟩
    · have c : ns.length < 2 := by have := of_decide_eq_true c; rw [List.length_map] at this; omega
      have : lenTold ns sh = 0 := by unfold lenTold; rw [if_pos c]
      rw [this] at k
      exact k H (Same.refl _)
    · have c : ¬ ns.length < 2 := by have := of_decide_eq_false c; rw [List.length_map] at this; omega
      obtain ⟨x0, hx0⟩ : ∃ x, ns[0]? = some x := ⟨_, List.getElem?_eq_getElem (by omega)⟩
      obtain ⟨x1, hx1⟩ : ∃ x, ns[1]? = some x := ⟨_, List.getElem?_eq_getElem (by omega)⟩
      have e0 := getD_get hx0
      have e1 := getD_get hx1
      have at0 : atI (iV ns) 0 = some (V.int (x0 : Int)) := atI_nat (j := 0) (iV_get hx0)
      have at1 : atI (iV ns) 1 = some (V.int (x1 : Int)) := atI_nat (j := 1) (iV_get hx1)
      have esh : (!decide (V.str (S [shC sh]) = V.str "l")) = decide (sh ≠ 1) := by
        have : sh = 0 ∨ sh = 1 ∨ sh = 2 := by omega
        rcases this with rfl | rfl | rfl <;> decide +kernel
      refine ⟨_, rfl, rfl, _, rfl, ?_⟩
      show (if (!decide (V.str (S [shC sh]) = V.str "l")) = true then _ else _)
      rw [esh]
      refine if_of (fun d => ?_) (fun d => ?_)
      · have d : sh ≠ 1 := of_decide_eq_true d
        have el : lenTold ns sh = if x0 = 0 ∧ x1 < 1000 then 2 else 0 := by
          unfold lenTold; rw [if_neg c, if_pos d, e0, e1]
        refine ⟨_, rfl, a, _, _, _, rfl, rfl, SqL.of ha, at0, rfl, _, rfl, if_of (fun g => ?_) (fun g => ?_)⟩
        · have g : x0 = 0 := by have := V.int.inj (of_decide_eq_true g); omega
          refine ⟨_, rfl, a, _, _, _, rfl, rfl, SqL.of ha, at1, _, _, rfl, rfl, _, rfl, if_of (fun g2 => ?_) (fun g2 => ?_)⟩
          · have g2 : x1 < 1000 := by have := of_decide_eq_true g2; omega
            rw [el, if_pos ⟨g, g2⟩] at k
            exact k H (Same.refl _)
          · have g2 : ¬ x1 < 1000 := by have := of_decide_eq_false g2; omega
            rw [el, if_neg (fun z => g2 z.2)] at k
            exact k H (Same.refl _)
        · have g : ¬ x0 = 0 := fun z => of_decide_eq_false g (by rw [z]; rfl)
          rw [el, if_neg (fun z => g z.1)] at k
          exact k H (Same.refl _)
      · have d : ¬ sh ≠ 1 := of_decide_eq_false d
        have el : lenTold ns sh = if x0 ≠ 1 ∨ x1 > 10 ∨ ns.length < 2 + x1 then 0 else if ((ns.drop 2).take x1).all (fun x => decide (x < 1000)) = true then 2 + x1 else 0 := by
          unfold lenTold; rw [if_neg c, if_neg d, e0, e1]
        refine ⟨_, rfl, a, _, _, _, rfl, rfl, SqL.of ha, at1, _, _, rfl, rfl, ?_⟩
        refine ⟨_, rfl, a, _, _, _, rfl, rfl, SqL.of ha, at0, rfl, _, rfl, if_of (fun g => ?_) (fun g => ?_)⟩
        · have g : x0 ≠ 1 := fun z => by rw [z] at g; exact absurd g (by decide)
          rw [el, if_pos (.inl g)] at k
          exact if_true_of rfl (k H (Same.refl _))
        · have g : ¬ x0 ≠ 1 := fun z => by
            have : decide (V.int (x0 : Int) = V.int 1) = false := decide_eq_false (fun y => by have := V.int.inj y; omega)
            rw [this] at g; cases g
          refine ⟨_, rfl, a, _, _, _, rfl, rfl, SqL.of ha, at1, _, _, rfl, rfl, _, rfl, if_of (fun g2 => ?_) (fun g2 => ?_)⟩
          · have g2 : x1 > 10 := by have := of_decide_eq_true g2; omega
            rw [el, if_pos (.inr (.inl g2))] at k
            exact if_true_of rfl (k H (Same.refl _))
          · have g2 : ¬ x1 > 10 := by have := of_decide_eq_false g2; omega
            refine ⟨_, rfl, a, _, rfl, .inl (SqL.of ha), _, rfl, _, _, rfl, rfl, _, rfl, if_of (fun g3 => ?_) (fun g3 => ?_)⟩
            · have g3 : ns.length < 2 + x1 := by have := of_decide_eq_true g3; rw [List.length_map] at this; omega
              rw [el, if_pos (.inr (.inr g3))] at k
              exact k H (Same.refl _)
            · have g3 : ¬ ns.length < 2 + x1 := by have := of_decide_eq_false g3; rw [List.length_map] at this; omega
              rw [el, if_neg (by rintro (z | z | z); exact g z; exact g2 z; exact g3 z)] at k
              refine ⟨_, rfl, 2, rfl, _, rfl, 2 + (x1 : Int), rfl, a, _, rfl, SqL.of ha, fun pa hpa => ?_⟩
              have ecut : cutV (iV ns) (some 2) (some (2 + (x1 : Int))) = iV ((ns.drop 2).take x1) := by
                rw [show (some (2 : Int)) = some ((2 : Nat) : Int) by rfl, show (some (2 + (x1 : Int))) = some ((2 + x1 : Nat) : Int) by congr 1, cutV_ft, Nat.add_sub_cancel_left, iV_drop, iV_take]
              rw [ecut] at *
              refine ⟨pa, rfl, ⟨_, SqL.of upd_same⟩, fun D hD => ?_⟩
              have nD : D ≠ pa := fun z => by rw [z, upd_same] at hD; cases hD
              generalize hxs : (ns.drop 2).take x1 = xs at *
              have lx : xs.length ≤ 1000 := by rw [← hxs, List.length_take, List.length_drop]; omega
              refine lc_it (walk_list (K := K) (a := pa) (xs := iV xs)) (fun i H' => Same H H' ∧ H' pa = some (.lst (iV xs)) ∧ H' D = some (.lst (((xs.take i).map fun x => decide (x < 1000)).map V.bl)))
                ⟨(Same.new hpa).trans (Same.new hD), (upd_ne nD.symm).trans upd_same, upd_same⟩ (fun i H' _ B => SqL.of B.2.1) ?_ ?_
              · rintro i u H2 H3 hi ⟨b1, b2, b3⟩ ⟨rfl, hu⟩
                rw [List.length_map] at hi
                obtain ⟨x, hx⟩ : ∃ x, xs[i]? = some x := ⟨_, List.getElem?_eq_getElem hi⟩
                have : u = V.int (x : Int) := by rw [iV_get hx] at hu; exact (Option.some.inj hu).symm
                subst this
                refine ⟨rfl, _, rfl, _, _, rfl, rfl, _, b3, (by rw [List.length_map, List.length_map, List.length_take]; show _ < 2 ^ 24; omega), ?_⟩
                refine ⟨Same.put b1 ((Same.new hpa).free hD), (upd_ne nD.symm).trans b2, upd_same.trans ?_⟩
                rw [take_next hx, List.map_append, List.map_append]
                congr 4
                show V.bl (decide ((x : Int) < 1000)) = V.bl (decide (x < 1000))
                congr 1
                exact decide_eq_decide.mpr (by omega)
              · rintro H2 ⟨b1, b2, b3⟩
                rw [List.length_map, List.take_length] at b3
                refine ⟨D, _, rfl, SqL.of b3, _, rfl, ?_⟩
                have ea : (xs.map fun x => decide (x < 1000)).all id = xs.all fun x => decide (x < 1000) := by rw [List.all_map]; rfl
                rw [ea]
                refine if_of (fun g4 => ?_) (fun g4 => ?_)
                · rw [if_pos g4] at k
                  exact ⟨_, rfl, k H2 b1⟩
                · rw [if_neg (by rw [g4]; decide)] at k
                  exact k H2 b1
theorem ok_read_values (T : Tp K mg A) (cL : Cal P w K mg base 1 "length_told" spLenTold []) {f : Addr} {fd : FuncData} (F : Def K mg "read_values" (top 71) f fd) (b : Binds K fd ["numbers", "shapes"] []) : Cal P w K mg base 2 "read_values" spReadV [] := by
  have sc : FnScope ["numbers", "shapes", "given", "rest", "shape", "behind"] ["numbers", "shapes"] (fnScope (top 71)) := fnScope_by (by decide +kernel)
  refine cal0 F b .nil sc (fun vs H Q E h => ?_) (fun cdv A' outer s H vs Q E hr h => ?_)
  · obtain ⟨a, ns, l, rfl, _⟩ := h
    rfl
  · obtain ⟨a, ns, l, rfl, ha, hl, hm, hll, kN, kS⟩ := h
    refine ⟨_, pss_cons (ps_set (i := 2) sc.nd rfl (.inl rfl) (pe_lst pa_nil))
      (pss_cons (ps_set (i := 3) sc.nd rfl (.inl rfl) (pv 0))
      (pss_cons (ps_for PassesOwn.never rfl (pi_str (pv 1)) (pg_name (i := 4) sc.nd rfl (.inl rfl))
        (pss_cons (ps_set (i := 5) sc.nd rfl (.inl rfl) (pe_c cL hr (by decide) (by rfl) (pa_cons (pv 3) (pa_cons (pv 4) pa_nil))))
        (pss_cons (ps_if (pt_cmpR op_eq (pv 5) pe_int (nomark _)) (pss_one (ps_ret pe_non)) pss_nil)
        (pss_cons (ps_expr (pe_bm PySem.F.plainAttrs_list PySem.F.slot_list_append PySem.F.type_list_append mt_append (pv 2) (pa_cons (pe_ifExp (pt_cmpR op_eq (pv 4) pe_str (nomark _)) (pe_callTy call_tuple_of (by rfl) T.b_tuple (by decide +kernel) (pa_cons (pe_slice sl_list (pv 3) (po_some pe_int) (po_some (pv 5))) pa_nil)) (pe_ix ix_list (pv 3) pe_int (fun _ _ => rfl))) pa_nil)))
        (pss_one (ps_set (i := 3) sc.nd rfl (.inl rfl) (pe_slice sl_list (pv 3) (po_some (pv 5)) po_none)))))))
      (pss_one (ps_ret (pe_ifExp (pt_cmpR (op_eqE hr.units0) (pv 3) (pe_lst pa_nil) (nomark _)) (pv 2) pe_non))))), ?_⟩
    refine ⟨by show 0 ≤ sizeLine; decide, fun D hD => ?_⟩
    refine ⟨_, rfl, _, rfl, S (l.map shC), rfl, ?_⟩
    have ecps : ((S (l.map shC)).cps.size) = l.length := by simp [S]
    refine for_it (walk_str (z := S (l.map shC))) (fun i σ H' => ∃ (r : Addr) (ms : List Nat) (gs : List Val) (us : List V) (o4 o5 : Option V), σ = [some (.ref a), some (.str (S (l.map shC))), some (.ref D), some (.ref r), o4, o5] ∧ Same H H' ∧ r ≠ D ∧
        H' r = some (.lst (iV ms)) ∧ ms.length ≤ 1000 ∧ H' D = some (.lst us) ∧ ValsAt H' gs us ∧ gs.length = i ∧ Ty01.valsFrom l ns = (Ty01.valsFrom (l.drop i) ms).map (gs ++ ·))
      ⟨a, ns, [], [], none, none, rfl, Same.new hD, ne_of_none ha hD, Same.new hD _ _ ha, hl, upd_same, .nil, rfl, by rw [List.drop_zero]; cases Ty01.valsFrom l ns <;> rfl⟩ (fun _ _ _ _ _ => trivial) ?_ ?_
    · rintro i v σ H1 H2 hi ⟨r, ms, gs, us, o4, o5, rfl, s1, nr, hr1, lm, hD1, hv1, lg, ev⟩ ⟨rfl, c, hc, rfl⟩
      rw [ecps] at hi
      obtain ⟨sh, hsh⟩ : ∃ sh, l[i]? = some sh := ⟨_, List.getElem?_eq_getElem hi⟩
      have hsh3 := hm sh (List.mem_of_getElem? hsh)
      have hc' : c = shC sh := by
        have : (l.map shC)[i]? = some c := by simpa [S] using hc
        rw [List.getElem?_map, hsh] at this
        exact (Option.some.inj this).symm
      subst hc'
      have edrop : l.drop i = sh :: l.drop (i + 1) := by
        rw [List.drop_eq_getElem_cons hi]
        congr 1
        rw [List.getElem?_eq_getElem hi] at hsh
        exact Option.some.inj hsh
      rw [edrop, valsFrom_cons] at ev
      refine ⟨_, rfl, _, rfl, r, ms, sh, rfl, hsh3, hr1, lm, fun H3 s3 => ?_⟩
      have hr3 := s3 _ _ hr1
      have hD3 := s3 _ _ hD1
      have hv3 := hv1.mono s3
      refine ⟨_, rfl, rfl, _, rfl, if_of (fun d => ?_) (fun d => ?_)⟩
      · have d : lenTold ms sh = 0 := by have := V.int.inj (of_decide_eq_true d); omega
        rw [if_pos d] at ev
        exact kN ev H3 (s1.trans s3)
      · have d : lenTold ms sh ≠ 0 := fun z => of_decide_eq_false d (by rw [z]; rfl)
        rw [if_neg d] at ev
        obtain ⟨p2, pN, pL⟩ := lenTold_pos d
        have lus : us.length ≤ 10 := by rw [← Paired.length hv1, lg]; omega
        obtain ⟨x1, hx1⟩ : ∃ x, ms[1]? = some x := ⟨_, List.getElem?_eq_getElem (by omega)⟩
        have e1 := getD_get hx1
        -- behind the append: the new rest
        have rest : ∀ (H4 : Hp) (gv : V), Same H3 H4 → ValAt H4 (valTold ms sh) gv → tAsg (tSl (rSlL K) (tVar 3) (tPart (tVar 5)) tNoPart) (gName 3)
            { nx := fun σ H' => ∃ (r : Addr) (ms : List Nat) (gs : List Val) (us : List V) (o4 o5 : Option V), σ = [some (.ref a), some (.str (S (l.map shC))), some (.ref D), some (.ref r), o4, o5] ∧ Same H H' ∧ r ≠ D ∧
                H' r = some (.lst (iV ms)) ∧ ms.length ≤ 1000 ∧ H' D = some (.lst us) ∧ ValsAt H' gs us ∧ gs.length = i + 1 ∧ Ty01.valsFrom l ns = (Ty01.valsFrom (l.drop (i + 1)) ms).map (gs ++ ·), rt := Q } [some (.ref a), some (.str (S (l.map shC))), some (.ref D), some (.ref r), some (.str (S [shC sh])), some (.int (lenTold ms sh : Nat))] (upd H4 D (.lst (us ++ [gv]))) := by
          intro H4 gv s4 hgv
          have hD4 := s4 _ _ hD3
          have hr4 : (upd H4 D (.lst (us ++ [gv]))) r = some (.lst (iV ms)) := (upd_ne nr).trans (s4 _ _ hr3)
          refine ⟨_, rfl, _, rfl, (lenTold ms sh : Nat), rfl, r, _, rfl, SqL.of hr4, fun r2 hr2 => ?_⟩
          have nr2 : r2 ≠ D := (free_put hr2).1
          refine ⟨r2, ms.drop (lenTold ms sh), gs ++ [valTold ms sh], us ++ [gv], _, _, rfl, ?_, nr2, ?_, ?_, ?_, ?_, ?_, ?_⟩
          · exact (Same.put ((s1.trans s3).trans s4) hD).trans (Same.new hr2)
          · rw [upd_same, cutV_from, iV_drop]
          · rw [List.length_drop]; omega
          · exact Same.new hr2 _ _ upd_same
          · exact (ValsAt.putL hD4 (pd_append (hv3.mono s4) (pd_one hgv))).mono (Same.new hr2)
          · rw [List.length_append, lg]; rfl
          · rw [ev]
            cases Ty01.valsFrom (l.drop (i + 1)) (ms.drop (lenTold ms sh)) with
            | none => rfl
            | some r => show some (gs ++ (valTold ms sh :: r)) = some (gs ++ [valTold ms sh] ++ r); rw [List.append_assoc]; rfl
        refine ⟨_, rfl, .inl ⟨rfl, _, SqL.of hD3⟩, _, rfl, rfl, _, rfl, ?_⟩
        have esh : decide (V.str (S [shC sh]) = V.str "l") = decide (sh = 1) := by
          have : sh = 0 ∨ sh = 1 ∨ sh = 2 := by omega
          rcases this with rfl | rfl | rfl <;> decide +kernel
        show (if decide (V.str (S [shC sh]) = V.str "l") = true then _ else _)
        rw [esh]
        refine if_of (fun g => ?_) (fun g => ?_)
        · have g : sh = 1 := of_decide_eq_true g
          obtain ⟨q1, q2, q3, q4⟩ := pL g
          refine ⟨_, rfl, 2, rfl, _, rfl, (lenTold ms sh : Nat), rfl, r, _, rfl, SqL.of hr3, fun pa hpa => ?_⟩
          refine ⟨pa, _, rfl, .inl ⟨SqL.of upd_same, fun t ht => ?_⟩⟩
          have s5 : Same H3 (upd (upd H3 pa (.lst (cutV (iV ms) (some 2) (some (lenTold ms sh : Nat))))) t (.tup (cutV (iV ms) (some 2) (some (lenTold ms sh : Nat))))) := (Same.new hpa).trans (Same.new ht)
          refine ⟨D, us, _, rfl, rfl, s5 _ _ hD3, (by show us.length < 2 ^ 24; omega), rest _ _ s5 ?_⟩
          unfold valTold
          rw [if_pos g]
          refine ⟨t, rfl, upd_same.trans ?_⟩
          congr 2
          rw [show (some (2 : Int)) = some ((2 : Nat) : Int) by rfl, cutV_ft, q1, Nat.add_sub_cancel_left, iV_drop, iV_take]
        · have g : sh ≠ 1 := of_decide_eq_false g
          refine ⟨_, rfl, r, _, _, _, rfl, rfl, SqL.of hr3, atI_nat (j := 1) (iV_get hx1), ?_⟩
          refine ⟨D, us, _, rfl, rfl, hD3, (by show us.length < 2 ^ 24; omega), rest _ _ (Same.refl _) ?_⟩
          unfold valTold
          rw [if_neg g, e1]
          rfl
    · rintro σ H1 ⟨r, ms, gs, us, o4, o5, rfl, s1, nr, hr1, lm, hD1, hv1, lg, ev⟩
      rw [ecps, List.drop_length, valsFrom_nil] at ev
      refine ⟨_, rfl, by show 0 ≤ sizeLine; decide, fun em hem => ?_⟩
      refine ⟨r, em, _, rfl, rfl, SqL.of (Same.new hem _ _ hr1), SqL.of upd_same, _, rfl, if_of (fun c => ?_) (fun c => ?_)⟩
      · have c : ms = [] := by
          cases ms with
          | nil => rfl
          | cons x l => cases c
        rw [if_pos c] at ev
        have ev : Ty01.valsFrom l ns = some gs := by rw [ev]; show some (gs ++ []) = _; rw [List.append_nil]
        exact ⟨_, rfl, kS gs ev D _ us (s1.trans (Same.new hem)) (Same.new hem _ _ hD1) (hv1.mono (Same.new hem))⟩
      · have c : ms ≠ [] := fun z => by rw [z] at c; cases c
        rw [if_neg c] at ev
        exact kN ev _ (s1.trans (Same.new hem))
end
end Pf
namespace Pf
open PySem PySem.Spec PyProof.Rows L2 SX
open C8 (Cal Met Mak Def cal0 met0 mak0 pe_c pe_mk pe_mt pe_mt0 pe_gc fnScope fnBody fnArgs fnScope_by)
/-- a code and a test that it can be asked of -/
structure Asks (A : Ad) (H : Hp) (p : Ty01.Program) (t : Ty01.Test) (cd : Addr) (v : V) : Prop where
  ex : ∃ (C : List Wd) (fst : List Nat) (st : Nat), CodeAt A H fst C cd ∧ TestAt A H t st v ∧ TestIn p C fst t st
theorem Asks.mono {A : Ad} {H H' : Hp} (e : Same H H') {p : Ty01.Program} {t : Ty01.Test} {cd : Addr} {v : V} (h : Asks A H p t cd v) : Asks A H' p t cd v := by
  obtain ⟨C, fst, st, h1, h2, h3⟩ := h.ex
  exact ⟨C, fst, st, h1.mono e, h2.mono e, h3⟩
def spLeast (A : Ad) : Sp := fun vs H Q _ => ∃ (p : Ty01.Program) (t : Ty01.Test) (cd : Addr) (v : V), vs = [.ref cd, v] ∧ Asks A H p t cd v ∧
  (Ty01.firstBad p t = none → ∀ H', Same H H' → Q .non H') ∧
  (∀ i env y, Ty01.firstBad p t = some (i, env, y) → ∀ (H' : Hp) (r h : Addr) (us : List V), Same H H' → H' r = some (.tup [.int (i : Nat), .ref h, .int (y : Nat)]) → H' h = some (.lst us) → ValsAt H' env us → Q (.ref r) H')
def spHolds (A : Ad) : Sp := fun vs H Q _ => ∃ (p : Ty01.Program) (t : Ty01.Test) (cd : Addr) (v : V), vs = [.ref cd, v] ∧ Asks A H p t cd v ∧ ∀ H', Same H H' → Q (.bl (Ty01.holds p t)) H'
def spReached (A : Ad) : Sp := fun vs H Q _ => ∃ (p : Ty01.Program) (t : Ty01.Test) (cd : Addr) (v : V) (C : List Wd) (fst : List Nat) (st : Nat), vs = [.ref cd, v] ∧ CodeAt A H fst C cd ∧ TestAt A H t st v ∧ TestIn p C fst t st ∧
  ∀ (H' : Hp) (d : Addr) (sn : List Nat), Same H H' → H' d = some (.dK (seenK sn)) →
    (∀ (g : Nat) (h : Ty01.Fun) (s j : Nat), p.funs[g]? = some h → fst[g]? = some s → j < h.body.length → (s + j ∈ sn ↔ ∃ env ∈ Ty01.inputs t.shapes, pbase p g + j ∈ (Ty01.runOne p t.body env).seen)) → Q (.ref d) H'
theorem mergeK_seen (a b : List Nat) : mergeK (seenK a) (seenK b) = seenK (b.foldl addS a) := by
  induction b generalizing a with
  | nil => rfl
  | cons x b ih =>
    show mergeK (putK (seenK a) (Sum.inl (x : Int)) (.bl true)) (seenK b) = _
    rw [putK_seen, ih]; rfl
theorem foldl_addS (a b : List Nat) : (∀ q, q ∈ b.foldl addS a ↔ q ∈ a ∨ q ∈ b) ∧ (b.foldl addS a).length ≤ a.length + b.length := by
  induction b generalizing a with
  | nil => simp
  | cons x b ih =>
    obtain ⟨i1, i2⟩ := ih (addS a x)
    refine ⟨fun q => ?_, ?_⟩
    · rw [List.foldl_cons, i1, mem_addS, List.mem_cons]
      constructor
      · rintro ((h | h) | h)
        · exact .inr (.inl h)
        · exact .inl h
        · exact .inr (.inr h)
      · rintro (h | h | h)
        · exact .inl (.inr h)
        · exact .inl (.inl h)
        · exact .inr h
    · rw [List.foldl_cons, List.length_cons]
      have := addS_len a x
      omega
section
variable {P : PySem.Program} {w : World} {K : PySem.W.Frag} {mg : Str → Option Value} {base : Heap} {A : Ad}
theorem ok_least_failing (T : Tp K mg A) (cI : Cal P w K mg base 3 "inputs_of" spInputs []) (cR : Cal P w K mg base 6 "run_test" (spRunTest A) []) (cV : Met P w K mg base 1 A.R "value" (spValue A) [])
    {f : Addr} {fd : FuncData} (F : Def K mg "least_failing" (top 79) f fd) (b : Binds K fd ["code", "test"] []) : Cal P w K mg base 7 "least_failing" (spLeast A) [] := by
  have sc : FnScope ["code", "test", "ahead", "handed", "run"] ["code", "test"] (fnScope (top 79)) := fnScope_by (by decide +kernel)
  refine cal0 F b .nil sc (fun vs H Q E h => ?_) (fun cdv A' outer s H vs Q E hr h => ?_)
  · obtain ⟨p, t, cd, v, rfl, _⟩ := h
    rfl
  · obtain ⟨p, t, cd, v, rfl, as, kN, kS⟩ := h
    refine ⟨_, pss_cons (ps_for PassesOwn.never rfl (pi_enum (by rfl) T.b_enumerate (pa_cons (pe_c cI hr (by decide) (by rfl) (pa_cons (pe_fld (pv 1) rfl) pa_nil)) pa_nil)) (pg_tup rfl (pgs_cons (pg_name (i := 2) sc.nd rfl (.inl rfl)) (pgs_cons (pg_name (i := 3) sc.nd rfl (.inl rfl)) pgs_nil)))
        (pss_cons (ps_set (i := 4) sc.nd rfl (.inl rfl) (pe_c cR hr (by decide) (by rfl) (pa_cons (pv 0) (pa_cons (pv 1) (pa_cons (pv 3) pa_nil)))))
        (pss_one (ps_if (PW.pt (pw_or (pt_cmpR op_ne (pe_fld (pv 4) rfl) (pe_gc (by rfl) T.NONE) (nomark _)) (pw_or1 (pt_cmpR (op_neD hr.units) (pe_mt0 cV hr (by decide) (pv 4)) pe_int (nomark _)))))
          (pss_one (ps_ret (pe_tup (pa_cons (pv 2) (pa_cons (pv 3) (pa_cons (pe_fld (pv 4) rfl) pa_nil)))))) pss_nil))))
      (pss_one (ps_ret pe_non)), ?_⟩
    obtain ⟨C, fst, st, hc, ht, ti⟩ := as.ex
    have ht0 := ht
    obtain ⟨ta, tdx, tr, rfl, g1, g2⟩ := ht
    refine ⟨_, rfl, ta, _, tdx, _, _, rfl, g1, T.cT, T.t_shapes, tl_shapes, t.shapes, rfl, ti.len, ti.sh, fun pi H1 us s1 np hp hu => ?_⟩
    refine ⟨pi, us, rfl, SqL.of hp, ?_⟩
    refine for_it (walk_enum (K := K) (a := pi) (xs := us)) (fun i σ H' => ∃ o2 o3 o4 : Option V, σ = [some (.ref cd), some (.ref ta), o2, o3, o4] ∧ Same H1 H' ∧ Ty01.firstBad p t = Ty01.firstFrom p t.body i ((Ty01.inputs t.shapes).drop i))
      ⟨none, none, none, rfl, Same.refl _, rfl⟩ (fun i σ H' _ ⟨_, _, _, _, s2, _⟩ => SqL.of (s2 _ _ hp)) ?_ ?_
    · rintro i x σ H2 H3 hi ⟨o2, o3, o4, rfl, s2, ef⟩ ⟨tp, xi, xu, rfl, ntp, rfl, ei, eu⟩
      cases ei
      have eu : us[i]? = some xu := eu
      refine ⟨tp, _, rfl, SqT.of upd_same, rfl, _, _, rfl, _, _, rfl, rfl, ?_⟩
      have lu : us.length = (Ty01.inputs t.shapes).length := (Paired.length hu).symm
      obtain ⟨env, he⟩ : ∃ env, (Ty01.inputs t.shapes)[i]? = some env := ⟨_, List.getElem?_eq_getElem (by omega)⟩
      obtain ⟨u', e1, e2⟩ := LiI.paired_get hu he
      rw [eu] at e1
      cases e1
      have s3 : Same H1 (upd H2 tp (.tup [.int (i : Nat), xu])) := s2.trans (Same.new ntp)
      obtain ⟨eh, eus, rfl, eh1, eh2⟩ := e2.mono s3
      have hmem := List.mem_of_getElem? he
      obtain ⟨n, e, R⟩ := ti.run hmem
      have edrop : (Ty01.inputs t.shapes).drop i = env :: (Ty01.inputs t.shapes).drop (i + 1) := by
        have hlt : i < (Ty01.inputs t.shapes).length := by omega
        rw [List.drop_eq_getElem_cons hlt]
        congr 1
        rw [List.getElem?_eq_getElem hlt] at he
        exact Option.some.inj he
      rw [edrop, firstFrom_cons] at ef
      refine ⟨_, rfl, _, rfl, _, rfl, ?_⟩
      refine ⟨fst, C, t, st, n, e, cd, _, eh, eus, env, rfl, (hc.mono s1).mono s3, ti.ok, (ht0.mono s1).mono s3, eh1, eh2, R.runs, fun Hi H4 r rdx re td rs s4 X => ?_⟩
      have s5 : Same (upd H2 tp (.tup [.int (i : Nat), .ref eh])) H4 := s4.trans X.sm
      have ans : ∀ y : Nat, e.why = y → Ty01.bad (Ty01.runOne p t.body env) = some y → ∀ H5, Same H4 H5 → tRet (tTup (tCons (tVar 2) (tCons (tVar 3) (tCons (tFld K (tVar 4) "why") tNil))))
          { nx := fun σ H' => ∃ o2 o3 o4 : Option V, σ = [some (.ref cd), some (.ref ta), o2, o3, o4] ∧ Same H1 H' ∧ Ty01.firstBad p t = Ty01.firstFrom p t.body (i + 1) ((Ty01.inputs t.shapes).drop (i + 1)), rt := Q } [some (.ref cd), some (.ref ta), some (.int (i : Nat)), some (.ref eh), some (.ref r)] H5 := by
        intro y hy hb H5 s6
        rw [hb] at ef
        refine ⟨_, rfl, _, rfl, _, rfl, r, _, rdx, _, _, rfl, s6 _ _ X.ins, T.cR, T.r_why, rl_why, (by show 3 ≤ sizeLine; decide), fun q hq => ?_⟩
        rw [hy]
        have s7 := (s5.trans s6).trans (Same.new (o := .tup [.int (i : Nat), .ref eh, .int (y : Nat)]) hq)
        exact kS i env y ef _ q eh eus ((s1.trans s3).trans s7) upd_same (s7 _ _ eh1) (eh2.mono s7)
      cases hval : (Ty01.runOne p t.body env).val with
      | error y =>
        obtain ⟨w1, w2⟩ := R.er y hval
        refine ⟨_, rfl, r, _, rdx, _, _, rfl, X.ins, T.cR, T.r_why, rl_why, rfl, _, rfl, if_true_of ?_ ?_⟩
        · show (!decide (V.int (e.why : Int) = V.int 0)) = true
          rw [decide_eq_false (fun z => by have := V.int.inj z; omega)]; rfl
        · exact if_true_of rfl (ans y w1 (by unfold Ty01.bad; rw [hval]) H4 (Same.refl _))
      | ok v =>
        obtain ⟨w1, w2, w3⟩ := R.ok v hval
        refine ⟨_, rfl, r, _, rdx, _, _, rfl, X.ins, T.cR, T.r_why, rl_why, rfl, _, rfl, if_false_of ?_ ?_⟩
        · show (!decide (V.int (e.why : Int) = V.int 0)) = false
          rw [w1]; rfl
        · refine ⟨_, rfl, r, rdx, _, rfl, X.ins, rl_none (by decide +kernel), ?_⟩
          refine ⟨fst, C, Hi, r, rdx, cd, re, td, rs, e, v, [], rfl, X, w2, fun u hu' => ?_⟩
          refine ⟨dVal v, dVal (.n 1), (ValAt.mono X.sm hu').dp, .int _, shaped_val _, shaped_val _, _, rfl, ?_⟩
          rw [eqv_val]
          by_cases hv1 : v = .n 1
          · refine if_false_of (by rw [decide_eq_true hv1]; rfl) ?_
            have hb : Ty01.bad (Ty01.runOne p t.body env) = none := by
              unfold Ty01.bad
              rw [hval, hv1]
              rfl
            rw [hb] at ef
            exact ⟨_, _, _, rfl, s3.trans s5, ef⟩
          · refine if_true_of (by rw [decide_eq_false hv1]; rfl) (ans 0 w1 ?_ H4 (Same.refl _))
            unfold Ty01.bad
            rw [hval]
            cases v with
            | l xs => rfl
            | n x =>
              match x, hv1 with
              | 0, _ => rfl
              | 1, h => exact absurd rfl h
              | x + 2, _ => rfl
    · rintro σ H2 ⟨o2, o3, o4, rfl, s2, ef⟩
      have lu : us.length = (Ty01.inputs t.shapes).length := (Paired.length hu).symm
      rw [lu, List.drop_length] at ef
      exact kN ef H2 (s1.trans s2)
theorem ok_holds (T : Tp K mg A) (cL : Cal P w K mg base 7 "least_failing" (spLeast A) []) {f : Addr} {fd : FuncData} (F : Def K mg "holds" (top 80) f fd) (b : Binds K fd ["code", "test"] []) : Cal P w K mg base 8 "holds" (spHolds A) [] := by
  have sc : FnScope ["code", "test"] ["code", "test"] (fnScope (top 80)) := fnScope_by (by decide +kernel)
  refine cal0 F b .nil sc (fun vs H Q E h => ?_) (fun cdv A' outer s H vs Q E hr h => ?_)
  · obtain ⟨p, t, cd, v, rfl, _⟩ := h
    rfl
  · obtain ⟨p, t, cd, v, rfl, as, k⟩ := h
    refine ⟨_, pss_one (ps_ret (pe_cmpR op_isN (pe_c cL hr (by decide) (by rfl) (pa_cons (pv 0) (pa_cons (pv 1) pa_nil))) pe_non (nomark _))), ?_⟩
    refine ⟨_, rfl, _, rfl, p, t, cd, v, rfl, as, fun e H' s1 => ⟨rfl, ?_⟩, fun i env y e H' r h us s1 h1 h2 h3 => ⟨rfl, ?_⟩⟩
    · have := k H' s1
      unfold Ty01.holds at this
      rw [e] at this
      exact this
    · have := k H' s1
      unfold Ty01.holds at this
      rw [e] at this
      exact this
theorem ok_reached_by (T : Tp K mg A) (cI : Cal P w K mg base 3 "inputs_of" spInputs []) (cR : Cal P w K mg base 6 "run_test" (spRunTest A) [])
    {f : Addr} {fd : FuncData} (F : Def K mg "reached_by" (top 81) f fd) (b : Binds K fd ["code", "test"] []) : Cal P w K mg base 7 "reached_by" (spReached A) [] := by
  have sc : FnScope ["code", "test", "reached", "handed"] ["code", "test"] (fnScope (top 81)) := fnScope_by (by decide +kernel)
  refine cal0 F b .nil sc (fun vs H Q E h => ?_) (fun cdv A' outer s H vs Q E hr h => ?_)
  · obtain ⟨p, t, cd, v, C, fst, st, rfl, _⟩ := h
    rfl
  · obtain ⟨p, t, cd, v, C, fst, st, rfl, hc, ht, ti, k⟩ := h
    refine ⟨_, pss_cons (ps_set (i := 2) sc.nd rfl (.inl rfl) pe_dnewK)
      (pss_cons (ps_for PassesOwn.never rfl (pi_list (pe_c cI hr (by decide) (by rfl) (pa_cons (pe_fld (pv 1) rfl) pa_nil))) (pg_name (i := 3) sc.nd rfl (.inl rfl))
        (pss_one (ps_expr (pe_bm PySem.F.plainAttrs_dict PySem.F.slot_dict_update PySem.F.type_dict_update mt_update (pv 2) (pa_cons (pe_fld (pe_c cR hr (by decide) (by rfl) (pa_cons (pv 0) (pa_cons (pv 1) (pa_cons (pv 3) pa_nil)))) rfl) pa_nil)))))
      (pss_one (ps_ret (pv 2)))), ?_⟩
    intro D hD
    have ht0 := ht
    obtain ⟨ta, tdx, tr, rfl, g1, g2⟩ := ht
    have s0 : Same H (upd H D (.dK [])) := Same.new hD
    refine ⟨_, rfl, ta, _, tdx, _, _, rfl, s0 _ _ g1, T.cT, T.t_shapes, tl_shapes, t.shapes, rfl, ti.len, ti.sh, fun pi H1 us s1 np hp hu => ?_⟩
    refine ⟨pi, rfl, ⟨_, SqL.of hp⟩, ?_⟩
    have lu : us.length = (Ty01.inputs t.shapes).length := (Paired.length hu).symm
    have l200 := (inputs_ok ti.len ti.sh).2
    have npD : pi ≠ D := fun z => by rw [z, upd_same] at np; cases np
    -- all of H1 but the dict stays
    have huB : Paired (EnvAt (but H1 D)) (Ty01.inputs t.shapes) us := Paired.mapP hu fun env v ⟨h, vs, e1, e2, e3⟩ => by
      have hD1 : H1 D = some (.dK []) := s1 _ _ upd_same
      refine ⟨h, vs, e1, ?_, ?_⟩
      · rw [but_ne (L2.ne_of e2 hD1 (by intro z; cases z))]; exact e2
      · refine Paired.mapP e3 fun x v hx => ?_
        cases x with
        | n x => exact hx
        | l xs =>
          obtain ⟨a, f1, f2⟩ := hx
          exact ⟨a, f1, by rw [but_ne (L2.ne_of f2 hD1 (by intro z; cases z))]; exact f2⟩
    have sB : Same H (but H1 D) := but_of (s0.trans s1) hD
    refine for_it (walk_list (K := K) (a := pi) (xs := us)) (fun i σ H' => ∃ (o3 : Option V) (sn : List Nat), σ = [some (.ref cd), some (.ref ta), some (.ref D), o3] ∧ Same (but H1 D) H' ∧ H' D = some (.dK (seenK sn)) ∧ sn.length ≤ 100 * i ∧
        ∀ (g : Nat) (h : Ty01.Fun) (s j : Nat), p.funs[g]? = some h → fst[g]? = some s → j < h.body.length → (s + j ∈ sn ↔ ∃ env ∈ (Ty01.inputs t.shapes).take i, pbase p g + j ∈ (Ty01.runOne p t.body env).seen))
      ⟨none, [], rfl, but_same _ _, s1 _ _ upd_same, Nat.le_refl _, fun g h s j _ _ _ => by simp⟩ (fun i σ H' _ ⟨_, _, _, s2, _⟩ => SqL.of (s2 _ _ ((but_ne npD).trans hp))) ?_ ?_
    · rintro i x σ H2 H3 hi ⟨o3, sn, rfl, s2, hD2, lsn, hsn⟩ ⟨rfl, hx⟩
      obtain ⟨env, he⟩ : ∃ env, (Ty01.inputs t.shapes)[i]? = some env := ⟨_, List.getElem?_eq_getElem (by omega)⟩
      obtain ⟨u', e1, e2⟩ := LiI.paired_get huB he
      rw [hx] at e1
      cases e1
      obtain ⟨eh, eus, rfl, eh1, eh2⟩ := e2.mono s2
      obtain ⟨n, e, R⟩ := ti.run (List.mem_of_getElem? he)
      refine ⟨_, rfl, .inr (.inr (.inl ⟨rfl, .inl ⟨_, hD2⟩⟩)), _, rfl, _, rfl, _, rfl, ?_⟩
      refine ⟨fst, C, t, st, n, e, cd, _, eh, eus, env, rfl, (hc.mono sB).mono s2, ti.ok, (ht0.mono sB).mono s2, eh1, eh2, R.runs, fun Hi H4 r rdx re td rs s4 X => ?_⟩
      have hD4 : H4 D = some (.dK (seenK sn)) := X.sm _ _ (s4 _ _ hD2)
      have nre : D ≠ re := fun z => by rw [← z] at X; have := X.nre; rw [s4 _ _ hD2] at this; cases this
      obtain ⟨m1, m2⟩ := foldl_addS sn e.seen
      have lb := R.bd
      refine ⟨r, _, rdx, _, _, rfl, X.ins, T.cR, T.r_reached, rl_reached, D, re, seenK sn, seenK e.seen, rfl, rfl, hD4, X.hre, nre, (by unfold seenK; rw [List.length_map, List.length_map]; show _ ≤ 2 ^ 24; omega), ?_⟩
      rw [mergeK_seen]
      refine ⟨_, _, rfl, ?_, upd_same, (by omega), fun g h s j q1 q2 q3 => ?_⟩
      · exact Same.put ((s2.trans s4).trans X.sm) but_at
      · rw [m1, hsn g h s j q1 q2 q3, take_next he, ← R.sr g h s j q1 q2 q3]
        constructor
        · rintro (⟨env', z1, z2⟩ | z)
          · exact ⟨env', List.mem_append_left _ z1, z2⟩
          · exact ⟨env, List.mem_append_right _ (by simp), z⟩
        · rintro ⟨env', z1, z2⟩
          rcases List.mem_append.mp z1 with z | z
          · exact .inl ⟨env', z, z2⟩
          · rw [List.mem_singleton.mp z] at z2; exact .inr z2
    · rintro σ H2 ⟨o3, sn, rfl, s2, hD2, lsn, hsn⟩
      rw [lu, List.take_length] at hsn
      exact ⟨_, rfl, k H2 D sn (sB.trans s2) hD2 hsn⟩
end
end Pf
namespace Pf
open PySem PySem.Spec PyProof.Rows L2 SX
open C8 (Cal Met Mak Def cal0 met0 mak0 pe_c pe_mk pe_mt pe_mt0 pe_gc fnScope fnBody fnArgs fnScope_by)
/-! ### dicts and tuples of the top -/
def DictC (K : PySem.W.Frag) (mg : Str → Option Value) (w : World) (x : Str) (kvs : List (Str × V)) : Prop :=
  ∃ (d : Addr) (es : Array DictEntry) (n : Nat), mg x = some (.ref d) ∧ KDict K w d es n ∧ Paired (fun (q : Str × V) (e : DictEntry) => (∃ t, e.key = .str q.1 t) ∧ RelV q.2 e.val) kvs es.toList
def TupC (K : PySem.W.Frag) (mg : Str → Option Value) (x : Str) (vs : List V) : Prop :=
  ∃ (a : Addr) (o : Obj) (its : Array Value) (n : Nat), mg x = some (.ref a) ∧ K.lookup a = some o ∧ o.cls = .type "tuple" ∧ o.dict = none ∧ o.data = .seq its n ∧ its.size ≤ sizeLine ∧ Vals vs its.toList
theorem ns_find {z : Str} : ∀ {kvs : List (Str × V)} {l : List DictEntry}, Paired (fun (q : Str × V) (e : DictEntry) => (∃ t, e.key = .str q.1 t) ∧ RelV q.2 e.val) kvs l →
    (l.any (·.refKey) = false) ∧ RelO (kvs.lookup z) ((l.find? (·.key.isStr z)).map (·.val))
  | _, _, .nil => ⟨rfl, trivial⟩
  | (k, v) :: kvs, e :: l, .cons ⟨⟨t, h1⟩, h2⟩ r => by
    obtain ⟨i1, i2⟩ := ns_find (z := z) r
    have hr : e.refKey = false := by unfold DictEntry.refKey; rw [h1]
    refine ⟨by rw [List.any_cons, hr, i1]; rfl, ?_⟩
    by_cases hz : z = k
    · subst hz
      have : e.key.isStr z = true := by rw [h1]; simp [Value.isStr]
      rw [lk_here]
      simp only [List.find?_cons, this]
      exact h2
    · have h3 : (z == k) = false := by rw [beq_eq_false_iff_ne]; exact hz
      have : ¬ e.key.isStr z = true := by
        rw [h1]
        intro q
        apply hz
        have : (k == z) = true := q
        exact (eq_of_beq this).symm
      have this : e.key.isStr z = false := by simpa using this
      rw [lk_past h3]
      simp only [List.find?_cons, this]
      exact i2
theorem ns_look {K : PySem.W.Frag} {d : Addr} {es : Array DictEntry} {n : Nat} (hl : K.lookup d = some ⟨.type "dict", none, .dict es n, #[]⟩) {kvs : List (Str × V)} (h : Paired (fun (q : Str × V) (e : DictEntry) => (∃ t, e.key = .str q.1 t) ∧ RelV q.2 e.val) kvs es.toList) (z : Str) :
    ∃ r, PySem.W.nsIn K d z = some r ∧ RelO (kvs.lookup z) r := by
  obtain ⟨h1, h2⟩ := ns_find (z := z) h
  unfold PySem.W.nsIn
  rw [hl]
  cases e : es.toList.find? (·.key.isStr z) with
  | some x =>
    rw [e] at h2
    exact ⟨some x.val, by simp only [e], h2⟩
  | none =>
    rw [e] at h2
    refine ⟨none, ?_, h2⟩
    simp only [e, h1]
    rfl
def partsL : List (Str × V) := [("add", .int 2), ("sub", .int 2), ("mul", .int 2), ("less", .int 2), ("same", .int 2), ("cons", .int 2), ("if", .int 3), ("unless", .int 3), ("head", .int 1), ("tail", .int 1), ("isnil", .int 1), ("nil", .int 0)]
def becomesL : List (Str × V) := [("add", .str "sub"), ("sub", .str "add"), ("mul", .str "add"), ("less", .str "same"), ("same", .str "less"), ("if", .str "unless"), ("unless", .str "if")]
structure Tq (K : PySem.W.Frag) (mg : Str → Option Value) (w : World) : Prop where
  PARTS : DictC K mg w "PARTS" partsL
  BECOMES : DictC K mg w "BECOMES" becomesL
  ARGUMENTS : TupC K mg "ARGUMENTS" [.str "a", .str "b", .str "c"]
  HEADS : TupC K mg "HEADS" [.int 2, .int 2, .int 1, .int 3, .int 2, .int 2, .int 2, .int 1, .int 1, .int 1]
/-! ### signs, rows, words -/
theorem pre1 (c x : Nat) (r : List Nat) : TL.pre [c] (x :: r) = decide (x = c) := by
  unfold TL.pre
  show ((x :: r).take 1 == [c]) = _
  rw [List.take_succ_cons, List.take_zero, Bool.eq_iff_iff, beq_iff_eq, decide_eq_true_eq]
  constructor
  · intro h; injection h
  · intro h; rw [h]
theorem spl_rows : ∀ (l acc : List Nat), TL.spl [10] 0 acc l = Ty01.rowsFrom acc.reverse l
  | [], acc => by rw [TL.spl_nil]; show [acc] = [acc.reverse.reverse]; rw [List.reverse_reverse]
  | x :: l, acc => by
    show _ = if x = 10 then acc.reverse.reverse :: Ty01.rowsFrom [] l else Ty01.rowsFrom (x :: acc.reverse) l
    by_cases h : x = 10
    · rw [TL.spl_hit (by rw [pre1, decide_eq_true h]), if_pos h, List.reverse_reverse]
      show acc :: TL.spl [10] 0 [] l = _
      rw [spl_rows l []]; rfl
    · rw [TL.spl_miss (by rw [pre1, decide_eq_false h]), if_neg h, spl_rows l]
      rw [List.reverse_append]; rfl
theorem spl_words : ∀ (l acc : List Nat), (TL.spl [32] 0 acc l).filter (fun w => !decide (w = [])) = Ty01.wordsFrom acc.reverse l
  | [], acc => by
    rw [TL.spl_nil]
    show _ = if acc.reverse = [] then [] else [acc.reverse.reverse]
    rw [List.reverse_reverse]
    cases acc with
    | nil => rfl
    | cons a r =>
      rw [if_neg (by simp)]
      rfl
  | x :: l, acc => by
    show _ = if x = 32 then (if acc.reverse = [] then Ty01.wordsFrom [] l else acc.reverse.reverse :: Ty01.wordsFrom [] l) else Ty01.wordsFrom (x :: acc.reverse) l
    by_cases h : x = 32
    · rw [TL.spl_hit (by rw [pre1, decide_eq_true h]), if_pos h, List.reverse_reverse]
      show (acc :: TL.spl [32] 0 [] l).filter _ = _
      rw [List.filter_cons, spl_words l []]
      cases acc with
      | nil => rfl
      | cons a r =>
        rw [if_pos (by simp), if_neg (by simp)]
        rfl
    · rw [TL.spl_miss (by rw [pre1, decide_eq_false h]), if_neg h, spl_words l]
      rw [List.reverse_append]; rfl
theorem join1 : ∀ l : List Nat, TL.joinL [] (l.map fun c => [c]) = l
  | [] => rfl
  | [x] => rfl
  | x :: y :: l => by
    show [x] ++ ([] ++ TL.joinL [] ((y :: l).map fun c => [c])) = _
    rw [join1 (y :: l)]; rfl
abbrev strV (ws : List (List Nat)) : List V := ws.map fun w => V.str (S w)
/-- the words of a row, in a list that is new since H0 -/
def WordsAt (H0 H : Hp) (ws : List (List Nat)) (v : V) : Prop := ∃ h, v = .ref h ∧ H0 h = none ∧ H h = some (.lst (strV ws))
theorem WordsAt.mn (H0 : Hp) : Mono (WordsAt H0) := fun H H' ws v e ⟨h, h1, h0, h2⟩ => ⟨h, h1, h0, e _ _ h2⟩
def spSign : Sp := fun vs H Q _ => ∃ c : Nat, vs = [.int (c : Nat)] ∧ Q (.str (S [sgn c])) H
def spWordsOf : Sp := fun vs H Q _ => ∃ a : List Nat, vs = [.str (S a)] ∧ a.length ≤ 1000 ∧ ∀ p H', Same H H' → H p = none → H' p = some (.lst (strV (Ty01.words a))) → Q (.ref p) H'
def spRowsOf : Sp := fun vs H Q _ => ∃ (a : Addr) (ns : List Nat), vs = [.ref a] ∧ H a = some (.lst (iV ns)) ∧ ns.length ≤ 600 ∧
  ∀ p H' us, Same H H' → H p = none → H' p = some (.lst us) → Paired (WordsAt H H') ((Ty01.rows (ns.map sgn)).map Ty01.words) us → Q (.ref p) H'
theorem rowsFrom_len : ∀ (l acc : List Nat), (∀ r ∈ Ty01.rowsFrom acc l, r.length ≤ acc.length + l.length) ∧ (Ty01.rowsFrom acc l).length ≤ l.length + 1
  | [], acc => by
    refine ⟨fun r hr => ?_, Nat.le_refl _⟩
    have : r = acc.reverse := List.mem_singleton.mp hr
    rw [this, List.length_reverse]; exact Nat.le_refl _
  | x :: l, acc => by
    have e : Ty01.rowsFrom acc (x :: l) = if x = 10 then acc.reverse :: Ty01.rowsFrom [] l else Ty01.rowsFrom (x :: acc) l := rfl
    rw [e]
    split
    · obtain ⟨i1, i2⟩ := rowsFrom_len l []
      refine ⟨fun r hr => ?_, by rw [List.length_cons, List.length_cons]; omega⟩
      rcases List.mem_cons.mp hr with rfl | hr
      · rw [List.length_reverse]; omega
      · have := i1 r hr
        rw [List.length_cons]
        simp only [List.length_nil] at this
        omega
    · obtain ⟨i1, i2⟩ := rowsFrom_len l (x :: acc)
      refine ⟨fun r hr => ?_, by rw [List.length_cons]; omega⟩
      have := i1 r hr
      rw [List.length_cons] at this ⊢
      omega
theorem wordsFrom_len : ∀ (l acc : List Nat), (Ty01.wordsFrom acc l).length ≤ l.length + 1
  | [], acc => by
    show (if acc = [] then [] else [acc.reverse]).length ≤ 1
    split <;> simp
  | x :: l, acc => by
    have e : Ty01.wordsFrom acc (x :: l) = if x = 32 then (if acc = [] then Ty01.wordsFrom [] l else acc.reverse :: Ty01.wordsFrom [] l) else Ty01.wordsFrom (x :: acc) l := rfl
    rw [e, List.length_cons]
    have i1 := wordsFrom_len l []
    have i2 := wordsFrom_len l (x :: acc)
    split
    · split
      · omega
      · rw [List.length_cons]; omega
    · omega
section
variable {P : PySem.Program} {w : World} {K : PySem.W.Frag} {mg : Str → Option Value} {base : Heap} {A : Ad}
theorem ok_sign (T : Tp K mg A) {f : Addr} {fd : FuncData} (F : Def K mg "sign" (top 20) f fd) (b : Binds K fd ["byte"] []) : Cal P w K mg base 1 "sign" spSign [] := by
  have sc : FnScope ["byte"] ["byte"] (fnScope (top 20)) := fnScope_by (by decide +kernel)
  refine cal0 F b .nil sc (fun vs H Q E h => ?_) (fun cdv A' outer s H vs Q E hr h => ?_)
  · obtain ⟨c, rfl, _⟩ := h
    rfl
  · obtain ⟨c, rfl, k⟩ := h
    refine ⟨_, pss_cons (ps_if (pt_cmpR op_eq (pv 0) pe_int (nomark _)) (pss_one (ps_ret pe_str)) pss_nil)
      (pss_cons (ps_if (pt_cmpR op_eq (pv 0) pe_int (nomark _)) (pss_one (ps_ret pe_str)) pss_nil)
      (pss_cons (ps_if (pt_cmpR op_eq (pv 0) pe_int (nomark _)) (pss_one (ps_ret pe_str)) pss_nil)
      (pss_cons (ps_if (pt_chain op_le op_le pe_int (pv 0) pe_int) (pss_one (ps_ret (pe_ix ix_str (pe_gc (by rfl) T.DIGITS) (pe_op op_sub (pv 0) pe_int) (fun _ _ => rfl)))) pss_nil)
      (pss_cons (ps_if (pt_chain op_le op_le pe_int (pv 0) pe_int) (pss_one (ps_ret (pe_ix ix_str (pe_gc (by rfl) T.LETTERS) (pe_op op_sub (pv 0) pe_int) (fun _ _ => rfl)))) pss_nil)
      (pss_one (ps_ret pe_str)))))), ?_⟩
    unfold sgn at k
    have dI : ∀ {m : Int} {n : Nat}, m = (n : Int) → (decide (V.int (c : Int) = V.int m) = decide (c = n)) := fun {m n} e => by
      rw [Bool.eq_iff_iff, decide_eq_true_eq, decide_eq_true_eq, e]
      constructor
      · intro h; have := V.int.inj h; omega
      · intro h; rw [h]
    refine ⟨_, rfl, rfl, _, rfl, if_of (fun d => ?_) (fun d => ?_)⟩
    · rw [dI (m := 10) (n := 10) rfl] at d
      rw [if_pos (of_decide_eq_true d)] at k
      exact k
    rw [dI (m := 10) (n := 10) rfl] at d
    rw [if_neg (of_decide_eq_false d)] at k
    refine ⟨_, rfl, rfl, _, rfl, if_of (fun d => ?_) (fun d => ?_)⟩
    · rw [dI (m := 32) (n := 32) rfl] at d
      rw [if_pos (of_decide_eq_true d)] at k
      exact k
    rw [dI (m := 32) (n := 32) rfl] at d
    rw [if_neg (of_decide_eq_false d)] at k
    refine ⟨_, rfl, rfl, _, rfl, if_of (fun d => ?_) (fun d => ?_)⟩
    · rw [dI (m := 61) (n := 61) rfl] at d
      rw [if_pos (of_decide_eq_true d)] at k
      exact k
    rw [dI (m := 61) (n := 61) rfl] at d
    rw [if_neg (of_decide_eq_false d)] at k
    -- letters
    have letters : ∀ k' : Q (.str (S [if 97 ≤ c ∧ c ≤ 122 then c else 63])) H, (tSeq (tIfS (tTest (tChain (rI0 fun i j => .bl (decide (i ≤ j))) (rI0 fun i j => .bl (decide (i ≤ j))) (tC (.int 97)) (tVar 0) (tC (.int 122)))) (tRet (tOp rIxS (tC (.str "abcdefghijklmnopqrstuvwxyz")) (tOp (rI0 fun i j => .int (i - j)) (tVar 0) (tC (.int 97))))) tNext) (tRet (tC (.str "?"))))
        { nx := fun _ H' => Q .non H', rt := Q } [some (.int (c : Nat))] H := by
      intro k'
      refine ⟨_, rfl, _, _, rfl, rfl, _, rfl, if_of (fun d1 => ?_) (fun d1 => ?_)⟩
      · refine ⟨_, _, rfl, rfl, _, rfl, if_of (fun d2 => ?_) (fun d2 => ?_)⟩
        · have d1 := of_decide_eq_true d1
          have d2 := of_decide_eq_true d2
          have hc : 97 ≤ c ∧ c ≤ 122 := by omega
          rw [if_pos hc] at k'
          have tab : ∀ i, i < 26 → (("abcdefghijklmnopqrstuvwxyz" : Str).cps.toList)[i]? = some (97 + i) := by decide +kernel
          refine ⟨_, rfl, _, _, rfl, rfl, _, _, c, rfl, rfl, (by show 26 ≤ sizeLine; decide), ?_, k'⟩
          rw [show ((c : Int) - 97) = ((c - 97 : Nat) : Int) by omega]
          exact atI_nat (by rw [tab (c - 97) (by omega)]; congr 1; omega)
        · have d2 := of_decide_eq_false d2
          rw [if_neg (by omega)] at k'
          exact k'
      · have d1 := of_decide_eq_false d1
        rw [if_neg (by omega)] at k'
        exact ⟨_, rfl, if_false_of rfl k'⟩
    refine ⟨_, rfl, _, _, rfl, rfl, _, rfl, if_of (fun d1 => ?_) (fun d1 => ?_)⟩
    · refine ⟨_, _, rfl, rfl, _, rfl, if_of (fun d2 => ?_) (fun d2 => ?_)⟩
      · have d1 := of_decide_eq_true d1
        have d2 := of_decide_eq_true d2
        rw [if_pos (by omega)] at k
        have tab : ∀ i, i < 10 → (("0123456789" : Str).cps.toList)[i]? = some (48 + i) := by decide +kernel
        refine ⟨_, rfl, _, _, rfl, rfl, _, _, c, rfl, rfl, (by show 10 ≤ sizeLine; decide), ?_, k⟩
        rw [show ((c : Int) - 48) = ((c - 48 : Nat) : Int) by omega]
        exact atI_nat (by rw [tab (c - 48) (by omega)]; congr 1; omega)
      · have d2 := of_decide_eq_false d2
        rw [if_neg (by omega)] at k
        exact letters k
    · have d1 := of_decide_eq_false d1
      rw [if_neg (by omega)] at k
      exact ⟨_, rfl, if_false_of rfl (letters k)⟩
theorem ok_words_of (T : Tp K mg A) {f : Addr} {fd : FuncData} (F : Def K mg "words_of" (top 21) f fd) (b : Binds K fd ["row"] []) : Cal P w K mg base 1 "words_of" spWordsOf [] := by
  have sc : FnScope ["row", "word"] ["row"] (fnScope (top 21)) := fnScope_by (by decide +kernel)
  refine cal0 F b .nil sc (fun vs H Q E h => ?_) (fun cdv A' outer s H vs Q E hr h => ?_)
  · obtain ⟨a, rfl, _⟩ := h
    rfl
  · obtain ⟨a, rfl, la, k⟩ := h
    refine ⟨_, pss_one (ps_ret (pe_lc (own := [("word", 1)]) (g := gName 1) (tt := tTest (tOp rNe (tVar 1) (tC (.str "")))) rfl sc.nd (pi_list (pe_split (pv 0) pe_str)) (blkOk_by (N := ["row", "word"]) (sc := fnScope (top 21)) (by decide +kernel)) (fun _ _ _ _ _ => pg_name (i := 1) sc.nd rfl (Or.inl rfl)) (fun _ _ _ _ _ => pts_one (pt_cmpR op_ne (pv 1) pe_str (nomark _))) (fun _ _ _ _ _ => pv 1))), ?_⟩
    refine ⟨_, rfl, ⟨_, rfl⟩, S a, " ", rfl, rfl, (by decide +kernel), (by rw [S_len]; show _ ≤ 2 ^ 24; omega), fun pl hpl => ?_⟩
    have esp : (Txt.split (S a) " ").map V.str = strV (TL.spl [32] 0 [] a) := by
      rw [show (" " : Str) = S [32] by decide +kernel, split_S (by decide) (by decide), List.map_map]
      rfl
    rw [esp]
    generalize hws : TL.spl [32] 0 [] a = ws at *
    have lw : ws.length ≤ 1001 := by
      rw [← hws]
      have : ∀ (l acc : List Nat), (TL.spl [32] 0 acc l).length ≤ l.length + 1 := by
        intro l
        induction l with
        | nil => intro acc; rw [TL.spl_nil]; exact Nat.le_refl _
        | cons x l ih =>
          intro acc
          by_cases h : x = 32
          · rw [TL.spl_hit (by rw [pre1, decide_eq_true h])]
            show (acc :: TL.spl [32] 0 [] l).length ≤ _
            rw [List.length_cons, List.length_cons]
            have := ih []
            omega
          · rw [TL.spl_miss (by rw [pre1, decide_eq_false h]), List.length_cons]
            have := ih (acc ++ [x])
            omega
      have := this a []
      omega
    refine ⟨pl, rfl, ⟨_, SqL.of upd_same⟩, fun D hD => ?_⟩
    have nD : D ≠ pl := (free_put hD).1
    refine lc_it (walk_list (K := K) (a := pl) (xs := strV ws)) (fun i H' => Same H H' ∧ H' pl = some (.lst (strV ws)) ∧ H' D = some (.lst (strV ((ws.take i).filter (fun w => !decide (w = []))))))
      ⟨(Same.new hpl).trans (Same.new hD), (upd_ne nD.symm).trans upd_same, upd_same⟩ (fun i H' _ B => SqL.of B.2.1) ?_ ?_
    · rintro i u H2 H3 hi ⟨b1, b2, b3⟩ ⟨rfl, hu⟩
      rw [List.length_map] at hi
      obtain ⟨x, hx⟩ : ∃ x, ws[i]? = some x := ⟨_, List.getElem?_eq_getElem hi⟩
      have : u = V.str (S x) := by
        rw [List.getElem?_map, hx] at hu; exact (Option.some.inj hu).symm
      subst this
      refine ⟨rfl, _, rfl, rfl, _, rfl, ?_⟩
      have ee : (!decide (V.str (S x) = V.str "")) = !decide (x = []) := by
        congr 1
        rw [Bool.eq_iff_iff, decide_eq_true_eq, decide_eq_true_eq, show ("" : Str) = S [] by decide +kernel]
        constructor
        · intro h; exact S_inj (V.str.inj h)
        · intro h; rw [h]
      show (if (!decide (V.str (S x) = V.str "")) = true then _ else _)
      rw [ee]
      refine if_of (fun c => ?_) (fun c => ?_)
      · refine ⟨_, rfl, _, b3, (by
          rw [List.length_map]
          have := List.length_filter_le (fun w => !decide (w = ([] : List Nat))) (ws.take i)
          rw [List.length_take] at this
          show _ < 2 ^ 24
          omega), ?_⟩
        refine ⟨Same.put b1 ((Same.new hpl).free hD), (upd_ne nD.symm).trans b2, upd_same.trans ?_⟩
        rw [take_next hx, List.filter_append, List.filter_cons, if_pos c]
        show some (HO.lst _) = some (HO.lst (strV (_ ++ [x])))
        congr 2
        show _ = List.map _ (_ ++ [x])
        rw [List.map_append]
        rfl
      · refine ⟨b1, b2, ?_⟩
        rw [take_next hx, List.filter_append, List.filter_cons, if_neg (by rw [c]; decide)]
        rw [List.filter_nil, List.append_nil]
        exact b3
    · rintro H2 ⟨b1, b2, b3⟩
      rw [List.length_map, List.take_length, ← hws, spl_words a []] at b3
      exact k D H2 b1 ((Same.new hpl).free hD) b3
end
end Pf
namespace Pf
open PySem PySem.Spec PyProof.Rows L2 SX
open C8 (Cal Met Mak Def cal0 met0 mak0 pe_c pe_mk pe_mt pe_mt0 pe_gc fnScope fnBody fnArgs fnScope_by)
/-! ### words: the mathematics -/
def Low (w : List Nat) : Prop := w.length ≤ 1000 ∧ ∀ c ∈ w, c < 128
theorem digit_low : ∀ c, c < 128 → Unicode.isDigit c = Ty01.digit c := by decide +kernel
theorem isdigit_S {w : List Nat} (h : Low w) : Txt.isdigit (S w) = (!decide (w = []) && w.all Ty01.digit) := by
  show (decide ((S w).length > 0) && (S w).cps.all Unicode.isDigit) = _
  rw [S_len]
  congr 1
  · cases w <;> simp
  · rw [← Array.all_toList]
    show w.all Unicode.isDigit = w.all Ty01.digit
    rw [Bool.eq_iff_iff, List.all_eq_true, List.all_eq_true]
    constructor
    · intro q c hc; rw [← digit_low c (h.2 c hc)]; exact q c hc
    · intro q c hc; rw [digit_low c (h.2 c hc)]; exact q c hc
theorem number_some (w : List Nat) : (Ty01.number w).isSome = ((!decide (w = []) && w.all Ty01.digit) && (!decide (2 < w.length) && (decide (w.length = 1) || !decide (w.head? = some 48)))) := by
  unfold Ty01.number
  cases w with
  | nil => rfl
  | cons x w =>
    by_cases h1 : 2 < (x :: w).length
    · rw [if_pos (.inr (.inl h1)), decide_eq_true h1]; simp
    · by_cases h2 : (x :: w).all Ty01.digit = false
      · rw [if_pos (.inr (.inr (.inl h2))), h2]; simp
      · have h2 : (x :: w).all Ty01.digit = true := by simpa using h2
        by_cases h3 : 1 < (x :: w).length ∧ (x :: w).head? = some 48
        · rw [if_pos (.inr (.inr (.inr h3))), h2, decide_eq_true h3.2, decide_eq_false (by omega : ¬ (x :: w).length = 1)]; simp
        · rw [if_neg (by rintro (z | z | z | z); cases z; exact h1 z; rw [h2] at z; cases z; exact h3 z), h2, decide_eq_false h1]
          by_cases h4 : (x :: w).length = 1
          · rw [decide_eq_true h4]; simp
          · have h5 : 0 < (x :: w).length := by simp
            rw [decide_eq_false (fun z => h3 ⟨by omega, z⟩)]; simp
theorem str_dec (x y : List Nat) : decide (V.str (S x) = V.str (S y)) = decide (x = y) := by
  rw [Bool.eq_iff_iff, decide_eq_true_eq, decide_eq_true_eq]
  exact ⟨fun h => S_inj (V.str.inj h), fun h => by rw [h]⟩
theorem inV_strs (x : List Nat) (l : List (List Nat)) : inV (V.str (S x)) (strV l) = l.contains x := by
  unfold inV
  rw [List.any_map, Bool.eq_iff_iff, List.any_eq_true, List.contains_iff_mem]
  constructor
  · rintro ⟨y, hy, h⟩
    have h : (S y == S x) = true := h
    rw [S_beq_eq] at h
    rw [← of_decide_eq_true h]; exact hy
  · intro h
    exact ⟨x, h, by show (S x == S x) = true; exact beq_self_eq_true _⟩
def partsN : List (List Nat × V) := [([97, 100, 100], .int 2), ([115, 117, 98], .int 2), ([109, 117, 108], .int 2), ([108, 101, 115, 115], .int 2), ([115, 97, 109, 101], .int 2), ([99, 111, 110, 115], .int 2), ([105, 102], .int 3), ([117, 110, 108, 101, 115, 115], .int 3), ([104, 101, 97, 100], .int 1), ([116, 97, 105, 108], .int 1), ([105, 115, 110, 105, 108], .int 1), ([110, 105, 108], .int 0)]
theorem partsL_is : partsL = partsN.map fun q => (S q.1, q.2) := by decide +kernel
theorem lookup_S : ∀ (l : List (List Nat × V)) (w : List Nat), (l.map fun q => (S q.1, q.2)).lookup (S w) = l.lookup w
  | [], _ => rfl
  | (k, v) :: l, w => by
    rw [List.map_cons, List.lookup_cons, List.lookup_cons, S_beq, lookup_S l w]
theorem lookup_mem : ∀ (l : List (List Nat × V)) (w : List Nat), (l.lookup w).isSome = (l.map (·.1)).contains w
  | [], _ => rfl
  | (k, v) :: l, w => by
    rw [List.lookup_cons, List.map_cons, List.contains_cons]
    cases h : w == k
    · simp only [Bool.false_or]; exact lookup_mem l w
    · rfl
theorem parts_some (w : List Nat) : (partsL.lookup (S w)).isSome = Ty01.opWords.contains w := by
  rw [partsL_is, lookup_S, lookup_mem, Bool.eq_iff_iff, List.contains_iff_mem, List.contains_iff_mem]
  have h1 : ∀ k ∈ partsN.map (·.1), k ∈ Ty01.opWords := by decide
  have h2 : ∀ k ∈ Ty01.opWords, k ∈ partsN.map (·.1) := by decide
  exact ⟨fun h => h1 w h, fun h => h2 w h⟩
theorem relO_some {a : Option V} {b : Option Value} (h : RelO a b) : b.isSome = a.isSome := by
  cases a <;> cases b <;> first | rfl | exact h.elim
def isLow (c : Nat) : Bool := decide (97 ≤ c) && decide (c ≤ 122)
theorem letters_in : ∀ c, c < 128 → decide (c ∈ ("abcdefghijklmnopqrstuvwxyz" : Str).cps.toList) = isLow c := by decide +kernel
theorem nlb_in (c : Nat) : decide (c ∈ ("nlb" : Str).cps.toList) = (Ty01.shapeOf c).isSome := by
  have : ("nlb" : Str).cps.toList = [110, 108, 98] := by decide +kernel
  rw [this]
  unfold Ty01.shapeOf
  rw [Bool.eq_iff_iff, decide_eq_true_eq]
  simp only [List.mem_cons, List.not_mem_nil, or_false]
  by_cases h1 : c = 110
  · simp [h1]
  · by_cases h2 : c = 108
    · simp [h2]
    · by_cases h3 : c = 98
      · simp [h3]
      · simp [h1, h2, h3]
def spIsNumber : Sp := fun vs H Q _ => ∃ x : List Nat, vs = [.str (S x)] ∧ Low x ∧ Q (.bl (Ty01.number x).isSome) H
def spIsName : Sp := fun vs H Q _ => ∃ x : List Nat, vs = [.str (S x)] ∧ Low x ∧ ∀ H', Same H H' → Q (.bl (Ty01.isName x)) H'
def spAreShapes : Sp := fun vs H Q _ => ∃ x : List Nat, vs = [.str (S x)] ∧ Low x ∧ ∀ H', Same H H' → Q (.bl (areShB x)) H'
def spIsRow : Sp := fun vs H Q _ => ∃ (a : Addr) (ws : List (List Nat)), vs = [.ref a] ∧ H a = some (.lst (strV ws)) ∧ (∀ x ∈ ws, Low x) ∧ ∀ H', Same H H' → Q (.bl (isRowB ws)) H'
section
variable {P : PySem.Program} {w : World} {K : PySem.W.Frag} {mg : Str → Option Value} {base : Heap} {A : Ad}
theorem ok_rows_of (T : Tp K mg A) (cS : Cal P w K mg base 1 "sign" spSign []) (cW : Cal P w K mg base 1 "words_of" spWordsOf []) {f : Addr} {fd : FuncData} (F : Def K mg "rows_of" (top 22) f fd) (b : Binds K fd ["numbers"] []) : Cal P w K mg base 2 "rows_of" spRowsOf [] := by
  have sc : FnScope ["numbers", "text", "byte", "row"] ["numbers"] (fnScope (top 22)) := fnScope_by (by decide +kernel)
  refine cal0 F b .nil sc (fun vs H Q E h => ?_) (fun cdv A' outer s H vs Q E hr h => ?_)
  · obtain ⟨a, ns, rfl, _⟩ := h
    rfl
  · obtain ⟨a, ns, rfl, ha, ln, k⟩ := h
    refine ⟨_, pss_cons (ps_set (i := 1) sc.nd rfl (.inl rfl) (pe_join pe_str (pe_lc (own := [("byte", 2)]) (g := gName 2) (tt := tYes) rfl sc.nd (pi_list (pv 0)) (blkOk_by (N := ["numbers", "text", "byte", "row"]) (sc := fnScope (top 22)) (by decide +kernel)) (fun _ _ _ _ _ => pg_name (i := 2) sc.nd rfl (Or.inl rfl)) (fun _ _ _ _ _ => pts_nil) (fun _ _ _ _ _ => pe_c cS hr (by decide) (by rfl) (pa_cons (pv 2) pa_nil)))))
      (pss_one (ps_ret (pe_lc (own := [("row", 3)]) (g := gName 3) (tt := tYes) rfl sc.nd (pi_list (pe_split (pv 1) pe_str)) (blkOk_by (N := ["numbers", "text", "byte", "row"]) (sc := fnScope (top 22)) (by decide +kernel)) (fun _ _ _ _ _ => pg_name (i := 3) sc.nd rfl (Or.inl rfl)) (fun _ _ _ _ _ => pts_nil) (fun _ _ _ _ _ => pe_c cW hr (by decide) (by rfl) (pa_cons (pv 3) pa_nil))))), ?_⟩
    refine ⟨⟨_, rfl⟩, _, rfl, a, rfl, ⟨_, SqL.of ha⟩, fun D hD => ?_⟩
    refine lc_it (walk_list (K := K) (a := a) (xs := iV ns)) (fun i H' => Same H H' ∧ H' D = some (.lst (strV ((ns.take i).map fun c => [sgn c]))))
      ⟨Same.new hD, upd_same⟩ (fun i H' _ B => SqL.of (B.1 _ _ ha)) ?_ ?_
    · rintro i u H2 H3 hi ⟨b1, b2⟩ ⟨rfl, hu⟩
      rw [List.length_map] at hi
      obtain ⟨x, hx⟩ : ∃ x, ns[i]? = some x := ⟨_, List.getElem?_eq_getElem hi⟩
      have : u = V.int (x : Nat) := by rw [iV_get hx] at hu; exact (Option.some.inj hu).symm
      subst this
      refine ⟨rfl, _, rfl, x, rfl, _, b2, (by rw [List.length_map, List.length_map, List.length_take]; show _ < 2 ^ 24; omega), ?_⟩
      refine ⟨Same.put b1 hD, upd_same.trans ?_⟩
      rw [take_next hx, List.map_append]
      congr 2
      show _ = List.map _ (_ ++ [[sgn x]])
      rw [List.map_append]
      rfl
    · rintro H2 ⟨b1, b2⟩
      rw [List.length_map, List.take_length] at b2
      have eys : strV (ns.map fun c => [sgn c]) = ((ns.map fun c => [sgn c]).map S).map V.str := by rw [List.map_map]; rfl
      rw [eys] at b2
      refine ⟨"", D, (ns.map fun c => [sgn c]).map S, rfl, rfl, .inl (SqL.of b2), ?_, ?_⟩
      · rw [lens, List.length_map, List.length_map, List.map_map]
        have e1 : (List.map ((fun x => x.length) ∘ fun c => [sgn c]) ns).sum = ns.length := by
          clear ha b2 eys ln k
          induction ns with
          | nil => rfl
          | cons x l ih => rw [List.map_cons, List.sum_cons, ih, List.length_cons]; show 1 + _ = _; omega
        rw [e1]
        show ns.length + ns.length * 0 ≤ _
        omega
      · have ej : Txt.join "" ((ns.map fun c => [sgn c]).map S) = S (ns.map sgn) := by
          rw [show ("" : Str) = S [] by decide +kernel, join_S]
          congr 2
          have := join1 (ns.map sgn)
          rw [List.map_map] at this
          exact this
        rw [ej]
        generalize hts : ns.map sgn = ts at *
        have lt : ts.length ≤ 600 := by rw [← hts, List.length_map]; exact ln
        refine ⟨_, rfl, ⟨_, rfl⟩, S ts, "\n", rfl, rfl, (by decide +kernel), (by rw [S_len]; show _ ≤ 2 ^ 24; omega), fun pl hpl => ?_⟩
        have esp : (Txt.split (S ts) "\n").map V.str = strV (Ty01.rows ts) := by
          rw [show ("\n" : Str) = S [10] by decide +kernel, split_S (by decide) (by decide), List.map_map, spl_rows ts []]
          rfl
        rw [esp]
        obtain ⟨rl, rn⟩ := rowsFrom_len ts []
        refine ⟨pl, rfl, ⟨_, SqL.of upd_same⟩, fun D2 hD2 => ?_⟩
        have nD : D2 ≠ pl := (free_put hD2).1
        have s3 : Same H (upd H2 pl (.lst (strV (Ty01.rows ts)))) := b1.trans (Same.new hpl)
        refine lc_it (walk_list (K := K) (a := pl) (xs := strV (Ty01.rows ts))) (fun i H' => Bld (WordsAt H) (upd H2 pl (.lst (strV (Ty01.rows ts)))) H' D2 (((Ty01.rows ts).take i).map Ty01.words))
          (Bld.nil (Same.refl _) hD2) (fun i H' _ B => SqL.of (B.same _ _ upd_same)) ?_ ?_
        · rintro i u H4 H5 hi B ⟨rfl, hu⟩
          rw [List.length_map] at hi
          obtain ⟨x, hx⟩ : ∃ x, (Ty01.rows ts)[i]? = some x := ⟨_, List.getElem?_eq_getElem hi⟩
          have : u = V.str (S x) := by
            rw [List.getElem?_map, hx] at hu; exact (Option.some.inj hu).symm
          subst this
          have lx := rl x (List.mem_of_getElem? hx)
          simp only [List.length_nil] at lx
          refine ⟨rfl, _, rfl, x, rfl, (by omega), fun q H6 s6 nq hq => ?_⟩
          obtain ⟨us, q1, q2⟩ := B.ex
          have lu : us.length ≤ 700 := by
            rw [← Paired.length q2, List.length_map, List.length_take]
            have : (Ty01.rows ts).length ≤ ts.length + 1 := rn
            omega
          refine ⟨us, s6 _ _ q1, (by show us.length < 2 ^ 24; omega), ?_⟩
          rw [take_next hx, List.map_append]
          have ne : q ≠ D2 := fun z => by rw [z, q1] at nq; cases nq
          exact B.add (WordsAt.mn H) q1 (but_mono D2 s6) ⟨q, rfl, (s3.trans B.same).free nq, (but_ne ne).trans hq⟩
        · rintro H4 B
          rw [List.length_map, List.take_length] at B
          obtain ⟨us, q1, q2⟩ := B.out (WordsAt.mn H)
          exact k D2 H4 us (s3.trans B.same) (s3.free hD2) q1 q2
theorem ok_is_number (T : Tp K mg A) {f : Addr} {fd : FuncData} (F : Def K mg "is_number" (top 23) f fd) (b : Binds K fd ["word"] []) : Cal P w K mg base 1 "is_number" spIsNumber [] := by
  have sc : FnScope ["word"] ["word"] (fnScope (top 23)) := fnScope_by (by decide +kernel)
  refine cal0 F b .nil sc (fun vs H Q E h => ?_) (fun cdv A' outer s H vs Q E hr h => ?_)
  · obtain ⟨x, rfl, _⟩ := h
    rfl
  · obtain ⟨x, rfl, lo, k⟩ := h
    refine ⟨_, pss_cons (ps_if (PW.pt (pw_or (pt_not (pt_val (pe_m0 PySem.F.slot_str_isdigit PySem.F.type_str_isdigit mt_isdigit (pv 0)))) (pw_or1 (pt_cmpR op_gt (pe_callB call_len_str (by rfl) T.b_len PySem.boot_len (pa_cons (pv 0) pa_nil)) pe_int (nomark _))))) (pss_one (ps_ret pe_bl)) pss_nil)
      (pss_one (ps_ret (pe_or (pe_cmpR op_eq (pe_callB call_len_str (by rfl) T.b_len PySem.boot_len (pa_cons (pv 0) pa_nil)) pe_int (nomark _)) (pe_one (pe_cmpR op_ne (pe_ix ix_str (pv 0) pe_int (fun _ _ => rfl)) pe_str (nomark _)))))), ?_⟩
    rw [number_some] at k
    have lx := lo.1
    have ls : (S x).length ≤ sizeLine := by rw [S_len]; show _ ≤ 2 ^ 24; omega
    refine ⟨_, rfl, ⟨_, rfl⟩, S x, rfl, rfl, trivial, _, rfl, ?_⟩
    rw [isdigit_S lo]
    cases hd : !decide (x = []) && x.all Ty01.digit with
    | false =>
      rw [hd] at k
      exact if_true_of rfl (if_true_of rfl k)
    | true =>
      rw [hd, Bool.true_and] at k
      refine if_false_of rfl ⟨_, rfl, S x, rfl, ls, _, _, rfl, rfl, _, rfl, ?_⟩
      rw [S_len]
      refine if_of (fun c => ?_) (fun c => ?_)
      · have c : 2 < x.length := by have := of_decide_eq_true c; omega
        rw [decide_eq_true c] at k
        exact k
      · have c : ¬ 2 < x.length := by have := of_decide_eq_false c; omega
        rw [decide_eq_false c] at k
        refine ⟨_, rfl, S x, rfl, ls, rfl, _, rfl, ?_⟩
        rw [S_len]
        have e1 : decide (V.int (x.length : Nat) = V.int 1) = decide (x.length = 1) := by
          rw [Bool.eq_iff_iff, decide_eq_true_eq, decide_eq_true_eq]
          constructor
          · intro h; have := V.int.inj h; omega
          · intro h; rw [h]; rfl
        rw [e1]
        refine if_of (fun d => ?_) (fun d => ?_)
        · rw [d] at k
          exact k
        · rw [d] at k
          cases x with
          | nil => cases hd
          | cons y x =>
            refine ⟨_, rfl, _, 0, y, rfl, rfl, ls, atI_nat (j := 0) rfl, rfl, ?_⟩
            have e2 : decide (V.str ⟨#[y]⟩ = V.str "0") = decide ((y :: x).head? = some 48) := by
              rw [show V.str ⟨#[y]⟩ = V.str (S [y]) by rfl, show ("0" : Str) = S [48] by decide +kernel, str_dec]
              rw [Bool.eq_iff_iff, decide_eq_true_eq, decide_eq_true_eq]
              constructor
              · intro h; injection h with h; rw [h]; rfl
              · intro h; have := Option.some.inj h; rw [this]
            rw [e2]
            exact k
theorem all_letters {x : List Nat} (h : Low x) : (x.map fun c => decide (c ∈ ("abcdefghijklmnopqrstuvwxyz" : Str).cps.toList)).all id = x.all isLow := by
  rw [List.all_map, Bool.eq_iff_iff, List.all_eq_true, List.all_eq_true]
  constructor
  · intro q c hc; rw [← letters_in c (h.2 c hc)]; exact q c hc
  · intro q c hc; show decide _ = true; rw [letters_in c (h.2 c hc)]; exact q c hc
theorem ok_is_name (T : Tp K mg A) (U : Tq K mg w) {f : Addr} {fd : FuncData} (F : Def K mg "is_name" (top 24) f fd) (b : Binds K fd ["word"] []) : Cal P w K mg base 1 "is_name" spIsName [] := by
  have sc : FnScope ["word", "letter"] ["word"] (fnScope (top 24)) := fnScope_by (by decide +kernel)
  obtain ⟨pd, pes, pn, pm, pD, pP⟩ := U.PARTS
  refine cal0 F b .nil sc (fun vs H Q E h => ?_) (fun cdv A' outer s H vs Q E hr h => ?_)
  · obtain ⟨x, rfl, _⟩ := h
    rfl
  · obtain ⟨x, rfl, lo, k⟩ := h
    refine ⟨_, pss_cons (ps_if (PW.pt (pw_or (pt_cmpR op_lt (pe_callB call_len_str (by rfl) T.b_len PySem.boot_len (pa_cons (pv 0) pa_nil)) pe_int (nomark _)) (pw_or (pt_cmpR op_gt (pe_callB call_len_str (by rfl) T.b_len PySem.boot_len (pa_cons (pv 0) pa_nil)) pe_int (nomark _)) (pw_or (pt_cmpR op_in_seq (pv 0) (pe_tup (pa_cons pe_str (pa_cons pe_str pa_nil))) (by rfl)) (pw_or1 (pt_cmpR (op_in_kd pD) (pv 0) (pe_gc (v := .ref pd) (by rfl) ⟨_, pm, rfl⟩) (by rfl))))))) (pss_one (ps_ret pe_bl)) pss_nil)
      (pss_one (ps_ret (pe_callB (cr_all rfl) (by rfl) T.b_all (by decide +kernel) (pa_cons (pe_lc (own := [("letter", 1)]) (g := gName 1) (tt := tYes) rfl sc.nd (pi_str (pv 0)) (blkOk_by (N := ["word", "letter"]) (sc := fnScope (top 24)) (by decide +kernel)) (fun _ _ _ _ _ => pg_name (i := 1) sc.nd rfl (Or.inl rfl)) (fun _ _ _ _ _ => pts_nil) (fun _ _ _ _ _ => pe_cmpR op_in_sign (pv 1) (pe_gc (by rfl) T.LETTERS) rfl)) pa_nil)))), ?_⟩
    unfold Ty01.isName at k
    have lx := lo.1
    have ls : (S x).length ≤ sizeLine := by rw [S_len]; show _ ≤ 2 ^ 24; omega
    refine ⟨_, rfl, S x, rfl, ls, _, _, rfl, rfl, _, rfl, ?_⟩
    rw [S_len]
    refine if_of (fun c => ?_) (fun c => ?_)
    · have c : ¬ 2 ≤ x.length := by have := of_decide_eq_true c; omega
      rw [decide_eq_false c] at k
      exact if_true_of rfl (k H (Same.refl _))
    · have c : 2 ≤ x.length := by have := of_decide_eq_false c; omega
      rw [decide_eq_true c, Bool.true_and] at k
      refine ⟨_, rfl, S x, rfl, ls, _, _, rfl, rfl, _, rfl, ?_⟩
      rw [S_len]
      refine if_of (fun c => ?_) (fun c => ?_)
      · have c : ¬ x.length ≤ 8 := by have := of_decide_eq_true c; omega
        rw [decide_eq_false c] at k
        exact if_true_of rfl (k H (Same.refl _))
      · have c : x.length ≤ 8 := by have := of_decide_eq_false c; omega
        rw [decide_eq_true c, Bool.true_and] at k
        refine ⟨_, rfl, (by show 2 ≤ sizeLine; decide), fun t ht => ?_⟩
        refine ⟨t, _, rfl, .inr (SqT.of upd_same), rfl, rfl, _, rfl, ?_⟩
        have e1 : inV (V.str (S x)) [.str "fun", .str "test"] = ([Ty01.wFun, Ty01.wTest] : List (List Nat)).contains x := by
          rw [show ([V.str "fun", V.str "test"] : List V) = strV [Ty01.wFun, Ty01.wTest] by decide +kernel, inV_strs]
        show (if inV (V.str (S x)) [.str "fun", .str "test"] = true then _ else _)
        rw [e1]
        have ec : (Ty01.wFun :: Ty01.wTest :: Ty01.opWords).contains x = (([Ty01.wFun, Ty01.wTest] : List (List Nat)).contains x || Ty01.opWords.contains x) := by
          rw [List.contains_cons, List.contains_cons, List.contains_cons, List.contains_cons]
          simp [Bool.or_assoc]
        rw [ec] at k
        refine if_of (fun c => ?_) (fun c => ?_)
        · rw [c] at k
          have k := k _ (Same.new (o := .tup [.str "fun", .str "test"]) ht)
          rw [show ((x.all fun c => decide (97 ≤ c) && decide (c ≤ 122)) && !(true || Ty01.opWords.contains x)) = false by simp] at k
          exact if_true_of rfl k
        · rw [c, Bool.false_or] at k
          obtain ⟨r, r1, r2⟩ := ns_look pD.at_ pP (S x)
          refine ⟨_, rfl, S x, r, rfl, rfl, r1, _, rfl, ?_⟩
          rw [relO_some r2, parts_some]
          refine if_of (fun c => ?_) (fun c => ?_)
          · rw [c] at k
            have k := k _ (Same.new (o := .tup [.str "fun", .str "test"]) ht)
            rw [show ((x.all fun c => decide (97 ≤ c) && decide (c ≤ 122)) && !true) = false by simp] at k
            exact k
          · rw [c] at k
            refine ⟨_, rfl, S x, rfl, fun D hD => ?_⟩
            have ecps : (S x).cps.size = x.length := by simp [S]
            refine lc_it (walk_str (z := S x)) (fun i H' => Same H H' ∧ H' D = some (.lst (((x.take i).map fun c => decide (c ∈ ("abcdefghijklmnopqrstuvwxyz" : Str).cps.toList)).map V.bl)))
              ⟨(Same.new ht).trans (Same.new hD), upd_same⟩ (fun _ _ _ _ => trivial) ?_ ?_
            · rintro i u H2 H3 hi ⟨b1, b2⟩ ⟨rfl, ch, hc, rfl⟩
              rw [ecps] at hi
              have hc : x[i]? = some ch := by simpa [S] using hc
              refine ⟨rfl, _, rfl, ch, _, rfl, rfl, _, b2, (by rw [List.length_map, List.length_map, List.length_take]; show _ < 2 ^ 24; omega), ?_⟩
              refine ⟨Same.put b1 ((Same.new ht).free hD), upd_same.trans ?_⟩
              rw [take_next hc, List.map_append, List.map_append]
              rfl
            · rintro H2 ⟨b1, b2⟩
              rw [ecps, List.take_length] at b2
              refine ⟨D, _, rfl, SqL.of b2, ?_⟩
              have k := k H2 b1
              rw [show ((x.all fun c => decide (97 ≤ c) && decide (c ≤ 122)) && !false) = x.all isLow by simp only [Bool.not_false, Bool.and_true]; rfl] at k
              rw [all_letters lo]
              exact k
end
end Pf
namespace Pf
open PySem PySem.Spec PyProof.Rows L2 SX
open C8 (Cal Met Mak Def cal0 met0 mak0 pe_c pe_mk pe_mt pe_mt0 pe_gc fnScope fnBody fnArgs fnScope_by)
def FunAt (A : Ad) (H : Hp) (q : Ty01.Fun × Nat) (v : V) : Prop := ∃ a dx r, v = .ref a ∧ H a = some (.ins A.F dx (fF (.ref r) (.int (q.1.arity : Nat)) (.int (q.2 : Nat)))) ∧ H r = some (.tup (rowV q.1.said))
theorem FunAt.mono {A : Ad} {H H' : Hp} (e : Same H H') {q : Ty01.Fun × Nat} {v : V} (h : FunAt A H q v) : FunAt A H' q v := by
  obtain ⟨a, dx, r, h1, h2, h3⟩ := h
  exact ⟨a, dx, r, h1, e _ _ h2, e _ _ h3⟩
def FKv (A : Ad) (H : Hp) (q : Ty01.Fun × Nat) (kv : Key × V) : Prop := kv.1 = Sum.inr (S q.1.name) ∧ FunAt A H q kv.2
def FunsAt (A : Ad) (H : Hp) (d : Addr) (fs : List (Ty01.Fun × Nat)) : Prop := ∃ kvs : List (Key × V), H d = some (.dK kvs) ∧ Paired (FKv A H) fs kvs
theorem FunsAt.mono {A : Ad} {H H' : Hp} (e : Same H H') {d : Addr} {fs : List (Ty01.Fun × Nat)} (h : FunsAt A H d fs) : FunsAt A H' d fs := by
  obtain ⟨kvs, h1, h2⟩ := h
  exact ⟨kvs, e _ _ h1, Paired.mapP h2 fun _ _ z => ⟨z.1, z.2.mono e⟩⟩
theorem fl_row {r m s : V} : (fF r m s).lookup ("row" : Str) = some r := lk_here
theorem fl_many {r m s : V} : (fF r m s).lookup ("many" : Str) = some m := lk_1 (by decide +kernel)
theorem fl_start {r m s : V} : (fF r m s).lookup ("start" : Str) = some s := lk_2 (by decide +kernel) (by decide +kernel)
theorem funs_val {A : Ad} {H : Hp} (x : List Nat) : ∀ {fs : List (Ty01.Fun × Nat)} {kvs : List (Key × V)}, Paired (FKv A H) fs kvs →
    ((fs.map fun q => q.1.name).findIdx? (fun n => n == x) = none → valV kvs (Sum.inr (S x)) = none) ∧
    (∀ g, (fs.map fun q => q.1.name).findIdx? (fun n => n == x) = some g → ∃ q v, fs[g]? = some q ∧ valV kvs (Sum.inr (S x)) = some v ∧ FunAt A H q v)
  | _, _, .nil => ⟨fun _ => rfl, fun g h => by simp at h⟩
  | q :: fs, kv :: kvs, .cons ⟨h1, h2⟩ r => by
    obtain ⟨i1, i2⟩ := funs_val (A := A) (H := H) x r
    rw [List.map_cons, List.findIdx?_cons]
    by_cases hx : q.1.name = x
    · have e : kv.1 = Sum.inr (S x) := by rw [h1, hx]
      have hb : (q.1.name == x) = true := by rw [beq_iff_eq]; exact hx
      rw [hb]
      refine ⟨fun h => by simp at h, fun g h => ?_⟩
      have : g = 0 := by simpa using h.symm
      subst this
      exact ⟨q, kv.2, rfl, valV_pos e, h2⟩
    · have e : ¬ kv.1 = Sum.inr (S x) := by
        rw [h1]; intro z; exact hx (S_inj (Sum.inr.inj z))
      have hb : (q.1.name == x) = false := by rw [beq_eq_false_iff_ne]; exact hx
      rw [hb, valV_neg e]
      refine ⟨fun h => i1 (by simpa using h), fun g h => ?_⟩
      cases hf : (fs.map fun q => q.1.name).findIdx? (fun n => n == x) with
      | none => rw [hf] at h; simp at h
      | some g' =>
        rw [hf] at h
        have : g = g' + 1 := by simpa using h.symm
        subst this
        obtain ⟨q', v, z1, z2, z3⟩ := i2 g' hf
        exact ⟨q', v, z1, z2, z3⟩
def spMeaning (A : Ad) : Sp := fun vs H Q _ => ∃ (x : List Nat) (k : Nat) (d : Addr) (fs : List (Ty01.Fun × Nat)), vs = [.str (S x), .int (k : Nat), .ref d] ∧ Low x ∧ k ≤ 3 ∧ FunsAt A H d fs ∧
  (Ty01.tokOf (fs.map fun q => q.1.name) k x = none → ∀ H', Same H H' → Q .non H') ∧
  (∀ t, Ty01.tokOf (fs.map fun q => q.1.name) k x = some t → ∀ (a pl dx : Addr) (H' : Hp), Same H H' → H a = none → H pl = none → a ≠ pl →
    H' a = some (.ins A.W dx (wF (.int (kindOf t : Nat)) (whatV (fs.map (·.2)) t) (.int (Ty01.arityOf (fs.map fun q => q.1.arity) t : Nat)) (.ref pl))) → H' pl = some (.lst []) → Q (.ref a) H')
theorem make_word {A : Ad} {H1 : Hp} {k wh m : V} {Q : VK} {E : XK} (q : ∀ (a pl dx : Addr) (H' : Hp), Same H1 H' → H1 a = none → H1 pl = none → a ≠ pl → H' a = some (.ins A.W dx (wF k wh m (.ref pl))) → H' pl = some (.lst []) → Q (.ref a) H') :
    ∀ x dx, H1 x = none → H1 dx = none → dx ≠ x → spWInit A.W [.ref x, k, wh, m] (upd (upd H1 dx (.own x)) x (.ins A.W dx [])) (fun v H2 => v = .non ∧ Q (.ref x) H2) E := by
  intro x dx nx nd ne
  refine ⟨x, dx, k, wh, m, rfl, upd_same, fun H' pl npl hne h1 h2 kp => ⟨rfl, ?_⟩⟩
  exact q x pl dx H' (Same.made nx nd kp) nx (free_put (free_put npl).2).2 hne.symm h1 h2
/-! ### what a word means: the mathematics -/
theorem foldl_num : ∀ (l : List Nat) (n : Nat), l.foldl (fun n c => 10 * n + (c - 48)) n = l.foldl (fun acc c => acc * 10 + (c - 48)) n
  | [], _ => rfl
  | x :: l, n => by rw [List.foldl_cons, List.foldl_cons, Nat.mul_comm 10 n]; exact foldl_num l _
theorem number_val {w : List Nat} {n : Nat} (h : Ty01.number w = some n) : w.all (fun c => decide (48 ≤ c) && decide (c ≤ 57)) = true ∧ w ≠ [] ∧ w.length ≤ 2 ∧ NumText.digitsVal w = n := by
  unfold Ty01.number at h
  split at h
  · cases h
  · rename_i hn
    cases h
    refine ⟨?_, fun z => hn (.inl z), ?_, ?_⟩
    · cases hd : w.all Ty01.digit with
      | false => exact absurd (.inr (.inr (.inl hd))) hn
      | true => exact hd
    · have : ¬ 2 < w.length := fun z => hn (.inr (.inl z))
      omega
    · exact (foldl_num w 0).symm
theorem parts_at : ∀ o, o < 12 → partsL.lookup (opS o) = some (.int (Ty01.opArity.getD o 0 : Nat)) := by decide +kernel
theorem op_idx {x : List Nat} {o : Nat} (h : Ty01.opWords.findIdx? (fun q => q == x) = some o) : o < 12 ∧ Ty01.opWords.getD o [] = x := by
  obtain ⟨h1, h2, _⟩ := List.findIdx?_eq_some_iff_getElem.mp h
  refine ⟨h1, ?_⟩
  rw [List.getD_eq_getElem?_getD, List.getElem?_eq_getElem h1]
  exact eq_of_beq h2
theorem op_none {x : List Nat} (h : Ty01.opWords.findIdx? (fun q => q == x) = none) : Ty01.opWords.contains x = false := by
  rw [List.findIdx?_eq_none_iff] at h
  cases hc : Ty01.opWords.contains x with
  | false => rfl
  | true =>
    rw [List.contains_iff_mem] at hc
    have := h x hc
    simp at this
theorem op_yes {x : List Nat} {o : Nat} (h : Ty01.opWords.findIdx? (fun q => q == x) = some o) : Ty01.opWords.contains x = true := by
  obtain ⟨h1, h2, _⟩ := List.findIdx?_eq_some_iff_getElem.mp h
  rw [List.contains_iff_mem, ← eq_of_beq h2]
  exact List.getElem_mem h1
def argsN : List (List Nat) := [[97], [98], [99]]
theorem args_ops : ∀ x ∈ argsN, Ty01.opWords.findIdx? (fun q => q == x) = none := by decide
theorem args_nums : ∀ x ∈ argsN, Ty01.number x = none := by decide
/-- the choice by what is handed over -/
theorem arg_tok {names : List (List Nat)} {k : Nat} {x : List Nat} (hk : k ≤ 3) (h : (argsN.take k).contains x = true) : ∃ i, i < k ∧ argsN[i]? = some x ∧ (∀ m, m < i → argsN[m]? ≠ some x) ∧ Ty01.tokOf names k x = some (.arg i) := by
  have hx : x ∈ argsN.take k := List.contains_iff_mem.mp h
  have e0 : Ty01.number x = none := args_nums x (List.mem_of_mem_take hx)
  have e1 : Ty01.opWords.findIdx? (fun q => q == x) = none := args_ops x (List.mem_of_mem_take hx)
  unfold Ty01.tokOf
  rw [e0, e1]
  have hc : k = 0 ∨ k = 1 ∨ k = 2 ∨ k = 3 := by omega
  rcases hc with rfl | rfl | rfl | rfl
  · cases hx
  · have : x = [97] := by simpa [argsN] using hx
    subst this
    exact ⟨0, by omega, rfl, (fun m hm => by omega), rfl⟩
  · have : x = [97] ∨ x = [98] := by simpa [argsN] using hx
    rcases this with rfl | rfl
    · exact ⟨0, by omega, rfl, (fun m hm => by omega), rfl⟩
    · exact ⟨1, by omega, rfl, (fun m hm => by have : m = 0 := by omega
                                               subst this; decide), rfl⟩
  · have : x = [97] ∨ x = [98] ∨ x = [99] := by simpa [argsN] using hx
    rcases this with rfl | rfl | rfl
    · exact ⟨0, by omega, rfl, (fun m hm => by omega), rfl⟩
    · exact ⟨1, by omega, rfl, (fun m hm => by have : m = 0 := by omega
                                               subst this; decide), rfl⟩
    · exact ⟨2, by omega, rfl, (fun m hm => by have : m = 0 ∨ m = 1 := by omega
                                               rcases this with rfl | rfl <;> decide), rfl⟩
theorem arg_not {names : List (List Nat)} {k : Nat} {x : List Nat} (hk : k ≤ 3) (hn : Ty01.number x = none) (h : (argsN.take k).contains x = false) :
    Ty01.tokOf names k x = match Ty01.opWords.findIdx? (fun q => q == x) with
      | some o => some (.op o)
      | none => (names.findIdx? fun n => n == x).map .call := by
  have hx : ¬ x ∈ argsN.take k := fun z => by rw [List.contains_iff_mem.mpr z] at h; cases h
  unfold Ty01.tokOf
  rw [hn]
  cases Ty01.opWords.findIdx? (fun q => q == x) with
  | some o => rfl
  | none =>
    have hc : k = 0 ∨ k = 1 ∨ k = 2 ∨ k = 3 := by omega
    simp only
    rw [if_neg, if_neg, if_neg]
    · rintro ⟨e, z⟩
      apply hx
      rcases hc with rfl | rfl | rfl | rfl <;> first | omega | (rw [e]; decide)
    · rintro ⟨e, z⟩
      apply hx
      rcases hc with rfl | rfl | rfl | rfl <;> first | omega | (rw [e]; decide)
    · rintro ⟨e, z⟩
      apply hx
      rcases hc with rfl | rfl | rfl | rfl <;> first | omega | (rw [e]; decide)
section
variable {P : PySem.Program} {w : World} {K : PySem.W.Frag} {mg : Str → Option Value} {base : Heap} {A : Ad}
theorem ok_are_shapes (T : Tp K mg A) {f : Addr} {fd : FuncData} (F : Def K mg "are_shapes" (top 37) f fd) (b : Binds K fd ["word"] []) : Cal P w K mg base 1 "are_shapes" spAreShapes [] := by
  have sc : FnScope ["word", "shape"] ["word"] (fnScope (top 37)) := fnScope_by (by decide +kernel)
  refine cal0 F b .nil sc (fun vs H Q E h => ?_) (fun cdv A' outer s H vs Q E hr h => ?_)
  · obtain ⟨x, rfl, _⟩ := h
    rfl
  · obtain ⟨x, rfl, lo, k⟩ := h
    refine ⟨_, pss_one (ps_ret (pe_and (pe_cmpR op_in_seq (pe_callB call_len_str (by rfl) T.b_len PySem.boot_len (pa_cons (pv 0) pa_nil)) (pe_tup (pa_cons pe_int (pa_cons pe_int pa_nil))) (by rfl)) (pe_one (pe_callB (cr_all rfl) (by rfl) T.b_all (by decide +kernel) (pa_cons (pe_lc (own := [("shape", 1)]) (g := gName 1) (tt := tYes) rfl sc.nd (pi_str (pv 0)) (blkOk_by (N := ["word", "shape"]) (sc := fnScope (top 37)) (by decide +kernel)) (fun _ _ _ _ _ => pg_name (i := 1) sc.nd rfl (Or.inl rfl)) (fun _ _ _ _ _ => pts_nil) (fun _ _ _ _ _ => pe_cmpR op_in_sign (pv 1) pe_str rfl)) pa_nil))))), ?_⟩
    have lx := lo.1
    have ls : (S x).length ≤ sizeLine := by rw [S_len]; show _ ≤ 2 ^ 24; omega
    unfold areShB at k
    refine ⟨_, rfl, S x, rfl, ls, (by show 2 ≤ sizeLine; decide), fun t ht => ?_⟩
    refine ⟨t, _, rfl, .inr (SqT.of upd_same), rfl, rfl, _, rfl, ?_⟩
    have e1 : inV (V.int ((S x).length : Nat)) [.int 1, .int 2] = (decide (x.length = 1) || decide (x.length = 2)) := by
      rw [S_len, Bool.eq_iff_iff]
      show ((1 : Int) == (x.length : Int) || ((2 : Int) == (x.length : Int) || false)) = true ↔ _
      simp only [Bool.or_eq_true, beq_iff_eq, decide_eq_true_eq, Bool.false_eq_true, or_false]
      omega
    show (if inV (V.int ((S x).length : Nat)) [.int 1, .int 2] = true then _ else _)
    rw [e1]
    refine if_of (fun c => ?_) (fun c => ?_)
    · rw [c, Bool.true_and] at k
      refine ⟨_, rfl, S x, rfl, fun D hD => ?_⟩
      have ecps : (S x).cps.size = x.length := by simp [S]
      refine lc_it (walk_str (z := S x)) (fun i H' => Same H H' ∧ H' D = some (.lst (((x.take i).map fun c => decide (c ∈ ("nlb" : Str).cps.toList)).map V.bl)))
        ⟨(Same.new ht).trans (Same.new hD), upd_same⟩ (fun _ _ _ _ => trivial) ?_ ?_
      · rintro i u H2 H3 hi ⟨b1, b2⟩ ⟨rfl, ch, hc, rfl⟩
        rw [ecps] at hi
        have hc : x[i]? = some ch := by simpa [S] using hc
        refine ⟨rfl, _, rfl, ch, _, rfl, rfl, _, b2, (by rw [List.length_map, List.length_map, List.length_take]; show _ < 2 ^ 24; omega), ?_⟩
        refine ⟨Same.put b1 ((Same.new ht).free hD), upd_same.trans ?_⟩
        rw [take_next hc, List.map_append, List.map_append]
        rfl
      · rintro H2 ⟨b1, b2⟩
        rw [ecps, List.take_length] at b2
        refine ⟨D, _, rfl, SqL.of b2, ?_⟩
        have e2 : (x.map fun c => decide (c ∈ ("nlb" : Str).cps.toList)).all id = x.all fun c => (Ty01.shapeOf c).isSome := by
          rw [List.all_map]
          congr 1
          funext c
          exact nlb_in c
        rw [e2]
        exact k H2 b1
    · rw [c, Bool.false_and] at k
      exact k _ (Same.new ht)
theorem strV_get {ws : List (List Nat)} {i : Nat} {x : List Nat} (h : ws[i]? = some x) : (strV ws)[i]? = some (V.str (S x)) := by
  show (ws.map _)[i]? = _
  rw [List.getElem?_map, h]; rfl
theorem ok_is_row (T : Tp K mg A) (cA : Cal P w K mg base 1 "are_shapes" spAreShapes []) {f : Addr} {fd : FuncData} (F : Def K mg "is_row" (top 38) f fd) (b : Binds K fd ["words"] []) : Cal P w K mg base 2 "is_row" spIsRow [] := by
  have sc : FnScope ["words"] ["words"] (fnScope (top 38)) := fnScope_by (by decide +kernel)
  refine cal0 F b .nil sc (fun vs H Q E h => ?_) (fun cdv A' outer s H vs Q E hr h => ?_)
  · obtain ⟨a, ws, rfl, _⟩ := h
    rfl
  · obtain ⟨a, ws, rfl, ha, lo, k⟩ := h
    refine ⟨_, pss_cons (ps_if (PW.pt (pw_or (pt_cmpR op_lt (pe_callB call_len_seq (by rfl) T.b_len PySem.boot_len (pa_cons (pv 0) pa_nil)) (pe_gc (by rfl) T.AHEAD) (nomark _)) (pw_or1 (pt_cmpR op_ne (pe_ix ix_list (pv 0) pe_int (fun _ _ => rfl)) pe_str (nomark _))))) (pss_one (ps_ret pe_bl)) pss_nil)
      (pss_cons (ps_if (pt_cmpR op_eq (pe_ix ix_list (pv 0) pe_int (fun _ _ => rfl)) pe_str (nomark _)) (pss_one (ps_ret (pe_cmpR op_in_seq (pe_ix ix_list (pv 0) pe_int (fun _ _ => rfl)) (pe_tup (pa_cons pe_str (pa_cons pe_str (pa_cons pe_str (pa_cons pe_str pa_nil))))) (by rfl)))) pss_nil)
      (pss_one (ps_ret (pe_and (pe_cmpR op_eq (pe_ix ix_list (pv 0) pe_int (fun _ _ => rfl)) pe_str (nomark _)) (pe_one (pe_c cA hr (by decide) (by rfl) (pa_cons (pe_ix ix_list (pv 0) pe_int (fun _ _ => rfl)) pa_nil))))))), ?_⟩
    refine ⟨_, rfl, a, _, rfl, .inl (SqL.of ha), _, _, rfl, rfl, _, rfl, if_of (fun c => ?_) (fun c => ?_)⟩
    · have c : ws.length < 4 := by have := of_decide_eq_true c; rw [List.length_map] at this; omega
      have e : isRowB ws = false := by
        match ws, c with
        | [], _ => rfl
        | [_], _ => rfl
        | [_, _], _ => rfl
        | [_, _, _], _ => rfl
      rw [e] at k
      exact if_true_of rfl (k H (Same.refl _))
    · have c : ¬ ws.length < 4 := by have := of_decide_eq_false c; rw [List.length_map] at this; omega
      obtain ⟨w0, w1, w2, w3, r, rfl⟩ : ∃ w0 w1 w2 w3 r, ws = w0 :: w1 :: w2 :: w3 :: r := by
        match ws, c with
        | [], c => exact absurd (by decide) c
        | [_], c => exact absurd (by simp) c
        | [_, _], c => exact absurd (by simp) c
        | [_, _, _], c => exact absurd (by simp) c
        | w0 :: w1 :: w2 :: w3 :: r, _ => exact ⟨w0, w1, w2, w3, r, rfl⟩
      have k : ∀ H', Same H H' → Q (.bl (decide (w3 = [61]) && (if w0 = Ty01.wFun then ([[48], [49], [50], [51]] : List (List Nat)).contains w2 else decide (w0 = Ty01.wTest) && areShB w2))) H' := k
      refine ⟨_, rfl, a, _, _, _, rfl, rfl, SqL.of ha, atI_nat (j := 3) (strV_get rfl), rfl, _, rfl, ?_⟩
      rw [show ("=" : Str) = S [61] by decide +kernel, str_dec]
      refine if_of (fun c => ?_) (fun c => ?_)
      · have c : decide (w3 = [61]) = false := by simpa using c
        rw [c, Bool.false_and] at k
        exact k H (Same.refl _)
      · have c : decide (w3 = [61]) = true := by simpa using c
        rw [c, Bool.true_and] at k
        refine ⟨_, rfl, a, _, _, _, rfl, rfl, SqL.of ha, atI_nat (j := 0) (strV_get rfl), rfl, _, rfl, ?_⟩
        rw [show ("fun" : Str) = S Ty01.wFun by decide +kernel, str_dec]
        refine if_of (fun c => ?_) (fun c => ?_)
        · rw [if_pos (of_decide_eq_true c)] at k
          refine ⟨_, rfl, a, _, _, _, rfl, rfl, SqL.of ha, atI_nat (j := 2) (strV_get rfl), (by show 4 ≤ sizeLine; decide), fun t ht => ?_⟩
          refine ⟨t, _, rfl, .inr (SqT.of upd_same), rfl, rfl, ?_⟩
          have e1 : inV (V.str (S w2)) [.str "0", .str "1", .str "2", .str "3"] = ([[48], [49], [50], [51]] : List (List Nat)).contains w2 := by
            rw [show ([V.str "0", V.str "1", V.str "2", V.str "3"] : List V) = strV [[48], [49], [50], [51]] by decide +kernel, inV_strs]
          show Q (.bl (inV (V.str (S w2)) [.str "0", .str "1", .str "2", .str "3"])) _
          rw [e1]
          exact k _ (Same.new ht)
        · rw [if_neg (of_decide_eq_false c)] at k
          refine ⟨_, rfl, a, _, _, _, rfl, rfl, SqL.of ha, atI_nat (j := 0) (strV_get rfl), rfl, _, rfl, ?_⟩
          rw [show ("test" : Str) = S Ty01.wTest by decide +kernel, str_dec]
          refine if_of (fun c => ?_) (fun c => ?_)
          · rw [c, Bool.true_and] at k
            exact ⟨_, rfl, a, _, _, _, rfl, rfl, SqL.of ha, atI_nat (j := 2) (strV_get rfl), w2, rfl, lo w2 (by simp), k⟩
          · rw [c, Bool.false_and] at k
            exact k H (Same.refl _)
end
end Pf
namespace Pf
open PySem PySem.Spec PyProof.Rows L2 SX
open C8 (Cal Met Mak Def cal0 met0 mak0 pe_c pe_mk pe_mt pe_mt0 pe_gc fnScope fnBody fnArgs fnScope_by)
section
variable {P : PySem.Program} {w : World} {K : PySem.W.Frag} {mg : Str → Option Value} {base : Heap} {A : Ad}
theorem sqT_of {H : Hp} {a : Addr} {o : Obj} {its : Array Value} {n : Nat} {vs : List V} (h1 : K.lookup a = some o) (h2 : o.cls = .type "tuple") (h4 : o.data = .seq its n) (h5 : its.size ≤ sizeLine) (h6 : Vals vs its.toList) : SqT K H a vs := .inr ⟨o, its, n, h1, h2, h4, h5, h6⟩
theorem ok_meaning (T : Tp K mg A) (U : Tq K mg w) (cN : Cal P w K mg base 1 "is_number" spIsNumber []) (cW : Mak P w K mg base 1 "Word" A.W (spWInit A.W) [])
    {f : Addr} {fd : FuncData} (F : Def K mg "meaning" (top 39) f fd) (b : Binds K fd ["word", "many", "functions"] []) : Cal P w K mg base 3 "meaning" (spMeaning A) [] := by
  have sc : FnScope ["word", "many", "functions"] ["word", "many", "functions"] (fnScope (top 39)) := fnScope_by (by decide +kernel)
  obtain ⟨pd, pes, pn, pm, pD, pP⟩ := U.PARTS
  obtain ⟨aa, ao, aits, an, am, al, ac, adi, ada, asz, av⟩ := U.ARGUMENTS
  have aT : ∀ H : Hp, SqT K H aa [.str "a", .str "b", .str "c"] := fun H => sqT_of al ac ada asz av
  refine cal0 F b .nil sc (fun vs H Q E h => ?_) (fun cdv A' outer s H vs Q E hr h => ?_)
  · obtain ⟨x, k, d, fs, rfl, _⟩ := h
    rfl
  · obtain ⟨x, k, d, fs, rfl, lo, hk, hf, kN, kS⟩ := h
    refine ⟨_, pss_cons (ps_if (pt_val (pe_c cN hr (by decide) (by rfl) (pa_cons (pv 0) pa_nil))) (pss_one (ps_ret (pe_mk cW hr (by decide) (by rfl) (pa_cons (pe_gc (by rfl) T.NUMBER) (pa_cons (pe_callTy call_int_str (by rfl) T.b_int (by decide +kernel) (pa_cons (pv 0) pa_nil)) (pa_cons pe_int pa_nil)))))) pss_nil)
      (pss_cons (ps_if (pt_cmpR op_in_seq (pv 0) (pe_slice sl_tupA (pe_gc (v := .ref aa) (by rfl) ⟨_, am, rfl⟩) po_none (po_some (pv 1))) (by rfl)) (pss_one (ps_ret (pe_mk cW hr (by decide) (by rfl) (pa_cons (pe_gc (by rfl) T.HANDED) (pa_cons (pe_bm PySem.F.plainAttrs_tuple PySem.F.slot_tuple_index PySem.F.type_tuple_index mt_tup_index (pe_gc (v := .ref aa) (by rfl) ⟨_, am, rfl⟩) (pa_cons (pv 0) pa_nil)) (pa_cons pe_int pa_nil)))))) pss_nil)
      (pss_cons (ps_if (pt_cmpR op_in_seq (pv 0) (pe_tup (pa_cons pe_str (pa_cons pe_str pa_nil))) (by rfl)) (pss_one (ps_ret (pe_mk cW hr (by decide) (by rfl) (pa_cons (pe_gc (by rfl) T.CHOICE) (pa_cons (pv 0) (pa_cons (pe_ix ix_kdict (pe_gc (v := .ref pd) (by rfl) ⟨_, pm, rfl⟩) (pv 0) (fun _ _ => rfl)) pa_nil)))))) pss_nil)
      (pss_cons (ps_if (pt_cmpR (op_in_kd pD) (pv 0) (pe_gc (v := .ref pd) (by rfl) ⟨_, pm, rfl⟩) (by rfl)) (pss_one (ps_ret (pe_mk cW hr (by decide) (by rfl) (pa_cons (pe_gc (by rfl) T.OPERATION) (pa_cons (pv 0) (pa_cons (pe_ix ix_kdict (pe_gc (v := .ref pd) (by rfl) ⟨_, pm, rfl⟩) (pv 0) (fun _ _ => rfl)) pa_nil)))))) pss_nil)
      (pss_cons (ps_if (pt_cmp (pc_din (hu_of hr) (pv 0) (pv 2))) (pss_one (ps_ret (pe_mk cW hr (by decide) (by rfl) (pa_cons (pe_gc (by rfl) T.CALL) (pa_cons (pe_fld (pe_dget (hu_of hr) (pv 2) (pv 0) (fun _ _ => rfl)) rfl) (pa_cons (pe_fld (pe_dget (hu_of hr) (pv 2) (pv 0) (fun _ _ => rfl)) rfl) pa_nil)))))) pss_nil)
      (pss_one (ps_ret pe_non)))))), ?_⟩
    have lx := lo.1
    refine ⟨_, rfl, x, rfl, lo, _, rfl, ?_⟩
    cases hn : Ty01.number x with
    | some n =>
      obtain ⟨n1, n2, n3, n4⟩ := number_val hn
      refine if_true_of rfl ⟨_, rfl, S x, _, rfl, int_S n1 n2 (by omega), (by rw [S_len]; omega), ?_⟩
      refine make_word fun a pl dx H' s1 f1 f2 ne h1 h2 => ?_
      refine kS (.num n) (by unfold Ty01.tokOf; rw [hn]) a pl dx H' s1 f1 f2 ne ?_ h2
      rw [h1, n4]
      rfl
    | none =>
      refine if_false_of rfl ?_
      -- what is handed over
      have eargs : ([.str "a", .str "b", .str "c"] : List V) = strV argsN := by decide +kernel
      have args : ∀ (t : Addr) (H1 : Hp), Same H H1 → SqT K H1 t (strV (argsN.take k)) → ((argsN.take k).contains x = true → tRet (tMake A.W (spWInit A.W) [] C8.E0 (tCons (tC (.int 1)) (tCons (tBM K "tuple" (fun x xs H Q => ∃ p, ∃ ys : List Str, ∃ z j, x = .ref p ∧ xs = [.str z] ∧ SqT K H p (ys.map V.str) ∧ ys[j]? = some z ∧ (∀ m, m < j → ys[m]? ≠ some z) ∧ Q (.int (j : Nat)) H) (tC (.ref aa)) (tCons (tVar 0) tNil)) (tCons (tC (.int 0)) tNil))))
          { nx := fun _ H' => Q .non H', rt := Q } [some (.str (S x)), some (.int (k : Nat)), some (.ref d)] H1) := by
        intro t H1 s1 ht hc
        obtain ⟨i, i1, i2, i3, i4⟩ := arg_tok (names := fs.map fun q => q.1.name) hk hc
        refine ⟨.inr (.inl ⟨rfl, ao, al, ac, adi⟩), _, rfl, aa, argsN.map S, S x, i, rfl, rfl, ?_, (by rw [List.getElem?_map, i2]; rfl), (fun m hm => ?_), ?_⟩
        · have := aT H1
          rw [eargs] at this
          rw [List.map_map]
          exact this
        · rw [List.getElem?_map]
          intro z
          cases hq : argsN[m]? with
          | none => rw [hq] at z; cases z
          | some y =>
            rw [hq] at z
            have : y = x := S_inj (Option.some.inj z)
            exact i3 m hm (by rw [hq, this])
        · refine make_word fun a pl dx H' s2 f1 f2 ne h1 h2 => ?_
          exact kS (.arg i) i4 a pl dx H' (s1.trans s2) (s1.free f1) (s1.free f2) ne h1 h2
      -- the rest
      have rest : ∀ (H1 : Hp), Same H H1 → (argsN.take k).contains x = false →
          tSeq (tIfS (tTest (tOp (rIn K false) (tVar 0) (tTup (tCons (tC (.str "if")) (tCons (tC (.str "unless")) tNil))))) (tRet (tMake A.W (spWInit A.W) [] C8.E0 (tCons (tC (.int 3)) (tCons (tVar 0) (tCons (tOp (rIxD K w) (tC (.ref pd)) (tVar 0)) tNil))))) tNext)
          (tSeq (tIfS (tTest (tOp (fun x y H Q => ∃ (z : Str) (r : Option Value), x = .str z ∧ y = .ref pd ∧ PySem.W.nsIn K pd z = some r ∧ Q (.bl r.isSome) H) (tVar 0) (tC (.ref pd)))) (tRet (tMake A.W (spWInit A.W) [] C8.E0 (tCons (tC (.int 2)) (tCons (tVar 0) (tCons (tOp (rIxD K w) (tC (.ref pd)) (tVar 0)) tNil))))) tNext)
          (tSeq (tIfS (tB (tDIn (tVar 0) (tVar 2))) (tRet (tMake A.W (spWInit A.W) [] C8.E0 (tCons (tC (.int 4)) (tCons (tFld K (tDGet (tVar 2) (tVar 0)) "start") (tCons (tFld K (tDGet (tVar 2) (tVar 0)) "many") tNil))))) tNext)
          (tRet (tC .non))))
          { nx := fun _ H' => Q .non H', rt := Q } [some (.str (S x)), some (.int (k : Nat)), some (.ref d)] H1 := by
        intro H1 s1 hna
        have etok := arg_not (names := fs.map fun q => q.1.name) hk hn hna
        obtain ⟨r, r1, r2⟩ := ns_look pD.at_ pP (S x)
        refine ⟨_, rfl, (by show 2 ≤ sizeLine; decide), fun t ht => ?_⟩
        have s2 : Same H (upd H1 t (.tup [.str "if", .str "unless"])) := s1.trans (Same.new ht)
        refine ⟨t, _, rfl, .inr (SqT.of upd_same), rfl, rfl, _, rfl, ?_⟩
        have e1 : inV (V.str (S x)) [.str "if", .str "unless"] = ([[105, 102], [117, 110, 108, 101, 115, 115]] : List (List Nat)).contains x := by
          rw [show ([V.str "if", V.str "unless"] : List V) = strV [[105, 102], [117, 110, 108, 101, 115, 115]] by decide +kernel, inV_strs]
        show (if inV (V.str (S x)) [.str "if", .str "unless"] = true then _ else _)
        rw [e1]
        cases ho : Ty01.opWords.findIdx? (fun q => q == x) with
        | some o =>
          rw [ho] at etok
          obtain ⟨o1, o2⟩ := op_idx ho
          have ech : ([[105, 102], [117, 110, 108, 101, 115, 115]] : List (List Nat)).contains x = isCh o := by
            rw [← o2]
            have : ∀ o, o < 12 → ([[105, 102], [117, 110, 108, 101, 115, 115]] : List (List Nat)).contains (Ty01.opWords.getD o []) = isCh o := by decide
            exact this o o1
          have pv' : ∃ u, r = some u ∧ RelV (.int (Ty01.opArity.getD o 0 : Nat)) u := by
            have := parts_at o o1
            rw [show opS o = S x by unfold opS; rw [o2]] at this
            rw [this] at r2
            cases r with
            | none => exact r2.elim
            | some u => exact ⟨u, rfl, r2⟩
          obtain ⟨u, rfl, ru⟩ := pv'
          have kd : KDct K w pd (S x) (.int (Ty01.opArity.getD o 0 : Nat)) := ⟨pes, pn, u, pD.at_, pD.lit, r1, ru⟩
          rw [ech]
          refine if_of (fun c => ?_) (fun c => ?_)
          · refine ⟨_, rfl, _, rfl, pd, S x, _, rfl, rfl, kd, ?_⟩
            refine make_word fun a pl dx H' s3 f1 f2 ne h1 h2 => ?_
            refine kS (.op o) etok a pl dx H' (s2.trans s3) (s2.free f1) (s2.free f2) ne ?_ h2
            rw [h1]
            show some (HO.ins A.W dx (wF (.int 3) (.str (S x)) _ _)) = some (HO.ins A.W dx (wF (.int ((if isCh o = true then 3 else 2 : Nat) : Int)) (.str (S (Ty01.opWords.getD o []))) _ _))
            rw [if_pos c, o2]
            rfl
          · refine ⟨_, rfl, S x, some u, rfl, rfl, r1, _, rfl, if_true_of rfl ?_⟩
            refine ⟨_, rfl, _, rfl, pd, S x, _, rfl, rfl, kd, ?_⟩
            refine make_word fun a pl dx H' s3 f1 f2 ne h1 h2 => ?_
            refine kS (.op o) etok a pl dx H' (s2.trans s3) (s2.free f1) (s2.free f2) ne ?_ h2
            rw [h1]
            show some (HO.ins A.W dx (wF (.int 2) (.str (S x)) _ _)) = some (HO.ins A.W dx (wF (.int ((if isCh o = true then 3 else 2 : Nat) : Int)) (.str (S (Ty01.opWords.getD o []))) _ _))
            rw [c, o2]
            rfl
        | none =>
          rw [ho] at etok
          have hno := op_none ho
          have hnc : ([[105, 102], [117, 110, 108, 101, 115, 115]] : List (List Nat)).contains x = false := by
            cases hc : ([[105, 102], [117, 110, 108, 101, 115, 115]] : List (List Nat)).contains x with
            | false => rfl
            | true =>
              have h1 : ∀ y ∈ ([[105, 102], [117, 110, 108, 101, 115, 115]] : List (List Nat)), Ty01.opWords.contains y = true := by decide
              rw [h1 x (List.contains_iff_mem.mp hc)] at hno
              cases hno
          rw [hnc]
          refine if_false_of rfl ?_
          refine ⟨_, rfl, S x, r, rfl, rfl, r1, _, rfl, ?_⟩
          rw [relO_some r2, parts_some, hno]
          refine if_false_of rfl ?_
          obtain ⟨kvs, hd, pk⟩ := hf.mono s2
          obtain ⟨v1, v2⟩ := funs_val x pk
          refine ⟨_, rfl, _, rfl, d, _, rfl, DGet.k (k := Sum.inr (S x)) hd, _, rfl, ?_⟩
          cases hfi : (fs.map fun q => q.1.name).findIdx? (fun n => n == x) with
          | none =>
            rw [v1 hfi]
            rw [hfi] at etok
            exact if_false_of rfl (kN etok _ s2)
          | some g =>
            rw [hfi] at etok
            obtain ⟨q, v, q1, q2, q3⟩ := v2 g hfi
            rw [q2]
            obtain ⟨fa, fdx, fr, rfl, g1, g2⟩ := q3
            have dg : DGet (upd H1 t (.tup [.str "if", .str "unless"])) d (.str (S x)) (some (.ref fa)) := by
              rw [← q2]; exact DGet.k (k := Sum.inr (S x)) hd
            refine if_true_of rfl ?_
            refine ⟨_, rfl, _, rfl, d, _, rfl, dg, fa, _, fdx, _, _, rfl, g1, T.cF, T.f_start, fl_start, ?_⟩
            refine ⟨_, rfl, _, rfl, d, _, rfl, dg, fa, _, fdx, _, _, rfl, g1, T.cF, T.f_many, fl_many, ?_⟩
            refine make_word fun a pl dx H' s3 f1 f2 ne h1 h2 => ?_
            refine kS (.call g) etok a pl dx H' (s2.trans s3) (s2.free f1) (s2.free f2) ne ?_ h2
            rw [h1]
            show some (HO.ins A.W dx (wF (.int 4) (.int (q.2 : Nat)) (.int (q.1.arity : Nat)) _)) = some (HO.ins A.W dx (wF (.int 4) (.int ((fs.map (·.2)).getD g 0 : Nat)) (.int ((fs.map fun q => q.1.arity).getD g 0 : Nat)) _))
            rw [List.getD_eq_getElem?_getD, List.getD_eq_getElem?_getD, List.getElem?_map, List.getElem?_map, q1]
            rfl
      refine ⟨_, rfl, _, rfl, (k : Nat), rfl, aa, [V.str "a", V.str "b", V.str "c"], rfl, aT H, fun hw => ?_, fun hw t ht => ?_⟩
      · have hk3 : k = 3 := by
          have := hw.2
          rw [HT.sIx_nat] at this
          have : min k 3 = 3 := this
          omega
        refine ⟨aa, strV (argsN.take k), rfl, .inr ?_, rfl, ?_, _, rfl, ?_⟩
        · rw [hk3]
          have := aT H
          rw [eargs] at this
          exact this
        · rw [hk3]; decide
        · show (if inV (V.str (S x)) (strV (argsN.take k)) = true then _ else _)
          rw [inV_strs]
          exact if_of (fun c => args aa H (Same.refl _) (by rw [hk3]; have := aT H; rw [eargs] at this; exact this) c) (fun c => rest H (Same.refl _) c)
      · have ecut : cutV [.str "a", .str "b", .str "c"] none (some (k : Int)) = strV (argsN.take k) := by
          rw [cutV_to, eargs]
          exact List.map_take.symm
        rw [ecut] at *
        refine ⟨t, strV (argsN.take k), rfl, .inr (SqT.of upd_same), rfl, ?_, _, rfl, ?_⟩
        · rw [List.all_map]
          exact List.all_eq_true.mpr fun _ _ => rfl
        · show (if inV (V.str (S x)) (strV (argsN.take k)) = true then _ else _)
          rw [inV_strs]
          exact if_of (fun c => args t _ (Same.new ht) (SqT.of upd_same) c) (fun c => rest _ (Same.new ht) c)
end
end Pf
namespace Pf
open PySem PySem.Spec PyProof.Rows L2 SX
open C8 (Cal Met Mak Def cal0 met0 mak0 pe_c pe_mk pe_mt pe_mt0 pe_gc fnScope fnBody fnArgs fnScope_by)
/-- a word whose parts are not told yet -/
structure RW where
  a : Addr
  dx : Addr
  pl : Addr
  k : V
  wh : V
  m : Nat
def RawAt (A : Ad) (H : Hp) (x : RW) : Prop := H x.a = some (.ins A.W x.dx (wF x.k x.wh (.int (x.m : Nat)) (.ref x.pl)))
abbrev pls (xs : List RW) : List Addr := xs.map (·.pl)
abbrev refs (xs : List RW) : List V := xs.map fun x => V.ref x.a
def spJoin (A : Ad) : Sp := fun vs H Q _ => ∃ (ea : Addr) (start : Nat) (xs : List RW), vs = [.ref ea, .int (start : Nat)] ∧ H ea = some (.lst (refs xs)) ∧ (∀ x ∈ xs, RawAt A H x) ∧ (∀ x ∈ xs, H x.pl = some (.lst [])) ∧ (pls xs).Nodup ∧ ea ∉ pls xs ∧ xs.length ≤ 1000 ∧ (∀ x ∈ xs, x.m ≤ 100) ∧
  ∀ H', (∀ b o, H b = some o → b ∉ pls xs → H' b = some o) →
    ((stk (xs.map (·.m)) 0).isSome = true → ∀ j x W, xs[j]? = some x → stk ((xs.map (·.m)).drop (j + 1)) (j + 1) = some W → H' x.pl = some (.lst (iV ((W.take x.m).map (start + ·))))) →
    Q (.bl (match stk (xs.map (·.m)) 0 with
      | some W => W.length == 1
      | none => false)) H'
structure JS (A : Ad) (H H' : Hp) (wt : Addr) (xs : List RW) (start i : Nat) (W : List Nat) : Prop where
  fr : ∀ b o, H b = some o → b ∉ pls xs → H' b = some o
  hw : H' wt = some (.lst (iV ((W.map (start + ·)).reverse)))
  st : stk ((xs.map (·.m)).drop (xs.length - i)) (xs.length - i) = some W
  done : ∀ j x W', xs.length - i ≤ j → xs[j]? = some x → stk ((xs.map (·.m)).drop (j + 1)) (j + 1) = some W' → H' x.pl = some (.lst (iV ((W'.take x.m).map (start + ·))))
  todo : ∀ j x, j < xs.length - i → xs[j]? = some x → H' x.pl = some (.lst [])
theorem pl_inj {xs : List RW} (nd : (pls xs).Nodup) {i j : Nat} {x y : RW} (hx : xs[i]? = some x) (hy : xs[j]? = some y) (h : x.pl = y.pl) : i = j :=
  nd_ix nd (x := x.pl) (by rw [List.getElem?_map, hx]; rfl) (by rw [List.getElem?_map, hy, h]; rfl)
theorem stk_len : ∀ (l : List Nat) (p : Nat) (W : List Nat), stk l p = some W → W.length ≤ l.length
  | [], p, W, h => by cases h; exact Nat.le_refl _
  | m :: l, p, W, h => by
    rw [stk_cons] at h
    cases hs : stk l (p + 1) with
    | none => rw [hs] at h; cases h
    | some W0 =>
      rw [hs] at h
      simp only at h
      split at h
      · cases h
      · cases h
        have := stk_len l _ W0 hs
        rw [List.length_cons, List.length_cons, List.length_drop]
        omega
section
variable {P : PySem.Program} {w : World} {K : PySem.W.Frag} {mg : Str → Option Value} {base : Heap} {A : Ad}
theorem ok_join_parts (T : Tp K mg A) {f : Addr} {fd : FuncData} (F : Def K mg "join_parts" (top 40) f fd) (b : Binds K fd ["expression", "start"] []) : Cal P w K mg base 1 "join_parts" (spJoin A) [] := by
  have sc : FnScope ["expression", "start", "waiting", "k", "word", "part"] ["expression", "start"] (fnScope (top 40)) := fnScope_by (by decide +kernel)
  refine cal0 F b .nil sc (fun vs H Q E h => ?_) (fun cdv A' outer s H vs Q E hr h => ?_)
  · obtain ⟨ea, start, xs, rfl, _⟩ := h
    rfl
  · obtain ⟨ea, start, xs, rfl, hea, hraw, hpl, nd, nea, lx, lm, k⟩ := h
    refine ⟨_, pss_cons (ps_set (i := 2) sc.nd rfl (.inl rfl) (pe_lst pa_nil))
      (pss_cons (ps_for PassesOwn.never rfl (pi_range3 (by rfl) T.b_range (pa_cons (pe_op op_sub (pe_callB call_len_seq (by rfl) T.b_len PySem.boot_len (pa_cons (pv 0) pa_nil)) pe_int) (pa_cons (pe_un un_neg pe_int) (pa_cons (pe_un un_neg pe_int) pa_nil)))) (pg_name (i := 3) sc.nd rfl (.inl rfl))
        (pss_cons (ps_set (i := 4) sc.nd rfl (.inl rfl) (pe_ix ix_list (pv 0) (pv 3) (fun _ _ => rfl)))
        (pss_cons (ps_if (pt_cmpR op_lt (pe_callB call_len_seq (by rfl) T.b_len PySem.boot_len (pa_cons (pv 2) pa_nil)) (pe_fld (pv 4) rfl) (nomark _)) (pss_one (ps_ret pe_bl)) pss_nil)
        (pss_cons (ps_for PassesOwn.never rfl (pi_range1 (by rfl) T.b_range (pa_cons (pe_fld (pv 4) rfl) pa_nil)) (pg_name (i := 5) sc.nd rfl (.inl rfl))
          (pss_one (ps_expr (pe_bm PySem.F.plainAttrs_list PySem.F.slot_list_append PySem.F.type_list_append mt_append (pe_fld (pv 4) rfl) (pa_cons (pe_bm0 PySem.F.plainAttrs_list PySem.F.slot_list_pop PySem.F.type_list_pop mt_pop (pv 2)) pa_nil)))))
        (pss_one (ps_expr (pe_bm PySem.F.plainAttrs_list PySem.F.slot_list_append PySem.F.type_list_append mt_append (pv 2) (pa_cons (pe_op op_add (pv 1) (pv 3)) pa_nil))))))))
      (pss_one (ps_ret (pe_cmpR op_eq (pe_callB call_len_seq (by rfl) T.b_len PySem.boot_len (pa_cons (pv 2) pa_nil)) pe_int (nomark _))))), ?_⟩
    refine ⟨by show 0 ≤ sizeLine; decide, fun wt hwt => ?_⟩
    have nwt : wt ∉ pls xs := fun z => by
      obtain ⟨x, hx, e⟩ := List.mem_map.mp z
      rw [← e, hpl x hx] at hwt; cases hwt
    have s0 : Same H (upd H wt (.lst [])) := Same.new hwt
    have rl : (refs xs).length = xs.length := List.length_map ..
    refine ⟨_, rfl, ea, _, rfl, .inl (SqL.of (s0 _ _ hea)), _, _, rfl, rfl, _, rfl, _, rfl, ?_⟩
    refine ⟨_, _, -1, xs.length, rfl, ?_, ?_⟩
    · have := RgC.neg (i := ((refs xs).length : Int) - 1) (j := -1) (by rw [rl]; omega) (by rw [rl]; omega) (by decide) (by decide)
      rw [show (((refs xs).length : Int) - 1 - -1).toNat = xs.length by rw [rl]; omega] at this
      exact this
    have J0 : JS A H (upd H wt (.lst [])) wt xs start 0 [] :=
      ⟨fun b o e _ => s0 _ _ e, upd_same, by rw [Nat.sub_zero, ← List.length_map (f := (·.m)), List.drop_length]; rfl,
        fun j x W' hj hx => absurd (lt_of_get hx) (by omega), fun j x hj hx => s0 _ _ (hpl x (List.mem_of_getElem? hx))⟩
    refine for_it walk_rangeC (fun i σ H' => ∃ (o3 o4 o5 : Option V) (W : List Nat), σ = [some (.ref ea), some (.int (start : Nat)), some (.ref wt), o3, o4, o5] ∧ JS A H H' wt xs start i W)
      ⟨none, none, none, [], rfl, J0⟩ (fun _ _ _ _ _ => trivial) ?_ ?_
    · rintro i v σ H1 H2 hi ⟨o3, o4, o5, W, rfl, J⟩ ⟨rfl, rfl⟩
      -- the word's place
      obtain ⟨kk, hkk⟩ : ∃ kk, kk = xs.length - 1 - i := ⟨_, rfl⟩
      have ek : ((refs xs).length : Int) - 1 + (i : Nat) * (-1) = ((kk : Nat) : Int) := by rw [rl, hkk]; omega
      dsimp only
      rw [ek]
      obtain ⟨x, hx⟩ : ∃ x, xs[kk]? = some x := ⟨_, List.getElem?_eq_getElem (by omega)⟩
      have xm := List.mem_of_getElem? hx
      have hxa : ∀ {H3 : Hp}, (∀ b o, H b = some o → b ∉ pls xs → H3 b = some o) → RawAt A H3 x := fun {H3} fr => fr _ _ (hraw x xm) fun z => by
        obtain ⟨y, hy, e⟩ := List.mem_map.mp z
        have := hraw x xm
        unfold RawAt at this
        rw [← e, hpl y hy] at this
        cases this
      refine ⟨_, rfl, _, rfl, ea, _, _, _, rfl, rfl, SqL.of (J.fr _ _ hea nea), atI_nat (j := kk) (v := V.ref x.a) (by rw [List.getElem?_map, hx]; rfl), ?_⟩
      have hWl : ((iV ((W.map (start + ·)).reverse)).length : Nat) = W.length := by rw [List.length_map, List.length_reverse, List.length_map]
      have Wlen : W.length ≤ 1000 := by
        have := stk_len _ _ _ J.st
        rw [List.length_drop, List.length_map] at this
        omega
      refine ⟨_, rfl, wt, _, rfl, .inl (SqL.of J.hw), _, rfl, x.a, _, x.dx, _, _, rfl, hxa J.fr, T.cW, T.w_many, wl_many, _, _, rfl, rfl, _, rfl, ?_⟩
      rw [hWl]
      have edrop : (xs.map (·.m)).drop kk = x.m :: (xs.map (·.m)).drop (kk + 1) := by
        have hlt : kk < (xs.map (·.m)).length := by rw [List.length_map]; omega
        rw [List.drop_eq_getElem_cons hlt]
        congr 1
        have : (xs.map (·.m))[kk]? = some x.m := by rw [List.getElem?_map, hx]; rfl
        rw [List.getElem?_eq_getElem hlt] at this
        exact Option.some.inj this
      have ekk : xs.length - i = kk + 1 := by omega
      have hst : stk ((xs.map (·.m)).drop (kk + 1)) (kk + 1) = some W := by rw [← ekk]; exact J.st
      refine if_of (fun c => ?_) (fun c => ?_)
      · have c : W.length < x.m := by have := of_decide_eq_true c; omega
        have e1 : stk ((xs.map (·.m)).drop kk) kk = none := by
          rw [edrop, stk_cons, hst]
          simp only
          rw [if_pos c]
        have e2 := stk_none (xs.map (·.m)) 0 kk (by rw [Nat.zero_add]; exact e1)
        rw [e2] at k
        exact k H2 J.fr (fun z => by cases z)
      · have c : ¬ W.length < x.m := by have := of_decide_eq_false c; omega
        have xm100 := lm x xm
        refine ⟨_, rfl, x.a, _, x.dx, _, _, rfl, hxa J.fr, T.cW, T.w_many, wl_many, _, rfl, (by omega), (by omega), ?_⟩
        rw [show ((x.m : Nat) : Int).toNat = x.m by omega]
        have nxwt : x.pl ≠ wt := fun z => nwt (z ▸ List.mem_map.mpr ⟨x, xm, rfl⟩)
        refine for_range (fun j σ H' => ∃ (o5 : Option V), σ = [some (.ref ea), some (.int (start : Nat)), some (.ref wt), some (.int (kk : Nat)), some (.ref x.a), o5] ∧
            (∀ b o, H b = some o → b ∉ pls xs → H' b = some o) ∧ H' wt = some (.lst (iV (((W.drop j).map (start + ·)).reverse))) ∧ H' x.pl = some (.lst (iV ((W.take j).map (start + ·)))) ∧ ∀ q, q ≠ wt → q ≠ x.pl → H' q = H2 q)
          ⟨o5, rfl, J.fr, J.hw, J.todo kk x (by omega) hx, fun _ _ _ => rfl⟩ ?_ ?_
        · rintro j σ H3 hj ⟨o5, rfl, fr, hw3, hp3, rest3⟩
          obtain ⟨z, hz⟩ : ∃ z, W[j]? = some z := ⟨_, List.getElem?_eq_getElem (by omega)⟩
          have ed : W.drop j = z :: W.drop (j + 1) := by
            have hlt : j < W.length := by omega
            rw [List.drop_eq_getElem_cons hlt]
            congr 1
            rw [List.getElem?_eq_getElem hlt] at hz
            exact Option.some.inj hz
          have ew : iV (((W.drop j).map (start + ·)).reverse) = iV (((W.drop (j + 1)).map (start + ·)).reverse) ++ [V.int ((start + z : Nat) : Int)] := by
            rw [ed, List.map_cons, List.reverse_cons]
            show List.map _ (_ ++ [start + z]) = _
            rw [List.map_append]
            rfl
          rw [ew] at hw3
          have elast : ∀ (l : List V) (u : V), (l ++ [u])[(l ++ [u]).length - 1]? = some u := fun l u => by
            rw [List.length_append, List.length_singleton, Nat.add_sub_cancel, List.getElem?_append_right (Nat.le_refl _), Nat.sub_self]; rfl
          refine ⟨_, rfl, x.a, _, x.dx, _, _, rfl, hxa fr, T.cW, T.w_parts, wl_parts, .inl ⟨rfl, _, SqL.of hp3⟩, ?_⟩
          refine ⟨_, rfl, .inl ⟨rfl, _, SqL.of hw3⟩, wt, _, _, rfl, rfl, hw3, elast _ _, ?_⟩
          rw [List.dropLast_concat]
          refine ⟨x.pl, _, _, rfl, rfl, (upd_ne nxwt).trans hp3, (by rw [List.length_map, List.length_map, List.length_take]; show _ < 2 ^ 24; omega), ?_⟩
          refine ⟨_, rfl, fun b o e nb => ?_, (upd_ne nxwt.symm).trans upd_same, upd_same.trans ?_, fun q q1 q2 => ?_⟩
          · rw [upd_ne (show b ≠ x.pl from fun y => nb (by rw [y]; exact List.mem_map.mpr ⟨x, xm, rfl⟩)), upd_ne (ne_of_none e hwt)]
            exact fr b o e nb
          · rw [take_next hz, List.map_append]
            show some (HO.lst (_ ++ [V.int ((start + z : Nat) : Int)])) = some (HO.lst (List.map _ (_ ++ [start + z])))
            rw [List.map_append]
            rfl
          · rw [upd_ne q2, upd_ne q1]
            exact rest3 q q1 q2
        · rintro σ H3 ⟨o5, rfl, fr, hw3, hp3, rest3⟩
          refine ⟨_, rfl, .inl ⟨rfl, _, SqL.of hw3⟩, _, rfl, _, rfl, _, _, rfl, rfl, wt, _, _, rfl, rfl, hw3, (by rw [List.length_map, List.length_reverse, List.length_map, List.length_drop]; show _ < 2 ^ 24; omega), ?_⟩
          refine ⟨_, _, _, kk :: W.drop x.m, rfl, fun b o e nb => ?_, upd_same.trans ?_, ?_, fun j y W' hj hy hW' => ?_, fun j y hj hy => ?_⟩
          · rw [upd_ne (ne_of_none e hwt)]
            exact fr b o e nb
          · rw [List.map_cons, List.reverse_cons]
            show some (HO.lst (_ ++ [V.int ((start : Int) + (kk : Int))])) = some (HO.lst (List.map _ (_ ++ [start + kk])))
            rw [List.map_append]
            rfl
          · rw [show xs.length - (i + 1) = kk by omega, edrop, stk_cons, hst]
            simp only
            rw [if_neg c]
          · have ny : y.pl ≠ wt := fun z => nwt (z ▸ List.mem_map.mpr ⟨y, List.mem_of_getElem? hy, rfl⟩)
            rw [upd_ne ny]
            by_cases hjk : j = kk
            · subst hjk
              rw [hx] at hy
              cases hy
              rw [hst] at hW'
              cases hW'
              exact hp3
            · rw [rest3 y.pl ny (fun z => hjk (pl_inj nd hy hx z))]
              exact J.done j y W' (by omega) hy hW'
          · have ny : y.pl ≠ wt := fun z => nwt (z ▸ List.mem_map.mpr ⟨y, List.mem_of_getElem? hy, rfl⟩)
            rw [upd_ne ny, rest3 y.pl ny (fun z => by have := pl_inj nd hy hx z; omega)]
            exact J.todo j y (by omega) hy
    · rintro σ H1 ⟨o3, o4, o5, W, rfl, J⟩
      have hst : stk (xs.map (·.m)) 0 = some W := by
        have := J.st
        rw [Nat.sub_self, List.drop_zero] at this
        exact this
      rw [hst] at k
      have k := k H1 J.fr (fun _ j x W' hx hW' => J.done j x W' (by omega) hx hW')
      have hWl : ((iV ((W.map (start + ·)).reverse)).length : Nat) = W.length := by rw [List.length_map, List.length_reverse, List.length_map]
      refine ⟨_, rfl, wt, _, rfl, .inl (SqL.of J.hw), rfl, ?_⟩
      have e : decide (V.int ((iV ((W.map (start + ·)).reverse)).length : Nat) = V.int 1) = (W.length == 1) := by
        rw [hWl, Bool.eq_iff_iff, decide_eq_true_eq, beq_iff_eq]
        constructor
        · intro h; have := V.int.inj h; omega
        · intro h; rw [h]; rfl
      rw [e]
      exact k
end
end Pf
namespace Pf
open PySem PySem.Spec PyProof.Rows L2 SX
open C8 (Cal Met Mak Def cal0 met0 mak0 pe_c pe_mk pe_mt pe_mt0 pe_gc fnScope fnBody fnArgs fnScope_by)
/-- the names that are taken: at most how many, and which -/
abbrev TKt := Nat × (List Nat → Bool)
abbrev Pl4 := Nat × Nat × Nat × Nat
def PlaceAt (A : Ad) (H : Hp) (q : Pl4) (v : V) : Prop := ∃ a dx, v = .ref a ∧ H a = some (.ins A.P dx (pF (.int (q.1 : Nat)) (.int (q.2.1 : Nat)) (.int (q.2.2.1 : Nat)) (.int (q.2.2.2 : Nat))))
theorem PlaceAt.mono {A : Ad} {H H' : Hp} (e : Same H H') {q : Pl4} {v : V} (h : PlaceAt A H q v) : PlaceAt A H' q v := by
  obtain ⟨a, dx, h1, h2⟩ := h
  exact ⟨a, dx, h1, e _ _ h2⟩
abbrev TestAt' (A : Ad) (H : Hp) (q : Ty01.Test × Nat) (v : V) : Prop := TestAt A H q.1 q.2 v
/-- a program that is being told: what stays is in Hi -/
structure BX (A : Ad) (Hi H : Hp) (a dx cd pl fn ts tk : Addr) (fst : List Nat) (C : List Wd) (PL : List Pl4) (FS : List (Ty01.Fun × Nat)) (TS : List (Ty01.Test × Nat)) (TK : TKt) : Prop where
  sm : Same Hi H
  ins : H a = some (.ins A.G dx (gF (.ref cd) (.ref pl) (.ref fn) (.ref ts) (.ref tk)))
  ncd : Hi cd = none
  npl : Hi pl = none
  nfn : Hi fn = none
  nts : Hi ts = none
  ntk : Hi tk = none
  n1 : cd ≠ pl
  n2 : cd ≠ ts
  n3 : pl ≠ ts
  n4 : fn ≠ tk
  code : ∃ cvs, H cd = some (.lst cvs) ∧ Paired (WordAt A Hi fst) C cvs
  places : ∃ pvs, H pl = some (.lst pvs) ∧ Paired (PlaceAt A Hi) PL pvs
  funs : ∃ kvs, H fn = some (.dK kvs) ∧ Paired (FKv A Hi) FS kvs
  tests : ∃ tvs, H ts = some (.lst tvs) ∧ Paired (TestAt' A Hi) TS tvs
  taken : ∃ kvs, H tk = some (.dK kvs) ∧ kvs.length ≤ TK.1 ∧ ∀ n, valV kvs (Sum.inr (S n)) = if TK.2 n = true then some (.bl true) else none
section
variable {A : Ad} {Hi H : Hp} {a dx cd pl fn ts tk : Addr} {fst : List Nat} {C : List Wd} {PL : List Pl4} {FS : List (Ty01.Fun × Nat)} {TS : List (Ty01.Test × Nat)} {TK : TKt}
theorem BX.acd (x : BX A Hi H a dx cd pl fn ts tk fst C PL FS TS TK) : a ≠ cd := by obtain ⟨_, h, _⟩ := x.code; exact L2.ne_of x.ins h (by intro z; cases z)
theorem BX.apl (x : BX A Hi H a dx cd pl fn ts tk fst C PL FS TS TK) : a ≠ pl := by obtain ⟨_, h, _⟩ := x.places; exact L2.ne_of x.ins h (by intro z; cases z)
theorem BX.afn (x : BX A Hi H a dx cd pl fn ts tk fst C PL FS TS TK) : a ≠ fn := by obtain ⟨_, h, _⟩ := x.funs; exact L2.ne_of x.ins h (by intro z; cases z)
theorem BX.ats (x : BX A Hi H a dx cd pl fn ts tk fst C PL FS TS TK) : a ≠ ts := by obtain ⟨_, h, _⟩ := x.tests; exact L2.ne_of x.ins h (by intro z; cases z)
theorem BX.atk (x : BX A Hi H a dx cd pl fn ts tk fst C PL FS TS TK) : a ≠ tk := by obtain ⟨_, h, _⟩ := x.taken; exact L2.ne_of x.ins h (by intro z; cases z)
theorem BX.dl {b c : Addr} {xs : List V} {kvs : List (Key × V)} (h1 : H b = some (.lst xs)) (h2 : H c = some (.dK kvs)) : b ≠ c := L2.ne_of h1 h2 (by intro z; cases z)
/-- more that stays -/
theorem BX.more (x : BX A Hi H a dx cd pl fn ts tk fst C PL FS TS TK) {Hj H' : Hp} (s : Same Hi Hj) (s2 : Same Hj H') (h : ∀ b ∈ [a, cd, pl, fn, ts, tk], H' b = H b) (hn : ∀ b ∈ [cd, pl, fn, ts, tk], Hj b = none) : BX A Hj H' a dx cd pl fn ts tk fst C PL FS TS TK where
  sm := s2
  ins := (h a (by simp)).trans x.ins
  ncd := hn cd (by simp)
  npl := hn pl (by simp)
  nfn := hn fn (by simp)
  nts := hn ts (by simp)
  ntk := hn tk (by simp)
  n1 := x.n1
  n2 := x.n2
  n3 := x.n3
  n4 := x.n4
  code := let ⟨v, h1, h2⟩ := x.code; ⟨v, (h cd (by simp)).trans h1, Paired.mapP h2 fun _ _ z => z.mono s⟩
  places := let ⟨v, h1, h2⟩ := x.places; ⟨v, (h pl (by simp)).trans h1, Paired.mapP h2 fun _ _ z => z.mono s⟩
  funs := let ⟨v, h1, h2⟩ := x.funs; ⟨v, (h fn (by simp)).trans h1, Paired.mapP h2 fun _ _ z => ⟨z.1, z.2.mono s⟩⟩
  tests := let ⟨v, h1, h2⟩ := x.tests; ⟨v, (h ts (by simp)).trans h1, Paired.mapP h2 fun _ _ z => z.mono s⟩
  taken := let ⟨v, h1, h2⟩ := x.taken; ⟨v, (h tk (by simp)).trans h1, h2⟩
theorem BX.tracked (x : BX A Hi H a dx cd pl fn ts tk fst C PL FS TS TK) : ∀ b ∈ [a, cd, pl, fn, ts, tk], ∃ o, H b = some o := by
  intro b hb
  obtain ⟨_, h1, _⟩ := x.code
  obtain ⟨_, h2, _⟩ := x.places
  obtain ⟨_, h3, _⟩ := x.funs
  obtain ⟨_, h4, _⟩ := x.tests
  obtain ⟨_, h5, _⟩ := x.taken
  simp only [List.mem_cons, List.not_mem_nil, or_false] at hb
  rcases hb with rfl | rfl | rfl | rfl | rfl | rfl
  · exact ⟨_, x.ins⟩
  · exact ⟨_, h1⟩
  · exact ⟨_, h2⟩
  · exact ⟨_, h3⟩
  · exact ⟨_, h4⟩
  · exact ⟨_, h5⟩
theorem BX.nones (x : BX A Hi H a dx cd pl fn ts tk fst C PL FS TS TK) : ∀ b ∈ [cd, pl, fn, ts, tk], Hi b = none := by
  intro b hb
  simp only [List.mem_cons, List.not_mem_nil, or_false] at hb
  rcases hb with rfl | rfl | rfl | rfl | rfl
  · exact x.ncd
  · exact x.npl
  · exact x.nfn
  · exact x.nts
  · exact x.ntk
/-- all of a heap that holds H stays, but what is told -/
def butP (H : Hp) (L : List Addr) : Hp := fun b => if b ∈ L then none else H b
theorem butP_same (H : Hp) (L : List Addr) : Same (butP H L) H := fun b o e => by
  unfold butP at e
  split at e
  · cases e
  · exact e
theorem butP_ne {H : Hp} {L : List Addr} {b : Addr} (h : b ∉ L) : butP H L b = H b := if_neg h
theorem BX.grown (x : BX A Hi H a dx cd pl fn ts tk fst C PL FS TS TK) {H' : Hp} (s : Same H H') : BX A (butP H' [cd, pl, fn, ts, tk]) H' a dx cd pl fn ts tk fst C PL FS TS TK ∧ Same Hi (butP H' [cd, pl, fn, ts, tk]) := by
  have s1 : Same Hi (butP H' [cd, pl, fn, ts, tk]) := fun b o e => by
    rw [butP_ne (fun z => by rw [x.nones b z] at e; cases e)]
    exact s _ _ (x.sm _ _ e)
  refine ⟨x.more s1 (butP_same _ _) (fun b hb => ?_) (fun b hb => if_pos hb), s1⟩
  obtain ⟨o, ho⟩ := x.tracked b hb
  rw [ho, s _ _ ho]
theorem BX.setCode (x : BX A Hi H a dx cd pl fn ts tk fst C PL FS TS TK) {fst' : List Nat} {C' : List Wd} {vs : List V} (h : Paired (WordAt A Hi fst') C' vs) : BX A Hi (upd H cd (.lst vs)) a dx cd pl fn ts tk fst' C' PL FS TS TK := by
  obtain ⟨_, h1, _⟩ := x.code
  exact
  { sm := Same.put x.sm x.ncd, ins := (upd_ne x.acd).trans x.ins, ncd := x.ncd, npl := x.npl, nfn := x.nfn, nts := x.nts, ntk := x.ntk, n1 := x.n1, n2 := x.n2, n3 := x.n3, n4 := x.n4
    code := ⟨vs, upd_same, h⟩
    places := let ⟨v, h3, h2⟩ := x.places; ⟨v, (upd_ne x.n1.symm).trans h3, h2⟩
    funs := let ⟨v, h3, h2⟩ := x.funs; ⟨v, (upd_ne (BX.dl h1 h3).symm).trans h3, h2⟩
    tests := let ⟨v, h3, h2⟩ := x.tests; ⟨v, (upd_ne x.n2.symm).trans h3, h2⟩
    taken := let ⟨v, h3, h2⟩ := x.taken; ⟨v, (upd_ne (BX.dl h1 h3).symm).trans h3, h2⟩ }
theorem BX.setPlaces (x : BX A Hi H a dx cd pl fn ts tk fst C PL FS TS TK) {PL' : List Pl4} {vs : List V} (h : Paired (PlaceAt A Hi) PL' vs) : BX A Hi (upd H pl (.lst vs)) a dx cd pl fn ts tk fst C PL' FS TS TK := by
  obtain ⟨_, h1, _⟩ := x.places
  exact
  { sm := Same.put x.sm x.npl, ins := (upd_ne x.apl).trans x.ins, ncd := x.ncd, npl := x.npl, nfn := x.nfn, nts := x.nts, ntk := x.ntk, n1 := x.n1, n2 := x.n2, n3 := x.n3, n4 := x.n4
    code := let ⟨v, h3, h2⟩ := x.code; ⟨v, (upd_ne x.n1).trans h3, h2⟩
    places := ⟨vs, upd_same, h⟩
    funs := let ⟨v, h3, h2⟩ := x.funs; ⟨v, (upd_ne (BX.dl h1 h3).symm).trans h3, h2⟩
    tests := let ⟨v, h3, h2⟩ := x.tests; ⟨v, (upd_ne x.n3.symm).trans h3, h2⟩
    taken := let ⟨v, h3, h2⟩ := x.taken; ⟨v, (upd_ne (BX.dl h1 h3).symm).trans h3, h2⟩ }
theorem BX.setTests (x : BX A Hi H a dx cd pl fn ts tk fst C PL FS TS TK) {TS' : List (Ty01.Test × Nat)} {vs : List V} (h : Paired (TestAt' A Hi) TS' vs) : BX A Hi (upd H ts (.lst vs)) a dx cd pl fn ts tk fst C PL FS TS' TK := by
  obtain ⟨_, h1, _⟩ := x.tests
  exact
  { sm := Same.put x.sm x.nts, ins := (upd_ne x.ats).trans x.ins, ncd := x.ncd, npl := x.npl, nfn := x.nfn, nts := x.nts, ntk := x.ntk, n1 := x.n1, n2 := x.n2, n3 := x.n3, n4 := x.n4
    code := let ⟨v, h3, h2⟩ := x.code; ⟨v, (upd_ne x.n2).trans h3, h2⟩
    places := let ⟨v, h3, h2⟩ := x.places; ⟨v, (upd_ne x.n3).trans h3, h2⟩
    funs := let ⟨v, h3, h2⟩ := x.funs; ⟨v, (upd_ne (BX.dl h1 h3).symm).trans h3, h2⟩
    tests := ⟨vs, upd_same, h⟩
    taken := let ⟨v, h3, h2⟩ := x.taken; ⟨v, (upd_ne (BX.dl h1 h3).symm).trans h3, h2⟩ }
theorem BX.setFuns (x : BX A Hi H a dx cd pl fn ts tk fst C PL FS TS TK) {FS' : List (Ty01.Fun × Nat)} {vs : List (Key × V)} (h : Paired (FKv A Hi) FS' vs) : BX A Hi (upd H fn (.dK vs)) a dx cd pl fn ts tk fst C PL FS' TS TK := by
  obtain ⟨_, h1, _⟩ := x.funs
  exact
  { sm := Same.put x.sm x.nfn, ins := (upd_ne x.afn).trans x.ins, ncd := x.ncd, npl := x.npl, nfn := x.nfn, nts := x.nts, ntk := x.ntk, n1 := x.n1, n2 := x.n2, n3 := x.n3, n4 := x.n4
    code := let ⟨v, h3, h2⟩ := x.code; ⟨v, (upd_ne (BX.dl h3 h1)).trans h3, h2⟩
    places := let ⟨v, h3, h2⟩ := x.places; ⟨v, (upd_ne (BX.dl h3 h1)).trans h3, h2⟩
    funs := ⟨vs, upd_same, h⟩
    tests := let ⟨v, h3, h2⟩ := x.tests; ⟨v, (upd_ne (BX.dl h3 h1)).trans h3, h2⟩
    taken := let ⟨v, h3, h2⟩ := x.taken; ⟨v, (upd_ne x.n4.symm).trans h3, h2⟩ }
theorem BX.setTaken (x : BX A Hi H a dx cd pl fn ts tk fst C PL FS TS TK) {TK' : TKt} {vs : List (Key × V)} (h : vs.length ≤ TK'.1 ∧ ∀ n, valV vs (Sum.inr (S n)) = if TK'.2 n = true then some (.bl true) else none) : BX A Hi (upd H tk (.dK vs)) a dx cd pl fn ts tk fst C PL FS TS TK' := by
  obtain ⟨_, h1, _⟩ := x.taken
  exact
  { sm := Same.put x.sm x.ntk, ins := (upd_ne x.atk).trans x.ins, ncd := x.ncd, npl := x.npl, nfn := x.nfn, nts := x.nts, ntk := x.ntk, n1 := x.n1, n2 := x.n2, n3 := x.n3, n4 := x.n4
    code := let ⟨v, h3, h2⟩ := x.code; ⟨v, (upd_ne (BX.dl h3 h1)).trans h3, h2⟩
    places := let ⟨v, h3, h2⟩ := x.places; ⟨v, (upd_ne (BX.dl h3 h1)).trans h3, h2⟩
    funs := let ⟨v, h3, h2⟩ := x.funs; ⟨v, (upd_ne x.n4).trans h3, h2⟩
    tests := let ⟨v, h3, h2⟩ := x.tests; ⟨v, (upd_ne (BX.dl h3 h1)).trans h3, h2⟩
    taken := ⟨vs, upd_same, h⟩ }
end
section
variable {c p f t k : V}
theorem gl_code : (gF c p f t k).lookup ("code" : Str) = some c := lk_here
theorem gl_places : (gF c p f t k).lookup ("places" : Str) = some p := lk_1 (by decide +kernel)
theorem gl_functions : (gF c p f t k).lookup ("functions" : Str) = some f := lk_2 (by decide +kernel) (by decide +kernel)
theorem gl_tests : (gF c p f t k).lookup ("tests" : Str) = some t := lk_3 (by decide +kernel) (by decide +kernel) (by decide +kernel)
theorem gl_taken : (gF c p f t k).lookup ("taken" : Str) = some k := lk_4 (by decide +kernel) (by decide +kernel) (by decide +kernel) (by decide +kernel)
end
def tooB (FS : List (Ty01.Fun × Nat)) (TS : List (Ty01.Test × Nat)) (PL : List Pl4) (ws : List (List Nat)) : Bool :=
  if ws.head? = some Ty01.wFun then decide (FS.length = 8) || decide (30 < PL.length + (ws.length - 4)) else decide (TS.length = 4) || decide (20 < ws.length - 4)
def spTooMuch (A : Ad) : Sp := fun vs H Q _ => ∃ (Hi : Hp) (a dx cd pl fn ts tk : Addr) (fst : List Nat) (C : List Wd) (PL : List Pl4) (FS : List (Ty01.Fun × Nat)) (TS : List (Ty01.Test × Nat)) (TK : TKt) (wl : Addr) (ws : List (List Nat)),
  vs = [.ref a, .ref wl] ∧ BX A Hi H a dx cd pl fn ts tk fst C PL FS TS TK ∧ H wl = some (.lst (strV ws)) ∧ 4 ≤ ws.length ∧ Q (.bl (tooB FS TS PL ws)) H
section
variable {P : PySem.Program} {w : World} {K : PySem.W.Frag} {mg : Str → Option Value} {base : Heap} {A : Ad}
theorem dec_ieq {x : Nat} {m : Int} {n : Nat} (e : m = (n : Int)) : decide (V.int (x : Int) = V.int m) = decide (x = n) := by
  rw [Bool.eq_iff_iff, decide_eq_true_eq, decide_eq_true_eq, e]
  constructor
  · intro h; have := V.int.inj h; omega
  · intro h; rw [h]
theorem ok_is_too_much (T : Tp K mg A) {f : Addr} {fd : FuncData} (F : Def K mg "is_too_much" (top 41) f fd) (b : Binds K fd ["program", "words"] []) : Cal P w K mg base 1 "is_too_much" (spTooMuch A) [] := by
  have sc : FnScope ["program", "words", "many"] ["program", "words"] (fnScope (top 41)) := fnScope_by (by decide +kernel)
  refine cal0 F b .nil sc (fun vs H Q E h => ?_) (fun cdv A' outer s H vs Q E hr h => ?_)
  · obtain ⟨Hi, a, dx, cd, pl, fn, ts, tk, fst, C, PL, FS, TS, TK, wl, ws, rfl, _⟩ := h
    rfl
  · obtain ⟨Hi, a, dx, cd, pl, fn, ts, tk, fst, C, PL, FS, TS, TK, wl, ws, rfl, X, hwl, l4, k⟩ := h
    refine ⟨_, pss_cons (ps_set (i := 2) sc.nd rfl (.inl rfl) (pe_op op_sub (pe_callB call_len_seq (by rfl) T.b_len PySem.boot_len (pa_cons (pv 1) pa_nil)) (pe_gc (by rfl) T.AHEAD)))
      (pss_cons (ps_if (pt_cmpR op_eq (pe_ix ix_list (pv 1) pe_int (fun _ _ => rfl)) pe_str (nomark _))
        (pss_one (ps_ret (pe_or (pe_cmpR op_eq (pe_callB call_lenD (by rfl) T.b_len PySem.boot_len (pa_cons (pe_fld (pv 0) rfl) pa_nil)) (pe_gc (by rfl) T.MOST_FUNCTIONS) (nomark _)) (pe_one (pe_cmpR op_gt (pe_op op_add (pe_callB call_len_seq (by rfl) T.b_len PySem.boot_len (pa_cons (pe_fld (pv 0) rfl) pa_nil)) (pv 2)) (pe_gc (by rfl) T.MOST_PLACES) (nomark _)))))) pss_nil)
      (pss_one (ps_ret (pe_or (pe_cmpR op_eq (pe_callB call_len_seq (by rfl) T.b_len PySem.boot_len (pa_cons (pe_fld (pv 0) rfl) pa_nil)) (pe_gc (by rfl) T.MOST_TESTS) (nomark _)) (pe_one (pe_cmpR op_gt (pv 2) (pe_gc (by rfl) T.MOST_TEST_WORDS) (nomark _))))))), ?_⟩
    obtain ⟨w0, r, rfl⟩ : ∃ w0 r, ws = w0 :: r := by
      cases ws with
      | nil => simp at l4
      | cons x r => exact ⟨x, r, rfl⟩
    obtain ⟨kvs, f1, f2⟩ := X.funs
    obtain ⟨pvs, p1, p2⟩ := X.places
    obtain ⟨tvs, t1, t2⟩ := X.tests
    have lk := Paired.length f2
    have lp := Paired.length p2
    have lt := Paired.length t2
    unfold tooB at k
    have em : (((strV (w0 :: r)).length : Nat) : Int) - 4 = (((w0 :: r).length - 4 : Nat) : Int) := by rw [List.length_map]; omega
    refine ⟨_, rfl, wl, _, rfl, .inl (SqL.of hwl), _, _, rfl, rfl, ?_⟩
    refine ⟨_, rfl, wl, _, _, _, rfl, rfl, SqL.of hwl, atI_nat (j := 0) (strV_get rfl), rfl, _, rfl, ?_⟩
    rw [show ("fun" : Str) = S Ty01.wFun by decide +kernel, str_dec]
    have eh : ((w0 :: r).head? = some Ty01.wFun) = (w0 = Ty01.wFun) := by simp
    refine if_of (fun c => ?_) (fun c => ?_)
    · rw [if_pos (by rw [eh]; exact of_decide_eq_true c)] at k
      refine ⟨_, rfl, a, _, dx, _, _, rfl, X.ins, T.cG, T.g_functions, gl_functions, fn, kvs, rfl, f1, rfl, _, rfl, ?_⟩
      rw [dec_ieq (m := 8) (n := 8) rfl, ← lk]
      refine if_of (fun d => ?_) (fun d => ?_)
      · rw [d, Bool.true_or] at k
        exact k
      · rw [d, Bool.false_or] at k
        refine ⟨_, rfl, a, _, dx, _, _, rfl, X.ins, T.cG, T.g_places, gl_places, pl, pvs, rfl, .inl (SqL.of p1), _, rfl, _, _, rfl, rfl, _, _, rfl, rfl, ?_⟩
        show Q (.bl (decide ((30 : Int) < (pvs.length : Int) + ((((strV (w0 :: r)).length : Nat) : Int) - 4)))) H
        rw [em, ← lp]
        rw [show decide ((30 : Int) < (PL.length : Int) + (((w0 :: r).length - 4 : Nat) : Int)) = decide (30 < PL.length + ((w0 :: r).length - 4)) from decide_eq_decide.mpr (by omega)]
        exact k
    · rw [if_neg (by rw [eh]; exact of_decide_eq_false c)] at k
      refine ⟨_, rfl, a, _, dx, _, _, rfl, X.ins, T.cG, T.g_tests, gl_tests, ts, tvs, rfl, .inl (SqL.of t1), rfl, _, rfl, ?_⟩
      rw [dec_ieq (m := 4) (n := 4) rfl, ← lt]
      refine if_of (fun d => ?_) (fun d => ?_)
      · rw [d, Bool.true_or] at k
        exact k
      · rw [d, Bool.false_or] at k
        refine ⟨_, rfl, _, _, rfl, rfl, ?_⟩
        show Q (.bl (decide ((20 : Int) < (((strV (w0 :: r)).length : Nat) : Int) - 4))) H
        rw [em]
        rw [show decide ((20 : Int) < (((w0 :: r).length - 4 : Nat) : Int)) = decide (20 < (w0 :: r).length - 4) from decide_eq_decide.mpr (by omega)]
        exact k
end
end Pf
namespace Pf
open PySem PySem.Spec PyProof.Rows L2 SX
open C8 (Cal Met Mak Def cal0 met0 mak0 pe_c pe_mk pe_mt pe_mt0 pe_gc fnScope fnBody fnArgs fnScope_by)
theorem make_fun {A : Ad} {H1 : Hp} {r : Addr} {st : Nat} {ws : List (List Nat)} {z : List Nat} {n : Nat} {x dx : Addr} {QQ : Hp → Prop} {E : XK} (nx : H1 x = none) (nd : H1 dx = none) (hr : H1 r = some (.tup (rowV ws))) (hz : ws[2]? = some z) (hn : Ty01.number z = some n)
    (q : ∀ (H' : Hp), Same H1 H' → (∀ nm body, FunAt A H' (⟨nm, n, body, ws⟩, st) (.ref x)) → QQ H') :
    spFInit A.F [.ref x, .ref r, .int (st : Nat)] (upd (upd H1 dx (.own x)) x (.ins A.F dx [])) (fun v H2 => v = .non ∧ QQ H2) E := by
  obtain ⟨n1, n2, n3, n4⟩ := number_val hn
  have s0 : (upd (upd H1 dx (.own x)) x (.ins A.F dx [])) r = some (.tup (rowV ws)) := by
    rw [upd_ne (ne_of_none hr nx), upd_ne (ne_of_none hr nd)]; exact hr
  refine ⟨x, dx, r, _, rowV ws, z, rfl, upd_same, s0, strV_get hz, n1, n2, by omega, fun H' h1 kp => ⟨rfl, ?_⟩⟩
  have s1 : Same H1 H' := Same.made nx nd kp
  refine q H' s1 fun nm body => ⟨x, dx, r, rfl, ?_, s1 _ _ hr⟩
  rw [h1, n4]
theorem make_test {A : Ad} {H1 : Hp} {r : Addr} {st : Nat} {ws : List (List Nat)} {z : List Nat} {sh : List Nat} {x dx : Addr} {QQ : Hp → Prop} {E : XK} (nx : H1 x = none) (nd : H1 dx = none) (hr : H1 r = some (.tup (rowV ws))) (hz : ws[2]? = some z) (hs : z = sh.map shC)
    (q : ∀ (H' : Hp), Same H1 H' → (∀ nm body, TestAt A H' ⟨nm, sh, body, ws⟩ st (.ref x)) → QQ H') :
    spTInit A.T [.ref x, .ref r, .int (st : Nat)] (upd (upd H1 dx (.own x)) x (.ins A.T dx [])) (fun v H2 => v = .non ∧ QQ H2) E := by
  have s0 : (upd (upd H1 dx (.own x)) x (.ins A.T dx [])) r = some (.tup (rowV ws)) := by
    rw [upd_ne (ne_of_none hr nx), upd_ne (ne_of_none hr nd)]; exact hr
  refine ⟨x, dx, r, _, rowV ws, _, rfl, upd_same, s0, strV_get hz, fun H' h1 kp => ⟨rfl, ?_⟩⟩
  have s1 : Same H1 H' := Same.made nx nd kp
  refine q H' s1 fun nm body => ⟨x, dx, r, rfl, ?_, s1 _ _ hr⟩
  rw [h1, hs]
/-- the row is a function's: its name, how many are handed over -/
def ownF (ws : List (List Nat)) (st : Nat) : List (Ty01.Fun × Nat) := match ws with
  | w0 :: n :: z :: _ => if w0 = Ty01.wFun then [(⟨n, (Ty01.number z).getD 0, [], ws⟩, st)] else []
  | _ => []
theorem ownF_eq (w0 n z : List Nat) (r : List (List Nat)) (st : Nat) : ownF (w0 :: n :: z :: r) st = if w0 = Ty01.wFun then [(⟨n, (Ty01.number z).getD 0, [], w0 :: n :: z :: r⟩, st)] else [] := rfl
def spKnown (A : Ad) : Sp := fun vs H Q _ => ∃ (Hi : Hp) (a dx cd pl fn ts tk : Addr) (fst : List Nat) (C : List Wd) (PL : List Pl4) (FS : List (Ty01.Fun × Nat)) (TS : List (Ty01.Test × Nat)) (TK : TKt) (wl : Addr) (w0 n z : List Nat) (r : List (List Nat)),
  vs = [.ref a, .ref wl] ∧ BX A Hi H a dx cd pl fn ts tk fst C PL FS TS TK ∧ H wl = some (.lst (strV (w0 :: n :: z :: r))) ∧ (w0 = Ty01.wFun → (Ty01.number z).isSome = true ∧ ∀ q ∈ FS, q.1.name ≠ n) ∧ FS.length ≤ 100 ∧
  ∀ H' d, Same H H' → H d = none → FunsAt A H' d (FS ++ ownF (w0 :: n :: z :: r) C.length) → Q (.ref d) H'
theorem fkv_new {A : Ad} {H : Hp} {n : List Nat} : ∀ {fs : List (Ty01.Fun × Nat)} {kvs : List (Key × V)}, Paired (FKv A H) fs kvs → (∀ q ∈ fs, q.1.name ≠ n) → valV kvs (Sum.inr (S n)) = none
  | _, _, .nil, _ => rfl
  | q :: fs, kv :: kvs, .cons ⟨h1, _⟩ r, h => by
    have e : ¬ kv.1 = Sum.inr (S n) := by
      rw [h1]; intro z; exact h q (List.mem_cons_self ..) (S_inj (Sum.inr.inj z))
    rw [valV_neg e]
    exact fkv_new r fun q' hq => h q' (List.mem_cons_of_mem _ hq)
def spAddFun (A : Ad) : Sp := fun vs H Q _ => ∃ (Hi : Hp) (a dx cd pl fn ts tk : Addr) (fst : List Nat) (C : List Wd) (PL : List Pl4) (FS : List (Ty01.Fun × Nat)) (TS : List (Ty01.Test × Nat)) (TK : TKt) (fo : Ty01.Fun) (st n : Nat) (v : V),
  vs = [.ref a, v, .int (n : Nat)] ∧ BX A Hi H a dx cd pl fn ts tk fst C PL FS TS TK ∧ FunAt A Hi (fo, st) v ∧ fo.said[1]? = some fo.name ∧ (∀ q ∈ FS, q.1.name ≠ fo.name) ∧ FS.length ≤ 100 ∧ PL.length ≤ 1000 ∧ n ≤ 1000 ∧
  ∀ Hi' H', Same Hi Hi' → BX A Hi' H' a dx cd pl fn ts tk fst C (PL ++ (List.range n).map fun j => (st + j, FS.length, j, fo.arity)) (FS ++ [(fo, st)]) TS TK → Q .non H'
section
variable {P : PySem.Program} {w : World} {K : PySem.W.Frag} {mg : Str → Option Value} {base : Heap} {A : Ad}
theorem ok_functions_known (T : Tp K mg A) (cF : Mak P w K mg base 1 "Function" A.F (spFInit A.F) []) {f : Addr} {fd : FuncData} (F : Def K mg "functions_known" (top 42) f fd) (b : Binds K fd ["program", "words"] []) : Cal P w K mg base 3 "functions_known" (spKnown A) [] := by
  have sc : FnScope ["program", "words", "known"] ["program", "words"] (fnScope (top 42)) := fnScope_by (by decide +kernel)
  refine cal0 F b .nil sc (fun vs H Q E h => ?_) (fun cdv A' outer s H vs Q E hr h => ?_)
  · obtain ⟨Hi, a, dx, cd, pl, fn, ts, tk, fst, C, PL, FS, TS, TK, wl, w0, n, z, r, rfl, _⟩ := h
    rfl
  · obtain ⟨Hi, a, dx, cd, pl, fn, ts, tk, fst, C, PL, FS, TS, TK, wl, w0, n, z, r, rfl, X, hwl, hfun, lF, k⟩ := h
    refine ⟨_, pss_cons (ps_set (i := 2) sc.nd rfl (.inl rfl) (pe_callTy call_dictD (by rfl) T.b_dict (by decide +kernel) (pa_cons (pe_fld (pv 0) rfl) pa_nil)))
      (pss_cons (ps_if (pt_cmpR op_eq (pe_ix ix_list (pv 1) pe_int (fun _ _ => rfl)) pe_str (nomark _))
        (pss_one (ps_dput (hu_of hr) (pv 2) (pe_ix ix_list (pv 1) pe_int (fun _ _ => rfl)) (pe_mk cF hr (by decide) (by rfl) (pa_cons (pe_callTy call_tuple_of (by rfl) T.b_tuple (by decide +kernel) (pa_cons (pv 1) pa_nil)) (pa_cons (pe_callB call_len_seq (by rfl) T.b_len PySem.boot_len (pa_cons (pe_fld (pv 0) rfl) pa_nil)) pa_nil))) rfl)) pss_nil)
      (pss_one (ps_ret (pv 2)))), ?_⟩
    obtain ⟨kvs, f1, f2⟩ := X.funs
    have lk := Paired.length f2
    refine ⟨_, rfl, a, _, dx, _, _, rfl, X.ins, T.cG, T.g_functions, gl_functions, fn, kvs, rfl, Rd.of f1, fun d hd => ?_⟩
    have s1 : Same H (upd H d (.dK kvs)) := Same.new hd
    refine ⟨_, rfl, wl, _, _, _, rfl, rfl, SqL.of (s1 _ _ hwl), atI_nat (j := 0) (strV_get rfl), rfl, _, rfl, ?_⟩
    rw [show ("fun" : Str) = S Ty01.wFun by decide +kernel, str_dec]
    rw [ownF_eq] at k
    refine if_of (fun c => ?_) (fun c => ?_)
    · have c := of_decide_eq_true c
      rw [if_pos c] at k
      obtain ⟨hz, hnew⟩ := hfun c
      obtain ⟨m, hm⟩ := Option.isSome_iff_exists.mp hz
      rw [hm] at k
      refine ⟨_, rfl, wl, _, rfl, .inl ⟨SqL.of (s1 _ _ hwl), fun t ht => ?_⟩⟩
      have s2 : Same H (upd (upd H d (.dK kvs)) t (.tup (strV (w0 :: n :: z :: r)))) := s1.trans (Same.new ht)
      obtain ⟨cvs, c1, c2⟩ := X.code
      have lc := Paired.length c2
      refine ⟨_, rfl, a, _, dx, _, _, rfl, s2 _ _ X.ins, T.cG, T.g_code, gl_code, cd, cvs, rfl, .inl (SqL.of (s2 _ _ c1)), ?_⟩
      rw [← lc]
      intro x xdx nx nd ne
      refine make_fun (A := A) (st := C.length) (ws := w0 :: n :: z :: r) nx nd upd_same rfl hm fun H3 s3 hx => ?_
      have hd3 : H3 d = some (.dK kvs) := s3 _ _ (Same.new ht _ _ upd_same)
      have s4 := s2.trans s3
      have pk : Paired (FKv A H3) FS kvs := Paired.mapP f2 fun _ _ y => ⟨y.1, (y.2.mono X.sm).mono s4⟩
      refine ⟨_, rfl, _, rfl, wl, _, _, _, rfl, rfl, SqL.of (s4 _ _ hwl), atI_nat (j := 1) (strV_get rfl), d, _, rfl, DPut.k (k := Sum.inr (S n)) hd3 (by show _ < 2 ^ 24; omega), ?_⟩
      rw [putK_new _ (fkv_new pk hnew)]
      refine ⟨_, rfl, k _ d (Same.put s4 hd) hd ⟨_, upd_same, ?_⟩⟩
      -- what the functions are told by is no dict
      have mono : ∀ q v, FunAt A H3 q v → FunAt A (upd H3 d (.dK (kvs ++ [(Sum.inr (S n), .ref x)]))) q v := fun q v ⟨a1, dx1, r1, g1, g2, g3⟩ =>
        ⟨a1, dx1, r1, g1, (upd_ne (L2.ne_of g2 hd3 (by intro y; cases y))).trans g2, (upd_ne (L2.ne_of g3 hd3 (by intro y; cases y))).trans g3⟩
      exact pd_append (Paired.mapP pk fun _ _ y => ⟨y.1, mono _ _ y.2⟩) (pd_one ⟨rfl, mono _ _ (hx n [])⟩)
    · have c := of_decide_eq_false c
      rw [if_neg c, List.append_nil] at k
      exact ⟨_, rfl, k _ d s1 hd ⟨kvs, upd_same, Paired.mapP f2 fun _ _ y => ⟨y.1, (y.2.mono X.sm).mono s1⟩⟩⟩
theorem ok_add_function (T : Tp K mg A) (cP : Mak P w K mg base 1 "Place" A.P (spPInit A.P) []) {f : Addr} {fd : FuncData} (F : Def K mg "add_function" (top 43) f fd) (b : Binds K fd ["program", "function", "length"] []) : Cal P w K mg base 3 "add_function" (spAddFun A) [] := by
  have sc : FnScope ["program", "function", "length", "number", "which"] ["program", "function", "length"] (fnScope (top 43)) := fnScope_by (by decide +kernel)
  refine cal0 F b .nil sc (fun vs H Q E h => ?_) (fun cdv A' outer s H vs Q E hr h => ?_)
  · obtain ⟨Hi, a, dx, cd, pl, fn, ts, tk, fst, C, PL, FS, TS, TK, fo, st, n, v, rfl, _⟩ := h
    rfl
  · obtain ⟨Hi, a, dx, cd, pl, fn, ts, tk, fst, C, PL, FS, TS, TK, fo, st, n, v, rfl, X, hv, hsaid, hnew, lF, lP, ln, k⟩ := h
    refine ⟨_, pss_cons (ps_set (i := 3) sc.nd rfl (.inl rfl) (pe_callB call_lenD (by rfl) T.b_len PySem.boot_len (pa_cons (pe_fld (pv 0) rfl) pa_nil)))
      (pss_cons (ps_dput (hu_of hr) (pe_fld (pv 0) rfl) (pe_ix ix_tup (pe_fld (pv 1) rfl) pe_int (fun _ _ => rfl)) (pv 1) rfl)
      (pss_one (ps_for PassesOwn.never rfl (pi_range1 (by rfl) T.b_range (pa_cons (pv 2) pa_nil)) (pg_name (i := 4) sc.nd rfl (.inl rfl))
        (pss_one (ps_expr (pe_bm PySem.F.plainAttrs_list PySem.F.slot_list_append PySem.F.type_list_append mt_append (pe_fld (pv 0) rfl) (pa_cons (pe_mk cP hr (by decide) (by rfl) (pa_cons (pe_op op_add (pe_fld (pv 1) rfl) (pv 4)) (pa_cons (pv 3) (pa_cons (pv 4) (pa_cons (pe_fld (pv 1) rfl) pa_nil))))) pa_nil))))))), ?_⟩
    obtain ⟨kvs, f1, f2⟩ := X.funs
    have lk := Paired.length f2
    have hv0 := hv
    obtain ⟨fa, fdx, fr, rfl, g1, g2⟩ := hv
    refine ⟨_, rfl, a, _, dx, _, _, rfl, X.ins, T.cG, T.g_functions, gl_functions, fn, kvs, rfl, f1, ?_⟩
    rw [← lk]
    refine ⟨_, rfl, _, rfl, a, _, dx, _, _, rfl, X.ins, T.cG, T.g_functions, gl_functions, _, rfl, fa, _, fdx, _, _, rfl, X.sm _ _ g1, T.cF, T.f_row, fl_row, fr, _, _, _, rfl, rfl, SqT.of (X.sm _ _ g2), atI_nat (j := 1) (strV_get hsaid), fn, _, rfl, DPut.k (k := Sum.inr (S fo.name)) f1 (by show _ < 2 ^ 24; omega), ?_⟩
    rw [putK_new _ (fkv_new f2 hnew)]
    have X1 := X.setFuns (pd_append f2 (pd_one (x := (fo, st)) (u := (Sum.inr (S fo.name), .ref fa)) ⟨rfl, hv0⟩))
    refine ⟨_, rfl, _, rfl, (by omega), (by omega), ?_⟩
    rw [show ((n : Nat) : Int).toNat = n by omega]
    refine for_range (fun i σ H' => ∃ (Hj : Hp) (o4 : Option V), σ = [some (.ref a), some (.ref fa), some (.int (n : Nat)), some (.int (FS.length : Nat)), o4] ∧ Same Hi Hj ∧ BX A Hj H' a dx cd pl fn ts tk fst C (PL ++ (List.range i).map fun j => (st + j, FS.length, j, fo.arity)) (FS ++ [(fo, st)]) TS TK)
      ⟨Hi, none, rfl, Same.refl _, by rw [List.range_zero, List.map_nil, List.append_nil]; exact X1⟩ ?_ ?_
    · rintro i σ H2 hi ⟨Hj, o4, rfl, s2, X2⟩
      obtain ⟨pvs, p1, p2⟩ := X2.places
      have lp : pvs.length ≤ 2000 := by rw [← Paired.length p2, List.length_append, List.length_map, List.length_range]; omega
      have g1' := X2.sm _ _ (s2 _ _ g1)
      refine ⟨_, rfl, a, _, dx, _, _, rfl, X2.ins, T.cG, T.g_places, gl_places, .inl ⟨rfl, _, SqL.of p1⟩, ?_⟩
      refine ⟨_, rfl, fa, _, fdx, _, _, rfl, g1', T.cF, T.f_start, fl_start, _, rfl, _, _, rfl, rfl, _, rfl, _, rfl, _, rfl, fa, _, fdx, _, _, rfl, g1', T.cF, T.f_many, fl_many, ?_⟩
      intro x xdx nx nd ne
      refine ⟨x, xdx, _, _, _, _, rfl, upd_same, fun H3 h3 kp => ⟨rfl, ?_⟩⟩
      have s3 : Same H2 H3 := Same.made nx nd kp
      obtain ⟨X3, s4⟩ := X2.grown s3
      refine ⟨pl, pvs, _, rfl, rfl, s3 _ _ p1, (by show _ < 2 ^ 24; omega), ?_⟩
      refine ⟨_, _, rfl, s2.trans s4, ?_⟩
      rw [List.range_succ, List.map_append, ← List.append_assoc]
      refine X3.setPlaces (pd_append (Paired.mapP p2 fun _ _ y => y.mono s4) (pd_one ⟨x, xdx, rfl, ?_⟩))
      rw [butP_ne]
      · rw [h3]
        have e1 : ((st : Nat) : Int) + (0 + (i : Int)) = ((st + i : Nat) : Int) := by omega
        have e2 : (0 : Int) + (i : Int) = ((i : Nat) : Int) := by omega
        show some (HO.ins A.P xdx (pF (.int (((st : Nat) : Int) + (0 + (i : Int)))) (.int (FS.length : Nat)) (.int ((0 : Int) + (i : Int))) (.int (fo.arity : Nat)))) = _
        rw [e1, e2]
      · intro z
        obtain ⟨o, ho⟩ := X2.tracked x (List.mem_cons_of_mem _ z)
        rw [ho] at nx
        cases nx
    · rintro σ H2 ⟨Hj, o4, rfl, s2, X2⟩
      exact k Hj H2 s2 X2
end
end Pf
namespace Pf
open PySem PySem.Spec PyProof.Rows L2 SX
open C8 (Cal Met Mak Def cal0 met0 mak0 pe_c pe_mk pe_mt pe_mt0 pe_gc fnScope fnBody fnArgs fnScope_by)
def plus (TK : TKt) (n : List Nat) : TKt := (TK.1 + 1, fun x => decide (x = n) || TK.2 x)
def newPl (st g ar n : Nat) : List Pl4 := (List.range n).map fun j => (st + j, g, j, ar)
def spAddRow (A : Ad) : Sp := fun vs H Q _ => ∃ (Hi : Hp) (a dx cd pl fn ts tk : Addr) (fst fst' : List Nat) (C : List Wd) (PL : List Pl4) (FS : List (Ty01.Fun × Nat)) (TS : List (Ty01.Test × Nat)) (TK : TKt) (wl ea : Addr) (w0 n z : List Nat) (r : List (List Nat)) (W : List Wd) (evs : List V) (body : List Ty01.Tok),
  vs = [.ref a, .ref wl, .ref ea] ∧ BX A Hi H a dx cd pl fn ts tk fst C PL FS TS TK ∧ Hi wl = some (.lst (strV (w0 :: n :: z :: r))) ∧ Hi ea = some (.lst evs) ∧ Paired (WordAt A Hi fst') W evs ∧
  (∀ x ∈ C, ∀ v, WordAt A Hi fst x v → WordAt A Hi fst' x v) ∧ C.length ≤ 1000 ∧ W.length ≤ 1000 ∧ FS.length ≤ 50 ∧ PL.length ≤ 1000 ∧ TS.length ≤ 50 ∧ TK.1 ≤ 50 ∧ (∀ q ∈ FS, q.1.name ≠ n) ∧
  (w0 = Ty01.wFun → ∃ k, Ty01.number z = some k ∧ ∀ Hi' H', Same Hi Hi' → BX A Hi' H' a dx cd pl fn ts tk fst' (C ++ W) (PL ++ newPl C.length FS.length k W.length) (FS ++ [(⟨n, k, body, w0 :: n :: z :: r⟩, C.length)]) TS (plus TK n) → Q .non H') ∧
  (w0 ≠ Ty01.wFun → ∃ sh, z = sh.map shC ∧ ∀ Hi' H', Same Hi Hi' → BX A Hi' H' a dx cd pl fn ts tk fst' (C ++ W) PL FS (TS ++ [(⟨n, sh, body, w0 :: n :: z :: r⟩, C.length)]) (plus TK n) → Q .non H')
theorem pd_mem {α β : Type} {F G : α → β → Prop} : ∀ {xs : List α} {us : List β}, Paired F xs us → (∀ x ∈ xs, ∀ u, F x u → G x u) → Paired G xs us
  | _, _, .nil, _ => .nil
  | _, _, .cons r t, h => .cons (h _ (List.mem_cons_self ..) _ r) (pd_mem t fun x hx => h x (List.mem_cons_of_mem _ hx))
section
variable {P : PySem.Program} {w : World} {K : PySem.W.Frag} {mg : Str → Option Value} {base : Heap} {A : Ad}
theorem ok_add_row (T : Tp K mg A) (cA : Cal P w K mg base 3 "add_function" (spAddFun A) []) (cF : Mak P w K mg base 1 "Function" A.F (spFInit A.F) []) (cT : Mak P w K mg base 1 "Test" A.T (spTInit A.T) [])
    {f : Addr} {fd : FuncData} (F : Def K mg "add_row" (top 44) f fd) (b : Binds K fd ["program", "words", "expression"] []) : Cal P w K mg base 4 "add_row" (spAddRow A) [] := by
  have sc : FnScope ["program", "words", "expression", "start"] ["program", "words", "expression"] (fnScope (top 44)) := fnScope_by (by decide +kernel)
  refine cal0 F b .nil sc (fun vs H Q E h => ?_) (fun cdv A' outer s H vs Q E hr h => ?_)
  · obtain ⟨Hi, a, dx, cd, pl, fn, ts, tk, fst, fst', C, PL, FS, TS, TK, wl, ea, w0, n, z, r, W, evs, body, rfl, _⟩ := h
    rfl
  · obtain ⟨Hi, a, dx, cd, pl, fn, ts, tk, fst, fst', C, PL, FS, TS, TK, wl, ea, w0, n, z, r, W, evs, body, rfl, X, hwl, hea, hW, old, lC, lW, lF, lP, lT, lTK, hnew, kF, kT⟩ := h
    refine ⟨_, pss_cons (ps_set (i := 3) sc.nd rfl (.inl rfl) (pe_callB call_len_seq (by rfl) T.b_len PySem.boot_len (pa_cons (pe_fld (pv 0) rfl) pa_nil)))
      (pss_cons (ps_dput (hu_of hr) (pe_fld (pv 0) rfl) (pe_ix ix_list (pv 1) pe_int (fun _ _ => rfl)) pe_bl rfl)
      (pss_cons (ps_expr (pe_bm PySem.F.plainAttrs_list PySem.F.slot_list_extend PySem.F.type_list_extend mt_extend (pe_fld (pv 0) rfl) (pa_cons (pv 2) pa_nil)))
      (pss_one (ps_if (pt_cmpR op_eq (pe_ix ix_list (pv 1) pe_int (fun _ _ => rfl)) pe_str (nomark _))
        (pss_one (ps_expr (pe_c cA hr (by decide) (by rfl) (pa_cons (pv 0) (pa_cons (pe_mk cF hr (by decide) (by rfl) (pa_cons (pe_callTy call_tuple_of (by rfl) T.b_tuple (by decide +kernel) (pa_cons (pv 1) pa_nil)) (pa_cons (pv 3) pa_nil))) (pa_cons (pe_callB call_len_seq (by rfl) T.b_len PySem.boot_len (pa_cons (pv 2) pa_nil)) pa_nil))))))
        (pss_one (ps_expr (pe_bm PySem.F.plainAttrs_list PySem.F.slot_list_append PySem.F.type_list_append mt_append (pe_fld (pv 0) rfl) (pa_cons (pe_mk cT hr (by decide) (by rfl) (pa_cons (pe_callTy call_tuple_of (by rfl) T.b_tuple (by decide +kernel) (pa_cons (pv 1) pa_nil)) (pa_cons (pv 3) pa_nil))) pa_nil)))))))), ?_⟩
    obtain ⟨cvs, c1, c2⟩ := X.code
    have lc := Paired.length c2
    have le := Paired.length hW
    refine ⟨_, rfl, a, _, dx, _, _, rfl, X.ins, T.cG, T.g_code, gl_code, cd, cvs, rfl, .inl (SqL.of c1), ?_⟩
    rw [← lc]
    obtain ⟨kvs, hk, lk, htk⟩ := X.taken
    refine ⟨_, rfl, a, _, dx, _, _, rfl, X.ins, T.cG, T.g_taken, gl_taken, _, rfl, wl, _, _, _, rfl, rfl, SqL.of (X.sm _ _ hwl), atI_nat (j := 1) (strV_get rfl), tk, _, rfl, DPut.k (k := Sum.inr (S n)) hk (by show _ < 2 ^ 24; omega), ?_⟩
    have X1 : BX A Hi (upd H tk (.dK (putK kvs (Sum.inr (S n)) (.bl true)))) a dx cd pl fn ts tk fst C PL FS TS (plus TK n) := by
      refine X.setTaken ⟨?_, fun x => ?_⟩
      · show _ ≤ TK.1 + 1
        unfold putK
        split
        · rw [List.length_map]; omega
        · rw [List.length_append]; simp; omega
      · rw [valV_put, htk]
        rw [show (plus TK n).2 x = (decide (x = n) || TK.2 x) from rfl]
        by_cases hx : x = n
        · subst hx
          rw [if_pos rfl, decide_eq_true rfl]
          rfl
        · rw [if_neg (fun q => hx (S_inj (Sum.inr.inj q))), decide_eq_false hx]
          rfl
    obtain ⟨cvs', d1, d2⟩ := X1.code
    have ecv : cvs' = cvs := by
      rw [upd_ne (BX.dl c1 hk)] at d1
      rw [c1] at d1
      cases d1
      rfl
    subst ecv
    refine ⟨_, rfl, a, _, dx, _, _, rfl, X1.ins, T.cG, T.g_code, gl_code, .inl ⟨rfl, _, SqL.of d1⟩, _, rfl, cd, ea, _, _, rfl, rfl, d1, X1.sm _ _ hea, (by show _ ≤ 2 ^ 24; omega), ?_⟩
    have X2 := X1.setCode (fst' := fst') (C' := C ++ W) (pd_append (pd_mem d2 old) hW)
    have hwl2 := X2.sm _ _ hwl
    refine ⟨_, rfl, wl, _, _, _, rfl, rfl, SqL.of hwl2, atI_nat (j := 0) (strV_get rfl), rfl, _, rfl, ?_⟩
    rw [show ("fun" : Str) = S Ty01.wFun by decide +kernel, str_dec]
    refine if_of (fun c => ?_) (fun c => ?_)
    · obtain ⟨k, hkn, kk⟩ := kF (of_decide_eq_true c)
      refine ⟨_, rfl, _, rfl, wl, _, rfl, .inl ⟨SqL.of hwl2, fun t ht => ?_⟩⟩
      refine ⟨_, rfl, ?_⟩
      intro x xdx nx nd ne
      refine make_fun (A := A) (st := C.length) (ws := w0 :: n :: z :: r) nx nd upd_same rfl hkn fun H3 s3 hx => ?_
      obtain ⟨X3, s4⟩ := X2.grown ((Same.new ht).trans s3)
      refine ⟨_, rfl, ea, _, rfl, .inl (SqL.of (X3.sm _ _ (s4 _ _ hea))), ?_⟩
      rw [← le]
      have hx3 : FunAt A (butP H3 [cd, pl, fn, ts, tk]) (⟨n, k, body, w0 :: n :: z :: r⟩, C.length) (.ref x) := by
        obtain ⟨fa, fdx, fr, e, g1, g2⟩ := hx n body
        refine ⟨fa, fdx, fr, e, ?_, ?_⟩
        · rw [butP_ne]
          · exact g1
          · intro y
            obtain ⟨_, q1, _⟩ := X3.code
            obtain ⟨_, q2, _⟩ := X3.places
            obtain ⟨_, q3, _⟩ := X3.funs
            obtain ⟨_, q4, _⟩ := X3.tests
            obtain ⟨_, q5, _⟩ := X3.taken
            simp only [List.mem_cons, List.not_mem_nil, or_false] at y
            rcases y with rfl | rfl | rfl | rfl | rfl
            · rw [q1] at g1; cases g1
            · rw [q2] at g1; cases g1
            · rw [q3] at g1; cases g1
            · rw [q4] at g1; cases g1
            · rw [q5] at g1; cases g1
        · rw [butP_ne]
          · exact g2
          · intro y
            obtain ⟨_, q1, _⟩ := X3.code
            obtain ⟨_, q2, _⟩ := X3.places
            obtain ⟨_, q3, _⟩ := X3.funs
            obtain ⟨_, q4, _⟩ := X3.tests
            obtain ⟨_, q5, _⟩ := X3.taken
            simp only [List.mem_cons, List.not_mem_nil, or_false] at y
            rcases y with rfl | rfl | rfl | rfl | rfl
            · rw [q1] at g2; cases g2
            · rw [q2] at g2; cases g2
            · rw [q3] at g2; cases g2
            · rw [q4] at g2; cases g2
            · rw [q5] at g2; cases g2
      exact ⟨_, a, dx, cd, pl, fn, ts, tk, fst', C ++ W, PL, FS, TS, plus TK n, ⟨n, k, body, w0 :: n :: z :: r⟩, C.length, W.length, _, rfl, X3, hx3, rfl, hnew, (by omega), lP, lW, fun Hi' H' s5 X5 => kk Hi' H' (s4.trans s5) X5⟩
    · obtain ⟨sh, hsh, kk⟩ := kT (of_decide_eq_false c)
      obtain ⟨tvs, t1, t2⟩ := X2.tests
      have lt := Paired.length t2
      refine ⟨_, rfl, a, _, dx, _, _, rfl, X2.ins, T.cG, T.g_tests, gl_tests, .inl ⟨rfl, _, SqL.of t1⟩, ?_⟩
      refine ⟨_, rfl, wl, _, rfl, .inl ⟨SqL.of hwl2, fun t ht => ?_⟩⟩
      refine ⟨_, rfl, ?_⟩
      intro x xdx nx nd ne
      refine make_test (A := A) (st := C.length) (ws := w0 :: n :: z :: r) nx nd upd_same rfl hsh fun H3 s3 hx => ?_
      obtain ⟨X3, s4⟩ := X2.grown ((Same.new ht).trans s3)
      have t13 := s3 _ _ (Same.new ht _ _ t1)
      refine ⟨ts, tvs, _, rfl, rfl, t13, (by show _ < 2 ^ 24; omega), ?_⟩
      have hx3 : TestAt A (butP H3 [cd, pl, fn, ts, tk]) ⟨n, sh, body, w0 :: n :: z :: r⟩ C.length (.ref x) := by
        obtain ⟨fa, fdx, fr, e, g1, g2⟩ := hx n body
        refine ⟨fa, fdx, fr, e, ?_, ?_⟩
        · rw [butP_ne]
          · exact g1
          · intro y
            obtain ⟨_, q1, _⟩ := X3.code
            obtain ⟨_, q2, _⟩ := X3.places
            obtain ⟨_, q3, _⟩ := X3.funs
            obtain ⟨_, q4, _⟩ := X3.tests
            obtain ⟨_, q5, _⟩ := X3.taken
            simp only [List.mem_cons, List.not_mem_nil, or_false] at y
            rcases y with rfl | rfl | rfl | rfl | rfl
            · rw [q1] at g1; cases g1
            · rw [q2] at g1; cases g1
            · rw [q3] at g1; cases g1
            · rw [q4] at g1; cases g1
            · rw [q5] at g1; cases g1
        · rw [butP_ne]
          · exact g2
          · intro y
            obtain ⟨_, q1, _⟩ := X3.code
            obtain ⟨_, q2, _⟩ := X3.places
            obtain ⟨_, q3, _⟩ := X3.funs
            obtain ⟨_, q4, _⟩ := X3.tests
            obtain ⟨_, q5, _⟩ := X3.taken
            simp only [List.mem_cons, List.not_mem_nil, or_false] at y
            rcases y with rfl | rfl | rfl | rfl | rfl
            · rw [q1] at g2; cases g2
            · rw [q2] at g2; cases g2
            · rw [q3] at g2; cases g2
            · rw [q4] at g2; cases g2
            · rw [q5] at g2; cases g2
      refine kk _ _ s4 (X3.setTests (pd_append (Paired.mapP t2 fun _ _ y => y.mono s4) (pd_one ?_)))
      exact hx3
end
end Pf
namespace Pf
open PySem PySem.Spec PyProof.Rows L2 SX
open C8 (Cal Met Mak Def cal0 met0 mak0 pe_c pe_mk pe_mt pe_mt0 pe_gc fnScope fnBody fnArgs fnScope_by)
/-! ### the program, as the specification has it, and as it is held -/
def plcsFrom : Nat → List (Ty01.Fun × Nat) → List Pl4
  | _, [] => []
  | g, q :: r => newPl q.2 g q.1.arity q.1.body.length ++ plcsFrom (g + 1) r
theorem plcs_app : ∀ (l r : List (Ty01.Fun × Nat)) (g : Nat), plcsFrom g (l ++ r) = plcsFrom g l ++ plcsFrom (g + l.length) r
  | [], r, g => rfl
  | q :: l, r, g => by
    show newPl _ _ _ _ ++ plcsFrom (g + 1) (l ++ r) = (newPl _ _ _ _ ++ plcsFrom (g + 1) l) ++ _
    rw [plcs_app l r (g + 1), List.append_assoc, List.length_cons, show g + 1 + l.length = g + (l.length + 1) by omega]
theorem plcs_len : ∀ (l : List (Ty01.Fun × Nat)) (g : Nat), (plcsFrom g l).length = (l.map fun q => q.1.body.length).sum
  | [], _ => rfl
  | q :: l, g => by
    show (newPl _ _ _ _ ++ plcsFrom (g + 1) l).length = _
    rw [List.length_append, plcs_len l (g + 1), List.map_cons, List.sum_cons]
    unfold newPl
    rw [List.length_map, List.length_range]
abbrev MP.FS (m : MP) : List (Ty01.Fun × Nat) := m.p.funs.zip m.fst
abbrev MP.TS (m : MP) : List (Ty01.Test × Nat) := m.p.tests.zip m.tst
abbrev MP.PL (m : MP) : List Pl4 := plcsFrom 0 m.FS
abbrev MP.TK (m : MP) : TKt := (m.p.funs.length + m.p.tests.length, takenB m.p)
def BM (A : Ad) (Hi H : Hp) (a dx cd pl fn ts tk : Addr) (m : MP) : Prop := BX A Hi H a dx cd pl fn ts tk m.fst m.code m.PL m.FS m.TS m.TK
theorem zip_fst {α β : Type} {γ : Type} (f : α → γ) : ∀ {l : List α} {r : List β}, l.length = r.length → (l.zip r).map (fun q => f q.1) = l.map f
  | [], _, _ => by simp
  | x :: l, [], h => by simp at h
  | x :: l, y :: r, h => by
    rw [List.zip_cons_cons, List.map_cons, List.map_cons, zip_fst f (by simpa using h)]
theorem zip_snd {α β : Type} : ∀ {l : List α} {r : List β}, l.length = r.length → (l.zip r).map (·.2) = r
  | [], [], _ => rfl
  | [], y :: r, h => by simp at h
  | x :: l, [], h => by simp at h
  | x :: l, y :: r, h => by
    rw [List.zip_cons_cons, List.map_cons, zip_snd (by simpa using h)]
theorem zip_len {α β : Type} {l : List α} {r : List β} (h : l.length = r.length) : (l.zip r).length = l.length := by rw [List.length_zip]; omega
theorem zip_snoc {α β : Type} {l : List α} {r : List β} (h : l.length = r.length) (x : α) (y : β) : (l ++ [x]).zip (r ++ [y]) = l.zip r ++ [(x, y)] := by
  rw [List.zip_append h]; rfl
section
variable {m : MP} (G : Good m)
include G
theorem Good.fl' : m.p.funs.length = m.fst.length := G.F.1.symm
theorem Good.tl' : m.p.tests.length = m.tst.length := G.tl.symm
theorem FS_len : m.FS.length = m.p.funs.length := zip_len (Good.fl' G)
theorem TS_len : m.TS.length = m.p.tests.length := zip_len (Good.tl' G)
theorem FS_name : m.FS.map (fun q => q.1.name) = m.p.funs.map fun f => f.name := zip_fst (fun f : Ty01.Fun => f.name) (Good.fl' G)
theorem FS_ar : m.FS.map (fun q => q.1.arity) = m.p.funs.map fun f => f.arity := zip_fst (fun f : Ty01.Fun => f.arity) (Good.fl' G)
theorem FS_st : m.FS.map (·.2) = m.fst := zip_snd (Good.fl' G)
theorem PL_len : m.PL.length = Ty01.total m.p := by
  rw [plcs_len, zip_fst (fun f : Ty01.Fun => f.body.length) (Good.fl' G)]
  rfl
/-- a function more -/
theorem bm_fun {A : Ad} {Hi H : Hp} {a dx cd pl fn ts tk : Addr} {f : Ty01.Fun} {W : List Wd} (hW : W = wordsOf ((m.p.funs ++ [f]).map fun f => f.arity) m.code.length f.body)
    (h : BX A Hi H a dx cd pl fn ts tk (m.fst ++ [m.code.length]) (m.code ++ W) (m.PL ++ newPl m.code.length m.FS.length f.arity W.length) (m.FS ++ [(f, m.code.length)]) m.TS (plus m.TK f.name)) : BM A Hi H a dx cd pl fn ts tk (m.addFun f) := by
  have e1 : (m.addFun f).FS = m.FS ++ [(f, m.code.length)] := zip_snoc (Good.fl' G) _ _
  have e2 : (m.addFun f).PL = m.PL ++ newPl m.code.length m.FS.length f.arity W.length := by
    show plcsFrom 0 (m.addFun f).FS = _
    rw [e1, plcs_app, Nat.zero_add, hW, wordsOf_len]
    show _ ++ (newPl _ _ _ _ ++ []) = _
    rw [List.append_nil]
  have e3 : (m.addFun f).TK = plus m.TK f.name := by
    show ((m.p.funs ++ [f]).length + m.p.tests.length, takenB (m.addFun f).p) = (m.p.funs.length + m.p.tests.length + 1, _)
    congr 1
    · rw [List.length_append, List.length_singleton]; omega
    · funext x
      show ((m.p.funs ++ [f]).any (fun g => g.name == x) || m.p.tests.any fun t => t.name == x) = (decide (x = f.name) || (m.p.funs.any (fun g => g.name == x) || m.p.tests.any fun t => t.name == x))
      rw [List.any_append, List.any_cons, List.any_nil, Bool.or_false]
      have : (f.name == x) = decide (x = f.name) := by
        rw [Bool.eq_iff_iff, beq_iff_eq, decide_eq_true_eq]
        exact ⟨fun h => h.symm, fun h => h.symm⟩
      rw [this, Bool.or_comm (m.p.funs.any _), Bool.or_assoc]
  unfold BM
  rw [e2, e1, e3]
  show BX A Hi H a dx cd pl fn ts tk (m.fst ++ [m.code.length]) (m.code ++ wordsOf _ _ _) _ _ m.TS _
  rw [← hW]
  exact h
/-- a test more -/
theorem bm_test {A : Ad} {Hi H : Hp} {a dx cd pl fn ts tk : Addr} {t : Ty01.Test} {W : List Wd} (hW : W = wordsOf (Ty01.arities m.p) m.code.length t.body)
    (h : BX A Hi H a dx cd pl fn ts tk m.fst (m.code ++ W) m.PL m.FS (m.TS ++ [(t, m.code.length)]) (plus m.TK t.name)) : BM A Hi H a dx cd pl fn ts tk (m.addTest t) := by
  have e1 : (m.addTest t).TS = m.TS ++ [(t, m.code.length)] := zip_snoc (Good.tl' G) _ _
  have e3 : (m.addTest t).TK = plus m.TK t.name := by
    show (m.p.funs.length + (m.p.tests ++ [t]).length, takenB (m.addTest t).p) = (m.p.funs.length + m.p.tests.length + 1, _)
    congr 1
    · rw [List.length_append, List.length_singleton]; omega
    · funext x
      show (m.p.funs.any (fun g => g.name == x) || (m.p.tests ++ [t]).any fun t => t.name == x) = (decide (x = t.name) || (m.p.funs.any (fun g => g.name == x) || m.p.tests.any fun t => t.name == x))
      rw [List.any_append, List.any_cons, List.any_nil, Bool.or_false]
      have : (t.name == x) = decide (x = t.name) := by
        rw [Bool.eq_iff_iff, beq_iff_eq, decide_eq_true_eq]
        exact ⟨fun h => h.symm, fun h => h.symm⟩
      rw [this, ← Bool.or_assoc, Bool.or_comm _ (decide _)]
  unfold BM
  rw [e1, e3]
  show BX A Hi H a dx cd pl fn ts tk m.fst (m.code ++ wordsOf _ _ _) m.PL m.FS _ _
  rw [← hW]
  exact h
end
theorem shC_shOf : ∀ {z : List Nat}, (z.all fun c => (Ty01.shapeOf c).isSome) = true → z = (shOf z).map shC
  | [], _ => rfl
  | c :: z, h => by
    rw [List.all_cons, Bool.and_eq_true] at h
    show c :: z = shC ((Ty01.shapeOf c).getD 0) :: (shOf z).map shC
    rw [← shC_shOf h.2]
    congr 1
    have h1 := h.1
    unfold Ty01.shapeOf at h1 ⊢
    split at h1
    · rename_i e; rw [if_pos e, e]; rfl
    · rename_i e1
      split at h1
      · rename_i e; rw [if_neg e1, if_pos e, e]; rfl
      · rename_i e2
        split at h1
        · rename_i e; rw [if_neg e1, if_neg e2, if_pos e, e]; rfl
        · cases h1
/-! ### the words that are being told -/
def eV : Option RW → V
  | none => .non
  | some x => .ref x.a
def MeanAt (A : Ad) (Hk H : Hp) (D : Addr) (names : List (List Nat)) (sts ars : List Nat) (k : Nat) (w : List Nat) (e : Option RW) : Prop := match Ty01.tokOf names k w with
  | none => e = none
  | some t => ∃ x, e = some x ∧ x.k = .int (kindOf t : Nat) ∧ x.wh = whatV sts t ∧ x.m = Ty01.arityOf ars t ∧ RawAt A H x ∧ H x.pl = some (.lst []) ∧ Hk x.pl = none ∧ x.pl ≠ D
theorem mean_some {A : Ad} {Hk H : Hp} {D : Addr} {names : List (List Nat)} {sts ars : List Nat} {k : Nat} : ∀ {b : List (List Nat)} {es : List (Option RW)} {t : List Ty01.Tok}, Paired (MeanAt A Hk H D names sts ars k) b es → b.mapM (Ty01.tokOf names k) = some t →
    ∃ xs : List RW, es = xs.map some ∧ Paired (fun t x => x.k = .int (kindOf t : Nat) ∧ x.wh = whatV sts t ∧ x.m = Ty01.arityOf ars t ∧ RawAt A H x ∧ H x.pl = some (.lst []) ∧ Hk x.pl = none ∧ x.pl ≠ D) t xs
  | [], _, t, .nil, h => by
    rw [List.mapM_nil] at h
    cases h
    exact ⟨[], rfl, .nil⟩
  | w :: b, e :: es, t, .cons r p, h => by
    rw [List.mapM_cons] at h
    unfold MeanAt at r
    cases hw : Ty01.tokOf names k w with
    | none => rw [hw] at h; cases h
    | some tw =>
      rw [hw] at h r
      cases hb : b.mapM (Ty01.tokOf names k) with
      | none => rw [hb] at h; cases h
      | some tb =>
        rw [hb] at h
        cases h
        obtain ⟨xs, e1, e2⟩ := mean_some p hb
        obtain ⟨x, rfl, hx⟩ := r
        exact ⟨x :: xs, by rw [e1]; rfl, .cons hx e2⟩
theorem mean_none {A : Ad} {Hk H : Hp} {D : Addr} {names : List (List Nat)} {sts ars : List Nat} {k : Nat} : ∀ {b : List (List Nat)} {es : List (Option RW)}, Paired (MeanAt A Hk H D names sts ars k) b es → b.mapM (Ty01.tokOf names k) = none → (es.map eV).any isNon = true
  | [], _, .nil, h => by
    rw [List.mapM_nil] at h
    cases h
  | w :: b, e :: es, .cons r p, h => by
    rw [List.mapM_cons] at h
    unfold MeanAt at r
    rw [List.map_cons, List.any_cons]
    cases hw : Ty01.tokOf names k w with
    | none =>
      rw [hw] at r
      have r : e = none := r
      rw [r]
      rfl
    | some tw =>
      rw [hw] at h
      cases hb : b.mapM (Ty01.tokOf names k) with
      | none => rw [mean_none p hb, Bool.or_true]
      | some tb => rw [hb] at h; cases h
theorem not_non (xs : List RW) : ((xs.map some).map eV).any isNon = false := by
  induction xs with
  | nil => rfl
  | cons x xs ih =>
    rw [List.map_cons, List.map_cons, List.any_cons, ih]
    rfl
theorem eV_some (xs : List RW) : (xs.map some).map eV = refs xs := by rw [List.map_map]; rfl
theorem MeanAt.mono {A : Ad} {Hk H H' : Hp} {D : Addr} {names : List (List Nat)} {sts ars : List Nat} {k : Nat} {w : List Nat} {e : Option RW} (h : MeanAt A Hk H D names sts ars k w e) (s : ∀ b o, b ≠ D → H b = some o → H' b = some o) (nD : ∀ x, e = some x → x.a ≠ D) : MeanAt A Hk H' D names sts ars k w e := by
  unfold MeanAt at *
  split at h
  · exact h
  · obtain ⟨x, h1, h2, h3, h4, h5, h6, h7, h8⟩ := h
    exact ⟨x, h1, h2, h3, h4, s _ _ (nD x h1) h5, s _ _ h8 h6, h7, h8⟩
structure Tr (K : PySem.W.Frag) (A : Ad) : Prop where
  mro : PySem.W.mroIn K A.W (.type "object") = some true
  eq : PySem.W.findIn K (.ref A.W) "__eq__" = some (some (.builtin "object.__eq__"))
end Pf
namespace Pf
open PySem PySem.Spec PyProof.Rows L2 SX
open C8 (Cal Met Mak Def cal0 met0 mak0 pe_c pe_mk pe_mt pe_mt0 pe_gc fnScope fnBody fnArgs fnScope_by)
def spReadRow (A : Ad) : Sp := fun vs H Q _ => ∃ (Hi : Hp) (a dx cd pl fn ts tk : Addr) (m : MP) (wl : Addr) (ws : List (List Nat)),
  vs = [.ref a, .ref wl] ∧ BM A Hi H a dx cd pl fn ts tk m ∧ Good m ∧ Hi wl = some (.lst (strV ws)) ∧ (∀ x ∈ ws, Low x) ∧ ws.length ≤ 1000 ∧
  match rowP m ws with
  | .error e => ∀ H', Same Hi H' → Q (.int (e : Nat)) H'
  | .ok m' => ∀ Hi' H', Same Hi Hi' → BM A Hi' H' a dx cd pl fn ts tk m' → Q (.int 0) H'
theorem if_both {c : Bool} {A B R : Prop} (h1 : c = true → R → A) (h2 : c = false → R → B) (h : R) : if c = true then A else B := by
  cases c with
  | true => exact h1 rfl h
  | false => exact h2 rfl h
theorem pd_mem' {α β : Type} {F G : α → β → Prop} : ∀ {xs : List α} {us : List β}, Paired F xs us → (∀ x u, F x u → u ∈ us → G x u) → Paired G xs us
  | _, _, .nil, _ => .nil
  | _, _, .cons r t, h => .cons (h _ _ r (List.mem_cons_self ..)) (pd_mem' t fun x u hx hu => h x u hx (List.mem_cons_of_mem _ hu))
theorem pd_right {α β : Type} {F : α → β → Prop} : ∀ {xs : List α} {us : List β} {u : β}, Paired F xs us → u ∈ us → ∃ x, F x u
  | _, _, _, .nil, h => by cases h
  | _, _, _, .cons r t, h => by
    rcases List.mem_cons.mp h with e | h
    · exact ⟨_, e ▸ r⟩
    · exact pd_right t h
theorem pd_both {α β : Type} {F : α → β → Prop} : ∀ {xs : List α} {us : List β} {u : β}, Paired F xs us → u ∈ us → ∃ x, x ∈ xs ∧ F x u
  | _, _, _, .nil, h => by cases h
  | _, _, _, .cons r t, h => by
    rcases List.mem_cons.mp h with e | h
    · exact ⟨_, List.mem_cons_self .., e ▸ r⟩
    · obtain ⟨x, h1, h2⟩ := pd_both t h
      exact ⟨x, List.mem_cons_of_mem _ h1, h2⟩
theorem pd_map {α β γ : Type} {F : α → β → Prop} {f : α → γ} {g : β → γ} : ∀ {xs : List α} {us : List β}, Paired F xs us → (∀ x u, F x u → g u = f x) → us.map g = xs.map f
  | _, _, .nil, _ => rfl
  | _, _, .cons r t, h => by rw [List.map_cons, List.map_cons, h _ _ r, pd_map t h]
theorem pd_of_get {α β : Type} {F : α → β → Prop} : ∀ {xs : List α} {us : List β}, xs.length = us.length → (∀ (i : Nat) x u, xs[i]? = some x → us[i]? = some u → F x u) → Paired F xs us
  | [], [], _, _ => .nil
  | [], _ :: _, h, _ => by cases h
  | _ :: _, [], h, _ => by cases h
  | x :: xs, u :: us, h, k => .cons (k 0 x u rfl rfl) (pd_of_get (by simpa using h) fun i y v h1 h2 => k (i + 1) y v h1 h2)
theorem pd_at {α β : Type} {F : α → β → Prop} : ∀ {xs : List α} {us : List β} {i : Nat} {x : α} {u : β}, Paired F xs us → xs[i]? = some x → us[i]? = some u → F x u
  | _, _, _, _, _, .nil, h, _ => by cases h
  | _, _, 0, _, _, .cons r t, h1, h2 => by cases h1; cases h2; exact r
  | _, _, i + 1, _, _, .cons r t, h1, h2 => pd_at (i := i) t h1 h2
theorem sum_le {α : Type} {f : α → Nat} {b : Nat} : ∀ {l : List α}, (∀ x ∈ l, f x ≤ b) → (l.map f).sum ≤ l.length * b
  | [], _ => by simp
  | x :: l, h => by
    rw [List.map_cons, List.sum_cons, List.length_cons, Nat.succ_mul]
    have h1 := h x (List.mem_cons_self ..)
    have h2 := sum_le (l := l) (f := f) (b := b) fun y hy => h y (List.mem_cons_of_mem _ hy)
    omega
theorem BX.ins_out {A : Ad} {Hi H : Hp} {a dx cd pl fn ts tk : Addr} {fst : List Nat} {C : List Wd} {PL : List Pl4} {FS : List (Ty01.Fun × Nat)} {TS : List (Ty01.Test × Nat)} {TK : TKt} (X : BX A Hi H a dx cd pl fn ts tk fst C PL FS TS TK) {b : Addr} {c d : Addr} {fs : Fs} (g : H b = some (.ins c d fs)) : b ∉ [cd, pl, fn, ts, tk] := by
  intro y
  obtain ⟨_, q1, _⟩ := X.code
  obtain ⟨_, q2, _⟩ := X.places
  obtain ⟨_, q3, _⟩ := X.funs
  obtain ⟨_, q4, _⟩ := X.tests
  obtain ⟨_, q5, _⟩ := X.taken
  simp only [List.mem_cons, List.not_mem_nil, or_false] at y
  rcases y with rfl | rfl | rfl | rfl | rfl
  · rw [q1] at g; cases g
  · rw [q2] at g; cases g
  · rw [q3] at g; cases g
  · rw [q4] at g; cases g
  · rw [q5] at g; cases g
section
variable {P : PySem.Program} {w : World} {K : PySem.W.Frag} {mg : Str → Option Value} {base : Heap} {A : Ad}
theorem ok_read_row (T : Tp K mg A) (R : Tr K A) (cR : Cal P w K mg base 2 "is_row" spIsRow []) (cN : Cal P w K mg base 1 "is_name" spIsName []) (cK : Cal P w K mg base 3 "functions_known" (spKnown A) []) (cM : Cal P w K mg base 3 "meaning" (spMeaning A) [])
    (cJ : Cal P w K mg base 1 "join_parts" (spJoin A) []) (cT : Cal P w K mg base 1 "is_too_much" (spTooMuch A) []) (cA : Cal P w K mg base 4 "add_row" (spAddRow A) [])
    {f : Addr} {fd : FuncData} (F : Def K mg "read_row" (top 45) f fd) (b : Binds K fd ["program", "words"] []) : Cal P w K mg base 5 "read_row" (spReadRow A) [] := by
  have sc : FnScope ["program", "words", "many", "known", "expression", "word"] ["program", "words"] (fnScope (top 45)) := fnScope_by (by decide +kernel)
  refine cal0 F b .nil sc (fun vs H Q E h => ?_) (fun cdv A' outer s H vs Q E hr h => ?_)
  · obtain ⟨Hi, a, dx, cd, pl, fn, ts, tk, m, wl, ws, rfl, _⟩ := h
    rfl
  · obtain ⟨Hi, a, dx, cd, pl, fn, ts, tk, m, wl, ws, rfl, X, G, hwl, lo, lw, k⟩ := h
    refine ⟨_, pss_cons (ps_if (pt_not (pt_val (pe_c cR hr (by decide) (by rfl) (pa_cons (pv 1) pa_nil)))) (pss_one (ps_ret (pe_gc (by rfl) T.NO_ROW))) pss_nil)
      (pss_cons (ps_if (PW.pt (pw_or (pt_not (pt_val (pe_c cN hr (by decide) (by rfl) (pa_cons (pe_ix ix_list (pv 1) pe_int (fun _ _ => rfl)) pa_nil)))) (pw_or1 (pt_cmp (pc_din (hu_of hr) (pe_ix ix_list (pv 1) pe_int (fun _ _ => rfl)) (pe_fld (pv 0) rfl)))))) (pss_one (ps_ret (pe_gc (by rfl) T.NO_NAME))) pss_nil)
      (pss_cons (ps_set (i := 2) sc.nd rfl (.inr rfl) (pe_ifExp (pt_cmpR op_eq (pe_ix ix_list (pv 1) pe_int (fun _ _ => rfl)) pe_str (nomark _)) (pe_callTy call_int_str (by rfl) T.b_int (by decide +kernel) (pa_cons (pe_ix ix_list (pv 1) pe_int (fun _ _ => rfl)) pa_nil)) (pe_callB call_len_str (by rfl) T.b_len PySem.boot_len (pa_cons (pe_ix ix_list (pv 1) pe_int (fun _ _ => rfl)) pa_nil))))
      (pss_cons (ps_set (i := 3) sc.nd rfl (.inr rfl) (pe_c cK hr (by decide) (by rfl) (pa_cons (pv 0) (pa_cons (pv 1) pa_nil))))
      (pss_cons (ps_setLc (i := 4) (own := [("word", 5)]) (g := gName 5) (tt := tYes) rfl sc.nd rfl rfl rfl (pi_list (pe_slice sl_list (pv 1) (po_some (pe_gc (by rfl) T.AHEAD)) po_none)) (blkOk_by (N := ["program", "words", "many", "known", "expression", "word"]) (sc := fnScope (top 45)) (by decide +kernel)) (fun _ _ _ _ _ => pg_name (i := 5) sc.nd rfl (Or.inl rfl)) (fun _ _ _ _ _ => pts_nil) (fun _ _ _ _ _ => pe_c cM hr (by decide) (by rfl) (pa_cons (pv 5) (pa_cons (pv 2) (pa_cons (pv 3) pa_nil)))))
      (pss_cons (ps_if (pt_cmpR (op_noneIn hr.units) pe_non (pv 4) (by rfl)) (pss_one (ps_ret (pe_gc (by rfl) T.NO_MEANING))) pss_nil)
      (pss_cons (ps_if (pt_not (pt_val (pe_c cJ hr (by decide) (by rfl) (pa_cons (pv 4) (pa_cons (pe_callB call_len_seq (by rfl) T.b_len PySem.boot_len (pa_cons (pe_fld (pv 0) rfl) pa_nil)) pa_nil))))) (pss_one (ps_ret (pe_gc (by rfl) T.NO_EXPRESSION))) pss_nil)
      (pss_cons (ps_if (pt_val (pe_c cT hr (by decide) (by rfl) (pa_cons (pv 0) (pa_cons (pv 1) pa_nil)))) (pss_one (ps_ret (pe_gc (by rfl) T.TOO_MUCH))) pss_nil)
      (pss_cons (ps_expr (pe_c cA hr (by decide) (by rfl) (pa_cons (pv 0) (pa_cons (pv 1) (pa_cons (pv 4) pa_nil)))))
      (pss_one (ps_ret (pe_gc (by rfl) T.NO_FAULT))))))))))), ?_⟩
    have X0 : BX A Hi H a dx cd pl fn ts tk m.fst m.code m.PL m.FS m.TS m.TK := X
    have hwl0 := X0.sm _ _ hwl
    unfold rowP at k
    refine ⟨_, rfl, wl, ws, rfl, hwl0, lo, fun H1 s1 => ?_⟩
    refine ⟨_, rfl, ?_⟩
    cases hrow : isRowB ws with
    | false =>
      rw [if_pos hrow] at k
      exact k H1 (X0.sm.trans s1)
    | true =>
    rw [if_neg (by rw [hrow]; decide)] at k
    obtain ⟨w0, n, z, e, r, rfl⟩ : ∃ w0 n z e r, ws = w0 :: n :: z :: e :: r := by
      match ws, hrow with
      | [], c => cases c
      | [_], c => cases c
      | [_, _], c => cases c
      | [_, _, _], c => cases c
      | w0 :: w1 :: w2 :: w3 :: r, _ => exact ⟨w0, w1, w2, w3, r, rfl⟩
    have hg1 : (w0 :: n :: z :: e :: r).getD 1 [] = n := rfl
    have hg2 : (w0 :: n :: z :: e :: r).getD 2 [] = z := rfl
    have hd4 : (w0 :: n :: z :: e :: r).drop 4 = r := rfl
    rw [hg1, hg2, hd4] at k
    have hhead : ((w0 :: n :: z :: e :: r).head? = some Ty01.wFun) = (w0 = Ty01.wFun) := by simp
    have erow : (decide (e = [61]) && (if w0 = Ty01.wFun then ([[48], [49], [50], [51]] : List (List Nat)).contains z else decide (w0 = Ty01.wTest) && areShB z)) = true := hrow
    rw [Bool.and_eq_true] at erow
    refine if_false_of rfl ?_
    refine ⟨_, rfl, wl, _, _, _, rfl, rfl, SqL.of (s1 _ _ hwl0), atI_nat (j := 1) (strV_get rfl), n, rfl, lo n (by simp), fun H2 s2 => ?_⟩
    refine ⟨_, rfl, ?_⟩
    have s02 := s1.trans s2
    cases hname : Ty01.isName n with
    | false =>
      rw [if_pos (.inl hname)] at k
      exact if_true_of rfl (k H2 (X0.sm.trans s02))
    | true =>
    refine if_false_of rfl ?_
    obtain ⟨kvs, hk, _, htk⟩ := X0.taken
    refine ⟨_, rfl, wl, _, _, _, rfl, rfl, SqL.of (s02 _ _ hwl0), atI_nat (j := 1) (strV_get rfl), _, rfl, a, _, dx, _, _, rfl, s02 _ _ X0.ins, T.cG, T.g_taken, gl_taken, tk, _, rfl, DGet.k (k := Sum.inr (S n)) (s02 _ _ hk), _, rfl, ?_⟩
    rw [htk n]
    have hTK : m.TK.2 n = takenB m.p n := rfl
    rw [hTK]
    cases htaken : takenB m.p n with
    | true =>
      rw [if_pos (.inr htaken)] at k
      exact if_true_of rfl (k H2 (X0.sm.trans s02))
    | false =>
    rw [if_neg (by rw [hname, htaken]; rintro (y | y) <;> cases y)] at k
    refine if_false_of rfl ?_
    -- how many
    obtain ⟨mn, hmn⟩ : ∃ mn, mn = manyOf (w0 :: n :: z :: e :: r) := ⟨_, rfl⟩
    have hkn : w0 = Ty01.wFun → Ty01.number z = some mn ∧ mn ≤ 3 := fun c => by
      have e2 := erow.2
      rw [if_pos c] at e2
      obtain ⟨kk, h1, h2⟩ := (num3 z).mp e2
      have : mn = kk := by
        rw [hmn]
        show (if w0 = Ty01.wFun then (Ty01.number z).getD 0 else z.length) = kk
        rw [if_pos c, h1]
        rfl
      rw [this]
      exact ⟨h1, h2⟩
    have hkt : w0 ≠ Ty01.wFun → w0 = Ty01.wTest ∧ mn = z.length ∧ (z.length = 1 ∨ z.length = 2) ∧ (z.all fun c => (Ty01.shapeOf c).isSome) = true := fun c => by
      have e2 := erow.2
      rw [if_neg c, Bool.and_eq_true] at e2
      have e3 := e2.2
      unfold areShB at e3
      rw [Bool.and_eq_true, Bool.or_eq_true, decide_eq_true_eq, decide_eq_true_eq] at e3
      refine ⟨of_decide_eq_true e2.1, ?_, e3.1, e3.2⟩
      rw [hmn]
      show (if w0 = Ty01.wFun then (Ty01.number z).getD 0 else z.length) = _
      rw [if_neg c]
    have hmn3 : mn ≤ 3 := by
      by_cases c : w0 = Ty01.wFun
      · exact (hkn c).2
      · obtain ⟨_, h2, h3, _⟩ := hkt c
        rw [h2]
        rcases h3 with h3 | h3
        · rw [h3]; decide
        · rw [h3]; decide
    refine ⟨_, rfl, wl, _, _, _, rfl, rfl, SqL.of (s02 _ _ hwl0), atI_nat (j := 0) (strV_get rfl), rfl, _, rfl, ?_⟩
    rw [show ("fun" : Str) = S Ty01.wFun by decide +kernel, str_dec]
    have hwl2 := s02 _ _ hwl0
    refine if_both (R := ?R) ?h1 ?h2 ?h3
    case h1 =>
      intro c R
      obtain ⟨hz, _⟩ := hkn (of_decide_eq_true c)
      obtain ⟨n1, n2, n3, n4⟩ := number_val hz
      refine ⟨_, rfl, wl, _, _, _, rfl, rfl, SqL.of hwl2, atI_nat (j := 2) (strV_get rfl), S z, _, rfl, int_S n1 n2 (Nat.le_trans n3 (by decide)), (by rw [S_len]; exact Nat.le_trans n3 (by decide)), ?_⟩
      rw [n4]
      exact R
    case h2 =>
      intro c R
      obtain ⟨_, hz, _⟩ := hkt (of_decide_eq_false c)
      refine ⟨_, rfl, wl, _, _, _, rfl, rfl, SqL.of hwl2, atI_nat (j := 2) (strV_get rfl), S z, rfl, (by rw [S_len]; exact Nat.le_trans (lo z (by simp)).1 (by decide)), ?_⟩
      rw [S_len, ← hz]
      exact R
    -- the functions that may be called
    obtain ⟨X2, sb⟩ := X0.grown s02
    have hnew : ∀ q ∈ m.FS, q.1.name ≠ n := fun q hq y => by
      have : takenB m.p n = true := by
        unfold takenB
        rw [Bool.or_eq_true]
        refine .inl (List.any_eq_true.mpr ⟨q.1, (List.of_mem_zip hq).1, ?_⟩)
        rw [beq_iff_eq]
        exact y
      rw [htaken] at this
      cases this
    have lF : m.FS.length ≤ 8 := by rw [FS_len G]; exact G.fl
    refine ⟨_, rfl, _, rfl, _, a, dx, cd, pl, fn, ts, tk, _, _, _, _, _, _, wl, w0, n, z, e :: r, rfl, X2, hwl2, (fun c => ⟨by rw [(hkn c).1]; rfl, hnew⟩), (by omega), fun H3 d s3 nd hF => ?_⟩
    obtain ⟨fs, hfs⟩ : ∃ fs, fs = m.FS ++ ownF (w0 :: n :: z :: e :: r) m.code.length := ⟨_, rfl⟩
    rw [← hfs] at hF
    have hwl3 := s3 _ _ hwl2
    refine ⟨_, rfl, 4, rfl, wl, _, rfl, SqL.of hwl3, fun pa hpa => ?_⟩
    have ecut : cutV (strV (w0 :: n :: z :: e :: r)) (some 4) none = strV r := by
      rw [show (some (4 : Int)) = some ((4 : Nat) : Int) by rfl, cutV_from]
      rfl
    rw [ecut] at *
    refine ⟨pa, rfl, ⟨_, SqL.of upd_same⟩, fun D hD => ?_⟩
    obtain ⟨H4, eH4⟩ : ∃ H4, H4 = upd H3 pa (.lst (strV r)) := ⟨_, rfl⟩
    have s34 : Same H3 H4 := by rw [eH4]; exact Same.new hpa
    have hpa4 : H4 pa = some (.lst (strV r)) := by rw [eH4]; exact upd_same
    rw [← eH4] at hD ⊢
    have nDpa : D ≠ pa := fun y => by rw [y, hpa4] at hD; cases hD
    have hF4 : FunsAt A H4 d fs := hF.mono s34
    have lr : r.length ≤ 1000 := by have : (w0 :: n :: z :: e :: r).length = r.length + 4 := rfl; omega
    refine lc_it (walk_list (K := K) (a := pa) (xs := strV r)) (fun i H' => ∃ es : List (Option RW), Same H4 H' ∧ H' D = some (.lst (es.map eV)) ∧ Paired (MeanAt A H4 H' D (fs.map fun q => q.1.name) (fs.map (·.2)) (fs.map fun q => q.1.arity) mn) (r.take i) es ∧ (pls (es.filterMap id)).Nodup ∧ (∀ x, some x ∈ es → x.a ≠ D ∧ ∃ o, H' x.pl = some o))
      ⟨[], Same.new hD, upd_same, .nil, List.nodup_nil, (fun x hx => by cases hx)⟩ (fun i H' _ B => by obtain ⟨es, b1, _⟩ := B; exact SqL.of (b1 _ _ hpa4)) ?_ ?_
    · rintro i u H5 H6 hi ⟨es, b1, b2, b3, b4, b5⟩ ⟨rfl, hu⟩
      rw [List.length_map] at hi
      obtain ⟨x, hx⟩ : ∃ x, r[i]? = some x := ⟨_, List.getElem?_eq_getElem hi⟩
      have : u = V.str (S x) := by rw [strV_get hx] at hu; exact (Option.some.inj hu).symm
      subst this
      have hxm := List.mem_of_getElem? hx
      have les : es.length ≤ 1000 := by rw [← Paired.length b3, List.length_take]; omega
      refine ⟨rfl, _, rfl, _, rfl, _, rfl, x, mn, d, fs, (by rw [hmn]; rfl), lo x (by simp [hxm]), hmn3, hF4.mono b1, ?_, ?_⟩
      · intro hno H7 s7
        refine ⟨_, s7 _ _ b2, (by rw [List.length_map]; show _ < 2 ^ 24; omega), es ++ [none], Same.put (b1.trans s7) hD, upd_same.trans (by rw [List.map_append]; rfl), ?_, ?_, ?_⟩
        · rw [take_next hx]
          refine pd_append (pd_mem' b3 ?_) (pd_one (by unfold MeanAt; rw [hno]))
          intro w' e' hm he
          exact MeanAt.mono hm (fun q o nq hq => (upd_ne nq).trans (s7 _ _ hq)) fun y hy => (b5 y (hy ▸ he)).1
        · rw [List.filterMap_append]
          simpa using b4
        · intro y hy
          rcases List.mem_append.mp hy with hy | hy
          · obtain ⟨c1, o, c2⟩ := b5 y hy
            refine ⟨c1, ?_⟩
            by_cases c3 : y.pl = D
            · exact ⟨_, by rw [c3]; exact upd_same⟩
            · exact ⟨o, (upd_ne c3).trans (s7 _ _ c2)⟩
          · simp at hy
      · intro t ht xa xp xdx H7 s7 f1 f2 ne h1 h2
        have nxa : xa ≠ D := fun y => by rw [y, b2] at f1; cases f1
        have nxp : xp ≠ D := fun y => by rw [y, b2] at f2; cases f2
        refine ⟨_, s7 _ _ b2, (by rw [List.length_map]; show _ < 2 ^ 24; omega), es ++ [some ⟨xa, xdx, xp, .int (kindOf t : Nat), whatV (fs.map (·.2)) t, Ty01.arityOf (fs.map fun q => q.1.arity) t⟩], Same.put (b1.trans s7) hD, upd_same.trans (by rw [List.map_append]; rfl), ?_, ?_, ?_⟩
        · rw [take_next hx]
          refine pd_append (pd_mem' b3 ?_) (pd_one ?_)
          · intro w' e' hm he
            exact MeanAt.mono hm (fun q o nq hq => (upd_ne nq).trans (s7 _ _ hq)) fun y hy => (b5 y (hy ▸ he)).1
          · unfold MeanAt
            rw [ht]
            exact ⟨_, rfl, rfl, rfl, rfl, (upd_ne nxa).trans h1, (upd_ne nxp).trans h2, b1.free f2, nxp⟩
        · rw [List.filterMap_append]
          show ((es.filterMap id ++ [_]).map (fun x : RW => x.pl)).Nodup
          rw [List.map_append, List.nodup_append]
          refine ⟨b4, by simp, ?_⟩
          intro q hq q' hq' ee
          obtain ⟨y, hy, e1⟩ := List.mem_map.mp hq
          obtain ⟨oy, hoy, e2⟩ := List.mem_filterMap.mp hy
          have e2 : oy = some y := e2
          rw [e2] at hoy
          obtain ⟨_, o, c2⟩ := b5 y hoy
          have hq' : q' = xp := by simpa using hq'
          rw [e1, ee, hq', f2] at c2
          cases c2
        · intro y hy
          rcases List.mem_append.mp hy with hy | hy
          · obtain ⟨c1, o, c2⟩ := b5 y hy
            refine ⟨c1, ?_⟩
            by_cases c3 : y.pl = D
            · exact ⟨_, by rw [c3]; exact upd_same⟩
            · exact ⟨o, (upd_ne c3).trans (s7 _ _ c2)⟩
          · have : y = ⟨xa, xdx, xp, .int (kindOf t : Nat), whatV (fs.map (·.2)) t, Ty01.arityOf (fs.map fun q => q.1.arity) t⟩ := by simpa using hy
            subst this
            exact ⟨nxa, _, (upd_ne nxp).trans h2⟩
    · rintro H5 ⟨es, b1, b2, b3, b4, b5⟩
      rw [List.length_map, List.take_length] at b3
      have s25 : Same H H5 := s02.trans (s3.trans (s34.trans b1))
      have enames : (fs.map fun q => q.1.name) = namesOf m.p (w0 :: n :: z :: e :: r) := by
        rw [hfs, List.map_append, FS_name G, ownF_eq]
        show _ = (m.p.funs.map fun f => f.name) ++ (if w0 = Ty01.wFun then [n] else [])
        by_cases c : w0 = Ty01.wFun
        · rw [if_pos c, if_pos c]; rfl
        · rw [if_neg c, if_neg c]; rfl
      have ears : (fs.map fun q => q.1.arity) = arsOf m.p (w0 :: n :: z :: e :: r) := by
        rw [hfs, List.map_append, FS_ar G, ownF_eq]
        show _ = (m.p.funs.map fun f => f.arity) ++ (if w0 = Ty01.wFun then [if w0 = Ty01.wFun then (Ty01.number z).getD 0 else z.length] else [])
        by_cases c : w0 = Ty01.wFun
        · rw [if_pos c, if_pos c, if_pos c]; rfl
        · rw [if_neg c, if_neg c]; rfl
      have ests : (fs.map (·.2)) = m.fst ++ (if w0 = Ty01.wFun then [m.code.length] else []) := by
        rw [hfs, List.map_append, FS_st G, ownF_eq]
        by_cases c : w0 = Ty01.wFun
        · rw [if_pos c, if_pos c]; rfl
        · rw [if_neg c, if_neg c]; rfl
      rw [enames, ears] at b3
      rw [← hmn] at k
      have hno : ∀ z ∈ es.map eV, NoneOr K H5 z := fun v hv => by
        obtain ⟨oe, h1, rfl⟩ := List.mem_map.mp hv
        cases oe with
        | none => exact .inl rfl
        | some x =>
          obtain ⟨w', hw'⟩ := pd_right b3 h1
          unfold MeanAt at hw'
          split at hw'
          · cases hw'
          · obtain ⟨y, hy, _, _, _, hraw, _⟩ := hw'
            cases hy
            exact .inr ⟨x.a, A.W, x.dx, _, rfl, hraw, R.mro, R.eq⟩
      refine ⟨_, rfl, D, _, rfl, rfl, SqL.of b2, hno, _, rfl, ?_⟩
      cases hmm : r.mapM (Ty01.tokOf (namesOf m.p (w0 :: n :: z :: e :: r)) mn) with
      | none =>
        rw [hmm] at k
        refine if_true_of (mean_none b3 hmm) ?_
        exact k H5 (X0.sm.trans s25)
      | some t =>
        rw [hmm] at k
        simp only at k
        obtain ⟨xs, hes, hxs⟩ := mean_some b3 hmm
        subst hes
        refine if_false_of (not_non xs) ?_
        rw [eV_some] at b2
        have efm : (xs.map some).filterMap id = xs := by rw [List.filterMap_map]; simp
        rw [efm] at b4
        have hmem : ∀ x ∈ xs, ∃ t', t' ∈ t ∧ x.m = Ty01.arityOf (arsOf m.p (w0 :: n :: z :: e :: r)) t' ∧ RawAt A H5 x ∧ H5 x.pl = some (.lst []) ∧ H4 x.pl = none ∧ x.pl ≠ D := fun x hx => by
          obtain ⟨t', ht', _, _, c3, c4, c5, c6, c7⟩ := pd_both hxs hx
          exact ⟨t', ht', c3, c4, c5, c6, c7⟩
        obtain ⟨tk0, tlen⟩ := toks_of hmm
        have a3 : ∀ x ∈ arsOf m.p (w0 :: n :: z :: e :: r), x ≤ 3 := by
          rw [← ears, hfs]
          intro x hx
          rw [List.map_append, FS_ar G, ownF_eq] at hx
          rcases List.mem_append.mp hx with hx | hx
          · obtain ⟨f, hf, rfl⟩ := List.mem_map.mp hx
            exact G.ar f hf
          · by_cases c : w0 = Ty01.wFun
            · rw [if_pos c] at hx
              have : x = (Ty01.number z).getD 0 := by simpa using hx
              rw [this, (hkn c).1]
              exact hmn3
            · rw [if_neg c] at hx
              cases hx
        have elen : t.length = xs.length := Paired.length hxs
        have ems : xs.map (·.m) = t.map (Ty01.arityOf (arsOf m.p (w0 :: n :: z :: e :: r))) := pd_map hxs fun _ _ h => h.2.2.1
        obtain ⟨cvs, c1, c2⟩ := X0.code
        have lc := Paired.length c2
        have nDp : D ∉ pls xs := fun y => by
          obtain ⟨x, hx, ee⟩ := List.mem_map.mp y
          obtain ⟨_, _, _, _, _, _, c⟩ := hmem x hx
          exact c ee
        refine ⟨_, rfl, _, rfl, a, _, dx, _, _, rfl, s25 _ _ X0.ins, T.cG, T.g_code, gl_code, cd, cvs, rfl, .inl (SqL.of (s25 _ _ c1)), ?_⟩
        rw [← lc]
        refine ⟨D, m.code.length, xs, rfl, b2, (fun x hx => by obtain ⟨_, _, _, c, _⟩ := hmem x hx; exact c), (fun x hx => by obtain ⟨_, _, _, _, c, _⟩ := hmem x hx; exact c), b4, nDp, (by omega), (fun x hx => by obtain ⟨t', h1, h2, _⟩ := hmem x hx; rw [h2]; have := arity3 tk0 a3 t' h1; omega), fun H6 fr parts => ?_⟩
        have s06 : Same H H6 := fun q o hq => fr q o (s25 _ _ hq) fun y => by
          obtain ⟨x, hx, ee⟩ := List.mem_map.mp y
          obtain ⟨_, _, _, _, _, c, _⟩ := hmem x hx
          have := s34 _ _ (s3 _ _ (s02 _ _ hq))
          rw [← ee, c] at this
          cases this
        refine ⟨_, rfl, ?_⟩
        rw [ems] at parts ⊢
        have hor := oneFrom_stk (arsOf m.p (w0 :: n :: z :: e :: r)) t 1 0
        have bad : Ty01.oneFrom (arsOf m.p (w0 :: n :: z :: e :: r)) 1 t = false → Q (.int 4) H6 := fun hone => by
          rw [if_pos hone] at k
          exact k H6 (X0.sm.trans s06)
        cases hstk : stk (t.map (Ty01.arityOf (arsOf m.p (w0 :: n :: z :: e :: r)))) 0 with
        | none =>
          refine if_true_of rfl (bad ?_)
          cases hq : Ty01.oneFrom (arsOf m.p (w0 :: n :: z :: e :: r)) 1 t with
          | false => rfl
          | true =>
            obtain ⟨W, h1, _⟩ := hor.mp hq
            rw [hstk] at h1
            cases h1
        | some W =>
        refine if_of (c := !(W.length == 1)) (fun c => bad ?_) (fun c => ?_)
        · cases hq : Ty01.oneFrom (arsOf m.p (w0 :: n :: z :: e :: r)) 1 t with
          | false => rfl
          | true =>
            obtain ⟨W', h1, h2⟩ := hor.mp hq
            rw [hstk] at h1
            cases h1
            rw [h2] at c
            cases c
        have hone : Ty01.oneFrom (arsOf m.p (w0 :: n :: z :: e :: r)) 1 t = true := hor.mpr ⟨W, hstk, by simpa using c⟩
        rw [if_neg (by rw [hone]; decide)] at k
        have parts := parts (by rw [hstk]; rfl)
        obtain ⟨X6, s6⟩ := X0.grown s06
        have lws : (w0 :: n :: z :: e :: r).length - 4 = t.length := by rw [tlen]; rfl
        refine ⟨_, rfl, _, rfl, _, a, dx, cd, pl, fn, ts, tk, _, _, _, _, _, _, wl, _, rfl, X6, s06 _ _ hwl0, (by show 4 ≤ r.length + 4; omega), ?_⟩
        have etoo : tooB m.FS m.TS m.PL (w0 :: n :: z :: e :: r) = tooP m.p (w0 :: n :: z :: e :: r) t.length := by
          unfold tooB tooP
          rw [lws, FS_len G, TS_len G, PL_len G]
        rw [etoo]
        refine ⟨_, rfl, ?_⟩
        cases htoo : tooP m.p (w0 :: n :: z :: e :: r) t.length with
        | true =>
          rw [if_pos htoo] at k
          exact if_true_of rfl (k H6 (X0.sm.trans s06))
        | false =>
        rw [if_neg (by rw [htoo]; decide)] at k
        refine if_false_of rfl ?_
        simp only at k
        have lC : m.code.length ≤ 1000 := by
          have h1 := sum_le (l := m.p.tests) (f := fun t => t.body.length) (b := 20) G.tb
          have h2 := G.cl
          have h3 := G.tot
          have h4 := G.tn
          have h5 : m.p.tests.length * 20 ≤ 4 * 20 := Nat.mul_le_mul_right _ h4
          omega
        have nDt : D ∉ [cd, pl, fn, ts, tk] := fun y => by
          obtain ⟨o, ho⟩ := X0.tracked D (List.mem_cons_of_mem _ y)
          have := s34 _ _ (s3 _ _ (s02 _ _ ho))
          rw [hD] at this
          cases this
        have hDi : butP H6 [cd, pl, fn, ts, tk] D = some (.lst (refs xs)) := by
          rw [butP_ne nDt]
          exact fr _ _ b2 nDp
        have hWd : Paired (WordAt A (butP H6 [cd, pl, fn, ts, tk]) (fs.map (·.2))) (wordsOf (arsOf m.p (w0 :: n :: z :: e :: r)) m.code.length t) (refs xs) := by
          refine pd_of_get (by rw [wordsOf_len, List.length_map]; exact elen) fun j wd v h1 h2 => ?_
          have hj : j < t.length := by rw [← wordsOf_len (arsOf m.p (w0 :: n :: z :: e :: r)) m.code.length t]; exact lt_of_get h1
          obtain ⟨tj, htj⟩ : ∃ tj, t[j]? = some tj := ⟨_, List.getElem?_eq_getElem hj⟩
          rw [wordsOf_get htj] at h1
          cases h1
          rw [List.getElem?_map] at h2
          obtain ⟨x, hx⟩ : ∃ x, xs[j]? = some x := ⟨_, List.getElem?_eq_getElem (by omega)⟩
          rw [hx] at h2
          cases h2
          obtain ⟨d1, d2, d3, d4, d5, d6, d7⟩ := pd_at hxs htj hx
          obtain ⟨W', hW1, hW2⟩ := parts_stk (s := m.code.length) ⟨W, hstk⟩ htj
          have hp := parts j x W' hx hW1
          have xap : x.a ∉ pls xs := fun y => by
            obtain ⟨x', hx', ee⟩ := List.mem_map.mp y
            obtain ⟨_, _, _, _, c, _⟩ := hmem x' hx'
            unfold RawAt at d4
            rw [← ee, c] at d4
            cases d4
          have xa6 := fr _ _ d4 xap
          have xat := X6.ins_out xa6
          have xpt : x.pl ∉ [cd, pl, fn, ts, tk] := fun y => by
            obtain ⟨o, ho⟩ := X0.tracked x.pl (List.mem_cons_of_mem _ y)
            have := s34 _ _ (s3 _ _ (s02 _ _ ho))
            rw [d6] at this
            cases this
          refine ⟨x.a, x.dx, x.pl, rfl, ?_, ?_⟩
          · rw [butP_ne xat, xa6, d1, d2, d3]
          · rw [butP_ne xpt, hp, hW2, d3]
        have old : ∀ x ∈ m.code, ∀ v, WordAt A (butP H6 [cd, pl, fn, ts, tk]) m.fst x v → WordAt A (butP H6 [cd, pl, fn, ts, tk]) (fs.map (·.2)) x v := fun x hx v hv => by
          obtain ⟨a1, a2, a3, a4, a5, a6⟩ := hv
          refine ⟨a1, a2, a3, a4, ?_, a6⟩
          have ew : whatV (fs.map (·.2)) x.tok = whatV m.fst x.tok := by
            cases ht : x.tok with
            | call g =>
              have := G.calls x hx g ht
              show V.int ((fs.map (·.2)).getD g 0 : Nat) = V.int (m.fst.getD g 0 : Nat)
              rw [ests, List.getD_eq_getElem?_getD, List.getD_eq_getElem?_getD, List.getElem?_append_left this]
            | num _ => rfl
            | arg _ => rfl
            | op _ => rfl
          rw [ew]
          exact a5
        refine ⟨_, rfl, _, rfl, _, rfl, _, a, dx, cd, pl, fn, ts, tk, m.fst, fs.map (·.2), m.code, _, _, _, _, wl, D, w0, n, z, e :: r, _, _, t, rfl, X6, s6 _ _ hwl, hDi, hWd, old, lC, (by rw [wordsOf_len]; omega), (by omega), (by have := PL_len G; have := G.tot; omega), (by have := TS_len G; have := G.tn; omega), (by show m.p.funs.length + m.p.tests.length ≤ 50; have := G.fl; have := G.tn; omega), hnew, ?_, ?_⟩
        · intro c
          refine ⟨mn, (hkn c).1, fun Hi' H' s7 X7 => ?_⟩
          rw [if_pos (by rw [hhead]; exact c)] at k
          refine k Hi' H' (s6.trans s7) (bm_fun G (W := wordsOf (arsOf m.p (w0 :: n :: z :: e :: r)) m.code.length t) ?_ ?_)
          · have : arsOf m.p (w0 :: n :: z :: e :: r) = (m.p.funs ++ [(⟨n, mn, t, w0 :: n :: z :: e :: r⟩ : Ty01.Fun)]).map fun f => f.arity := by
              rw [List.map_append]
              show (m.p.funs.map fun f => f.arity) ++ (if w0 = Ty01.wFun then [manyOf (w0 :: n :: z :: e :: r)] else []) = _
              rw [if_pos c, ← hmn]
              rfl
            rw [this]
          · rw [ests, if_pos c] at X7
            exact X7
        · intro c
          obtain ⟨g1, g2, g3, g4⟩ := hkt c
          refine ⟨shOf z, shC_shOf g4, fun Hi' H' s7 X7 => ?_⟩
          rw [if_neg (by rw [hhead]; exact c)] at k
          refine k Hi' H' (s6.trans s7) (bm_test G (W := wordsOf (arsOf m.p (w0 :: n :: z :: e :: r)) m.code.length t) ?_ ?_)
          · have : arsOf m.p (w0 :: n :: z :: e :: r) = Ty01.arities m.p := by
              show (m.p.funs.map fun f => f.arity) ++ (if w0 = Ty01.wFun then [manyOf (w0 :: n :: z :: e :: r)] else []) = _
              rw [if_neg c, List.append_nil]
              rfl
            rw [this]
          · rw [ests, if_neg c, List.append_nil] at X7
            exact X7
end
end Pf
namespace Pf
open PySem PySem.Spec PyProof.Rows L2 SX
open C8 (Cal Met Mak Def cal0 met0 mak0 pe_c pe_mk pe_mt pe_mt0 pe_gc fnScope fnBody fnArgs fnScope_by)
/-- a program that was told -/
structure ProgIn (A : Ad) (H : Hp) (m : MP) (a dx cd pl fn ts tk : Addr) : Prop where
  ins : H a = some (.ins A.G dx (gF (.ref cd) (.ref pl) (.ref fn) (.ref ts) (.ref tk)))
  code : CodeAt A H m.fst m.code cd
  places : ∃ pvs, H pl = some (.lst pvs) ∧ Paired (PlaceAt A H) m.PL pvs
  funs : FunsAt A H fn m.FS
  tests : ∃ tvs, H ts = some (.lst tvs) ∧ Paired (TestAt' A H) m.TS tvs
def ProgAt (A : Ad) (H : Hp) (m : MP) (v : V) : Prop := ∃ a dx cd pl fn ts tk, v = .ref a ∧ ProgIn A H m a dx cd pl fn ts tk
theorem ProgIn.mono {A : Ad} {H H' : Hp} {m : MP} {a dx cd pl fn ts tk : Addr} (s : Same H H') (h : ProgIn A H m a dx cd pl fn ts tk) : ProgIn A H' m a dx cd pl fn ts tk where
  ins := s _ _ h.ins
  code := h.code.mono s
  places := let ⟨v, h1, h2⟩ := h.places; ⟨v, s _ _ h1, Paired.mapP h2 fun _ _ z => z.mono s⟩
  funs := h.funs.mono s
  tests := let ⟨v, h1, h2⟩ := h.tests; ⟨v, s _ _ h1, Paired.mapP h2 fun _ _ z => z.mono s⟩
theorem ProgAt.mono {A : Ad} {H H' : Hp} {m : MP} {v : V} (s : Same H H') (h : ProgAt A H m v) : ProgAt A H' m v := by
  obtain ⟨a, dx, cd, pl, fn, ts, tk, h1, h2⟩ := h
  exact ⟨a, dx, cd, pl, fn, ts, tk, h1, h2.mono s⟩
theorem BM.prog {A : Ad} {Hi H : Hp} {a dx cd pl fn ts tk : Addr} {m : MP} (X : BM A Hi H a dx cd pl fn ts tk m) : ProgIn A H m a dx cd pl fn ts tk where
  ins := BX.ins X
  code := let ⟨v, h1, h2⟩ := BX.code X; ⟨v, h1, Paired.mapP h2 fun _ _ z => z.mono (BX.sm X)⟩
  places := let ⟨v, h1, h2⟩ := BX.places X; ⟨v, h1, Paired.mapP h2 fun _ _ z => z.mono (BX.sm X)⟩
  funs := let ⟨v, h1, h2⟩ := BX.funs X; ⟨v, h1, Paired.mapP h2 fun _ _ z => ⟨z.1, z.2.mono (BX.sm X)⟩⟩
  tests := let ⟨v, h1, h2⟩ := BX.tests X; ⟨v, h1, Paired.mapP h2 fun _ _ z => z.mono (BX.sm X)⟩
def textV (k e : Nat) : Int := -1000 - 10 * (k : Int) - (e : Int)
def spReadText (A : Ad) : Sp := fun vs H Q _ => ∃ (na : Addr) (ns : List Nat), vs = [.ref na] ∧ H na = some (.lst (iV ns)) ∧ ns.length ≤ 600 ∧
  match readP 0 MP.start ((Ty01.rows (ns.map sgn)).map Ty01.words) with
  | .error e => ∀ t H', Same H H' → H' t = some (.tup [.non, .int (textV e.1 e.2)]) → Q (.ref t) H'
  | .ok m => ∀ t v H', Same H H' → H' t = some (.tup [v, .int 0]) → ProgAt A H' m v → Q (.ref t) H'
/-! ### words are low and few -/
theorem wordsFrom_mem : ∀ (w r x : List Nat), x ∈ Ty01.wordsFrom r w → (∀ c ∈ x, c ∈ r ∨ c ∈ w) ∧ x.length ≤ r.length + w.length
  | [], r, x, h => by
    unfold Ty01.wordsFrom at h
    split at h
    · cases h
    · have : x = r.reverse := by simpa using h
      subst this
      exact ⟨fun c hc => .inl (List.mem_reverse.mp hc), by rw [List.length_reverse]; exact Nat.le_refl _⟩
  | c :: w, r, x, h => by
    unfold Ty01.wordsFrom at h
    split at h
    · split at h
      · obtain ⟨h1, h2⟩ := wordsFrom_mem w [] x h
        refine ⟨fun d hd => ?_, by rw [List.length_cons]; simp at h2; omega⟩
        rcases h1 d hd with z | z
        · cases z
        · exact .inr (List.mem_cons_of_mem _ z)
      · rcases List.mem_cons.mp h with e | h
        · subst e
          exact ⟨fun c hc => .inl (List.mem_reverse.mp hc), by rw [List.length_reverse]; omega⟩
        · obtain ⟨h1, h2⟩ := wordsFrom_mem w [] x h
          refine ⟨fun d hd => ?_, by rw [List.length_cons]; simp at h2; omega⟩
          rcases h1 d hd with z | z
          · cases z
          · exact .inr (List.mem_cons_of_mem _ z)
    · obtain ⟨h1, h2⟩ := wordsFrom_mem w (c :: r) x h
      refine ⟨fun d hd => ?_, by rw [List.length_cons] at *; omega⟩
      rcases h1 d hd with z | z
      · rcases List.mem_cons.mp z with e | z
        · exact .inr (e ▸ List.mem_cons_self ..)
        · exact .inl z
      · exact .inr (List.mem_cons_of_mem _ z)
theorem wordsFrom_few : ∀ (w r : List Nat), (Ty01.wordsFrom r w).length ≤ w.length + 1
  | [], r => by
    unfold Ty01.wordsFrom
    split <;> simp
  | c :: w, r => by
    unfold Ty01.wordsFrom
    split
    · split
      · have := wordsFrom_few w []
        rw [List.length_cons]; omega
      · have := wordsFrom_few w []
        rw [List.length_cons, List.length_cons]; omega
    · have := wordsFrom_few w (c :: r)
      rw [List.length_cons]; omega
theorem rowsFrom_mem : ∀ (w r x : List Nat), x ∈ Ty01.rowsFrom r w → ∀ c ∈ x, c ∈ r ∨ c ∈ w
  | [], r, x, h => by
    have : x = r.reverse := by simpa [Ty01.rowsFrom] using h
    subst this
    exact fun c hc => .inl (List.mem_reverse.mp hc)
  | c :: w, r, x, h => by
    unfold Ty01.rowsFrom at h
    split at h
    · rcases List.mem_cons.mp h with e | h
      · subst e
        exact fun c hc => .inl (List.mem_reverse.mp hc)
      · intro d hd
        rcases rowsFrom_mem w [] x h d hd with z | z
        · cases z
        · exact .inr (List.mem_cons_of_mem _ z)
    · intro d hd
      rcases rowsFrom_mem w (c :: r) x h d hd with z | z
      · rcases List.mem_cons.mp z with e | z
        · exact .inr (e ▸ List.mem_cons_self ..)
        · exact .inl z
      · exact .inr (List.mem_cons_of_mem _ z)
theorem sgn_lt (c : Nat) : sgn c < 128 := by
  unfold sgn
  split
  · omega
  · split
    · omega
    · split
      · omega
      · split
        · omega
        · split <;> omega
theorem rows_low {ns : List Nat} (h : ns.length ≤ 600) : ∀ ws ∈ (Ty01.rows (ns.map sgn)).map Ty01.words, (∀ x ∈ ws, Low x) ∧ ws.length ≤ 1000 := by
  intro ws hws
  obtain ⟨r, hr, rfl⟩ := List.mem_map.mp hws
  obtain ⟨rl, _⟩ := rowsFrom_len (ns.map sgn) []
  have h1 := rl r hr
  rw [List.length_map, List.length_nil, Nat.zero_add] at h1
  refine ⟨fun x hx => ?_, ?_⟩
  · obtain ⟨h2, h3⟩ := wordsFrom_mem r [] x hx
    refine ⟨by simp at h3; omega, fun c hc => ?_⟩
    rcases h2 c hc with z | z
    · cases z
    · rcases rowsFrom_mem _ [] r hr c z with y | y
      · cases y
      · obtain ⟨d, _, rfl⟩ := List.mem_map.mp y
        exact sgn_lt d
  · have := wordsFrom_few r []
    show (Ty01.wordsFrom [] r).length ≤ 1000
    omega
theorem rowP_pos {m : MP} {ws : List (List Nat)} {e : Nat} (h : rowP m ws = .error e) : 0 < e := by
  unfold rowP at h
  split at h
  · cases h; decide
  · split at h
    · cases h; decide
    · split at h
      · cases h; decide
      · split at h
        · cases h; decide
        · split at h
          · cases h; decide
          · cases h
section
variable {P : PySem.Program} {w : World} {K : PySem.W.Frag} {mg : Str → Option Value} {base : Heap} {A : Ad}
theorem ok_read_text (T : Tp K mg A) (cG : Mak P w K mg base 1 "Program" A.G (spGInit A.G) []) (cO : Cal P w K mg base 2 "rows_of" spRowsOf []) (cR : Cal P w K mg base 5 "read_row" (spReadRow A) [])
    {f : Addr} {fd : FuncData} (F : Def K mg "read_text" (top 46) f fd) (b : Binds K fd ["numbers"] []) : Cal P w K mg base 6 "read_text" (spReadText A) [] := by
  have sc : FnScope ["numbers", "program", "k", "words", "fault"] ["numbers"] (fnScope (top 46)) := fnScope_by (by decide +kernel)
  refine cal0 F b .nil sc (fun vs H Q E h => ?_) (fun cdv A' outer s H vs Q E hr h => ?_)
  · obtain ⟨na, ns, rfl, _⟩ := h
    rfl
  · obtain ⟨na, ns, rfl, hn, ln, k⟩ := h
    refine ⟨_, pss_cons (ps_set (i := 1) sc.nd rfl (.inl rfl) (pe_mk0 cG hr (by decide) (by rfl)))
      (pss_cons (ps_for PassesOwn.never rfl (pi_enum (by rfl) T.b_enumerate (pa_cons (pe_c cO hr (by decide) (by rfl) (pa_cons (pv 0) pa_nil)) pa_nil)) (pg_tup rfl (pgs_cons (pg_name (i := 2) sc.nd rfl (.inl rfl)) (pgs_cons (pg_name (i := 3) sc.nd rfl (.inl rfl)) pgs_nil)))
        (pss_one (ps_if (pt_cmpR (op_neE hr.units0) (pv 3) (pe_lst pa_nil) (nomark _))
          (pss_cons (ps_set (i := 4) sc.nd rfl (.inl rfl) (pe_c cR hr (by decide) (by rfl) (pa_cons (pv 1) (pa_cons (pv 3) pa_nil))))
          (pss_one (ps_if (pt_cmpR op_ne (pv 4) (pe_gc (by rfl) T.NO_FAULT) (nomark _)) (pss_one (ps_ret (pe_tup (pa_cons pe_non (pa_cons (pe_op op_sub (pe_op op_sub (pe_un un_neg pe_int) (pe_op op_mul pe_int (pv 2))) (pv 4)) pa_nil))))) pss_nil))) pss_nil)))
      (pss_one (ps_ret (pe_tup (pa_cons (pv 1) (pa_cons pe_int pa_nil)))))), ?_⟩
    generalize hL : (Ty01.rows (ns.map sgn)).map Ty01.words = L at k
    have low : ∀ ws ∈ L, (∀ x ∈ ws, Low x) ∧ ws.length ≤ 1000 := by rw [← hL]; exact rows_low ln
    intro a adx na' nd' ne'
    refine ⟨a, adx, rfl, upd_same, fun H1 cd pl fn ts tk f1 f2 f3 f4 f5 nd h1 h2 h3 h4 h5 h6 kp => ⟨rfl, ?_⟩⟩
    have s1 : Same H H1 := Same.made na' nd' kp
    have X1 : BM A (butP H1 [cd, pl, fn, ts, tk]) H1 a adx cd pl fn ts tk MP.start := by
      have nd := nd
      simp only [List.nodup_cons, List.mem_cons, List.not_mem_nil, or_false, not_or] at nd
      obtain ⟨_, ⟨n1, n2, n3, n4⟩, ⟨n5, n6, n7⟩, ⟨n8, n9⟩, n10, _⟩ := nd
      refine ⟨butP_same _ _, h1, if_pos (by simp), if_pos (by simp), if_pos (by simp), if_pos (by simp), if_pos (by simp), n1, n3, n6, n9, ⟨_, h2, .nil⟩, ⟨_, h3, .nil⟩, ⟨_, h4, .nil⟩, ⟨_, h5, .nil⟩, ⟨_, h6, Nat.le_refl _, fun n => rfl⟩⟩
    refine ⟨_, rfl, na, ns, rfl, s1 _ _ hn, ln, fun rp H2 us s2 nrp hrp hus => ?_⟩
    rw [hL] at hus
    have X2 : BM A (butP H2 [cd, pl, fn, ts, tk]) H2 a adx cd pl fn ts tk MP.start := (BX.grown X1 s2).1
    -- what stays
    have st : ∀ b o, b ∉ [cd, pl, fn, ts, tk] → H2 b = some o → butP H2 [cd, pl, fn, ts, tk] b = some o := fun b o nb e => by rw [butP_ne nb]; exact e
    have tr : ∀ b ∈ [cd, pl, fn, ts, tk], ∃ o, H1 b = some o := fun b hb => BX.tracked X1 b (List.mem_cons_of_mem _ hb)
    have rpi : butP H2 [cd, pl, fn, ts, tk] rp = some (.lst us) := st _ _ (fun z => by obtain ⟨o, ho⟩ := tr _ z; rw [nrp] at ho; cases ho) hrp
    have hH0 : Same H (butP H2 [cd, pl, fn, ts, tk]) := fun b o e => st b o (fun z => by
      simp only [List.mem_cons, List.not_mem_nil, or_false] at z
      have e1 : ∀ q, (upd (upd H adx (.own a)) a (.ins A.G adx [])) q = none → H q = none := fun q hq => (free_put (free_put hq).2).2
      rcases z with rfl | rfl | rfl | rfl | rfl
      · rw [e1 _ f1] at e; cases e
      · rw [e1 _ f2] at e; cases e
      · rw [e1 _ f3] at e; cases e
      · rw [e1 _ f4] at e; cases e
      · rw [e1 _ f5] at e; cases e) (s2 _ _ (s1 _ _ e))
    refine ⟨rp, us, rfl, SqL.of hrp, ?_⟩
    have lu : L.length = us.length := Paired.length hus
    refine for_it (walk_enum (K := K) (a := rp) (xs := us)) (fun i σ H' => ∃ (o2 o3 o4 : Option V) (Hi : Hp) (m : MP), σ = [some (.ref na), some (.ref a), o2, o3, o4] ∧ Same (butP H2 [cd, pl, fn, ts, tk]) Hi ∧ BM A Hi H' a adx cd pl fn ts tk m ∧ Good m ∧ readP 0 MP.start L = readP i m (L.drop i))
      ⟨none, none, none, _, MP.start, rfl, Same.refl _, X2, good_start, rfl⟩ (fun i σ H' _ ⟨_, _, _, Hi, m, _, s3, X3, _⟩ => SqL.of (BX.sm X3 _ _ (s3 _ _ rpi))) ?_ ?_
    · rintro i x σ H3 H4 hi ⟨o2, o3, o4, Hi, m, rfl, s3, X3, G, ef⟩ ⟨tp, xi, xu, rfl, ntp, rfl, ei, eu⟩
      cases ei
      have eu : us[i]? = some xu := eu
      obtain ⟨ws, hws⟩ : ∃ ws, L[i]? = some ws := ⟨_, List.getElem?_eq_getElem (by omega)⟩
      obtain ⟨lo1, lo2⟩ := low ws (List.mem_of_getElem? hws)
      obtain ⟨wh, rfl, nwh, hwh⟩ := pd_at hus hws eu
      have edrop : L.drop i = ws :: L.drop (i + 1) := by
        have hlt : i < L.length := by omega
        rw [List.drop_eq_getElem_cons hlt]
        congr 1
        rw [List.getElem?_eq_getElem hlt] at hws
        exact Option.some.inj hws
      rw [edrop, readP_cons] at ef
      have hwi : butP H2 [cd, pl, fn, ts, tk] wh = some (.lst (strV ws)) := st _ _ (fun z => by obtain ⟨o, ho⟩ := tr _ z; rw [nwh] at ho; cases ho) hwh
      refine ⟨tp, _, rfl, SqT.of upd_same, rfl, _, _, rfl, _, _, rfl, rfl, ?_⟩
      obtain ⟨X4, s4⟩ := BX.grown X3 (Same.new (o := .tup [.int (i : Nat), .ref wh]) ntp)
      cases ws with
      | nil =>
        rw [if_pos rfl] at ef
        have hw4 := X4.sm _ _ (s4 _ _ (s3 _ _ hwi))
        refine ⟨_, rfl, (by show 0 ≤ sizeLine; decide), fun en hen => ?_⟩
        obtain ⟨X5, s5⟩ := BX.grown X4 (Same.new (o := .lst []) hen)
        refine ⟨wh, en, _, rfl, rfl, SqL.of (Same.new hen _ _ hw4), SqL.of upd_same, _, rfl, ?_⟩
        refine if_false_of rfl ?_
        exact ⟨_, _, _, _, m, rfl, s3.trans (s4.trans s5), X5, G, ef⟩
      | cons w0 wr =>
        rw [if_neg (by intro h; cases h)] at ef
        have hw4 := X4.sm _ _ (s4 _ _ (s3 _ _ hwi))
        refine ⟨_, rfl, (by show 0 ≤ sizeLine; decide), fun en hen => ?_⟩
        obtain ⟨X5, s5⟩ := BX.grown X4 (Same.new (o := .lst []) hen)
        refine ⟨wh, en, _, rfl, rfl, SqL.of (Same.new hen _ _ hw4), SqL.of upd_same, _, rfl, ?_⟩
        refine if_true_of rfl ?_
        refine ⟨_, rfl, _, rfl, _, a, adx, cd, pl, fn, ts, tk, m, wh, w0 :: wr, rfl, X5, G, s5 _ _ (s4 _ _ (s3 _ _ hwi)), lo1, lo2, ?_⟩
        cases hr' : rowP m (w0 :: wr) with
        | error e =>
          rw [hr'] at ef
          simp only at ef ⊢
          rw [ef] at k
          intro H6 s6
          refine ⟨_, rfl, rfl, _, rfl, ?_⟩
          have e0 := rowP_pos hr'
          refine if_true_of (by rw [dec_ieq (m := 0) (n := 0) rfl, decide_eq_false (by omega)]; rfl) ?_
          refine ⟨_, rfl, _, rfl, _, _, rfl, rfl, .inl ⟨by decide, by decide⟩, ?_⟩
          refine ⟨_, _, rfl, rfl, _, rfl, _, _, rfl, rfl, (by show 2 ≤ sizeLine; decide), fun t ht => ?_⟩
          exact k t _ (hH0.trans (s3.trans (s4.trans (s5.trans (s6.trans (Same.new ht)))))) upd_same
        | ok m' =>
          rw [hr'] at ef
          simp only at ef ⊢
          intro Hi' H6 s6 X6
          refine ⟨_, rfl, rfl, _, rfl, ?_⟩
          exact if_false_of rfl ⟨_, _, _, Hi', m', rfl, s3.trans (s4.trans (s5.trans s6)), X6, row_good G hr', ef⟩
    · rintro σ H3 ⟨o2, o3, o4, Hi, m, rfl, s3, X3, G, ef⟩
      have : L.drop us.length = [] := List.drop_eq_nil_of_le (by omega)
      rw [this] at ef
      have ef : readP 0 MP.start L = .ok m := ef
      rw [ef] at k
      refine ⟨_, rfl, (by show 2 ≤ sizeLine; decide), fun t ht => ?_⟩
      have s4 : Same H3 (upd H3 t (.tup [.ref a, .int 0])) := Same.new ht
      exact k t (.ref a) _ ((hH0.trans s3).trans ((BX.sm X3).trans s4)) upd_same ⟨a, adx, cd, pl, fn, ts, tk, rfl, (BM.prog X3).mono s4⟩
end
end Pf
namespace Pf
open PySem PySem.Spec PyProof.Rows L2 SX
open C8 (Cal Met Mak Def cal0 met0 mak0 pe_c pe_mk pe_mt pe_mt0 pe_gc fnScope fnBody fnArgs fnScope_by)
def spWhat (A : Ad) : Sp := fun vs H Q _ => ∃ (a dx pl : Addr) (fst : List Nat) (t : Ty01.Tok) (m k : Nat), vs = [.ref a, .int (k : Nat)] ∧ H a = some (.ins A.W dx (wF (.int (kindOf t : Nat)) (whatV fst t) (.int (m : Nat)) (.ref pl))) ∧ (∀ o, t = .op o → o < 12) ∧
  (Ty01.spoil k t = none → ∀ H', Same H H' → Q .non H') ∧ (∀ t', Ty01.spoil k t = some t' → ∀ H', Same H H' → Q (whatV fst t') H')
theorem becomes_at : ∀ o, o < 12 → becomesL.lookup (opS o) = (Ty01.spoil 0 (.op o)).map (whatV []) := by decide +kernel
theorem kind_op : ∀ o, o < 12 → (kindOf (.op o) = 2 ∨ kindOf (.op o) = 3) := by decide
theorem spoil_kind {k : Nat} {t t' : Ty01.Tok} (h : Ty01.spoil k t = some t') (ho : ∀ o, t = .op o → o < 12) : kindOf t' = kindOf t := by
  cases t with
  | num n => cases h; rfl
  | arg i =>
    unfold Ty01.spoil at h
    simp only at h
    split at h
    · cases h; rfl
    · cases h
  | op o =>
    have e : ∀ o, o < 12 → ∀ t', Ty01.spoil 0 (.op o) = some t' → kindOf t' = kindOf (.op o) := by
      intro o ho
      have : ∀ o, o < 12 → ((Ty01.spoil 0 (.op o)).all fun t' => kindOf t' == kindOf (.op o)) = true := by decide
      intro t' ht
      have := this o ho
      rw [ht] at this
      exact eq_of_beq this
    exact e o (ho o rfl) t' h
  | call g => cases h
theorem relV_none {v : V} {r : Option Value} (h : RelO none r) (e : RelV v (r.getD .none)) : v = .non := by
  cases r with
  | none => cases v <;> first | rfl | (obtain ⟨_, e⟩ := e; cases e) | cases e
  | some x => cases h
section
variable {P : PySem.Program} {w : World} {K : PySem.W.Frag} {mg : Str → Option Value} {base : Heap} {A : Ad}
theorem ok_spoilt_what (T : Tp K mg A) (U : Tq K mg w) {f : Addr} {fd : FuncData} (F : Def K mg "spoilt_what" (top 75) f fd) (b : Binds K fd ["word", "many"] []) : Cal P w K mg base 1 "spoilt_what" (spWhat A) [] := by
  have sc : FnScope ["word", "many"] ["word", "many"] (fnScope (top 75)) := fnScope_by (by decide +kernel)
  obtain ⟨bd, bes, bn, bm, bD, bP⟩ := U.BECOMES
  refine cal0 F b .nil sc (fun vs H Q E h => ?_) (fun cdv A' outer s H vs Q E hr h => ?_)
  · obtain ⟨a, dx, pl, fst, t, m, k, rfl, _⟩ := h
    rfl
  · obtain ⟨a, dx, pl, fst, t, m, k, rfl, ha, hop, kN, kS⟩ := h
    refine ⟨_, pss_cons (ps_if (pt_cmpR op_eq (pe_fld (pv 0) rfl) (pe_gc (by rfl) T.NUMBER) (nomark _)) (pss_one (ps_ret (pe_op op_mod (pe_op op_add (pe_fld (pv 0) rfl) pe_int) (pe_gc (by rfl) T.NUMBERS)))) pss_nil)
      (pss_cons (ps_if (PW.pt (pw_and (pt_cmpR op_eq (pe_fld (pv 0) rfl) (pe_gc (by rfl) T.HANDED) (nomark _)) (pw_and1 (pt_cmpR op_gt (pv 1) pe_int (nomark _))))) (pss_one (ps_ret (pe_op op_mod (pe_op op_add (pe_fld (pv 0) rfl) pe_int) (pv 1)))) pss_nil)
      (pss_cons (ps_if (pt_cmpR op_in_seq (pe_fld (pv 0) rfl) (pe_tup (pa_cons (pe_gc (by rfl) T.OPERATION) (pa_cons (pe_gc (by rfl) T.CHOICE) pa_nil))) (by rfl)) (pss_one (ps_ret (pe_kget bD (pe_gc (v := .ref bd) (by rfl) ⟨_, bm, rfl⟩) (pe_fld (pv 0) rfl) ⟨rfl, rfl, rfl, rfl⟩))) pss_nil)
      (pss_one (ps_ret pe_non)))), ?_⟩
    refine ⟨_, rfl, a, _, dx, _, _, rfl, ha, T.cW, T.w_kind, wl_kind, rfl, _, rfl, ?_⟩
    cases t with
    | num n =>
      refine if_true_of rfl ?_
      refine ⟨_, rfl, a, _, dx, _, _, rfl, ha, T.cW, T.w_what, wl_what, _, _, rfl, rfl, _, _, rfl, rfl, (by show (0 : Int) < 100; decide), ?_⟩
      exact kS _ rfl H (Same.refl _)
    | arg i =>
      refine if_false_of rfl ?_
      refine ⟨_, rfl, a, _, dx, _, _, rfl, ha, T.cW, T.w_kind, wl_kind, rfl, _, rfl, ?_⟩
      refine if_true_of rfl ?_
      refine ⟨_, rfl, _, _, rfl, rfl, _, rfl, ?_⟩
      refine if_of (fun c => ?_) (fun c => ?_)
      · have c : 1 < k := by have := of_decide_eq_true c; omega
        refine ⟨_, rfl, a, _, dx, _, _, rfl, ha, T.cW, T.w_what, wl_what, _, _, rfl, rfl, _, rfl, _, _, rfl, rfl, (by omega), ?_⟩
        have e : Ty01.spoil k (.arg i) = some (.arg ((i + 1) % k)) := by
          show (if 2 ≤ k then _ else _) = _
          rw [if_pos (by omega)]
        have := kS _ e H (Same.refl _)
        exact this
      · have c : ¬ 1 < k := by have := of_decide_eq_false c; omega
        have e : Ty01.spoil k (.arg i) = none := by
          show (if 2 ≤ k then _ else _) = _
          rw [if_neg (by omega)]
        refine ⟨_, rfl, a, _, dx, _, _, rfl, ha, T.cW, T.w_kind, wl_kind, (by show 2 ≤ sizeLine; decide), fun t ht => ?_⟩
        refine ⟨t, _, rfl, .inr (SqT.of upd_same), rfl, rfl, _, rfl, ?_⟩
        refine if_false_of rfl ?_
        exact kN e _ (Same.new ht)
    | op o =>
      have ho := hop o rfl
      have hk := kind_op o ho
      refine if_false_of (by rw [dec_ieq (m := 0) (n := 0) rfl]; exact decide_eq_false (by omega)) ?_
      refine ⟨_, rfl, a, _, dx, _, _, rfl, ha, T.cW, T.w_kind, wl_kind, rfl, _, rfl, ?_⟩
      refine if_false_of (by rw [dec_ieq (m := 1) (n := 1) rfl]; exact decide_eq_false (by omega)) ?_
      refine ⟨_, rfl, a, _, dx, _, _, rfl, ha, T.cW, T.w_kind, wl_kind, (by show 2 ≤ sizeLine; decide), fun t ht => ?_⟩
      have ha1 : (upd H t (.tup [.int 2, .int 3])) a = _ := Same.new ht _ _ ha
      refine ⟨t, _, rfl, .inr (SqT.of upd_same), rfl, rfl, _, rfl, ?_⟩
      refine if_true_of (by rcases hk with hk | hk <;> rw [hk] <;> rfl) ?_
      obtain ⟨r, r1, r2⟩ := ns_look bD.at_ bP (opS o)
      rw [becomes_at o ho] at r2
      have e0 : Ty01.spoil 0 (.op o) = Ty01.spoil k (.op o) := rfl
      rw [e0] at r2
      refine ⟨rfl, _, rfl, a, _, dx, _, _, rfl, ha1, T.cW, T.w_what, wl_what, opS o, r, ?_⟩
      cases hs : Ty01.spoil k (.op o) with
      | none =>
        rw [hs] at r2
        refine ⟨.non, rfl, r1, ?_, kN hs _ (Same.new ht)⟩
        cases r with
        | none => rfl
        | some x => cases r2
      | some t' =>
        rw [hs] at r2
        obtain ⟨o', rfl, _, _⟩ := spoil_op hs
        refine ⟨.str (opS o'), rfl, r1, ?_, kS _ hs _ (Same.new ht)⟩
        cases r with
        | none => cases r2
        | some x => exact r2
    | call g =>
      refine if_false_of rfl ?_
      refine ⟨_, rfl, a, _, dx, _, _, rfl, ha, T.cW, T.w_kind, wl_kind, rfl, _, rfl, ?_⟩
      refine if_false_of rfl ?_
      refine ⟨_, rfl, a, _, dx, _, _, rfl, ha, T.cW, T.w_kind, wl_kind, (by show 2 ≤ sizeLine; decide), fun t ht => ?_⟩
      refine ⟨t, _, rfl, .inr (SqT.of upd_same), rfl, rfl, _, rfl, ?_⟩
      refine if_false_of rfl ?_
      exact kN rfl _ (Same.new ht)
end
end Pf
namespace Pf
open PySem PySem.Spec PyProof.Rows L2 SX
open C8 (Cal Met Mak Def cal0 met0 mak0 pe_c pe_mk pe_mt pe_mt0 pe_gc fnScope fnBody fnArgs fnScope_by)
theorem newPl_get {s g ar n i : Nat} (h : i < n) : (newPl s g ar n)[i]? = some (s + i, g, i, ar) := by
  unfold newPl
  rw [List.getElem?_map, List.getElem?_range h]; rfl
theorem newPl_len (s g ar n : Nat) : (newPl s g ar n).length = n := by unfold newPl; rw [List.length_map, List.length_range]
theorem plcs_where : ∀ (q : List (Ty01.Fun × Nat)) (f i : Nat), (plcsFrom f q)[i]? = (Ty01.whereFrom f i (q.map (·.1))).bind fun x => (q[x.1 - f]?).map fun y => (y.2 + x.2, x.1, x.2, y.1.arity)
  | [], f, i => rfl
  | x :: q, f, i => by
    show (newPl x.2 f x.1.arity x.1.body.length ++ plcsFrom (f + 1) q)[i]? = _
    rw [List.map_cons]
    unfold Ty01.whereFrom
    by_cases c : i < x.1.body.length
    · rw [if_pos c, List.getElem?_append_left (by rw [newPl_len]; exact c), newPl_get c]
      show _ = ((x :: q)[f - f]?).map _
      rw [Nat.sub_self]
      rfl
    · rw [if_neg c, List.getElem?_append_right (by rw [newPl_len]; omega), newPl_len, plcs_where q (f + 1)]
      cases hw : Ty01.whereFrom (f + 1) (i - x.1.body.length) (q.map (·.1)) with
      | none => rfl
      | some y =>
        obtain ⟨h1, _⟩ := (spoil_where (q.map (·.1)) (f + 1) (i - x.1.body.length)).2 y.1 y.2 hw
        show (q[y.1 - (f + 1)]?).map _ = ((x :: q)[y.1 - f]?).map _
        rw [show y.1 - f = (y.1 - (f + 1)) + 1 by omega, List.getElem?_cons_succ]
/-- what a place is -/
structure IsPl (m : MP) (i : Nat) (q : Pl4) (h : Ty01.Fun) (s0 : Nat) (tk : Ty01.Tok) : Prop where
  fn : m.p.funs[q.2.1]? = some h
  st : m.fst[q.2.1]? = some s0
  at_ : h.body[q.2.2.1]? = some tk
  pos : q.1 = s0 + q.2.2.1
  ar : q.2.2.2 = h.arity
  wd : m.code[q.1]? = some ⟨tk, Ty01.arityOf (Ty01.arities m.p) tk, partsOf (Ty01.arities m.p) s0 h.body q.2.2.1 tk⟩
  wh : Ty01.whereFrom 0 i m.p.funs = some (q.2.1, q.2.2.1)
  lt : i < Ty01.total m.p
  sp : Ty01.spoilt m.p i = (Ty01.spoil h.arity tk).map fun t => spAt m.p q.2.1 q.2.2.1 h t
theorem place_is {m : MP} (G : Good m) {i : Nat} {q : Pl4} (e : m.PL[i]? = some q) : ∃ h s0 tk, IsPl m i q h s0 tk := by
  have e0 : m.PL[i]? = _ := plcs_where m.FS 0 i
  rw [e] at e0
  have ef : m.FS.map (·.1) = m.p.funs := by
    have := zip_fst (fun f : Ty01.Fun => f) (Good.fl' G)
    rw [List.map_id'] at this
    exact this
  rw [ef] at e0
  cases hw : Ty01.whereFrom 0 i m.p.funs with
  | none => rw [hw] at e0; cases e0
  | some x =>
    rw [hw] at e0
    obtain ⟨_, h, h1, h2, h3, h4⟩ := (spoil_where m.p.funs 0 i).2 x.1 x.2 hw
    rw [Nat.sub_zero] at h1 h4
    have hf : x.1 < m.fst.length := by rw [← Good.fl' G]; exact lt_of_get h1
    obtain ⟨s0, hs⟩ : ∃ s0, m.fst[x.1]? = some s0 := ⟨_, List.getElem?_eq_getElem hf⟩
    have hz : m.FS[x.1 - 0]? = some (h, s0) := by
      rw [Nat.sub_zero]
      show (m.p.funs.zip m.fst)[x.1]? = _
      rw [List.getElem?_zip_eq_some]
      exact ⟨h1, hs⟩
    have e0 : some q = (m.FS[x.1 - 0]?).map fun y => (y.2 + x.2, x.1, x.2, y.1.arity) := e0
    rw [hz] at e0
    cases e0
    obtain ⟨tk, htk⟩ : ∃ tk, h.body[x.2]? = some tk := ⟨_, List.getElem?_eq_getElem h2⟩
    refine ⟨h, s0, tk, h1, hs, htk, rfl, rfl, G.F.lies _ h s0 h1 hs _ tk htk, hw, h3, ?_⟩
    unfold Ty01.spoilt
    rw [h4, htk]
    show (((Ty01.spoil h.arity tk).map _).map _) = _
    rw [Option.map_map]
    rfl
theorem place_none {m : MP} (G : Good m) {i : Nat} : m.PL[i]? = none ↔ Ty01.total m.p ≤ i := by
  rw [List.getElem?_eq_none_iff, PL_len G]
def spCan (A : Ad) : Sp := fun vs H Q _ => ∃ (m : MP) (i : Nat) (q : Pl4) (v u : V), vs = [v, u] ∧ ProgAt A H m v ∧ Good m ∧ m.PL[i]? = some q ∧ PlaceAt A H q u ∧ ∀ H', Same H H' → Q (.bl (Ty01.spoilt m.p i).isSome) H'
section
variable {p f wh mm : V}
theorem ll_position : (pF p f wh mm).lookup ("position" : Str) = some p := lk_here
theorem ll_function : (pF p f wh mm).lookup ("function" : Str) = some f := lk_1 (by decide +kernel)
theorem ll_which : (pF p f wh mm).lookup ("which" : Str) = some wh := lk_2 (by decide +kernel) (by decide +kernel)
theorem ll_many : (pF p f wh mm).lookup ("many" : Str) = some mm := lk_3 (by decide +kernel) (by decide +kernel) (by decide +kernel)
end
theorem whatV_non {fst : List Nat} {t : Ty01.Tok} : ¬ whatV fst t = .non := by cases t <;> (intro h; cases h)
section
variable {P : PySem.Program} {w : World} {K : PySem.W.Frag} {mg : Str → Option Value} {base : Heap} {A : Ad}
theorem ok_can_be_spoilt (T : Tp K mg A) (cW : Cal P w K mg base 1 "spoilt_what" (spWhat A) []) {f : Addr} {fd : FuncData} (F : Def K mg "can_be_spoilt" (top 76) f fd) (b : Binds K fd ["program", "place"] []) : Cal P w K mg base 2 "can_be_spoilt" (spCan A) [] := by
  have sc : FnScope ["program", "place"] ["program", "place"] (fnScope (top 76)) := fnScope_by (by decide +kernel)
  refine cal0 F b .nil sc (fun vs H Q E h => ?_) (fun cdv A' outer s H vs Q E hr h => ?_)
  · obtain ⟨m, i, q, v, u, rfl, _⟩ := h
    rfl
  · obtain ⟨m, i, q, v, u, rfl, X, G, hi, hu, k⟩ := h
    refine ⟨_, pss_one (ps_ret (pe_cmpR op_notN (pe_c cW hr (by decide) (by rfl) (pa_cons (pe_ix ix_list (pe_fld (pv 0) rfl) (pe_fld (pv 1) rfl) (fun _ _ => rfl)) (pa_cons (pe_fld (pv 1) rfl) pa_nil))) pe_non (nomark _))), ?_⟩
    obtain ⟨a, dx, cd, pl, fn, ts, tk, rfl, X⟩ := X
    obtain ⟨ua, udx, rfl, hua⟩ := hu
    obtain ⟨h, s0, tok, I⟩ := place_is G hi
    obtain ⟨cvs, hc, pc⟩ := X.code
    obtain ⟨cv, hcv, wa, wdx, wp, rfl, hwa, hwp⟩ := pd_get pc I.wd
    have hop : ∀ o, tok = .op o → o < 12 := fun o ho => (G.ok.op _ (List.mem_of_getElem? I.wd) o ho).1
    refine ⟨_, rfl, a, _, dx, _, _, rfl, X.ins, T.cG, T.g_code, gl_code, _, rfl, ua, _, udx, _, _, rfl, hua, T.cP, T.p_position, ll_position, cd, _, _, _, rfl, rfl, SqL.of hc, atI_nat (j := q.1) hcv, _, rfl, ua, _, udx, _, _, rfl, hua, T.cP, T.p_many, ll_many, ?_⟩
    have k := I.sp ▸ k
    refine ⟨wa, wdx, wp, m.fst, tok, _, q.2.2.2, rfl, hwa, hop, ?_, ?_⟩
    · intro e H' s1
      rw [I.ar] at e
      rw [e] at k
      exact ⟨rfl, k H' s1⟩
    · intro t' e H' s1
      rw [I.ar] at e
      rw [e] at k
      refine ⟨rfl, ?_⟩
      show Q (.bl (!decide (whatV m.fst t' = .non))) H'
      rw [decide_eq_false whatV_non]
      exact k H' s1
end
end Pf
namespace Pf
open PySem PySem.Spec PyProof.Rows L2 SX
open C8 (Cal Met Mak Def cal0 met0 mak0 pe_c pe_mk pe_mt pe_mt0 pe_gc fnScope fnBody fnArgs fnScope_by)
def spSpCode (A : Ad) : Sp := fun vs H Q _ => ∃ (m : MP) (i : Nat) (q : Pl4) (v u : V) (h : Ty01.Fun) (s0 : Nat) (tok t' : Ty01.Tok), vs = [v, u] ∧ ProgAt A H m v ∧ Good m ∧ IsPl m i q h s0 tok ∧ Ty01.spoil h.arity tok = some t' ∧ PlaceAt A H q u ∧
  ∀ c H', Same H H' → CodeAt A H' m.fst (spWd m.code q.1 t') c → Q (.ref c) H'
theorem pd_set {α β : Type} {F : α → β → Prop} {x : α} {u : β} (h : F x u) : ∀ {xs : List α} {us : List β} (i : Nat), Paired F xs us → Paired F (xs.set i x) (us.set i u)
  | _, _, _, .nil => .nil
  | _, _, 0, .cons r t => .cons h t
  | _, _, i + 1, .cons r t => .cons r (pd_set h i t)
theorem ixN_nat' {n j : Nat} (hj : j < n) : ixN n (j : Int) = some j := by
  unfold ixN
  rw [if_pos (by omega), if_pos (by omega)]
  rfl
theorem make_wordQ {A : Ad} {H1 : Hp} {k wh m : V} {x dx : Addr} {QQ : Hp → Prop} {E : XK} (nx : H1 x = none) (nd : H1 dx = none)
    (q : ∀ (pl : Addr) (H' : Hp), Same H1 H' → H1 pl = none → x ≠ pl → H' x = some (.ins A.W dx (wF k wh m (.ref pl))) → H' pl = some (.lst []) → QQ H') :
    spWInit A.W [.ref x, k, wh, m] (upd (upd H1 dx (.own x)) x (.ins A.W dx [])) (fun v H2 => v = .non ∧ QQ H2) E := by
  refine ⟨x, dx, k, wh, m, rfl, upd_same, fun H' pl npl hne h1 h2 kp => ⟨rfl, ?_⟩⟩
  exact q pl H' (Same.made nx nd kp) (free_put (free_put npl).2).2 hne.symm h1 h2
section
variable {P : PySem.Program} {w : World} {K : PySem.W.Frag} {mg : Str → Option Value} {base : Heap} {A : Ad}
theorem ok_spoilt_code (T : Tp K mg A) (cW : Cal P w K mg base 1 "spoilt_what" (spWhat A) []) (cM : Mak P w K mg base 1 "Word" A.W (spWInit A.W) []) {f : Addr} {fd : FuncData} (F : Def K mg "spoilt_code" (top 77) f fd) (b : Binds K fd ["program", "place"] []) : Cal P w K mg base 3 "spoilt_code" (spSpCode A) [] := by
  have sc : FnScope ["program", "place", "word", "spoilt", "code"] ["program", "place"] (fnScope (top 77)) := fnScope_by (by decide +kernel)
  refine cal0 F b .nil sc (fun vs H Q E h => ?_) (fun cdv A' outer s H vs Q E hr h => ?_)
  · obtain ⟨m, i, q, v, u, h, s0, tok, t', rfl, _⟩ := h
    rfl
  · obtain ⟨m, i, q, v, u, h, s0, tok, t', rfl, X, G, I, hsp, hu, k⟩ := h
    refine ⟨_, pss_cons (ps_set (i := 2) sc.nd rfl (.inl rfl) (pe_ix ix_list (pe_fld (pv 0) rfl) (pe_fld (pv 1) rfl) (fun _ _ => rfl)))
      (pss_cons (ps_set (i := 3) sc.nd rfl (.inl rfl) (pe_mk cM hr (by decide) (by rfl) (pa_cons (pe_fld (pv 2) rfl) (pa_cons (pe_c cW hr (by decide) (by rfl) (pa_cons (pv 2) (pa_cons (pe_fld (pv 1) rfl) pa_nil))) (pa_cons (pe_fld (pv 2) rfl) pa_nil)))))
      (pss_cons (ps_expr (pe_bm PySem.F.plainAttrs_list PySem.F.slot_list_extend PySem.F.type_list_extend mt_extend (pe_fld (pv 3) rfl) (pa_cons (pe_fld (pv 2) rfl) pa_nil)))
      (pss_cons (ps_set (i := 4) sc.nd rfl (.inl rfl) (pe_callTy call_list_of (by rfl) T.b_list (by decide +kernel) (pa_cons (pe_fld (pv 0) rfl) pa_nil)))
      (pss_cons (ps_asg (pv 3) (pg_sub (pv 4) (pe_fld (pv 1) rfl) set_list))
      (pss_one (ps_ret (pv 4))))))), ?_⟩
    obtain ⟨a, dx, cd, pl, fn, ts, tk, rfl, X⟩ := X
    obtain ⟨ua, udx, rfl, hua⟩ := hu
    obtain ⟨cvs, hc, pc⟩ := X.code
    obtain ⟨cv, hcv, wa, wdx, wp, rfl, hwa, hwp⟩ := pd_get pc I.wd
    have hop : ∀ o, tok = .op o → o < 12 := fun o ho => (G.ok.op _ (List.mem_of_getElem? I.wd) o ho).1
    refine ⟨_, rfl, a, _, dx, _, _, rfl, X.ins, T.cG, T.g_code, gl_code, _, rfl, ua, _, udx, _, _, rfl, hua, T.cP, T.p_position, ll_position, cd, _, _, _, rfl, rfl, SqL.of hc, atI_nat (j := q.1) hcv, ?_⟩
    refine ⟨_, rfl, wa, _, wdx, _, _, rfl, hwa, T.cW, T.w_kind, wl_kind, ?_⟩
    refine ⟨_, rfl, _, rfl, ua, _, udx, _, _, rfl, hua, T.cP, T.p_many, ll_many, wa, wdx, wp, m.fst, tok, _, q.2.2.2, rfl, hwa, hop, ?_, ?_⟩
    · intro e
      rw [I.ar, hsp] at e
      cases e
    · intro t1 e H1 s1
      rw [I.ar, hsp] at e
      cases e
      refine ⟨_, rfl, wa, _, wdx, _, _, rfl, s1 _ _ hwa, T.cW, T.w_many, wl_many, ?_⟩
      intro y ydx ny nd nye
      refine make_wordQ (A := A) ny nd fun xp H2 s2 f2 ne h1 h2 => ?_
      have s12 := s1.trans s2
      have f0 : H xp = none := s1.free f2
      have y0 : H y = none := s1.free ny
      refine ⟨_, rfl, y, _, ydx, _, _, rfl, h1, T.cW, T.w_parts, wl_parts, .inl ⟨rfl, _, SqL.of h2⟩, ?_⟩
      refine ⟨_, rfl, wa, _, wdx, _, _, rfl, s12 _ _ hwa, T.cW, T.w_parts, wl_parts, xp, wp, _, _, rfl, rfl, h2, s12 _ _ hwp, ?_, ?_⟩
      · have : (partsOf (Ty01.arities m.p) s0 h.body q.2.2.1 tok).length ≤ 3 := G.ok.parts _ (List.mem_of_getElem? I.wd)
        rw [List.length_map, List.length_nil]
        show 0 + (partsOf (Ty01.arities m.p) s0 h.body q.2.2.1 tok).length ≤ 2 ^ 24
        omega
      have s3 : Same H (upd H2 xp (.lst ([] ++ iV (partsOf (Ty01.arities m.p) s0 h.body q.2.2.1 tok)))) := Same.put s12 f0
      refine ⟨_, rfl, a, _, dx, _, _, rfl, s3 _ _ X.ins, T.cG, T.g_code, gl_code, cd, cvs, rfl, .inl (SqL.of (s3 _ _ hc)), fun l hl => ?_⟩
      obtain ⟨nlx, hl2⟩ := free_put hl
      have s4 : Same H (upd (upd H2 xp (.lst ([] ++ iV (partsOf (Ty01.arities m.p) s0 h.body q.2.2.1 tok)))) l (.lst cvs)) := s3.trans (Same.new hl)
      have l0 : H l = none := s12.free hl2
      have nly : l ≠ y := fun z => by rw [z, h1] at hl2; cases hl2
      refine ⟨_, rfl, _, rfl, _, rfl, ua, _, udx, _, _, rfl, s4 _ _ hua, T.cP, T.p_position, ll_position, l, _, _, q.1, rfl, rfl, upd_same, ?_, ?_⟩
      · exact Pf.ixN_nat' (lt_of_get hcv)
      refine ⟨_, rfl, k l _ (Same.put s4 l0) ⟨_, upd_same, ?_⟩⟩
      rw [spWd_eq I.wd]
      refine pd_set ⟨y, ydx, xp, rfl, ?_, ?_⟩ q.1 (Paired.mapP pc fun _ _ z => z.mono (Same.put s4 l0))
      · rw [upd_ne nly.symm, upd_ne nly.symm, upd_ne ne, h1]
        show some (HO.ins A.W ydx (wF (.int (kindOf tok : Nat)) _ _ _)) = some (HO.ins A.W ydx (wF (.int (kindOf t' : Nat)) _ _ _))
        rw [spoil_kind hsp hop]
      · rw [upd_ne nlx.symm, upd_ne nlx.symm, upd_same]
        rfl
end
end Pf
namespace Pf
open PySem PySem.Spec PyProof.Rows L2 SX
open C8 (Cal Met Mak Def cal0 met0 mak0 pe_c pe_mk pe_mt pe_mt0 pe_gc fnScope fnBody fnArgs fnScope_by)
def holdL (p : Ty01.Program) : List Nat := (List.range p.tests.length).filter fun k => (p.tests[k]?).any (Ty01.holds p)
def spHolding (A : Ad) : Sp := fun vs H Q _ => ∃ (m : MP) (v : V), vs = [v] ∧ ProgAt A H m v ∧ Good m ∧ ∀ p H', Same H H' → H p = none → H' p = some (.lst (iV (holdL m.p))) → Q (.ref p) H'
theorem filter_next {n : Nat} {p : Nat → Bool} (i : Nat) : (List.range (i + 1)).filter p = (List.range i).filter p ++ (if p i = true then [i] else []) := by
  rw [List.range_succ, List.filter_append]
  congr 1
  by_cases h : p i = true
  · rw [if_pos h, List.filter_cons_of_pos h]; rfl
  · rw [if_neg h, List.filter_cons_of_neg h]; rfl
section
variable {P : PySem.Program} {w : World} {K : PySem.W.Frag} {mg : Str → Option Value} {base : Heap} {A : Ad}
theorem ok_holding_tests (T : Tp K mg A) (cH : Cal P w K mg base 8 "holds" (spHolds A) []) {f : Addr} {fd : FuncData} (F : Def K mg "holding_tests" (top 83) f fd) (b : Binds K fd ["program"] []) : Cal P w K mg base 9 "holding_tests" (spHolding A) [] := by
  have sc : FnScope ["program", "k", "test"] ["program"] (fnScope (top 83)) := fnScope_by (by decide +kernel)
  refine cal0 F b .nil sc (fun vs H Q E h => ?_) (fun cdv A' outer s H vs Q E hr h => ?_)
  · obtain ⟨m, v, rfl, _⟩ := h
    rfl
  · obtain ⟨m, v, rfl, X, G, k⟩ := h
    refine ⟨_, pss_one (ps_ret (pe_lc (own := [("k", 1), ("test", 2)]) (g := gTup K 2 (gCons (gName 1) (gCons (gName 2) gNil))) (tt := tB (tCall (spHolds A) [] C8.E0 (tCons (tFld K (tVar 0) "code") (tCons (tVar 2) tNil)))) rfl sc.nd (pi_enum (by rfl) T.b_enumerate (pa_cons (pe_fld (pv 0) rfl) pa_nil)) (blkOk_by (N := ["program", "k", "test"]) (sc := fnScope (top 83)) (by decide +kernel)) (fun _ _ _ _ _ => pg_tup rfl (pgs_cons (pg_name (i := 1) sc.nd rfl (.inl rfl)) (pgs_cons (pg_name (i := 2) sc.nd rfl (.inl rfl)) pgs_nil))) (fun _ _ _ _ _ => pts_one (pt_val (pe_c cH hr (by decide) (by rfl) (pa_cons (pe_fld (pv 0) rfl) (pa_cons (pv 2) pa_nil))))) (fun _ _ _ _ _ => pv 1))), ?_⟩
    obtain ⟨a, dx, cd, pl, fn, ts, tk, rfl, X⟩ := X
    obtain ⟨tvs, ht, pt⟩ := X.tests
    have lt : tvs.length = m.p.tests.length := by rw [← Paired.length pt]; exact TS_len G
    refine ⟨_, rfl, a, _, dx, _, _, rfl, X.ins, T.cG, T.g_tests, gl_tests, ?_⟩
    refine ⟨ts, tvs, rfl, SqL.of ht, fun D hD => ?_⟩
    refine lc_it (walk_enum (K := K) (a := ts) (xs := tvs)) (fun i H' => Same H H' ∧ H' D = some (.lst (iV ((List.range i).filter fun k => (m.p.tests[k]?).any (Ty01.holds m.p)))))
      ⟨Same.new hD, upd_same⟩ (fun i H' _ B => SqL.of (B.1 _ _ ht)) ?_ ?_
    · rintro i x H2 H3 hi ⟨b1, b2⟩ ⟨tp, xi, xu, rfl, ntp, rfl, ei, eu⟩
      cases ei
      have eu : tvs[i]? = some xu := eu
      obtain ⟨t, ht1⟩ : ∃ t, m.p.tests[i]? = some t := ⟨_, List.getElem?_eq_getElem (by omega)⟩
      obtain ⟨st, hst⟩ : ∃ st, m.tst[i]? = some st := ⟨_, List.getElem?_eq_getElem (by rw [G.tl]; omega)⟩
      have hz : m.TS[i]? = some (t, st) := List.getElem?_zip_eq_some.mpr ⟨ht1, hst⟩
      have hta : TestAt' A H (t, st) xu := pd_at pt hz eu
      have s3 : Same H (upd H2 tp (.tup [.int (i : Nat), xu])) := b1.trans (Same.new ntp)
      have nDt : D ≠ tp := fun z => by rw [← z, b2] at ntp; cases ntp
      have li : ∀ n, ((List.range n).filter fun k => (m.p.tests[k]?).any (Ty01.holds m.p)).length ≤ n := fun n => Nat.le_trans (List.length_filter_le _ _) (Nat.le_of_eq List.length_range)
      have tn := G.tn
      refine ⟨tp, _, rfl, SqT.of upd_same, rfl, _, _, rfl, _, _, rfl, rfl, rfl, ?_⟩
      refine ⟨_, rfl, a, _, dx, _, _, rfl, s3 _ _ X.ins, T.cG, T.g_code, gl_code, _, rfl, m.p, t, cd, xu, rfl, ⟨m.code, m.fst, st, X.code.mono s3, hta.mono s3, G.T i t st ht1 hst⟩, fun H4 s4 => ?_⟩
      refine ⟨_, rfl, ?_⟩
      have hD4 : H4 D = _ := s4 _ _ ((upd_ne nDt).trans b2)
      refine if_of (fun c => ?_) (fun c => ?_)
      · refine ⟨_, rfl, _, hD4, (by rw [List.length_map]; have := li i; show _ < 2 ^ 24; omega), Same.put (s3.trans s4) hD, upd_same.trans ?_⟩
        rw [filter_next (n := 0), if_pos (by rw [ht1]; exact c)]
        show _ = some (HO.lst (List.map _ (_ ++ [i])))
        rw [List.map_append]
        rfl
      · refine ⟨s3.trans s4, hD4.trans ?_⟩
        rw [filter_next (n := 0), if_neg (by rw [ht1]; intro z; rw [show (Option.any (Ty01.holds m.p) (some t)) = Ty01.holds m.p t from rfl, c] at z; cases z), List.append_nil]
    · rintro H2 ⟨b1, b2⟩
      rw [lt] at b2
      exact k D H2 b1 hD b2
end
end Pf
namespace Pf
open PySem PySem.Spec PyProof.Rows L2 SX
open C8 (Cal Met Mak Def cal0 met0 mak0 pe_c pe_mk pe_mt pe_mt0 pe_gc fnScope fnBody fnArgs fnScope_by)
def failL (p p' : Ty01.Program) (L : List Nat) : List Nat := L.filter fun k => (p.tests[k]?).any fun t => !Ty01.holds p' t
def spFailing (A : Ad) : Sp := fun vs H Q _ => ∃ (m : MP) (i : Nat) (q : Pl4) (v u : V) (h : Ty01.Fun) (s0 : Nat) (tok t' : Ty01.Tok) (ha : Addr) (L : List Nat), vs = [v, .ref ha, u] ∧ ProgAt A H m v ∧ Good m ∧ IsPl m i q h s0 tok ∧ Ty01.spoil h.arity tok = some t' ∧ PlaceAt A H q u ∧
  H ha = some (.lst (iV L)) ∧ (∀ k ∈ L, k < m.p.tests.length) ∧ L.length ≤ 1000 ∧ ∀ p H', Same H H' → H p = none → H' p = some (.lst (iV (failL m.p (spAt m.p q.2.1 q.2.2.1 h t') L))) → Q (.ref p) H'
def spSight (A : Ad) : Sp := fun vs H Q _ => ∃ (m : MP) (i : Nat) (q : Pl4) (v u : V), vs = [v, u] ∧ ProgAt A H m v ∧ Good m ∧ m.PL[i]? = some q ∧ (Ty01.spoilt m.p i).isSome = true ∧ PlaceAt A H q u ∧ ∀ p H', Same H H' → H p = none → H' p = some (.lst (iV (Ty01.seers m.p i))) → Q (.ref p) H'
theorem fail_seers {p p' : Ty01.Program} {i : Nat} (h : Ty01.spoilt p i = some p') : failL p p' (holdL p) = Ty01.seers p i := by
  unfold failL holdL Ty01.seers
  rw [List.filter_filter]
  congr 1
  funext k
  unfold Ty01.sees
  rw [h]
  cases p.tests[k]? with
  | none => rfl
  | some t =>
    show (!Ty01.holds p' t && Ty01.holds p t) = (Ty01.holds p t && !Ty01.holds p' t)
    rw [Bool.and_comm]
theorem take_filter {α : Type} {p : α → Bool} {l : List α} {i : Nat} {x : α} (h : l[i]? = some x) : (l.take (i + 1)).filter p = (l.take i).filter p ++ (if p x = true then [x] else []) := by
  rw [take_next h, List.filter_append]
  congr 1
  by_cases hx : p x = true
  · rw [if_pos hx, List.filter_cons_of_pos hx]; rfl
  · rw [if_neg hx, List.filter_cons_of_neg hx]; rfl
section
variable {P : PySem.Program} {w : World} {K : PySem.W.Frag} {mg : Str → Option Value} {base : Heap} {A : Ad}
theorem ok_failing_spoilt (T : Tp K mg A) (cH : Cal P w K mg base 8 "holds" (spHolds A) []) (cS : Cal P w K mg base 3 "spoilt_code" (spSpCode A) []) {f : Addr} {fd : FuncData} (F : Def K mg "failing_spoilt" (top 84) f fd) (b : Binds K fd ["program", "holding", "place"] []) : Cal P w K mg base 9 "failing_spoilt" (spFailing A) [] := by
  have sc : FnScope ["program", "holding", "place", "code", "k"] ["program", "holding", "place"] (fnScope (top 84)) := fnScope_by (by decide +kernel)
  refine cal0 F b .nil sc (fun vs H Q E h => ?_) (fun cdv A' outer s H vs Q E hr h => ?_)
  · obtain ⟨m, i, q, v, u, h, s0, tok, t', ha, L, rfl, _⟩ := h
    rfl
  · obtain ⟨m, i, q, v, u, h, s0, tok, t', ha, L, rfl, X, G, I, hsp, hu, hL, kL, lL, k⟩ := h
    refine ⟨_, pss_cons (ps_set (i := 3) sc.nd rfl (.inr rfl) (pe_c cS hr (by decide) (by rfl) (pa_cons (pv 0) (pa_cons (pv 2) pa_nil))))
      (pss_one (ps_ret (pe_lc (own := [("k", 4)]) (g := gName 4) (tt := tNot (tB (tCall (spHolds A) [] C8.E0 (tCons (tVar 3) (tCons (tOp (rIxL K) (tFld K (tVar 0) "tests") (tVar 4)) tNil))))) rfl sc.nd (pi_list (pv 1)) (blkOk_by (N := ["program", "holding", "place", "code", "k"]) (sc := fnScope (top 84)) (by decide +kernel)) (fun _ _ _ _ _ => pg_name (i := 4) sc.nd rfl (Or.inl rfl)) (fun _ _ _ _ _ => pts_one (pt_not (pt_val (pe_c cH hr (by decide) (by rfl) (pa_cons (pv 3) (pa_cons (pe_ix ix_list (pe_fld (pv 0) rfl) (pv 4) (fun _ _ => rfl)) pa_nil)))))) (fun _ _ _ _ _ => pv 4)))), ?_⟩
    obtain ⟨a, dx, cd, pl, fn, ts, tk, rfl, X⟩ := X
    obtain ⟨tvs, ht, pt⟩ := X.tests
    have lt : tvs.length = m.p.tests.length := by rw [← Paired.length pt]; exact TS_len G
    refine ⟨_, rfl, _, rfl, m, i, q, _, u, h, s0, tok, t', rfl, ⟨a, dx, cd, pl, fn, ts, tk, rfl, X⟩, G, I, hsp, hu, fun c H1 s1 hc => ?_⟩
    refine ⟨_, rfl, ha, rfl, ⟨_, SqL.of (s1 _ _ hL)⟩, fun D hD => ?_⟩
    have D0 : H D = none := s1.free hD
    refine lc_it (walk_list (K := K) (a := ha) (xs := iV L)) (fun i H' => Same H1 H' ∧ H' D = some (.lst (iV (failL m.p (spAt m.p q.2.1 q.2.2.1 h t') (L.take i)))))
      ⟨Same.new hD, upd_same⟩ (fun i H' _ B => SqL.of (B.1 _ _ (s1 _ _ hL))) ?_ ?_
    · rintro n x H2 H3 hi ⟨b1, b2⟩ ⟨rfl, hx⟩
      rw [List.length_map] at hi
      obtain ⟨kk, hkk⟩ : ∃ kk, L[n]? = some kk := ⟨_, List.getElem?_eq_getElem hi⟩
      have : x = V.int (kk : Nat) := by rw [iV_get hkk] at hx; exact (Option.some.inj hx).symm
      subst this
      have hlt := kL kk (List.mem_of_getElem? hkk)
      obtain ⟨t, ht1⟩ : ∃ t, m.p.tests[kk]? = some t := ⟨_, List.getElem?_eq_getElem hlt⟩
      obtain ⟨st, hst⟩ : ∃ st, m.tst[kk]? = some st := ⟨_, List.getElem?_eq_getElem (by rw [G.tl]; exact hlt)⟩
      have hz : m.TS[kk]? = some (t, st) := List.getElem?_zip_eq_some.mpr ⟨ht1, hst⟩
      obtain ⟨xu, eu⟩ : ∃ xu, tvs[kk]? = some xu := ⟨_, List.getElem?_eq_getElem (by omega)⟩
      have hta : TestAt' A H (t, st) xu := pd_at pt hz eu
      have s2 := s1.trans b1
      have li : (failL m.p (spAt m.p q.2.1 q.2.2.1 h t') (L.take n)).length ≤ 1000 := Nat.le_trans (List.length_filter_le _ _) (by rw [List.length_take]; omega)
      have tin := (G.T kk t st ht1 hst).spoilt I.fn I.st I.at_ hsp
      rw [← I.pos] at tin
      refine ⟨rfl, _, rfl, _, rfl, a, _, dx, _, _, rfl, s2 _ _ X.ins, T.cG, T.g_tests, gl_tests, _, rfl, ts, _, _, _, rfl, rfl, SqL.of (s2 _ _ ht), atI_nat (j := kk) eu, spAt m.p q.2.1 q.2.2.1 h t', t, c, xu, rfl, ⟨_, m.fst, st, hc.mono b1, hta.mono s2, tin⟩, fun H4 s4 => ?_⟩
      refine ⟨_, rfl, ?_⟩
      have hD4 : H4 D = _ := s4 _ _ b2
      refine if_of (fun c' => ?_) (fun c' => ?_)
      · refine ⟨_, rfl, _, hD4, (by rw [List.length_map]; show _ < 2 ^ 24; omega), Same.put (b1.trans s4) hD, upd_same.trans ?_⟩
        unfold failL
        rw [take_filter hkk, if_pos (by rw [ht1]; exact c')]
        show _ = some (HO.lst (List.map _ (_ ++ [kk])))
        rw [List.map_append]
        rfl
      · refine ⟨b1.trans s4, hD4.trans ?_⟩
        unfold failL
        rw [take_filter hkk, if_neg (by rw [ht1]; intro z; have z : (!Ty01.holds (spAt m.p q.2.1 q.2.2.1 h t') t) = true := z; rw [c'] at z; cases z), List.append_nil]
    · rintro H2 ⟨b1, b2⟩
      rw [List.length_map, List.take_length] at b2
      exact k D H2 (s1.trans b1) D0 b2
theorem ok_sight_of (T : Tp K mg A) (cF : Cal P w K mg base 9 "failing_spoilt" (spFailing A) []) (cH : Cal P w K mg base 9 "holding_tests" (spHolding A) []) {f : Addr} {fd : FuncData} (F : Def K mg "sight_of" (top 85) f fd) (b : Binds K fd ["program", "place"] []) : Cal P w K mg base 10 "sight_of" (spSight A) [] := by
  have sc : FnScope ["program", "place"] ["program", "place"] (fnScope (top 85)) := fnScope_by (by decide +kernel)
  refine cal0 F b .nil sc (fun vs H Q E h => ?_) (fun cdv A' outer s H vs Q E hr h => ?_)
  · obtain ⟨m, i, q, v, u, rfl, _⟩ := h
    rfl
  · obtain ⟨m, i, q, v, u, rfl, X, G, hi, hs, hu, k⟩ := h
    refine ⟨_, pss_one (ps_ret (pe_c cF hr (by decide) (by rfl) (pa_cons (pv 0) (pa_cons (pe_c cH hr (by decide) (by rfl) (pa_cons (pv 0) pa_nil)) (pa_cons (pv 1) pa_nil))))), ?_⟩
    obtain ⟨h, s0, tok, I⟩ := place_is G hi
    obtain ⟨t', ht'⟩ : ∃ t', Ty01.spoil h.arity tok = some t' := by
      rw [I.sp] at hs
      cases hq : Ty01.spoil h.arity tok with
      | none => rw [hq] at hs; cases hs
      | some t' => exact ⟨t', rfl⟩
    have esp : Ty01.spoilt m.p i = some (spAt m.p q.2.1 q.2.2.1 h t') := by rw [I.sp, ht']; rfl
    refine ⟨_, rfl, _, rfl, m, v, rfl, X, G, fun p H1 s1 np hp => ?_⟩
    refine ⟨_, rfl, m, i, q, v, u, h, s0, tok, t', p, holdL m.p, rfl, X.mono s1, G, I, ht', hu.mono s1, hp, (fun kk hk => List.mem_range.mp (List.mem_filter.mp hk).1), ?_, fun p2 H2 s2 np2 hp2 => ?_⟩
    · have := G.tn
      exact Nat.le_trans (List.length_filter_le _ _) (by rw [List.length_range]; omega)
    · rw [fail_seers esp] at hp2
      exact k p2 H2 (s1.trans s2) (s1.free np2) hp2
end
end Pf
namespace Pf
open PySem PySem.Spec PyProof.Rows L2 SX
open C8 (Cal Met Mak Def cal0 met0 mak0 pe_c pe_mk pe_mt pe_mt0 pe_gc fnScope fnBody fnArgs fnScope_by)
def SightKv (H : Hp) (x : Nat × List Nat) (kv : Key × V) : Prop := kv.1 = Sum.inl (x.1 : Int) ∧ ∃ l, kv.2 = .ref l ∧ H l = some (.lst (iV x.2))
theorem SightKv.mono {H H' : Hp} (s : Same H H') {x : Nat × List Nat} {kv : Key × V} (h : SightKv H x kv) : SightKv H' x kv := ⟨h.1, let ⟨l, h1, h2⟩ := h.2; ⟨l, h1, s _ _ h2⟩⟩
def tabTo (p : Ty01.Program) (i : Nat) : List (Nat × List Nat) := ((List.range i).filter fun i => (Ty01.spoilt p i).isSome).map fun i => (i, Ty01.seers p i)
theorem tab_all (p : Ty01.Program) : tabTo p (Ty01.total p) = Ty01.table p := rfl
theorem tab_next (p : Ty01.Program) (i : Nat) : tabTo p (i + 1) = tabTo p i ++ (if (Ty01.spoilt p i).isSome = true then [(i, Ty01.seers p i)] else []) := by
  unfold tabTo
  rw [filter_next (n := 0), List.map_append]
  congr 1
  split <;> rfl
theorem tab_len (p : Ty01.Program) (i : Nat) : (tabTo p i).length ≤ i := by
  unfold tabTo
  rw [List.length_map]
  exact Nat.le_trans (List.length_filter_le _ _) (Nat.le_of_eq List.length_range)
theorem tab_lt {p : Ty01.Program} {i : Nat} {x : Nat × List Nat} (h : x ∈ tabTo p i) : x.1 < i := by
  obtain ⟨y, hy, rfl⟩ := List.mem_map.mp h
  exact List.mem_range.mp (List.mem_filter.mp hy).1
theorem sight_new {H : Hp} {i : Nat} : ∀ {xs : List (Nat × List Nat)} {kvs : List (Key × V)}, Paired (SightKv H) xs kvs → (∀ x ∈ xs, x.1 ≠ i) → valV kvs (Sum.inl (i : Int)) = none
  | _, _, .nil, _ => rfl
  | x :: xs, kv :: kvs, .cons ⟨h1, _⟩ r, h => by
    have e : ¬ kv.1 = Sum.inl (i : Int) := by
      rw [h1]; intro z
      have := Sum.inl.inj z
      exact h x (List.mem_cons_self ..) (by omega)
    rw [valV_neg e]
    exact sight_new r fun q' hq => h q' (List.mem_cons_of_mem _ hq)
def spSights (A : Ad) : Sp := fun vs H Q _ => ∃ (m : MP) (v : V), vs = [v] ∧ ProgAt A H m v ∧ Good m ∧ ∀ d kvs H', Same H H' → H d = none → H' d = some (.dK kvs) → Paired (SightKv H') (Ty01.table m.p) kvs → Q (.ref d) H'
section
variable {P : PySem.Program} {w : World} {K : PySem.W.Frag} {mg : Str → Option Value} {base : Heap} {A : Ad}
theorem ok_all_sights (T : Tp K mg A) (cH : Cal P w K mg base 9 "holding_tests" (spHolding A) []) (cC : Cal P w K mg base 2 "can_be_spoilt" (spCan A) []) (cF : Cal P w K mg base 9 "failing_spoilt" (spFailing A) [])
    {f : Addr} {fd : FuncData} (F : Def K mg "all_sights" (top 86) f fd) (b : Binds K fd ["program"] []) : Cal P w K mg base 10 "all_sights" (spSights A) [] := by
  have sc : FnScope ["program", "holding", "sights", "i", "place"] ["program"] (fnScope (top 86)) := fnScope_by (by decide +kernel)
  refine cal0 F b .nil sc (fun vs H Q E h => ?_) (fun cdv A' outer s H vs Q E hr h => ?_)
  · obtain ⟨m, v, rfl, _⟩ := h
    rfl
  · obtain ⟨m, v, rfl, X, G, k⟩ := h
    refine ⟨_, pss_cons (ps_set (i := 1) sc.nd rfl (.inl rfl) (pe_c cH hr (by decide) (by rfl) (pa_cons (pv 0) pa_nil)))
      (pss_cons (ps_set (i := 2) sc.nd rfl (.inl rfl) pe_dnewK)
      (pss_cons (ps_for PassesOwn.never rfl (pi_enum (by rfl) T.b_enumerate (pa_cons (pe_fld (pv 0) rfl) pa_nil)) (pg_tup rfl (pgs_cons (pg_name (i := 3) sc.nd rfl (.inl rfl)) (pgs_cons (pg_name (i := 4) sc.nd rfl (.inl rfl)) pgs_nil)))
        (pss_one (ps_if (pt_val (pe_c cC hr (by decide) (by rfl) (pa_cons (pv 0) (pa_cons (pv 4) pa_nil))))
          (pss_one (ps_dput (hu_of hr) (pv 2) (pv 3) (pe_c cF hr (by decide) (by rfl) (pa_cons (pv 0) (pa_cons (pv 1) (pa_cons (pv 4) pa_nil)))) rfl)) pss_nil)))
      (pss_one (ps_ret (pv 2))))), ?_⟩
    obtain ⟨a, dx, cd, pl, fn, ts, tk, rfl, X⟩ := X
    obtain ⟨pvs, hp, pp⟩ := X.places
    have lp : pvs.length = Ty01.total m.p := by rw [← Paired.length pp]; exact PL_len G
    have tot := G.tot
    refine ⟨_, rfl, m, _, rfl, ⟨a, dx, cd, pl, fn, ts, tk, rfl, X⟩, G, fun ha H1 s1 na hha => ?_⟩
    intro d hd
    have d0 : H d = none := s1.free hd
    have s2 : Same H (upd H1 d (.dK [])) := s1.trans (Same.new hd)
    refine ⟨_, rfl, a, _, dx, _, _, rfl, s2 _ _ X.ins, T.cG, T.g_places, gl_places, pl, pvs, rfl, SqL.of (s2 _ _ hp), ?_⟩
    refine for_it (walk_enum (K := K) (a := pl) (xs := pvs)) (fun i σ H' => ∃ (o3 o4 : Option V) (kvs : List (Key × V)), σ = [some (.ref a), some (.ref ha), some (.ref d), o3, o4] ∧ Same H1 H' ∧ H' d = some (.dK kvs) ∧ Paired (SightKv H') (tabTo m.p i) kvs)
      ⟨none, none, [], rfl, Same.new hd, upd_same, .nil⟩ (fun i σ H' _ ⟨_, _, _, _, s3, _⟩ => SqL.of (s3 _ _ (s1 _ _ hp))) ?_ ?_
    · rintro i x σ H3 H4 hi ⟨o3, o4, kvs, rfl, s3, hd3, pk⟩ ⟨tp, xi, xu, rfl, ntp, rfl, ei, eu⟩
      cases ei
      have eu : pvs[i]? = some xu := eu
      obtain ⟨q, hq⟩ : ∃ q, m.PL[i]? = some q := ⟨_, List.getElem?_eq_getElem (by rw [PL_len G]; omega)⟩
      have hpa := pd_at pp hq eu
      have s4 : Same H1 (upd H3 tp (.tup [.int (i : Nat), xu])) := s3.trans (Same.new ntp)
      have s04 := s1.trans s4
      refine ⟨tp, _, rfl, SqT.of upd_same, rfl, _, _, rfl, _, _, rfl, rfl, ?_⟩
      refine ⟨_, rfl, _, rfl, m, i, q, _, xu, rfl, ⟨a, dx, cd, pl, fn, ts, tk, rfl, X.mono s04⟩, G, hq, hpa.mono s04, fun H5 s5 => ?_⟩
      refine ⟨_, rfl, ?_⟩
      have s35 : Same H3 H5 := (Same.new ntp).trans s5
      have s05 := s04.trans s5
      refine if_of (fun c => ?_) (fun c => ?_)
      · obtain ⟨h, s0, tok, I⟩ := place_is G hq
        obtain ⟨t', ht'⟩ : ∃ t', Ty01.spoil h.arity tok = some t' := by
          rw [I.sp] at c
          cases hq : Ty01.spoil h.arity tok with
          | none => rw [hq] at c; cases c
          | some t' => exact ⟨t', rfl⟩
        have esp : Ty01.spoilt m.p i = some (spAt m.p q.2.1 q.2.2.1 h t') := by rw [I.sp, ht']; rfl
        refine ⟨_, rfl, _, rfl, _, rfl, m, i, q, _, xu, h, s0, tok, t', ha, holdL m.p, rfl, ⟨a, dx, cd, pl, fn, ts, tk, rfl, X.mono s05⟩, G, I, ht', hpa.mono s05, s5 _ _ (s4 _ _ hha), (fun kk hk => List.mem_range.mp (List.mem_filter.mp hk).1), ?_, fun l H6 s6 nl hl => ?_⟩
        · have := G.tn
          exact Nat.le_trans (List.length_filter_le _ _) (by rw [List.length_range]; omega)
        rw [fail_seers esp] at hl
        have s36 := s35.trans s6
        have lk : kvs.length ≤ 30 := by rw [← Paired.length pk]; have := tab_len m.p i; omega
        refine ⟨_, rfl, _, rfl, d, _, rfl, DPut.k (k := Sum.inl (i : Int)) (s36 _ _ hd3) (by show _ < 2 ^ 24; omega), ?_⟩
        rw [putK_new _ (sight_new pk fun x hx => by have := tab_lt hx; omega)]
        refine ⟨_, _, _, rfl, Same.put (s4.trans (s5.trans s6)) hd, upd_same, ?_⟩
        rw [tab_next, if_pos c]
        have mono : ∀ x kv, SightKv H6 x kv → SightKv (upd H6 d (.dK (kvs ++ [(Sum.inl (i : Int), .ref l)]))) x kv := fun x kv ⟨g1, l', g2, g3⟩ => ⟨g1, l', g2, (upd_ne (L2.ne_of g3 (s36 _ _ hd3) (by intro y; cases y))).trans g3⟩
        exact pd_append (Paired.mapP pk fun _ _ y => mono _ _ (y.mono s36)) (pd_one (mono _ _ ⟨rfl, l, rfl, hl⟩))
      · refine ⟨_, _, kvs, rfl, s4.trans s5, s35 _ _ hd3, ?_⟩
        rw [tab_next, if_neg (by rw [c]; decide), List.append_nil]
        exact Paired.mapP pk fun _ _ y => y.mono s35
    · rintro σ H3 ⟨o3, o4, kvs, rfl, s3, hd3, pk⟩
      rw [lp, tab_all] at pk
      exact ⟨_, rfl, k d kvs H3 (s1.trans s3) d0 hd3 pk⟩
end
end Pf
namespace Pf
open PySem PySem.Spec PyProof.Rows L2 SX
open C8 (Cal Met Mak Def cal0 met0 mak0 pe_c pe_mk pe_mt pe_mt0 pe_gc fnScope fnBody fnArgs fnScope_by)
def RowAt (H : Hp) (r : List Nat) (v : V) : Prop := ∃ l, v = .ref l ∧ H l = some (.lst (iV r))
theorem RowAt.mn : Mono RowAt := fun H H' r v e ⟨l, h1, h2⟩ => ⟨l, h1, e _ _ h2⟩
/-- where the next test of a row may begin -/
def beh (r : List Nat) : Nat := match r.getLast? with
  | some x => x + 1
  | none => 0
def lonTo (r : List Nat) (j : Nat) : List (List Nat) := (List.range j).map fun i => r ++ [beh r + i]
def longerL (n : Nat) (rs : List (List Nat)) : List (List Nat) := rs.flatMap fun r => lonTo r (n - beh r)
def spLonger : Sp := fun vs H Q _ => ∃ (a : Addr) (rs : List (List Nat)) (us : List V) (n : Nat), vs = [.ref a, .int (n : Nat)] ∧ H a = some (.lst us) ∧ Paired (RowAt H) rs us ∧ n ≤ 4 ∧ rs.length ≤ 1000 ∧ (∀ r ∈ rs, r.length ≤ 100 ∧ ∀ x ∈ r, x ≤ 100) ∧
  ∀ p us' H', Same H H' → H p = none → H' p = some (.lst us') → Paired (RowAt H') (longerL n rs) us' → Q (.ref p) H'
theorem beh_eq {r : List Nat} (h : r ≠ []) : ∃ x, r[r.length - 1]? = some x ∧ beh r = x + 1 := by
  refine ⟨r.getLast h, ?_, ?_⟩
  · rw [List.getLast_eq_getElem]
    exact List.getElem?_eq_getElem _
  · unfold beh
    rw [List.getLast?_eq_some_getLast h]
theorem atI_last {xs : List Nat} {v : V} (h : (iV xs)[xs.length - 1]? = some v) : atI (iV xs) (-1) = some v := by
  unfold atI ixN
  have hl : (iV xs).length = xs.length := List.length_map ..
  have : 0 < xs.length := by
    have := lt_of_get h
    omega
  rw [if_neg (by decide), if_pos (by rw [hl]; omega), hl]
  show (iV xs)[((-1 : Int) + (xs.length : Nat)).toNat]? = some v
  rw [show ((-1 : Int) + (xs.length : Nat)).toNat = xs.length - 1 by omega]
  exact h
section
variable {P : PySem.Program} {w : World} {K : PySem.W.Frag} {mg : Str → Option Value} {base : Heap} {A : Ad}
theorem ok_longer_rows (T : Tp K mg A) {f : Addr} {fd : FuncData} (F : Def K mg "longer_rows" (top 87) f fd) (b : Binds K fd ["rows", "many"] []) : Cal P w K mg base 1 "longer_rows" spLonger [] := by
  have sc : FnScope ["rows", "many", "longer", "row", "behind", "k"] ["rows", "many"] (fnScope (top 87)) := fnScope_by (by decide +kernel)
  refine cal0 F b .nil sc (fun vs H Q E h => ?_) (fun cdv A' outer s H vs Q E hr h => ?_)
  · obtain ⟨a, rs, us, n, rfl, _⟩ := h
    rfl
  · obtain ⟨a, rs, us, n, rfl, ha, pr, hn, lr, ll, k⟩ := h
    refine ⟨_, pss_cons (ps_set (i := 2) sc.nd rfl (.inl rfl) (pe_lst pa_nil))
      (pss_cons (ps_for PassesOwn.never rfl (pi_list (pv 0)) (pg_name (i := 3) sc.nd rfl (.inl rfl))
        (pss_cons (ps_set (i := 4) sc.nd rfl (.inl rfl) (pe_ifExp (pt_cmpR (op_neE hr.units0) (pv 3) (pe_lst pa_nil) (nomark _)) (pe_op op_add (pe_ix ix_list (pv 3) (pe_un un_neg pe_int) (fun _ _ => rfl)) pe_int) pe_int))
        (pss_one (ps_for PassesOwn.never rfl (pi_range2 (by rfl) T.b_range (pa_cons (pv 4) (pa_cons (pv 1) pa_nil))) (pg_name (i := 5) sc.nd rfl (.inl rfl))
          (pss_one (ps_expr (pe_bm PySem.F.plainAttrs_list PySem.F.slot_list_append PySem.F.type_list_append mt_append (pv 2) (pa_cons (pe_op op_cat (pv 3) (pe_lst (pa_cons (pv 5) pa_nil))) pa_nil))))))))
      (pss_one (ps_ret (pv 2)))), ?_⟩
    refine ⟨by show 0 ≤ sizeLine; decide, fun D hD => ?_⟩
    have lu := Paired.length pr
    refine ⟨_, rfl, a, rfl, ⟨_, SqL.of (Same.new hD _ _ ha)⟩, ?_⟩
    refine for_it (walk_list (K := K) (a := a) (xs := us)) (fun i σ H' => ∃ o3 o4 o5 : Option V, σ = [some (.ref a), some (.int (n : Nat)), some (.ref D), o3, o4, o5] ∧ Bld RowAt H H' D (longerL n (rs.take i)))
      ⟨none, none, none, rfl, Bld.nil (Same.refl _) hD⟩ (fun i σ H' _ ⟨_, _, _, _, B⟩ => SqL.of (B.same _ _ ha)) ?_ ?_
    · rintro i u σ H1 H2 hi ⟨o3, o4, o5, rfl, B⟩ ⟨rfl, hu⟩
      obtain ⟨r, hr1⟩ : ∃ r, rs[i]? = some r := ⟨_, List.getElem?_eq_getElem (by omega)⟩
      obtain ⟨l, rfl, hl⟩ := pd_at pr hr1 hu
      obtain ⟨rl, rx⟩ := ll r (List.mem_of_getElem? hr1)
      have nlD : l ≠ D := fun z => by rw [z, hD] at hl; cases hl
      have bx : beh r ≤ 101 := by
        unfold beh
        split
        · rename_i x hx
          have := rx x (List.mem_of_getLast? hx)
          omega
        · omega
      refine ⟨_, rfl, (by show 0 ≤ sizeLine; decide), fun en hen => ?_⟩
      have s3 : Same H2 (upd H2 en (.lst [])) := Same.new hen
      have B3 := B.new RowAt.mn s3
      refine ⟨l, en, _, rfl, rfl, SqL.of (B3.same _ _ hl), SqL.of upd_same, _, rfl, ?_⟩
      refine if_both (R := ?R) ?h1 ?h2 ?h3
      case h1 =>
        intro c R
        have c : r ≠ [] := fun z => by rw [z] at c; cases c
        obtain ⟨x, e1, e2⟩ := beh_eq c
        refine ⟨_, rfl, _, rfl, l, _, _, _, rfl, rfl, SqL.of (B3.same _ _ hl), atI_last (iV_get e1), _, _, rfl, rfl, ?_⟩
        have e3 : ((x : Int) + 1) = ((beh r : Nat) : Int) := by rw [e2]; rfl
        dsimp only
        rw [e3]
        exact R
      case h2 =>
        intro c R
        have c : r = [] := by
          cases r with
          | nil => rfl
          | cons x r => cases c
        have e3 : (0 : Int) = ((beh r : Nat) : Int) := by rw [c]; rfl
        have R2 := R
        rw [← e3] at R2
        exact R2
      refine ⟨_, rfl, _, rfl, (beh r : Nat), (n : Nat), rfl, ⟨by omega, by omega, by omega, by omega⟩, ?_⟩
      have en0 : (((n : Nat) : Int) - ((beh r : Nat) : Int)).toNat = n - beh r := by omega
      rw [en0]
      have enx : longerL n (rs.take (i + 1)) = longerL n (rs.take i) ++ lonTo r (n - beh r) := by
        unfold longerL
        rw [take_next hr1, List.flatMap_append, List.flatMap_singleton]
      refine for_range (fun j σ H' => ∃ o5 : Option V, σ = [some (.ref a), some (.int (n : Nat)), some (.ref D), some (.ref l), some (.int (beh r : Nat)), o5] ∧ Bld RowAt H H' D (longerL n (rs.take i) ++ lonTo r j))
        ⟨o5, rfl, by show Bld RowAt H _ D (_ ++ []); rw [List.append_nil]; exact B3⟩ ?_ ?_
      · rintro j σ H3 hj ⟨o5, rfl, B4⟩
        obtain ⟨vs, q1, q2⟩ := B4.out RowAt.mn
        have lv : vs.length ≤ 10000 := by
          rw [← Paired.length q2, List.length_append]
          have h1 : (longerL n (rs.take i)).length ≤ (rs.take i).length * 4 := by
            unfold longerL
            rw [List.length_flatMap]
            refine sum_le fun r' _ => ?_
            unfold lonTo
            rw [List.length_map, List.length_range]
            omega
          have h2 : (lonTo r j).length = j := by unfold lonTo; rw [List.length_map, List.length_range]
          have h3 : (rs.take i).length ≤ 1000 := by rw [List.length_take]; omega
          omega
        refine ⟨_, rfl, .inl ⟨rfl, _, SqL.of q1⟩, _, rfl, _, rfl, (by show 1 ≤ sizeLine; decide), fun e1 he1 => ?_⟩
        have B5 := B4.new RowAt.mn (Same.new (o := .lst [.int ((beh r : Nat) + (j : Nat) : Int)]) he1)
        refine ⟨l, e1, _, _, rfl, rfl, B5.same _ _ hl, upd_same, (by rw [List.length_map]; show _ + 1 ≤ 2 ^ 24; omega), fun p hp => ?_⟩
        have q5 := Same.new (o := .lst [.int ((beh r : Nat) + (j : Nat) : Int)]) he1 _ _ q1
        have npD : p ≠ D := fun z => by rw [z, q5] at hp; cases hp
        refine ⟨D, vs, _, rfl, rfl, Same.new hp _ _ q5, (by show _ < 2 ^ 24; omega), ?_⟩
        refine ⟨_, rfl, ?_⟩
        have elon : lonTo r (j + 1) = lonTo r j ++ [r ++ [beh r + j]] := by
          unfold lonTo
          rw [List.range_succ, List.map_append]
          rfl
        rw [elon, ← List.append_assoc]
        refine B5.add RowAt.mn q5 (but_mono D (Same.new hp)) ⟨p, rfl, (but_ne npD).trans (upd_same.trans ?_)⟩
        show some (HO.lst (iV r ++ [V.int ((beh r : Nat) + (j : Nat) : Int)])) = some (HO.lst (List.map _ (r ++ [beh r + j])))
        rw [List.map_append]
        rfl
      · rintro σ H3 ⟨o5, rfl, B4⟩
        rw [← enx] at B4
        exact ⟨_, _, _, rfl, B4⟩
    · rintro σ H1 ⟨o3, o4, o5, rfl, B⟩
      rw [← lu, List.take_length] at B
      obtain ⟨us', q1, q2⟩ := B.out RowAt.mn
      exact ⟨_, rfl, k D us' H1 B.same hD q1 q2⟩
end
end Pf
namespace Pf
open PySem PySem.Spec PyProof.Rows L2 SX
open C8 (Cal Met Mak Def cal0 met0 mak0 pe_c pe_mk pe_mt pe_mt0 pe_gc fnScope fnBody fnArgs fnScope_by)
/-- the scope of the outer comprehension -/
abbrev sc88 : Scope := { kind := .function, names := [(".0", .local), ("sight", .local), ("any", .globalImplicit), ("row", .cell)], isGenerator := false, isCoroutine := false }
def seeB (r : List Nat) (ss : List (List Nat)) : Bool := ss.all fun s => s.any fun k => r.contains k
def spSeeAll : Sp := fun vs H Q _ => ∃ (ra a : Addr) (r : List Nat) (ss : List (List Nat)) (us : List V), vs = [.ref ra, .ref a] ∧ H ra = some (.lst (iV r)) ∧ H a = some (.lst us) ∧ Paired (RowAt H) ss us ∧ ss.length ≤ 1000 ∧ (∀ s ∈ ss, s.length ≤ 1000) ∧ ∀ H', Same H H' → Q (.bl (seeB r ss)) H'
theorem iV_plain (r : List Nat) : (iV r).all flatV = true := by
  rw [List.all_eq_true]
  intro v hv
  obtain ⟨n, _, rfl⟩ := List.mem_map.mp hv
  rfl
theorem inV_ints (y : Nat) (r : List Nat) : inV (V.int (y : Nat)) (iV r) = r.contains y := by
  unfold inV
  rw [List.any_map, Bool.eq_iff_iff, List.any_eq_true, List.contains_iff_mem]
  constructor
  · rintro ⟨z, hz, h⟩
    have h : ((z : Int) == (y : Int)) = true := h
    have h := eq_of_beq h
    have : z = y := by omega
    rw [← this]
    exact hz
  · intro h
    refine ⟨y, h, ?_⟩
    show ((y : Int) == (y : Int)) = true
    exact beq_self_eq_true _
section
variable {P : PySem.Program} {w : World} {K : PySem.W.Frag} {mg : Str → Option Value} {base : Heap} {A : Ad}
theorem ok_see_all (T : Tp K mg A) {f : Addr} {fd : FuncData} (F : Def K mg "see_all" (top 88) f fd) (b : Binds K fd ["row", "seen"] []) : Cal P w K mg base 1 "see_all" spSeeAll [] := by
  have sc : FnScope ["row", "seen", "sight", "k"] ["row", "seen"] (fnScope (top 88)) := fnScope_by (by decide +kernel)
  refine cal0 F b .nil sc (fun vs H Q E h => ?_) (fun cdv A' outer s H vs Q E hr h => ?_)
  · obtain ⟨ra, a, r, ss, us, rfl, _⟩ := h
    rfl
  · obtain ⟨ra, a, r, ss, us, rfl, hra, ha, ps, ls, lss, k⟩ := h
    refine ⟨_, pss_one (ps_ret (pe_callB (cr_all rfl) (by rfl) T.b_all (by decide +kernel) (pa_cons (pe_lc (own := [("sight", 2)]) (g := gName 2) (tt := tYes) (te := tCB (rAny K) (tCons (tLc (iList K (tVar 2)) (gName 3) tYes (tOp (rIn K false) (tVar 3) (tVar 0)) [3]) tNil)) rfl sc.nd (pi_list (pv 1)) (blkOk_by (N := ["row", "seen", "sight", "k"]) (sc := fnScope (top 88)) (by decide +kernel)) (fun _ _ _ _ _ => pg_name (i := 2) sc.nd rfl (Or.inl rfl)) (fun _ _ _ _ _ => pts_nil)
      (fun _ _ _ _ _ => pe_callB (id := "any") (cr_any rfl) (by rfl) T.b_any (by decide +kernel) (pa_cons (pe_lc (own := [("k", 3)]) rfl sc.nd (pi_list (pv 2)) (blkOk_by (N := ["row", "seen", "sight", "k"]) (sc := sc88) (by decide +kernel)) (fun _ _ _ _ _ => pg_name (i := 3) sc.nd rfl (Or.inl rfl)) (fun _ _ _ _ _ => pts_nil) (fun _ _ _ _ _ => pe_cmpR op_in_seq (pv 3) (pv 0) rfl)) pa_nil))) pa_nil))), ?_⟩
    refine ⟨_, rfl, a, rfl, ⟨_, SqL.of ha⟩, fun D hD => ?_⟩
    have lu := Paired.length ps
    refine lc_it (walk_list (K := K) (a := a) (xs := us)) (fun i H' => Same H H' ∧ H' D = some (.lst (((ss.take i).map fun s => s.any fun k => r.contains k).map V.bl)))
      ⟨Same.new hD, upd_same⟩ (fun i H' _ B => SqL.of (B.1 _ _ ha)) ?_ ?_
    · rintro i u H2 H3 hi ⟨b1, b2⟩ ⟨rfl, hu⟩
      obtain ⟨x, hx⟩ : ∃ x, ss[i]? = some x := ⟨_, List.getElem?_eq_getElem (by omega)⟩
      obtain ⟨l, rfl, hl⟩ := pd_at ps hx hu
      have lx := lss x (List.mem_of_getElem? hx)
      refine ⟨rfl, _, rfl, l, rfl, ⟨_, SqL.of (b1 _ _ hl)⟩, fun D2 hD2 => ?_⟩
      have nD2 : D2 ≠ D := fun z => by rw [z, b2] at hD2; cases hD2
      refine lc_it (walk_list (K := K) (a := l) (xs := iV x)) (fun j H' => Same H3 H' ∧ H' D2 = some (.lst (((x.take j).map fun k => r.contains k).map V.bl)))
        ⟨Same.new hD2, upd_same⟩ (fun j H' _ B => SqL.of (B.1 _ _ (b1 _ _ hl))) ?_ ?_
      · rintro j u H4 H5 hj ⟨c1, c2⟩ ⟨rfl, hu⟩
        rw [List.length_map] at hj
        obtain ⟨y, hy⟩ : ∃ y, x[j]? = some y := ⟨_, List.getElem?_eq_getElem hj⟩
        have : u = V.int (y : Nat) := by rw [iV_get hy] at hu; exact (Option.some.inj hu).symm
        subst this
        refine ⟨rfl, _, rfl, _, rfl, ra, _, rfl, .inl (SqL.of (c1 _ _ (b1 _ _ hra))), rfl, iV_plain r, _, c2, (by rw [List.length_map, List.length_map, List.length_take]; show _ < 2 ^ 24; omega), Same.put c1 hD2, upd_same.trans ?_⟩
        rw [take_next hy, List.map_append, List.map_append]
        show some (HO.lst (_ ++ [V.bl (inV (V.int (y : Nat)) (iV r))])) = _
        rw [inV_ints]
        rfl
      · rintro H4 ⟨c1, c2⟩
        rw [List.length_map, List.take_length] at c2
        refine ⟨D2, _, rfl, SqL.of c2, ?_⟩
        have e2 : (x.map fun k => r.contains k).any id = x.any fun k => r.contains k := by
          rw [List.any_map]
          rfl
        refine ⟨_, c1 _ _ b2, (by rw [List.length_map, List.length_map, List.length_take]; show _ < 2 ^ 24; omega), Same.put (b1.trans c1) hD, upd_same.trans ?_⟩
        rw [e2, take_next hx, List.map_append, List.map_append]
        rfl
    · rintro H2 ⟨b1, b2⟩
      rw [← lu, List.take_length] at b2
      refine ⟨D, _, rfl, SqL.of b2, ?_⟩
      have e2 : (ss.map fun s => s.any fun k => r.contains k).all id = seeB r ss := by
        rw [List.all_map]
        rfl
      rw [e2]
      exact k H2 b1
end
end Pf
namespace Pf
open PySem PySem.Spec PyProof.Rows L2 SX
/-! ### the fewest tests: the mathematics -/
theorem rows_choices : ∀ n, n < 5 → ∀ k, k < n → longerL n (Ty01.choices k (List.range n)) = Ty01.choices (k + 1) (List.range n) := by decide +kernel
theorem choices_len : ∀ n, n < 5 → ∀ k, k < 5 → (Ty01.choices k (List.range n)).length ≤ 10 := by decide +kernel
theorem choices_low : ∀ n, n < 5 → ∀ k, k < 5 → ((Ty01.choices k (List.range n)).all fun r => decide (r.length ≤ 100) && r.all fun x => decide (x ≤ 100)) = true := by decide +kernel
theorem choices_all : ∀ n, n < 5 → Ty01.choices n (List.range n) = [List.range n] := by decide +kernel
def seenL (t : List (Nat × List Nat)) : List (List Nat) := (t.map (·.2)).filter fun s => !s.isEmpty
theorem enough_see : ∀ (t : List (Nat × List Nat)) (c : List Nat), Ty01.enough t c = seeB c (seenL t)
  | [], c => rfl
  | x :: t, c => by
    have ih := enough_see t c
    unfold Ty01.enough seeB seenL at *
    rw [List.all_cons, List.map_cons, ih]
    cases hx : x.2 with
    | nil => rw [List.filter_cons_of_neg (by simp)]; rfl
    | cons y r => rw [List.filter_cons_of_pos (by simp), List.all_cons]; rfl
theorem full_enough (p : Ty01.Program) : Ty01.enough (Ty01.table p) (List.range p.tests.length) = true := by
  unfold Ty01.enough
  rw [List.all_eq_true]
  intro x hx
  obtain ⟨i, _, rfl⟩ := List.mem_map.mp hx
  show ((Ty01.seers p i).isEmpty || (Ty01.seers p i).any fun k => (List.range p.tests.length).contains k) = true
  cases hs : Ty01.seers p i with
  | nil => rfl
  | cons y r =>
    have hy : y ∈ Ty01.seers p i := by rw [hs]; exact List.mem_cons_self ..
    have : y ∈ List.range p.tests.length := (List.mem_filter.mp hy).1
    rw [List.any_cons, List.contains_iff_mem.mpr this]
    rfl
theorem find_some {α β : Type} (f : α → Option β) : ∀ (l r : List α) (x : α) (y : β), (∀ z ∈ l, f z = none) → f x = some y → (l ++ x :: r).findSome? f = some y
  | [], r, x, y, _, h => by rw [List.nil_append, List.findSome?_cons, h]
  | z :: l, r, x, y, h0, h => by
    rw [List.cons_append, List.findSome?_cons, h0 z (List.mem_cons_self ..)]
    exact find_some f l r x y (fun z hz => h0 z (List.mem_cons_of_mem _ hz)) h
theorem fewest_at {p : Ty01.Program} {k : Nat} {c0 : List Nat} {r : List (List Nat)} (hk : k ≤ p.tests.length) (h : (Ty01.choices k (List.range p.tests.length)).filter (fun c => Ty01.enough (Ty01.table p) c) = c0 :: r)
    (h0 : ∀ k', k' < k → (Ty01.choices k' (List.range p.tests.length)).filter (fun c => Ty01.enough (Ty01.table p) c) = []) : Ty01.fewest p = c0 := by
  unfold Ty01.fewest
  simp only
  rw [List.find?_flatMap]
  have es : List.range (p.tests.length + 1) = List.range k ++ k :: (List.range (p.tests.length - k)).map (fun i => k + 1 + i) := by
    rw [show p.tests.length + 1 = k + (1 + (p.tests.length - k)) by omega, List.range_add, Nat.add_comm 1, List.range_succ_eq_map, List.map_cons, List.map_map]
    congr 2
    congr 1
    funext i
    show k + (i + 1) = k + 1 + i
    omega
  rw [es, find_some _ _ _ k c0]
  · rfl
  · intro k' hk'
    rw [← List.head?_filter, h0 k' (List.mem_range.mp hk')]
    rfl
  · rw [← List.head?_filter, h]
    rfl
end Pf
namespace Pf
open PySem PySem.Spec PyProof.Rows L2 SX
open C8 (Cal Met Mak Def cal0 met0 mak0 pe_c pe_mk pe_mt pe_mt0 pe_gc fnScope fnBody fnArgs fnScope_by)
/-- an expression that comes to a dict, locked from then on -/
def tLk (td : TE) : TE := fun σ H Q => td σ H fun x H1 => ∃ (d : Addr) (kvs : List (Key × V)), x = .ref d ∧ H1 d = some (.dK kvs) ∧ ∀ o, Q x (upd H1 d (.frz o (.dK kvs)))
theorem pe_lk {X : Cx} {e : Expr} {td : TE} (he : PE X e td) : PE X e (tLk td) := by
  refine ⟨fun pins s σ H Q I h => thn (he.run pins s σ H _ I h) fun u s1 ⟨x, H1, I1, rx, d, kvs, ex, hd, q⟩ => ?_⟩
  obtain ⟨od, I2⟩ := I1.lock hd trivial
  exact ⟨x, _, I2, rx, q od⟩
def spFewest (A : Ad) : Sp := fun vs H Q _ => ∃ (m : MP) (v : V), vs = [v] ∧ ProgAt A H m v ∧ Good m ∧ ∀ p H', Same H H' → H' p = some (.lst (iV (Ty01.fewest m.p))) → Q (.ref p) H'
theorem lc_enough {K : PySem.W.Frag} {v : V} {sa ra : Addr} {o3 o4 o5 : Option V} {H : Hp} {Q : VK} {rs ss : List (List Nat)} {us vs : List V} (hr : H ra = some (.lst us)) (pr : Paired (RowAt H) rs us) (hs : H sa = some (.lst vs)) (ps : Paired (RowAt H) ss vs)
    (l1 : rs.length ≤ 1000) (l2 : ss.length ≤ 1000) (l3 : ∀ s ∈ ss, s.length ≤ 1000)
    (k : ∀ p us' H', Same H H' → H p = none → H' p = some (.lst us') → Paired (RowAt H') (rs.filter fun r => seeB r ss) us' → Q (.ref p) H') :
    tLc (iList K (tVar 2)) (gName 5) (tB (tCall spSeeAll [] C8.E0 (tCons (tVar 5) (tCons (tVar 1) tNil)))) (tVar 5) [5] [some v, some (.ref sa), some (.ref ra), o3, o4, o5] H Q := by
  refine ⟨_, rfl, ra, rfl, ⟨_, SqL.of hr⟩, fun D hD => ?_⟩
  have lu := Paired.length pr
  refine lc_it (walk_list (K := K) (a := ra) (xs := us)) (fun i H' => ∃ ws, Same H H' ∧ H' D = some (.lst ws) ∧ Paired (RowAt H) ((rs.take i).filter fun r => seeB r ss) ws)
    ⟨[], Same.new hD, upd_same, .nil⟩ (fun i H' _ ⟨_, b1, _⟩ => SqL.of (b1 _ _ hr)) ?_ ?_
  · rintro i u H2 H3 hi ⟨ws, b1, b2, b3⟩ ⟨rfl, hu⟩
    obtain ⟨x, hx⟩ : ∃ x, rs[i]? = some x := ⟨_, List.getElem?_eq_getElem (by omega)⟩
    have hrow := pd_at pr hx hu
    obtain ⟨l, rfl, hl⟩ := hrow
    have lw : ws.length ≤ 1000 := by
      rw [← Paired.length b3]
      exact Nat.le_trans (List.length_filter_le _ _) (by rw [List.length_take]; omega)
    refine ⟨rfl, _, rfl, _, rfl, l, sa, x, ss, vs, rfl, b1 _ _ hl, b1 _ _ hs, Paired.mapP ps fun _ _ z => RowAt.mn _ _ _ _ b1 z, l2, l3, fun H4 s4 => ?_⟩
    refine ⟨_, rfl, ?_⟩
    refine if_of (fun c => ?_) (fun c => ?_)
    · refine ⟨_, rfl, ws, s4 _ _ b2, (by show _ < 2 ^ 24; omega), _, Same.put (b1.trans s4) hD, upd_same, ?_⟩
      rw [take_filter hx, if_pos c]
      exact pd_append b3 (pd_one ⟨l, rfl, hl⟩)
    · refine ⟨ws, b1.trans s4, s4 _ _ b2, ?_⟩
      rw [take_filter hx, if_neg (by rw [c]; decide), List.append_nil]
      exact b3
  · rintro H2 ⟨ws, b1, b2, b3⟩
    rw [← lu, List.take_length] at b3
    exact k D ws H2 b1 hD b2 (Paired.mapP b3 fun _ _ z => RowAt.mn _ _ _ _ b1 z)
section
variable {P : PySem.Program} {w : World} {K : PySem.W.Frag} {mg : Str → Option Value} {base : Heap} {A : Ad}
theorem ok_fewest_tests (T : Tp K mg A) (cS : Cal P w K mg base 10 "all_sights" (spSights A) []) (cE : Cal P w K mg base 1 "see_all" spSeeAll []) (cL : Cal P w K mg base 1 "longer_rows" spLonger [])
    {f : Addr} {fd : FuncData} (F : Def K mg "fewest_tests" (top 89) f fd) (b : Binds K fd ["program"] []) : Cal P w K mg base 11 "fewest_tests" (spFewest A) [] := by
  have sc : FnScope ["program", "seen", "rows", "enough", "sight", "row"] ["program"] (fnScope (top 89)) := fnScope_by (by decide +kernel)
  refine cal0 F b .nil sc (fun vs H Q E h => ?_) (fun cdv A' outer s H vs Q E hr h => ?_)
  · obtain ⟨m, v, rfl, _⟩ := h
    rfl
  · obtain ⟨m, v, rfl, X, G, k⟩ := h
    refine ⟨_, pss_cons (ps_set (i := 1) sc.nd rfl (.inr rfl) (pe_lc (own := [("sight", 4)]) (g := gName 4) (tt := tTest (tOp (rNeE K) (tVar 4) (tLst tNil))) rfl sc.nd (pi_values (pe_lk (pe_c cS hr (by decide) (by rfl) (pa_cons (pv 0) pa_nil)))) (blkOk_by (N := ["program", "seen", "rows", "enough", "sight", "row"]) (sc := fnScope (top 89)) (by decide +kernel)) (fun _ _ _ _ _ => pg_name (i := 4) sc.nd rfl (Or.inl rfl)) (fun _ _ _ _ _ => pts_one (pt_cmpR (op_neE hr.units0) (pv 4) (pe_lst pa_nil) (nomark _))) (fun _ _ _ _ _ => pv 4)))
      (pss_cons (ps_set (i := 2) sc.nd rfl (.inl rfl) (pe_lst (pa_cons (pe_lst pa_nil) pa_nil)))
      (pss_cons (ps_setLc (i := 3) (own := [("row", 5)]) (g := gName 5) (tt := tB (tCall spSeeAll [] C8.E0 (tCons (tVar 5) (tCons (tVar 1) tNil)))) rfl sc.nd rfl rfl rfl (pi_list (pv 2)) (blkOk_by (N := ["program", "seen", "rows", "enough", "sight", "row"]) (sc := fnScope (top 89)) (by decide +kernel)) (fun _ _ _ _ _ => pg_name (i := 5) sc.nd rfl (Or.inl rfl)) (fun _ _ _ _ _ => pts_one (pt_val (pe_c cE hr (by decide) (by rfl) (pa_cons (pv 5) (pa_cons (pv 1) pa_nil))))) (fun _ _ _ _ _ => pv 5))
      (pss_cons (ps_while PassesOwn.never (pt_cmpR (op_eqE hr.units0) (pv 3) (pe_lst pa_nil) (nomark _))
        (pss_cons (ps_set (i := 2) sc.nd rfl (.inl rfl) (pe_c cL hr (by decide) (by rfl) (pa_cons (pv 2) (pa_cons (pe_callB call_len_seq (by rfl) T.b_len PySem.boot_len (pa_cons (pe_fld (pv 0) rfl) pa_nil)) pa_nil))))
        (pss_one (ps_setLc (i := 3) (own := [("row", 5)]) (g := gName 5) (tt := tB (tCall spSeeAll [] C8.E0 (tCons (tVar 5) (tCons (tVar 1) tNil)))) rfl sc.nd rfl rfl rfl (pi_list (pv 2)) (blkOk_by (N := ["program", "seen", "rows", "enough", "sight", "row"]) (sc := fnScope (top 89)) (by decide +kernel)) (fun _ _ _ _ _ => pg_name (i := 5) sc.nd rfl (Or.inl rfl)) (fun _ _ _ _ _ => pts_one (pt_val (pe_c cE hr (by decide) (by rfl) (pa_cons (pv 5) (pa_cons (pv 1) pa_nil))))) (fun _ _ _ _ _ => pv 5)))))
      (pss_one (ps_ret (pe_ix ix_list (pv 3) pe_int (fun _ _ => rfl))))))), ?_⟩
    obtain ⟨a, dx, cd, pl, fn, ts, tk, rfl, X⟩ := X
    obtain ⟨tvs, ht, pt⟩ := X.tests
    have lt : tvs.length = m.p.tests.length := by rw [← Paired.length pt]; exact TS_len G
    have tn := G.tn
    have tot := G.tot
    refine ⟨_, rfl, m, _, rfl, ⟨a, dx, cd, pl, fn, ts, tk, rfl, X⟩, G, fun d kvs H1 s1 nd hd pk => ⟨d, kvs, rfl, hd, fun o => ?_⟩⟩
    obtain ⟨HB, eHB⟩ : ∃ HB, HB = upd H1 d (.frz o (.dK kvs)) := ⟨_, rfl⟩
    have sB : Same H HB := by rw [eHB]; exact Same.put s1 nd
    have hdB : HB d = some (.frz o (.dK kvs)) := by rw [eHB]; exact upd_same
    have pkB : Paired (SightKv HB) (Ty01.table m.p) kvs := Paired.mapP pk fun _ _ ⟨g1, l', g2, g3⟩ => ⟨g1, l', g2, by rw [eHB]; exact (upd_ne (L2.ne_of g3 hd (by intro y; cases y))).trans g3⟩
    rw [← eHB]
    refine ⟨d, o, kvs, rfl, hdB, fun D hD => ?_⟩
    have lk := Paired.length pkB
    have ltab : (Ty01.table m.p).length ≤ 30 := by rw [← tab_all]; have := tab_len m.p (Ty01.total m.p); omega
    refine lc_it (walk_values (d := d) (o := o) (kvs := kvs)) (fun i H' => ∃ us, Same HB H' ∧ H' D = some (.lst us) ∧ Paired (RowAt HB) (seenL ((Ty01.table m.p).take i)) us)
      ⟨[], Same.new hD, upd_same, .nil⟩ (fun i H' _ ⟨_, b1, _⟩ => b1 _ _ hdB) ?_ ?_
    · rintro i u H2 H3 hi ⟨us, b1, b2, b3⟩ ⟨rfl, kx, hkx⟩
      obtain ⟨x, hx⟩ : ∃ x, (Ty01.table m.p)[i]? = some x := ⟨_, List.getElem?_eq_getElem (by omega)⟩
      obtain ⟨_, l, hl1, hl⟩ := pd_at pkB hx hkx
      have hl1 : u = .ref l := hl1
      subst hl1
      have lw : us.length ≤ 30 := by
        rw [← Paired.length b3]
        unfold seenL
        refine Nat.le_trans (List.length_filter_le _ _) ?_
        rw [List.length_map, List.length_take]
        omega
      have esn : seenL ((Ty01.table m.p).take (i + 1)) = seenL ((Ty01.table m.p).take i) ++ (if (!x.2.isEmpty) = true then [x.2] else []) := by
        unfold seenL
        rw [take_next hx, List.map_append, List.filter_append]
        congr 1
        by_cases c : (!x.2.isEmpty) = true
        · rw [if_pos c]; exact List.filter_cons_of_pos c
        · rw [if_neg c]; exact List.filter_cons_of_neg c
      refine ⟨rfl, _, rfl, (by show 0 ≤ sizeLine; decide), fun en hen => ?_⟩
      have s3 : Same HB (upd H3 en (.lst [])) := b1.trans (Same.new hen)
      have nDe : D ≠ en := fun z => by rw [← z, b2] at hen; cases hen
      refine ⟨l, en, _, rfl, rfl, SqL.of (s3 _ _ hl), SqL.of upd_same, _, rfl, ?_⟩
      have ee : (!(iV x.2).isEmpty) = (!x.2.isEmpty) := by cases x.2 <;> rfl
      refine if_of (fun c => ?_) (fun c => ?_)
      · refine ⟨_, rfl, us, (upd_ne nDe).trans b2, (by show _ < 2 ^ 24; omega), _, Same.put s3 hD, upd_same, ?_⟩
        rw [esn, if_pos (by rw [← ee]; exact c)]
        exact pd_append b3 (pd_one ⟨l, rfl, hl⟩)
      · refine ⟨us, s3, (upd_ne nDe).trans b2, ?_⟩
        rw [esn, if_neg (by rw [← ee, c]; decide), List.append_nil]
        exact b3
    · rintro H2 ⟨vs, b1, b2, b3⟩
      rw [← lk, List.take_length] at b3
      have s02 := sB.trans b1
      obtain ⟨ss, hss⟩ : ∃ ss, ss = seenL (Ty01.table m.p) := ⟨_, rfl⟩
      rw [← hss] at b3
      have l2 : ss.length ≤ 1000 := by
        rw [hss]
        unfold seenL
        refine Nat.le_trans (List.length_filter_le _ _) ?_
        rw [List.length_map]
        omega
      have l3 : ∀ s ∈ ss, s.length ≤ 1000 := by
        intro s hs
        rw [hss] at hs
        obtain ⟨x, hx, rfl⟩ := List.mem_map.mp (List.mem_filter.mp hs).1
        obtain ⟨i, _, rfl⟩ := List.mem_map.mp hx
        show (Ty01.seers m.p i).length ≤ 1000
        unfold Ty01.seers
        refine Nat.le_trans (List.length_filter_le _ _) ?_
        rw [List.length_range]
        omega
      have efl : ∀ rs : List (List Nat), rs.filter (fun r => seeB r ss) = rs.filter fun c => Ty01.enough (Ty01.table m.p) c := fun rs => by
        congr 1
        funext r
        rw [enough_see, hss]
      refine ⟨by show 0 ≤ sizeLine; decide, fun e0 h0 => ⟨by show 1 ≤ sizeLine; decide, fun r0 hr0 => ?_⟩⟩
      have s3 : Same H2 (upd (upd H2 e0 (.lst [])) r0 (.lst [.ref e0])) := (Same.new h0).trans (Same.new hr0)
      have ne0 : r0 ≠ e0 := (free_put hr0).1
      show tSeq (tAsg (tLc (iList K (tVar 2)) (gName 5) (tB (tCall spSeeAll [] C8.E0 (tCons (tVar 5) (tCons (tVar 1) tNil)))) (tVar 5) [5]) (gName 3)) _ _ [some (.ref a), some (.ref D), some (.ref r0), none, none, none] _
      unfold tSeq tAsg
      refine lc_enough (rs := [[]]) (ss := ss) upd_same (pd_one ⟨e0, rfl, (upd_ne ne0.symm).trans upd_same⟩) (s3 _ _ b2) (Paired.mapP b3 fun _ _ z => RowAt.mn _ _ _ _ (b1.trans s3) z) (by decide) l2 l3 fun ea ws H3 s4 _ hea pea => ?_
      have c0 : Ty01.choices 0 (List.range m.p.tests.length) = [[]] := by cases List.range m.p.tests.length <;> rfl
      refine ⟨fun mm σ H' => ∃ (kk : Nat) (ra ea : Addr) (us ws : List V) (o4 o5 : Option V), kk ≤ m.p.tests.length ∧ mm = m.p.tests.length - kk ∧ σ = [some (.ref a), some (.ref D), some (.ref ra), some (.ref ea), o4, o5] ∧ Same H2 H' ∧ H' ra = some (.lst us) ∧ Paired (RowAt H') (Ty01.choices kk (List.range m.p.tests.length)) us ∧ H' ea = some (.lst ws) ∧ Paired (RowAt H') ((Ty01.choices kk (List.range m.p.tests.length)).filter fun r => seeB r ss) ws ∧
          ∀ k', k' < kk → (Ty01.choices k' (List.range m.p.tests.length)).filter (fun r => seeB r ss) = [],
        ⟨_, 0, r0, ea, _, ws, none, none, Nat.zero_le _, rfl, rfl, s3.trans s4, s4 _ _ upd_same, ?_, hea, ?_, fun k' h => by omega⟩, ?_⟩
      · rw [c0]
        exact pd_one ⟨e0, rfl, s4 _ _ ((upd_ne ne0.symm).trans upd_same)⟩
      · rw [c0]
        exact pea
      rintro mm σ H4 ⟨kk, ra, ea, us, ws, o4, o5, hkk, rfl, rfl, s5, hra, pra, hea, pea, hno⟩
      have s05 := s02.trans s5
      refine ⟨_, rfl, (by show 0 ≤ sizeLine; decide), fun en hen => ?_⟩
      have s6 : Same H4 (upd H4 en (.lst [])) := Same.new hen
      refine ⟨ea, en, _, rfl, rfl, SqL.of (s6 _ _ hea), SqL.of upd_same, _, rfl, ?_⟩
      refine if_of (fun c => ?_) (fun c => ?_)
      · have ews : ws = [] := by
          cases ws with
          | nil => rfl
          | cons _ _ => cases c
        have hnk : (Ty01.choices kk (List.range m.p.tests.length)).filter (fun r => seeB r ss) = [] := by
          have := Paired.length pea
          rw [ews] at this
          exact List.length_eq_zero_iff.mp this
        have hlt : kk < m.p.tests.length := by
          refine Nat.lt_of_le_of_ne hkk fun z => ?_
          rw [efl, z, choices_all _ (by omega)] at hnk
          rw [List.filter_cons_of_pos (full_enough m.p)] at hnk
          cases hnk
        refine ⟨_, fun σ' H' q => ⟨m.p.tests.length - (kk + 1), by omega, q⟩, ?_⟩
        have s06 := s05.trans s6
        have low := List.all_eq_true.mp (choices_low m.p.tests.length (by omega) kk (by omega))
        refine ⟨_, rfl, _, rfl, a, _, dx, _, _, rfl, s06 _ _ X.ins, T.cG, T.g_tests, gl_tests, ts, tvs, rfl, .inl (SqL.of (s06 _ _ ht)), ?_⟩
        rw [lt]
        refine ⟨ra, _, us, m.p.tests.length, rfl, s6 _ _ hra, Paired.mapP pra fun _ _ z => RowAt.mn _ _ _ _ s6 z, (by omega), (by have := choices_len m.p.tests.length (by omega) kk (by omega); omega), (fun r hr' => ?_), fun p us' H5 s7 _ hp pp => ?_⟩
        · have := low r hr'
          rw [Bool.and_eq_true, decide_eq_true_eq, List.all_eq_true] at this
          exact ⟨this.1, fun x hx => of_decide_eq_true (this.2 x hx)⟩
        rw [rows_choices _ (by omega) _ hlt] at pp
        have s57 : Same H2 H5 := s5.trans (s6.trans s7)
        show tAsg (tLc (iList K (tVar 2)) (gName 5) (tB (tCall spSeeAll [] C8.E0 (tCons (tVar 5) (tCons (tVar 1) tNil)))) (tVar 5) [5]) (gName 3) _ [some (.ref a), some (.ref D), some (.ref p), some (.ref ea), o4, o5] _
        unfold tAsg
        refine lc_enough (ss := ss) hp pp (s57 _ _ b2) (Paired.mapP b3 fun _ _ z => RowAt.mn _ _ _ _ (b1.trans s57) z) (by have := choices_len m.p.tests.length (by omega) (kk + 1) (by omega); omega) l2 l3 fun ea' ws' H6 s8 _ hea' pea' => ?_
        refine ⟨kk + 1, p, ea', us', ws', _, _, hlt, rfl, rfl, s57.trans s8, s8 _ _ hp, Paired.mapP pp fun _ _ z => RowAt.mn _ _ _ _ s8 z, hea', pea', fun k' hk' => ?_⟩
        by_cases hk2 : k' = kk
        · rw [hk2]; exact hnk
        · exact hno k' (by omega)
      · cases ws with
        | nil => cases c
        | cons w0 wr =>
          generalize hfl : (Ty01.choices kk (List.range m.p.tests.length)).filter (fun r => seeB r ss) = fl at pea
          cases pea with
          | cons r t =>
            obtain ⟨l, rfl, hl⟩ := r
            refine ⟨_, rfl, ea, _, _, _, rfl, rfl, SqL.of (s6 _ _ hea), atI_nat (j := 0) rfl, ?_⟩
            refine k l _ (s05.trans s6) ?_
            rw [efl] at hfl
            rw [fewest_at hkk hfl fun k' hk' => by rw [← efl]; exact hno k' hk']
            exact s6 _ _ hl
end
end Pf
namespace Pf
open PySem PySem.Spec PyProof.Rows L2 SX
open C8 (Cal Met Mak Def cal0 met0 mak0 pe_c pe_mk pe_mt pe_mt0 pe_gc fnScope fnBody fnArgs fnScope_by)
/-- a key of a dict that is paired -/
theorem valK_cases {α : Type} {F : α → Key × V → Prop} (key : α → Key) (hF : ∀ x kv, F x kv → kv.1 = key x) (k : Key) : ∀ {xs : List α} {kvs : List (Key × V)}, Paired F xs kvs →
    (∃ (i : Nat) (x : α) (kv : Key × V), xs[i]? = some x ∧ key x = k ∧ valV kvs k = some kv.2 ∧ F x kv) ∨ ((∀ x ∈ xs, key x ≠ k) ∧ valV kvs k = none)
  | _, _, .nil => .inr ⟨fun x h => (by cases h), rfl⟩
  | x :: xs, kv :: kvs, .cons h r => by
    by_cases e : kv.1 = k
    · exact .inl ⟨0, x, kv, rfl, (hF x kv h).symm.trans e, valV_pos e, h⟩
    · rcases valK_cases key hF k r with ⟨i, y, kv', h1, h2, h3, h4⟩ | ⟨h1, h2⟩
      · exact .inl ⟨i + 1, y, kv', h1, h2, (valV_neg e).trans h3, h4⟩
      · refine .inr ⟨fun y hy => ?_, (valV_neg e).trans h2⟩
        rcases List.mem_cons.mp hy with rfl | hy
        · rw [← hF _ _ h]; exact e
        · exact h1 y hy
def RowTup (H : Hp) (r : List (List Nat)) (v : V) : Prop := ∃ ra, v = .ref ra ∧ H ra = some (.tup (rowV r))
theorem RowTup.mn : Mono RowTup := fun H H' r v e ⟨l, h1, h2⟩ => ⟨l, h1, e _ _ h2⟩
/-- a function that was met, by its row -/
def MetKv (H : Hp) (q : Nat × Ty01.Fun) (kv : Key × V) : Prop := kv.1 = Sum.inr (S q.2.name) ∧ RowTup H q.2.said kv.2
def spComeBy (A : Ad) : Sp := fun vs H Q _ => ∃ (m : MP) (t : Ty01.Test) (st : Nat) (v tv : V), vs = [v, tv] ∧ ProgAt A H m v ∧ Good m ∧ t ∈ m.p.tests ∧ TestAt A H t st tv ∧
  ∀ (p : Addr) (us : List V) (met : List Nat) (R : List (List (List Nat))) (H' : Hp), Same H H' → H' p = some (.lst us) → Paired (RowTup H') R us → (∀ r, r ∈ R ↔ ∃ g h, g ∈ met ∧ m.p.funs[g]? = some h ∧ h.said = r) →
    (∀ x, x ∈ met ↔ x ∈ Ty01.uses m.p m.p.funs.length (Ty01.once (Ty01.calls t.body))) → R.length ≤ 8 → Q (.ref p) H'
theorem rowV_drop (r : List (List Nat)) (k : Nat) : (rowV r).drop k = rowV (r.drop k) := (List.map_drop ..).symm
theorem nodup_len : ∀ {n : Nat} {l : List Nat}, l.Nodup → (∀ x ∈ l, x < n) → l.length ≤ n
  | 0, l, h1, h2 => by
    cases l with
    | nil => exact Nat.le_refl _
    | cons x l => exact absurd (h2 x (List.mem_cons_self ..)) (Nat.not_lt_zero _)
  | n + 1, l, h1, h2 => by
    by_cases hn : n ∈ l
    · have := nodup_len (n := n) (h1.erase n) fun x hx => by
        obtain ⟨q1, q2⟩ := h1.mem_erase_iff.mp hx
        have := h2 x q2
        omega
      rw [List.length_erase_of_mem hn] at this
      omega
    · have := nodup_len (n := n) h1 fun x hx => by
        have h3 := h2 x hx
        have h4 : x ≠ n := fun z => hn (z ▸ hx)
        omega
      omega
theorem zip_get1 {α β : Type} {l : List α} {r : List β} {i : Nat} {x : α × β} (h : (l.zip r)[i]? = some x) : l[i]? = some x.1 := by
  rw [List.getElem?_zip_eq_some] at h
  exact h.1
theorem zip_get2 {α β : Type} {l : List α} {r : List β} (e : l.length = r.length) {i : Nat} {x : α} (h : l[i]? = some x) : ∃ y, (l.zip r)[i]? = some (x, y) := by
  have hi := lt_of_get h
  refine ⟨r[i]'(by omega), ?_⟩
  rw [List.getElem?_zip_eq_some]
  exact ⟨h, List.getElem?_eq_getElem _⟩
theorem name_one {m : MP} (G : Good m) {g g' : Nat} {w : List Nat} (h1 : (fnNames m.p)[g]? = some w) (h2 : (fnNames m.p)[g']? = some w) : g = g' := (List.getElem?_inj (lt_of_get h1) G.nd).mp (h1.trans h2.symm)
theorem pd_map2 {α β γ δ : Type} {F : α → β → Prop} {G : γ → δ → Prop} {f : α → γ} {g : β → δ} : ∀ {xs : List α} {us : List β}, Paired F xs us → (∀ x u, F x u → G (f x) (g u)) → Paired G (xs.map f) (us.map g)
  | _, _, .nil, _ => .nil
  | _, _, .cons h r, k => .cons (k _ _ h) (pd_map2 r k)
/-- rows_come_by under way -/
structure CB (H : Hp) (m : MP) (D W : Addr) (H' : Hp) (ms : List (Nat × Ty01.Fun)) (wait : List (List (List Nat))) : Prop where
  sm : Same H H'
  ms_ : ∀ q ∈ ms, m.p.funs[q.1]? = some q.2
  md : ∃ kvs, H' D = some (.dK kvs) ∧ Paired (MetKv H) ms kvs
  wt : ∃ ws, H' W = some (.lst ws) ∧ Paired (RowTup H) wait ws
theorem CB.grow {H : Hp} {m : MP} {D W : Addr} {H' H'' : Hp} {ms : List (Nat × Ty01.Fun)} {wait : List (List (List Nat))} (c : CB H m D W H' ms wait) (s : Same H' H'') : CB H m D W H'' ms wait where
  sm := c.sm.trans s
  ms_ := c.ms_
  md := let ⟨k, h1, h2⟩ := c.md; ⟨k, s _ _ h1, h2⟩
  wt := let ⟨k, h1, h2⟩ := c.wt; ⟨k, s _ _ h1, h2⟩
theorem row_pos {m : MP} (G : Good m) {t : Ty01.Test} (ht : t ∈ m.p.tests) {r : List (List Nat)} (h : r = t.said ∨ ∃ (g : Nat) (h : Ty01.Fun), m.p.funs[g]? = some h ∧ h.said = r) : 1 ≤ r.length := by
  have : ∃ x, r[0]? = some x := by
    rcases h with rfl | ⟨g, h, h1, rfl⟩
    · exact ⟨_, (G.ts t ht).2⟩
    · exact ⟨_, (G.fs g h h1).2.1⟩
  obtain ⟨x, hx⟩ := this
  exact lt_of_get hx
section
variable {P : PySem.Program} {w : World} {K : PySem.W.Frag} {mg : Str → Option Value} {base : Heap} {A : Ad}
theorem ok_rows_come_by (T : Tp K mg A) {f : Addr} {fd : FuncData} (F : Def K mg "rows_come_by" (top 13) f fd) (b : Binds K fd ["program", "test"] []) : Cal P w K mg base 1 "rows_come_by" (spComeBy A) [] := by
  have sc : FnScope ["program", "test", "met", "waiting", "row", "word"] ["program", "test"] (fnScope (top 13)) := fnScope_by (by decide +kernel)
  refine cal0 F b .nil sc (fun vs H Q E h => ?_) (fun cdv A' outer s H vs Q E hr h => ?_)
  · obtain ⟨m, t, st, v, tv, rfl, _⟩ := h
    rfl
  · obtain ⟨m, t, st, v, tv, rfl, X, G, ht, tx, k⟩ := h
    refine ⟨_, pss_cons (ps_set (i := 2) sc.nd rfl (.inl rfl) (pe_dnewK))
      (pss_cons (ps_set (i := 3) sc.nd rfl (.inl rfl) (pe_lst (pa_cons (pe_fld (pv 1) rfl) pa_nil)))
      (pss_cons (ps_while PassesOwn.never (pt_cmpR (op_neE hr.units0) (pv 3) (pe_lst pa_nil) (nomark _))
        (pss_cons (ps_set (i := 4) sc.nd rfl (.inl rfl) (pe_bm0 PySem.F.plainAttrs_list PySem.F.slot_list_pop PySem.F.type_list_pop mt_pop (pv 3)))
        (pss_one (ps_for PassesOwn.never rfl (pi_tup (pe_slice sl_tup (pv 4) (po_some (pe_gc (by rfl) T.AHEAD)) po_none)) (pg_name (i := 5) sc.nd rfl (.inl rfl))
          (pss_one (ps_if (PW.pt (pw_and (pt_cmp (pc_din (hu_of hr) (pv 5) (pe_fld (pv 0) rfl))) (pw_and1 (pt_cmp (pc_dnotin (hu_of hr) (pv 5) (pv 2))))))
            (pss_cons (ps_dput (hu_of hr) (pv 2) (pv 5) (pe_fld (pe_dget (hu_of hr) (pe_fld (pv 0) rfl) (pv 5) (fun _ _ => rfl)) rfl) rfl)
            (pss_one (ps_expr (pe_bm PySem.F.plainAttrs_list PySem.F.slot_list_append PySem.F.type_list_append mt_append (pv 3) (pa_cons (pe_dget (hu_of hr) (pv 2) (pv 5) (fun _ _ => rfl)) pa_nil)))))
            pss_nil))))))
      (pss_one (ps_ret (pe_listVals rfl (pv 2) (by rfl) T.b_list (by decide +kernel)))))), ?_⟩
    obtain ⟨a, dx, cd, pl, fn, ts, tk, rfl, X⟩ := X
    obtain ⟨ta, tdx, tr, rfl, tx1, tx2⟩ := tx
    obtain ⟨fkvs, hfn, pfn⟩ := X.funs
    intro D hD
    refine ⟨_, rfl, ta, _, tdx, _, _, rfl, Same.new hD _ _ tx1, T.cT, T.t_row, tl_row, (by show 1 ≤ sizeLine; decide), fun W hW => ?_⟩
    have nWD : W ≠ D := (free_put hW).1
    have hW0 : H W = none := (free_put hW).2
    have s1 : Same H (upd (upd H D (.dK [])) W (.lst [.ref tr])) := (Same.new hD).trans (Same.new hW)
    refine ⟨fun mm σ H' => ∃ (ms : List (Nat × Ty01.Fun)) (wait : List (List (List Nat))) (o4 o5 : Option V), mm = wait.length + 2 * (m.p.funs.length - ms.length) ∧ mm ≤ 20 ∧ σ = [some (.ref a), some (.ref ta), some (.ref D), some (.ref W), o4, o5] ∧ CB H m D W H' ms wait ∧ WL m t (ms.map (·.1)) wait none,
      ⟨_, [], [t.said], none, none, rfl, (by have := G.fl; simp only [List.length_singleton, List.length_nil]; omega), rfl, ⟨s1, fun q hq => (by cases hq), ⟨[], (upd_ne nWD.symm).trans upd_same, .nil⟩, ⟨_, upd_same, pd_one ⟨tr, rfl, tx2⟩⟩⟩, WL.start m t⟩, ?_⟩
    rintro mm σ H1 ⟨ms, wait, o4, o5, rfl, le20, rfl, C, wl⟩
    refine ⟨_, rfl, (by show 0 ≤ sizeLine; decide), fun en hen => ?_⟩
    have C2 := C.grow (Same.new (o := .lst []) hen)
    obtain ⟨ws, hws, pws⟩ := C2.wt
    have lw := Paired.length pws
    refine ⟨W, en, _, rfl, rfl, SqL.of hws, SqL.of upd_same, _, rfl, ?_⟩
    refine if_of (fun c => ?_) (fun c => ?_)
    · obtain ⟨wait', r, rfl⟩ : ∃ w r, wait = w ++ [r] := by
        rcases List.eq_nil_or_concat wait with e | ⟨w, r, e⟩
        · rw [e] at lw
          rw [List.length_eq_zero_iff.mp lw.symm] at c
          cases c
        · exact ⟨w, r, by rw [e, List.concat_eq_append]⟩
      refine ⟨fun σ' H' => ∃ mm', mm' < (wait' ++ [r]).length + 2 * (m.p.funs.length - ms.length) ∧ ∃ (ms : List (Nat × Ty01.Fun)) (wait : List (List (List Nat))) (o4 o5 : Option V), mm' = wait.length + 2 * (m.p.funs.length - ms.length) ∧ mm' ≤ 20 ∧ σ' = [some (.ref a), some (.ref ta), some (.ref D), some (.ref W), o4, o5] ∧ CB H m D W H' ms wait ∧ WL m t (ms.map (·.1)) wait none, fun σ' H' q => q, ?_⟩
      obtain ⟨tv, u, rfl, t3, t4⟩ := pd_snoc pws
      have elast : (tv ++ [u])[(tv ++ [u]).length - 1]? = some u := by
        rw [List.length_append, List.length_singleton, Nat.add_sub_cancel, List.getElem?_append_right (Nat.le_refl _), Nat.sub_self]; rfl
      refine ⟨_, rfl, .inl ⟨rfl, _, SqL.of hws⟩, W, _, u, rfl, rfl, hws, elast, ?_⟩
      rw [List.dropLast_concat]
      obtain ⟨ra, rfl, hra⟩ := t4
      have wl2 := wl.pop
      obtain ⟨kvs0, hmd0, pmd0⟩ := C2.md
      have C3 : CB H m D W (upd (upd H1 en (.lst [])) W (.lst tv)) ms wait' := ⟨Same.put C2.sm hW0, C2.ms_, ⟨kvs0, (upd_ne nWD.symm).trans hmd0, pmd0⟩, ⟨tv, upd_same, t3⟩⟩
      have kn := wl2.kn r (.inr rfl)
      have hpos : 1 ≤ r.length := row_pos G ht (kn.imp id fun ⟨g, h, _, h2, h3⟩ => ⟨g, h, h2, h3⟩)
      refine ⟨_, rfl, _, rfl, ra, _, rfl, SqT.of (C3.sm _ _ hra), ?_, fun pt hpt => ?_⟩
      · rintro ⟨z, _⟩
        rw [List.length_map, show (some (4 : Int)) = some ((4 : Nat) : Int) by rfl, HT.sIx_nat] at z
        omega
      have ecut : cutV (rowV r) (some 4) none = rowV (r.drop 4) := by
        rw [show (some (4 : Int)) = some ((4 : Nat) : Int) by rfl, cutV_from, rowV_drop]
      rw [ecut]
      have C4 := C3.grow (Same.new (o := .tup (rowV (r.drop 4))) hpt)
      refine ⟨pt, rfl, ⟨_, SqT.of upd_same⟩, ?_⟩
      have nptW : pt ≠ W := (free_put hpt).1
      have hpt2 := (free_put hpt).2
      have nptD : pt ≠ D := fun z => by rw [z, hmd0] at hpt2; cases hpt2
      have lms0 : ms.length ≤ m.p.funs.length := by
        have := nodup_len wl.nd fun x hx => (wl.ex x hx).1
        rwa [List.length_map] at this
      refine for_it (walk_tup (K := K) (a := pt) (xs := rowV (r.drop 4))) (fun i σ H' => ∃ (ms' : List (Nat × Ty01.Fun)) (wait2 : List (List (List Nat))) (o5 : Option V), σ = [some (.ref a), some (.ref ta), some (.ref D), some (.ref W), some (.ref ra), o5] ∧ CB H m D W H' ms' wait2 ∧ H' pt = some (.tup (rowV (r.drop 4))) ∧ WL m t (ms'.map (·.1)) wait2 (some r) ∧
          wait2.length + 2 * (m.p.funs.length - ms'.length) ≤ wait'.length + 2 * (m.p.funs.length - ms.length) ∧ ∀ wd ∈ (r.drop 4).take i, ∀ g, (fnNames m.p)[g]? = some wd → g ∈ ms'.map (·.1))
        ⟨ms, wait', _, rfl, C4, upd_same, wl2, Nat.le_refl _, fun wd hwd => (by cases hwd)⟩ (fun i σ H' _ ⟨_, _, _, _, _, h, _⟩ => SqT.of h) ?_ ?_
      · rintro i x σ H3 H4 hi ⟨ms', wait2, o5, rfl, C5, hpt5, wl5, le5, al5⟩ ⟨rfl, hx⟩
        have hx : (rowV (r.drop 4))[i]? = some x := hx
        obtain ⟨wd, hwd, rfl⟩ : ∃ wd, (r.drop 4)[i]? = some wd ∧ V.str (S wd) = x := by
          rw [List.getElem?_map] at hx
          exact Option.map_eq_some_iff.mp hx
        have hmem := List.mem_of_getElem? hwd
        obtain ⟨kvs, hmd, pmd⟩ := C5.md
        have next : (∀ g, (fnNames m.p)[g]? = some wd → g ∈ ms'.map (·.1)) → ∀ wd' ∈ (r.drop 4).take (i + 1), ∀ g, (fnNames m.p)[g]? = some wd' → g ∈ ms'.map (·.1) := fun h wd' hw' g hg => by
          rw [take_next hwd] at hw'
          rcases List.mem_append.mp hw' with z | z
          · exact al5 wd' z g hg
          · rw [List.mem_singleton.mp z] at hg; exact h g hg
        refine ⟨_, rfl, _, rfl, a, _, dx, _, _, rfl, C5.sm _ _ X.ins, T.cG, T.g_functions, gl_functions, fn, _, rfl, DGet.k (k := Sum.inr (S wd)) (C5.sm _ _ hfn), _, rfl, ?_⟩
        rcases valK_cases (F := FKv A H) (fun q => Sum.inr (S q.1.name)) (fun _ _ z => z.1) (Sum.inr (S wd)) pfn with ⟨g, q, kv, q1, q2, q3, q4⟩ | ⟨q1, q2⟩
        · have hn : q.1.name = wd := S_inj (Sum.inr.inj q2)
          have hg : m.p.funs[g]? = some q.1 := zip_get1 q1
          rw [q3]
          refine if_true_of rfl ?_
          refine ⟨_, rfl, _, rfl, D, _, rfl, DGet.k (k := Sum.inr (S wd)) hmd, _, rfl, ?_⟩
          rcases valK_cases (F := MetKv H) (fun q => Sum.inr (S q.2.name)) (fun _ _ z => z.1) (Sum.inr (S wd)) pmd with ⟨j, y, kv2, y1, y2, y3, y4⟩ | ⟨y1, y2⟩
          · rw [y3]
            refine if_false_of rfl ?_
            refine ⟨ms', wait2, _, rfl, C5, hpt5, wl5, le5, next fun g' hg' => ?_⟩
            have hy := C5.ms_ y (List.mem_of_getElem? y1)
            have : g' = y.1 := name_one G hg' (by rw [List.getElem?_map, hy]; exact congrArg some (S_inj (Sum.inr.inj y2)))
            rw [this]
            exact List.mem_map_of_mem (List.mem_of_getElem? y1)
          · rw [y2]
            refine if_true_of rfl ?_
            obtain ⟨fa, fdx, fr, fe, f1, f2⟩ := q4.2
            have ng : g ∉ ms'.map (·.1) := fun z => by
              obtain ⟨y, hy1, hy2⟩ := List.mem_map.mp z
              have hy := C5.ms_ y hy1
              rw [hy2, hg] at hy
              exact y1 y hy1 (by rw [← Option.some.inj hy, hn])
            have wl6 := wl5.add G ht hmem hg hn ng
            have lms : (ms' ++ [(g, q.1)]).length ≤ m.p.funs.length := by
              have := nodup_len wl6.nd fun x hx => (wl6.ex x hx).1
              rw [List.length_append, List.length_map] at this
              rw [List.length_append]
              exact this
            rw [List.length_append, List.length_singleton] at lms
            have fl := G.fl
            have lkv := Paired.length pmd
            have dg : DGet H4 fn (.str (S wd)) (some kv.2) := by
              rw [← q3]; exact DGet.k (k := Sum.inr (S wd)) (C5.sm _ _ hfn)
            refine ⟨_, rfl, a, _, dx, _, _, rfl, C5.sm _ _ X.ins, T.cG, T.g_functions, gl_functions, _, rfl, fn, _, rfl, dg, ?_⟩
            refine ⟨fa, _, fdx, _, _, fe, C5.sm _ _ f1, T.cF, T.f_row, fl_row, _, rfl, _, rfl, D, _, rfl, DPut.k (k := Sum.inr (S wd)) hmd (by show _ < 2 ^ 24; omega), ?_⟩
            rw [putK_new _ y2]
            obtain ⟨ws5, hws5, pws5⟩ := C5.wt
            have lws := Paired.length pws5
            rw [List.length_append, List.length_singleton] at le20
            have hD2 : upd H4 D (.dK (kvs ++ [(Sum.inr (S wd), .ref fr)])) D = some (.dK (kvs ++ [(Sum.inr (S wd), .ref fr)])) := upd_same
            have hv2 : valV (kvs ++ [((Sum.inr (S wd) : Key), V.ref fr)]) (Sum.inr (S wd)) = some (.ref fr) := by
              rw [valV_snoc _ _ _ _ y2, if_pos rfl]
            have dg2 : DGet (upd H4 D (.dK (kvs ++ [(Sum.inr (S wd), .ref fr)]))) D (.str (S wd)) (some (.ref fr)) := by
              rw [← hv2]; exact DGet.k (k := Sum.inr (S wd)) hD2
            have hW2 : upd H4 D (.dK (kvs ++ [(Sum.inr (S wd), .ref fr)])) W = some (.lst ws5) := (upd_ne nWD).trans hws5
            refine ⟨_, rfl, .inl ⟨rfl, _, SqL.of hW2⟩, _, rfl, _, rfl, D, _, rfl, dg2, W, ws5, _, rfl, rfl, hW2, (by show _ < 2 ^ 24; omega), ?_⟩
            refine ⟨ms' ++ [(g, q.1)], wait2 ++ [q.1.said], _, rfl, ⟨Same.put (Same.put C5.sm hD) hW0, fun z hz => ?_, ⟨_, (upd_ne nWD.symm).trans upd_same, pd_append pmd (pd_one ⟨by rw [hn], fr, rfl, f2⟩)⟩, ⟨_, upd_same, pd_append pws5 (pd_one ⟨fr, rfl, f2⟩)⟩⟩, ?_, ?_, ?_, ?_⟩
            · rcases List.mem_append.mp hz with z1 | z1
              · exact C5.ms_ z z1
              · rw [List.mem_singleton.mp z1]; exact hg
            · rw [upd_ne nptW, upd_ne nptD]; exact hpt5
            · rw [List.map_append]; exact wl6
            · simp only [List.length_append, List.length_singleton]
              omega
            · intro wd' hw' g' hg'
              rw [List.map_append]
              rw [take_next hwd] at hw'
              rcases List.mem_append.mp hw' with z | z
              · exact List.mem_append.mpr (.inl (al5 wd' z g' hg'))
              · rw [List.mem_singleton.mp z] at hg'
                have : g' = g := name_one G hg' (by rw [List.getElem?_map, hg]; exact congrArg some hn)
                rw [this]
                exact List.mem_append.mpr (.inr (List.mem_singleton.mpr rfl))
        · rw [q2]
          refine if_false_of rfl (if_false_of rfl ?_)
          refine ⟨ms', wait2, _, rfl, C5, hpt5, wl5, le5, next fun g hg => ?_⟩
          rw [List.getElem?_map] at hg
          obtain ⟨h, h1, h2⟩ := Option.map_eq_some_iff.mp hg
          obtain ⟨s, hs⟩ := zip_get2 (Good.fl' G) h1
          exact absurd (by show Sum.inr (S h.name) = Sum.inr (S wd); rw [h2]) (q1 (h, s) (List.mem_of_getElem? hs))
      · rintro σ H3 ⟨ms', wait2, o5, rfl, C5, hpt5, wl5, le5, al5⟩
        rw [List.length_map, List.take_length] at al5
        rw [List.length_append, List.length_singleton] at le20
        refine ⟨_, ?_, ms', wait2, _, _, rfl, (by omega), rfl, C5, wl5.done G ht al5⟩
        rw [List.length_append, List.length_singleton]
        omega
    · have ew : ws = [] := by
        cases ws with
        | nil => rfl
        | cons _ _ => cases c
      rw [ew] at lw
      have ew2 : wait = [] := List.length_eq_zero_iff.mp lw
      subst ew2
      obtain ⟨kvs, hmd, pmd⟩ := C2.md
      refine ⟨_, rfl, D, kvs, rfl, hmd, fun p hp => ?_⟩
      have s9 := C2.sm.trans (Same.new (o := .lst (kvs.map (·.2))) hp)
      have lms : ms.length ≤ m.p.funs.length := by
        have := nodup_len wl.nd fun x hx => (wl.ex x hx).1
        rwa [List.length_map] at this
      refine k p _ (ms.map (·.1)) (ms.map fun q => q.2.said) _ s9 upd_same (pd_map2 pmd fun q kv z => RowTup.mn _ _ _ _ s9 z.2) (fun r => ?_) (fun x => wl.end G ht x) ?_
      · rw [List.mem_map]
        constructor
        · rintro ⟨q, h1, h2⟩
          exact ⟨q.1, q.2, List.mem_map_of_mem h1, C2.ms_ q h1, h2⟩
        · rintro ⟨g, h, h1, h2, h3⟩
          obtain ⟨q, q1, q2⟩ := List.mem_map.mp h1
          have := C2.ms_ q q1
          rw [q2, h2] at this
          exact ⟨q, q1, by rw [← Option.some.inj this]; exact h3⟩
      · rw [List.length_map]
        have := G.fl
        omega
end
end Pf
namespace Pf
open PySem PySem.Spec PyProof.Rows L2 SX
open C8 (Cal Met Mak Def cal0 met0 mak0 pe_c pe_mk pe_mt pe_mt0 pe_gc fnScope fnBody fnArgs fnScope_by)
def rkey (r : List (List Nat)) : List Key := r.map fun w => Sum.inr (S w)
theorem rowV_key (r : List (List Nat)) : rowV r = (rkey r).map kV := by unfold rkey; rw [List.map_map]; rfl
theorem rkey_inj : ∀ {r r' : List (List Nat)}, rkey r = rkey r' → r = r'
  | [], [], _ => rfl
  | [], _ :: _, h => by cases h
  | _ :: _, [], h => by cases h
  | x :: r, y :: r', h => by
    have h1 := List.cons.inj h
    rw [S_inj (Sum.inr.inj h1.1), rkey_inj h1.2]
/-- the rows that a dict with rows as keys holds -/
def Holds (kvs : List (List Key × V)) (L : List (List (List Nat))) : Prop := ∀ r, (valV kvs (rkey r)).isSome = true ↔ r ∈ L
theorem Holds.put {kvs : List (List Key × V)} {L : List (List (List Nat))} (h : Holds kvs L) (r : List (List Nat)) (v : V) : Holds (putK kvs (rkey r) v) (L ++ [r]) := by
  intro r'
  rw [valV_put]
  by_cases e : rkey r' = rkey r
  · rw [if_pos e]
    exact ⟨fun _ => List.mem_append.mpr (.inr (List.mem_singleton.mpr (rkey_inj e))), fun _ => rfl⟩
  · rw [if_neg e, h r', List.mem_append]
    exact ⟨.inl, fun z => z.elim id fun z => absurd (congrArg rkey (List.mem_singleton.mp z)) e⟩
def spTold2 (A : Ad) : Sp := fun vs H Q _ => ∃ (m : MP) (v : V), vs = [v] ∧ ProgAt A H m v ∧ Good m ∧
  ∀ (d : Addr) (kvs : List (List Key × V)) (H' : Hp), Same H H' → H' d = some (.dT kvs) → Holds kvs (m.p.funs.map (fun f => f.said) ++ m.p.tests.map fun t => t.said) → Q (.ref d) H'
section
variable {P : PySem.Program} {w : World} {K : PySem.W.Frag} {mg : Str → Option Value} {base : Heap} {A : Ad}
theorem ok_rows_told (T : Tp K mg A) {f : Addr} {fd : FuncData} (F : Def K mg "rows_told" (top 14) f fd) (b : Binds K fd ["program"] []) : Cal P w K mg base 1 "rows_told" (spTold2 A) [] := by
  have sc : FnScope ["program", "told", "function", "test"] ["program"] (fnScope (top 14)) := fnScope_by (by decide +kernel)
  refine cal0 F b .nil sc (fun vs H Q E h => ?_) (fun cdv A' outer s H vs Q E hr h => ?_)
  · obtain ⟨m, v, rfl, _⟩ := h
    rfl
  · obtain ⟨m, v, rfl, X, G, k⟩ := h
    refine ⟨_, pss_cons (ps_set (i := 1) sc.nd rfl (.inl rfl) pe_dnewT)
      (pss_cons (ps_lock (ps_for PassesOwn.never rfl (pi_values (pe_fld (pv 0) rfl)) (pg_name (i := 2) sc.nd rfl (.inl rfl))
        (pss_one (ps_dput (hu_of hr) (pv 1) (pe_fld (pv 2) rfl) pe_bl rfl))))
      (pss_cons (ps_for PassesOwn.never rfl (pi_list (pe_fld (pv 0) rfl)) (pg_name (i := 3) sc.nd rfl (.inl rfl))
        (pss_one (ps_dput (hu_of hr) (pv 1) (pe_fld (pv 3) rfl) pe_bl rfl)))
      (pss_one (ps_ret (pv 1))))), ?_⟩
    obtain ⟨a, dx, cd, pl, fn, ts, tk, rfl, X⟩ := X
    obtain ⟨fkvs, hfn, pfn⟩ := X.funs
    obtain ⟨tvs, hts, pts⟩ := X.tests
    have lf := Paired.length pfn
    have lt := Paired.length pts
    have e1 := FS_len G
    have e2 := TS_len G
    have b1 := G.fl
    have b2 := G.tn
    intro D hD
    have nfD : fn ≠ D := fun z => by rw [z, hD] at hfn; cases hfn
    refine ⟨fn, .dK fkvs, (upd_ne nfD).trans hfn, trivial, fun od => ?_⟩
    obtain ⟨HB, eHB⟩ : ∃ HB, HB = upd (upd H D (.dT [])) fn (.frz od (.dK fkvs)) := ⟨_, rfl⟩
    rw [← eHB]
    have hB : ∀ b o, b ≠ fn → H b = some o → HB b = some o := fun b o nb e => by
      rw [eHB, upd_ne nb, upd_ne (ne_of_none e hD)]; exact e
    have hBf : HB fn = some (.frz od (.dK fkvs)) := by rw [eHB]; exact upd_same
    have hBD : HB D = some (.dT []) := by rw [eHB, upd_ne nfD.symm]; exact upd_same
    have nof : ∀ b o, H b = some o → (∀ kv, o ≠ .dK kv) → b ≠ fn := fun b o e h z => by
      rw [z, hfn] at e; exact h _ (Option.some.inj e).symm
    refine ⟨_, rfl, a, _, dx, _, _, rfl, hB _ _ (nof _ _ X.ins (by intro _ z; cases z)) X.ins, T.cG, T.g_functions, gl_functions, fn, od, fkvs, rfl, hBf, ?_⟩
    refine for_it (walk_values (d := fn) (o := od) (kvs := fkvs)) (fun i σ H' => ∃ (o2 : Option V) (kvs : List (List Key × V)), σ = [some (.ref a), some (.ref D), o2, none] ∧ (∀ b, b ≠ D → H' b = HB b) ∧ H' D = some (.dT kvs) ∧ kvs.length ≤ i ∧ Holds kvs ((m.p.funs.take i).map fun f => f.said))
      ⟨none, [], rfl, fun _ _ => rfl, hBD, Nat.le_refl _, fun r => ⟨fun z => (by cases z), fun z => (by cases z)⟩⟩ (fun i σ H' _ ⟨_, _, _, h, _⟩ => (h _ nfD).trans hBf) ?_ ?_
    · rintro i u σ H2 H3 hi ⟨o2, kvs, rfl, i1, i2, i3, i4⟩ ⟨rfl, kx, hkx⟩
      obtain ⟨q, hq⟩ : ∃ q, m.FS[i]? = some q := ⟨_, List.getElem?_eq_getElem (by omega)⟩
      have hfu := zip_get1 hq
      obtain ⟨_, fa, fdx, fr, fe, f1, f2⟩ := pd_at pfn hq hkx
      have fe : u = .ref fa := fe
      subst fe
      have up : ∀ b o, H b = some o → (∀ kv, o ≠ .dK kv) → H3 b = some o := fun b o e h => (i1 b (ne_of_none e hD)).trans (hB b o (nof b o e h) e)
      have h2 := up _ _ f2 (by intro _ z; cases z)
      rw [rowV_key] at h2
      refine ⟨_, rfl, _, rfl, fa, _, fdx, _, _, rfl, up _ _ f1 (by intro _ z; cases z), T.cF, T.f_row, fl_row, D, _, rfl, DPut.t (k := rkey q.1.said) i2 h2 (by show _ < 2 ^ 24; omega), ?_⟩
      refine ⟨_, _, rfl, fun b nb => (upd_ne nb).trans (i1 b nb), upd_same, Nat.le_trans (length_putK ..) (by omega), ?_⟩
      rw [take_next hfu, List.map_append]
      exact i4.put _ _
    · rintro σ H2 ⟨o2, kvs, rfl, i1, i2, i3, i4⟩
      rw [show fkvs.length = m.p.funs.length by omega, List.take_length] at i4
      refine ⟨(i1 _ nfD).trans hBf, ?_⟩
      obtain ⟨H4, e4⟩ : ∃ H4, H4 = upd H2 fn (.dK fkvs) := ⟨_, rfl⟩
      rw [← e4]
      have s4 : Same H H4 := fun b o e => by
        rw [e4]
        by_cases nb : b = fn
        · rw [nb, upd_same]; rw [nb, hfn] at e; exact e
        · rw [upd_ne nb, i1 b (ne_of_none e hD)]; exact hB b o nb e
      have hD4 : H4 D = some (.dT kvs) := by rw [e4, upd_ne nfD.symm]; exact i2
      refine ⟨_, rfl, a, _, dx, _, _, rfl, s4 _ _ X.ins, T.cG, T.g_tests, gl_tests, ts, rfl, ⟨_, SqL.of (s4 _ _ hts)⟩, ?_⟩
      refine for_it (walk_list (K := K) (a := ts) (xs := tvs)) (fun i σ H' => ∃ (o2 o3 : Option V) (kvs : List (List Key × V)), σ = [some (.ref a), some (.ref D), o2, o3] ∧ Same H H' ∧ H' D = some (.dT kvs) ∧ kvs.length ≤ 8 + i ∧ Holds kvs (m.p.funs.map (fun f => f.said) ++ (m.p.tests.take i).map fun f => f.said))
        ⟨_, none, kvs, rfl, s4, hD4, by omega, by rw [List.take_zero, List.map_nil, List.append_nil]; exact i4⟩ (fun i σ H' _ ⟨_, _, _, _, s, _⟩ => SqL.of (s _ _ hts)) ?_ ?_
      · rintro i u σ H5 H6 hi ⟨o2, o3, kvs, rfl, j1, j2, j3, j4⟩ ⟨rfl, hu⟩
        obtain ⟨q, hq⟩ : ∃ q, m.TS[i]? = some q := ⟨_, List.getElem?_eq_getElem (by omega)⟩
        have hfu := zip_get1 hq
        obtain ⟨ta, tdx, tr, rfl, f1, f2⟩ := pd_at pts hq hu
        have h2 := j1 _ _ f2
        rw [rowV_key] at h2
        refine ⟨_, rfl, _, rfl, ta, _, tdx, _, _, rfl, j1 _ _ f1, T.cT, T.t_row, tl_row, D, _, rfl, DPut.t (k := rkey q.1.said) j2 h2 (by show _ < 2 ^ 24; omega), ?_⟩
        refine ⟨_, _, _, rfl, Same.put j1 hD, upd_same, Nat.le_trans (length_putK ..) (by omega), ?_⟩
        rw [take_next hfu, List.map_append, ← List.append_assoc]
        exact j4.put _ _
      · rintro σ H5 ⟨o2, o3, kvs, rfl, j1, j2, j3, j4⟩
        rw [show tvs.length = m.p.tests.length by omega, List.take_length] at j4
        exact ⟨_, rfl, k D kvs H5 j1 j2 j4⟩
end
end Pf
namespace Pf
open PySem PySem.Spec PyProof.Rows L2 SX
open C8 (Cal Met Mak Def cal0 met0 mak0 pe_c pe_mk pe_mt pe_mt0 pe_gc fnScope fnBody fnArgs fnScope_by)
def touchL (o p : Ty01.Program) (i : Nat) : List Nat := (List.range i).filter fun k => (p.tests[k]?).any (Ty01.canTouch o p)
theorem touch_next {o p : Ty01.Program} {i : Nat} {t : Ty01.Test} (h : p.tests[i]? = some t) : touchL o p (i + 1) = touchL o p i ++ (if Ty01.canTouch o p t = true then [i] else []) := by
  unfold touchL
  rw [List.range_succ, List.filter_append]
  congr 1
  rw [List.filter_cons, h]
  rfl
def spTouched (A : Ad) : Sp := fun vs H Q _ => ∃ (o m : MP) (u v : V), vs = [u, v] ∧ ProgAt A H o u ∧ Good o ∧ ProgAt A H m v ∧ Good m ∧
  ∀ (d : Addr) (H' : Hp), Same H H' → H' d = some (.lst (iV (Ty01.touched o.p m.p))) → Q (.ref d) H'
section
variable {P : PySem.Program} {w : World} {K : PySem.W.Frag} {mg : Str → Option Value} {base : Heap} {A : Ad}
theorem ok_touched_tests (T : Tp K mg A) (cT : Cal P w K mg base 1 "rows_told" (spTold2 A) []) (cB : Cal P w K mg base 1 "rows_come_by" (spComeBy A) []) {f : Addr} {fd : FuncData} (F : Def K mg "touched_tests" (top 15) f fd) (b : Binds K fd ["earlier", "program"] []) : Cal P w K mg base 2 "touched_tests" (spTouched A) [] := by
  have sc : FnScope ["earlier", "program", "told", "touched", "k", "test", "rows", "row"] ["earlier", "program"] (fnScope (top 15)) := fnScope_by (by decide +kernel)
  refine cal0 F b .nil sc (fun vs H Q E h => ?_) (fun cdv A' outer s H vs Q E hr h => ?_)
  · obtain ⟨o, m, u, v, rfl, _⟩ := h
    rfl
  · obtain ⟨o, m, u, v, rfl, Xo, Go, X, G, k⟩ := h
    refine ⟨_, pss_cons (ps_set (i := 2) sc.nd rfl (.inr rfl) (pe_c cT hr (by decide) (by rfl) (pa_cons (pv 0) pa_nil)))
      (pss_cons (ps_set (i := 3) sc.nd rfl (.inl rfl) (pe_lst pa_nil))
      (pss_cons (ps_for PassesOwn.never rfl (pi_enum (by rfl) T.b_enumerate (pa_cons (pe_fld (pv 1) rfl) pa_nil)) (pg_tup rfl (pgs_cons (pg_name (i := 4) sc.nd rfl (.inl rfl)) (pgs_cons (pg_name (i := 5) sc.nd rfl (.inl rfl)) pgs_nil)))
        (pss_cons (ps_set (i := 6) sc.nd rfl (.inl rfl) (pe_op op_cat (pe_lst (pa_cons (pe_fld (pv 5) rfl) pa_nil)) (pe_c cB hr (by decide) (by rfl) (pa_cons (pv 1) (pa_cons (pv 5) pa_nil)))))
        (pss_one (ps_if (pt_val (pe_callB (cr_any rfl) (by rfl) T.b_any (by decide +kernel) (pa_cons (pe_lc (own := [("row", 7)]) (g := gName 7) (tt := tYes) (te := tDNotIn (tVar 7) (tVar 2)) rfl sc.nd (pi_list (pv 6)) (blkOk_by (N := ["earlier", "program", "told", "touched", "k", "test", "rows", "row"]) (sc := fnScope (top 15)) (by decide +kernel)) (fun _ _ _ _ _ => pg_name (i := 7) sc.nd rfl (Or.inl rfl)) (fun _ _ _ _ _ => pts_nil) (fun _ _ _ _ _ => pe_cmp (pc_dnotin (hu_of hr) (pv 7) (pv 2)))) pa_nil)))
          (pss_one (ps_expr (pe_bm PySem.F.plainAttrs_list PySem.F.slot_list_append PySem.F.type_list_append mt_append (pv 3) (pa_cons (pv 4) pa_nil)))) pss_nil))))
      (pss_one (ps_ret (pv 3))))), ?_⟩
    have Xo0 := Xo
    have X0 := X
    obtain ⟨a, dx, cd, pl, fn, ts, tk, rfl, X⟩ := X
    obtain ⟨tvs, hts, pts⟩ := X.tests
    have lt := Paired.length pts
    have e2 := TS_len G
    have b2 := G.tn
    refine ⟨_, rfl, o, _, rfl, Xo0, Go, fun d kvs H1 s1 hd hold => ?_⟩
    refine ⟨by show 0 ≤ sizeLine; decide, fun D hD => ?_⟩
    have s2 : Same H1 (upd H1 D (.lst [])) := Same.new hD
    refine ⟨_, rfl, a, _, dx, _, _, rfl, s2 _ _ (s1 _ _ X.ins), T.cG, T.g_tests, gl_tests, ts, tvs, rfl, SqL.of (s2 _ _ (s1 _ _ hts)), ?_⟩
    refine for_it (walk_enum (K := K) (a := ts) (xs := tvs)) (fun i σ H' => ∃ (o4 o5 o6 o7 : Option V), σ = [some u, some (.ref a), some (.ref d), some (.ref D), o4, o5, o6, o7] ∧ Same H1 H' ∧ H' D = some (.lst (iV (touchL o.p m.p i))))
      ⟨none, none, none, none, rfl, s2, upd_same⟩ (fun i σ H' _ ⟨_, _, _, _, _, s, _⟩ => SqL.of (s _ _ (s1 _ _ hts))) ?_ ?_
    · rintro i x σ H2 H3 hi ⟨o4, o5, o6, o7, rfl, j1, j2⟩ ⟨tp, xi, xu, rfl, ntp, rfl, ei, eu⟩
      cases ei
      have eu : tvs[i]? = some xu := eu
      obtain ⟨q, hq⟩ : ∃ q, m.TS[i]? = some q := ⟨_, List.getElem?_eq_getElem (by omega)⟩
      have htt := zip_get1 hq
      have tx := pd_at pts hq eu
      have tx0 := tx
      obtain ⟨ta, tdx, tr, rfl, f1, f2⟩ := tx
      refine ⟨tp, _, rfl, SqT.of upd_same, rfl, _, _, rfl, _, _, rfl, rfl, ?_⟩
      obtain ⟨H4, e4⟩ : ∃ H4, H4 = upd H2 tp (.tup [.int (i : Nat), .ref ta]) := ⟨_, rfl⟩
      rw [← e4]
      have s4 : Same H1 H4 := by rw [e4]; exact j1.trans (Same.new ntp)
      have hD4 : H4 D = some (.lst (iV (touchL o.p m.p i))) := by rw [e4]; exact Same.new ntp _ _ j2
      refine ⟨_, rfl, ta, _, tdx, _, _, rfl, s4 _ _ (s1 _ _ f1), T.cT, T.t_row, tl_row, (by show 1 ≤ sizeLine; decide), fun L1 hL1 => ?_⟩
      have s5 : Same H4 (upd H4 L1 (.lst [.ref tr])) := Same.new hL1
      have s05 : Same H (upd H4 L1 (.lst [.ref tr])) := s1.trans (s4.trans s5)
      refine ⟨_, rfl, _, rfl, m, q.1, q.2, _, _, rfl, X0.mono s05, G, List.mem_of_getElem? htt, tx0.mono s05, fun p us met R H6 s6 hp pus hR hmet lR => ?_⟩
      have lus := Paired.length pus
      refine ⟨L1, p, _, _, rfl, rfl, s6 _ _ upd_same, hp, (by rw [List.length_singleton]; show _ ≤ 2 ^ 24; omega), fun rp hrp => ?_⟩
      obtain ⟨H7, e7⟩ : ∃ H7, H7 = upd H6 rp (.lst ([.ref tr] ++ us)) := ⟨_, rfl⟩
      have s67 : Same H6 H7 := by rw [e7]; exact Same.new hrp
      have s7 : Same H4 H7 := s5.trans (s6.trans s67)
      have hrp7 : H7 rp = some (.lst ([.ref tr] ++ us)) := by rw [e7]; exact upd_same
      rw [← e7]
      have pr : Paired (RowTup H7) (q.1.said :: R) ([.ref tr] ++ us) := .cons ⟨tr, rfl, s7 _ _ (s4 _ _ (s1 _ _ f2))⟩ (Paired.mapP pus fun _ _ z => RowTup.mn _ _ _ _ s67 z)
      have lpr := Paired.length pr
      have lpr2 : (q.1.said :: R).length ≤ 9 := by rw [List.length_cons]; omega
      generalize hRR : q.1.said :: R = RR at pr lpr lpr2
      refine ⟨_, rfl, rp, rfl, ⟨_, SqL.of hrp7⟩, fun D2 hD2 => ?_⟩
      refine lc_it (walk_list (K := K) (a := rp) (xs := [.ref tr] ++ us)) (fun j H' => Same H7 H' ∧ H' D2 = some (.lst (((RR.take j).map fun r => !(valV kvs (rkey r)).isSome).map V.bl)))
        ⟨Same.new hD2, upd_same⟩ (fun j H' _ B => SqL.of (B.1 _ _ hrp7)) ?_ ?_
      · rintro j u H8 H9 hj ⟨c1, c2⟩ ⟨rfl, hu⟩
        obtain ⟨y, hy⟩ : ∃ y, RR[j]? = some y := ⟨_, List.getElem?_eq_getElem (by omega)⟩
        obtain ⟨ra, rfl, hra⟩ := pd_at pr hy hu
        have hra' := c1 _ _ hra
        rw [rowV_key] at hra'
        refine ⟨rfl, _, rfl, _, rfl, d, _, rfl, DGet.t (k := rkey y) (c1 _ _ (s7 _ _ (s4 _ _ hd))) hra', _, c2, (by rw [List.length_map, List.length_map, List.length_take]; show _ < 2 ^ 24; omega), Same.put c1 hD2, upd_same.trans ?_⟩
        rw [take_next hy, List.map_append, List.map_append]
        rfl
      · rintro H8 ⟨c1, c2⟩
        rw [← lpr, List.take_length] at c2
        refine ⟨D2, _, rfl, SqL.of c2, _, rfl, ?_⟩
        have ect : Ty01.canTouch o.p m.p q.1 = (RR.map fun r => !(valV kvs (rkey r)).isSome).any id := by
          rw [← hRR, canTouch_is G Go (List.mem_of_getElem? htt) hmet hR (told := fun r => (valV kvs (rkey r)).isSome) (fun r => ?_), List.any_map]
          · rfl
          · rw [hold r, List.mem_append, List.mem_map, List.mem_map]
        rw [← ect]
        have hD8 := c1 _ _ (s7 _ _ hD4)
        have s08 : Same H1 H8 := s4.trans (s7.trans c1)
        have ltl : (touchL o.p m.p i).length ≤ i := by
          unfold touchL
          exact Nat.le_trans (List.length_filter_le _ _) (by rw [List.length_range]; exact Nat.le_refl _)
        refine if_of (fun c => ?_) (fun c => ?_)
        · refine ⟨_, rfl, .inl ⟨rfl, _, SqL.of hD8⟩, _, rfl, D, _, _, rfl, rfl, hD8, (by rw [List.length_map]; show _ < 2 ^ 24; omega), ?_⟩
          refine ⟨_, _, _, _, rfl, Same.put s08 hD, upd_same.trans ?_⟩
          rw [touch_next htt, if_pos c]
          show _ = some (HO.lst (List.map _ (_ ++ [i])))
          rw [List.map_append]
          rfl
        · refine ⟨_, _, _, _, rfl, s08, ?_⟩
          rw [touch_next htt, if_neg (by rw [c]; decide), List.append_nil]
          exact hD8
    · rintro σ H2 ⟨o4, o5, o6, o7, rfl, j1, j2⟩
      have : touchL o.p m.p tvs.length = Ty01.touched o.p m.p := by
        unfold touchL Ty01.touched
        rw [show tvs.length = m.p.tests.length by omega]
      rw [this] at j2
      exact ⟨_, rfl, k D H2 (s1.trans j1) j2⟩
end
end Pf
namespace Pf
open PySem PySem.Spec PyProof.Rows L2 SX
open C8 (Cal Met Mak Def cal0 met0 mak0 pe_c pe_mk pe_mt pe_mt0 pe_gc fnScope fnBody fnArgs fnScope_by)
/-- a new list of numbers is answered -/
def Ans (H : Hp) (zs : List Int) (Q : VK) : Prop := ∀ p H', Same H H' → H p = none → H' p = some (.lst (zs.map V.int)) → Q (.ref p) H'
theorem ints_iV (l : List Nat) : (Ty01.ints l).map V.int = iV l := by unfold Ty01.ints; rw [List.map_map]; rfl
theorem Ans.nat {H : Hp} {l : List Nat} {Q : VK} (h : Ans H (Ty01.ints l) Q) : ∀ p H', Same H H' → H p = none → H' p = some (.lst (iV l)) → Q (.ref p) H' := fun p H' s n e => h p H' s n (by rw [ints_iV]; exact e)
/-! ### a house -/
theorem hl_program {p e : V} : (hF p e).lookup ("program" : Str) = some p := lk_here
theorem hl_earlier {p e : V} : (hF p e).lookup ("earlier" : Str) = some e := lk_1 (by decide +kernel)
theorem hl_none {p e : V} {n : Str} (h : n ≠ "program" ∧ n ≠ "earlier") : (hF p e).lookup n = none := by
  unfold hF
  rw [lk_past (by rw [beq_eq_false_iff_ne]; exact h.1), lk_past (by rw [beq_eq_false_iff_ne]; exact h.2)]
  rfl
def WasAt (A : Ad) (H : Hp) (w : Option Ty01.Program) (ev : V) : Prop := match w with
  | none => ev = .non
  | some o => ∃ mo : MP, ProgAt A H mo ev ∧ Good mo ∧ mo.p = o
theorem WasAt.mono {A : Ad} {H H' : Hp} (s : Same H H') {w : Option Ty01.Program} {ev : V} (h : WasAt A H w ev) : WasAt A H' w ev := by
  cases w with
  | none => exact h
  | some o => obtain ⟨mo, h1, h2⟩ := h; exact ⟨mo, h1.mono s, h2⟩
structure HoIn (A : Ad) (H : Hp) (s : Ty01.St) (a dx : Addr) (pv ev : V) (m : MP) : Prop where
  ins : H a = some (.ins A.H dx (hF pv ev))
  prog : ProgAt A H m pv
  good : Good m
  mp : m.p = s.prog
  was : WasAt A H s.was ev
theorem HoIn.mono {A : Ad} {H H' : Hp} (e : Same H H') {s : Ty01.St} {a dx : Addr} {pv ev : V} {m : MP} (h : HoIn A H s a dx pv ev m) : HoIn A H' s a dx pv ev m := ⟨e _ _ h.ins, h.prog.mono e, h.good, h.mp, h.was.mono e⟩
def HouseAt (A : Ad) (H : Hp) (s : Ty01.St) (a : Addr) : Prop := ∃ dx pv ev m, HoIn A H s a dx pv ev m
theorem HouseAt.mono {A : Ad} {H H' : Hp} (e : Same H H') {s : Ty01.St} {a : Addr} (h : HouseAt A H s a) : HouseAt A H' s a := let ⟨dx, pv, ev, m, x⟩ := h; ⟨dx, pv, ev, m, x.mono e⟩
/-! ### what stays when a house is changed -/
def NotH (o : HO) : Prop := (∀ C dx fs, o = .ins C dx fs → ∃ f v r, fs = (f, v) :: r ∧ f ≠ ("program" : Str)) ∧ ∀ od u, o ≠ .frz od u
def KeepH (H H2 : Hp) : Prop := ∀ b o, H b = some o → NotH o → H2 b = some o
theorem notH_ins {C dx : Addr} {f : Str} {v : V} {r : List (Str × V)} (h : f ≠ "program") : NotH (.ins C dx ((f, v) :: r)) := by
  refine ⟨fun C' dx' fs e => ?_, fun od u e => (by cases e)⟩
  injection e with _ _ e
  exact ⟨f, v, r, e.symm, h⟩
theorem keep_but {H H2 : Hp} {p C dx : Addr} {fs : Fs} (h : But p H H2) (hp : H p = some (.ins C dx fs)) (hf : fs = [] ∨ ∃ x y, fs = hF x y) : KeepH H H2 := by
  intro b o e n
  refine h b o e fun z => ?_
  rw [z, hp] at e
  obtain ⟨f, v, r, h1, h2⟩ := n.1 _ _ _ (Option.some.inj e).symm
  rcases hf with rfl | ⟨x, y, rfl⟩
  · cases h1
  · exact h2 (congrArg Prod.fst (List.cons.inj h1).1).symm
/-- a heap without one object -/
def sans (H : Hp) (D : Addr) : Hp := fun b => if b = D then none else H b
theorem sans_at (H : Hp) (D : Addr) : sans H D D = none := if_pos rfl
theorem sans_ne {H : Hp} {D b : Addr} (h : b ≠ D) : sans H D b = H b := if_neg h
theorem keep_sans {H : Hp} {D : Addr} {od : Obj} {u : HO} (hD : H D = some (.frz od u)) : KeepH H (sans H D) := by
  intro b o e n
  have nb : b ≠ D := fun z => by
    rw [z, hD] at e
    exact n.2 _ _ (Option.some.inj e).symm
  rw [sans_ne nb]
  exact e
theorem notH_lst {xs : List V} : NotH (.lst xs) := ⟨fun C dx fs e => (by cases e), fun od u e => (by cases e)⟩
theorem notH_tup {xs : List V} : NotH (.tup xs) := ⟨fun C dx fs e => (by cases e), fun od u e => (by cases e)⟩
theorem notH_dK {xs : List (Key × V)} : NotH (.dK xs) := ⟨fun C dx fs e => (by cases e), fun od u e => (by cases e)⟩
section
variable {A : Ad} {H H2 : Hp} (k : KeepH H H2)
include k
theorem WordAt.keep {fst : List Nat} {w : Wd} {v : V} (h : WordAt A H fst w v) : WordAt A H2 fst w v := by
  obtain ⟨a, dx, pl, h1, h2, h3⟩ := h
  exact ⟨a, dx, pl, h1, k _ _ h2 (notH_ins (by decide +kernel)), k _ _ h3 notH_lst⟩
theorem PlaceAt.keep {q : Pl4} {v : V} (h : PlaceAt A H q v) : PlaceAt A H2 q v := by
  obtain ⟨a, dx, h1, h2⟩ := h
  exact ⟨a, dx, h1, k _ _ h2 (notH_ins (by decide +kernel))⟩
theorem FunAt.keep {q : Ty01.Fun × Nat} {v : V} (h : FunAt A H q v) : FunAt A H2 q v := by
  obtain ⟨a, dx, r, h1, h2, h3⟩ := h
  exact ⟨a, dx, r, h1, k _ _ h2 (notH_ins (by decide +kernel)), k _ _ h3 notH_tup⟩
theorem TestAt.keep {t : Ty01.Test} {st : Nat} {v : V} (h : TestAt A H t st v) : TestAt A H2 t st v := by
  obtain ⟨a, dx, r, h1, h2, h3⟩ := h
  exact ⟨a, dx, r, h1, k _ _ h2 (notH_ins (by decide +kernel)), k _ _ h3 notH_tup⟩
theorem ProgAt.keep {m : MP} {v : V} (h : ProgAt A H m v) : ProgAt A H2 m v := by
  obtain ⟨a, dx, cd, pl, fn, ts, tk, h1, X⟩ := h
  refine ⟨a, dx, cd, pl, fn, ts, tk, h1, k _ _ X.ins (notH_ins (by decide +kernel)), ?_, ?_, ?_, ?_⟩
  · obtain ⟨v, h1, h2⟩ := X.code
    exact ⟨v, k _ _ h1 notH_lst, Paired.mapP h2 fun _ _ z => z.keep k⟩
  · obtain ⟨v, h1, h2⟩ := X.places
    exact ⟨v, k _ _ h1 notH_lst, Paired.mapP h2 fun _ _ z => z.keep k⟩
  · obtain ⟨v, h1, h2⟩ := X.funs
    exact ⟨v, k _ _ h1 notH_dK, Paired.mapP h2 fun _ _ z => ⟨z.1, z.2.keep k⟩⟩
  · obtain ⟨v, h1, h2⟩ := X.tests
    exact ⟨v, k _ _ h1 notH_lst, Paired.mapP h2 fun _ _ z => TestAt.keep k z⟩
theorem WasAt.keep {w : Option Ty01.Program} {ev : V} (h : WasAt A H w ev) : WasAt A H2 w ev := by
  cases w with
  | none => exact h
  | some o => obtain ⟨mo, h1, h2⟩ := h; exact ⟨mo, h1.keep k, h2⟩
end
theorem HouseAt.sans {A : Ad} {H : Hp} {D : Addr} {od : Obj} {u : HO} (hD : H D = some (.frz od u)) {s : Ty01.St} {a : Addr} (h : HouseAt A H s a) : HouseAt A (sans H D) s a := by
  obtain ⟨dx, pv, ev, m, X⟩ := h
  have k := keep_sans hD
  have na : a ≠ D := fun z => by have := X.ins; rw [z, hD] at this; cases this
  exact ⟨dx, pv, ev, m, (sans_ne na).trans X.ins, X.prog.keep k, X.good, X.mp, X.was.keep k⟩
def spCounted : Sp := fun vs H Q _ => ∃ (a : Addr) (ns : List Nat), vs = [.ref a] ∧ H a = some (.lst (iV ns)) ∧ ns.length ≤ 1000 ∧ Ans H (Ty01.listed ns) Q
section
variable {P : PySem.Program} {w : World} {K : PySem.W.Frag} {mg : Str → Option Value} {base : Heap} {A : Ad}
theorem ok_counted (T : Tp K mg A) {f : Addr} {fd : FuncData} (F : Def K mg "counted" (top 93) f fd) (b : Binds K fd ["numbers"] []) : Cal P w K mg base 1 "counted" spCounted [] := by
  have sc : FnScope ["numbers"] ["numbers"] (fnScope (top 93)) := fnScope_by (by decide +kernel)
  refine cal0 F b .nil sc (fun vs H Q E h => ?_) (fun cdv A' outer s H vs Q E hr h => ?_)
  · obtain ⟨a, ns, rfl, _⟩ := h
    rfl
  · obtain ⟨a, ns, rfl, ha, ln, k⟩ := h
    refine ⟨_, pss_one (ps_ret (pe_op op_cat (pe_lst (pa_cons (pe_callB call_len_seq (by rfl) T.b_len PySem.boot_len (pa_cons (pv 0) pa_nil)) pa_nil)) (pv 0))), ?_⟩
    refine ⟨_, rfl, a, _, rfl, .inl (SqL.of ha), (by show 1 ≤ sizeLine; decide), fun L hL => ?_⟩
    have s1 : Same H (upd H L (.lst [.int ((iV ns).length : Nat)])) := Same.new hL
    refine ⟨_, rfl, L, a, _, _, rfl, rfl, upd_same, s1 _ _ ha, (by rw [List.length_singleton, List.length_map]; show _ ≤ 2 ^ 24; omega), fun p hp => ?_⟩
    refine Ans.nat k p _ (s1.trans (Same.new hp)) (s1.free hp) (upd_same.trans ?_)
    rw [List.length_map]
    rfl
end
end Pf
namespace Pf
open PySem PySem.Spec PyProof.Rows L2 SX
open C8 (Cal Met Mak Def cal0 met0 mak0 pe_c pe_mk pe_mt pe_mt0 pe_gc fnScope fnBody fnArgs fnScope_by)
def spHInit (A : Ad) : Sp := fun vs H Q _ => ∃ (p dx : Addr), vs = [.ref p] ∧ H p = some (.ins A.H dx []) ∧ ∀ H', HouseAt A H' Ty01.init p → But p H H' → Q .non H'
def spHasTest (A : Ad) : Sp := fun vs H Q _ => ∃ (s : Ty01.St) (a : Addr) (k : Nat), vs = [.ref a, .int (k : Nat)] ∧ HouseAt A H s a ∧ Q (.bl (decide (k < s.prog.tests.length))) H
def spHasPlace (A : Ad) : Sp := fun vs H Q _ => ∃ (s : Ty01.St) (a : Addr) (k : Nat), vs = [.ref a, .int (k : Nat)] ∧ HouseAt A H s a ∧ Q (.bl (decide (k < Ty01.total s.prog))) H
section
variable {P : PySem.Program} {w : World} {K : PySem.W.Frag} {mg : Str → Option Value} {base : Heap} {A : Ad}
theorem ok_House (T : Tp K mg A) (hm : mg "House" = some (.ref A.H)) (cG : Mak P w K mg base 1 "Program" A.G (spGInit A.G) []) {f : Addr} {fd : FuncData} (F : C8.Fun K "__init__" "House.__init__" (inClass (top 94) 0) f fd) (M : Mk K A.H f) (b : Binds K fd ["self"] []) : Mak P w K mg base 3 "House" A.H (spHInit A) [] := by
  refine mak0 M hm F b .nil (N := ["self"]) (fnScope_by (by decide +kernel)) (fun vs H Q E h => ?_) (fun cdv A' outer s H vs Q E hr h => ?_)
  · obtain ⟨p, dx, rfl, _⟩ := h
    rfl
  · obtain ⟨p, dx, rfl, hp, q⟩ := h
    refine ⟨_, pss_cons (ps_fld (pv 0) (pe_mk0 cG hr (by decide) (by rfl)) rfl) (pss_one (ps_fld (pv 0) pe_non rfl)), ?_⟩
    intro a adx na nd ne
    refine ⟨a, adx, rfl, upd_same, fun H1 cd pl fn ts tk f1 f2 f3 f4 f5 nd' h1 h2 h3 h4 h5 h6 kp => ⟨rfl, ?_⟩⟩
    have s1 : Same H H1 := Same.made na nd kp
    refine ⟨_, rfl, p, _, dx, [], rfl, s1 _ _ hp, T.cH, T.h_program, (by show 0 < 1000; decide), ?_⟩
    refine ⟨_, rfl, p, _, dx, _, rfl, upd_same, T.cH, T.h_earlier, (by show 1 < 1000; decide), ?_⟩
    have bt : ∀ o1 o2 : HO, But p H1 (upd (upd H1 p o1) p o2) := fun o1 o2 b o e n => (upd_ne n).trans ((upd_ne n).trans e)
    have X : ProgAt A H1 MP.start (.ref a) := ⟨a, adx, cd, pl, fn, ts, tk, rfl, h1, ⟨_, h2, .nil⟩, ⟨_, h3, .nil⟩, ⟨_, h4, .nil⟩, ⟨_, h5, .nil⟩⟩
    refine q _ ⟨dx, .ref a, .non, MP.start, upd_same, X.keep (keep_but (bt _ _) (s1 _ _ hp) (.inl rfl)), good_start, rfl, rfl⟩ ?_
    exact fun b o e n => bt _ _ b o (s1 _ _ e) n
theorem ok_has_test (T : Tp K mg A) {f : Addr} {fd : FuncData} (F : C8.Fun K "has_test" "House.has_test" (inClass (top 94) 1) f fd) (me : Meth K A.H "has_test" f) (b : Binds K fd ["self", "k"] []) : Met P w K mg base 1 A.H "has_test" (spHasTest A) [] := by
  have sc : FnScope ["self", "k"] ["self", "k"] (fnScope (inClass (top 94) 1)) := fnScope_by (by decide +kernel)
  refine met0 T.cH me F b sc (fun vs H Q E h => ?_) (fun cdv A' outer s H vs Q E hr h => ?_)
  · obtain ⟨st, a, k, rfl, _⟩ := h
    rfl
  · obtain ⟨st, a, k, rfl, X, q⟩ := h
    refine ⟨_, pss_one (ps_ret (pe_cmpR op_lt (pv 1) (pe_callB call_len_seq (by rfl) T.b_len PySem.boot_len (pa_cons (pe_fld (pe_fld (pv 0) rfl) rfl) pa_nil)) (nomark _))), ?_⟩
    obtain ⟨dx, pv, ev, m, X⟩ := X
    obtain ⟨g, gdx, cd, pl, fn, ts, tk, rfl, Y⟩ := X.prog
    obtain ⟨tvs, hts, pts⟩ := Y.tests
    have lt := Paired.length pts
    have e2 := TS_len X.good
    refine ⟨_, rfl, _, rfl, a, _, dx, _, _, rfl, X.ins, T.cH, T.h_program, hl_program, g, _, gdx, _, _, rfl, Y.ins, T.cG, T.g_tests, gl_tests, ts, _, rfl, .inl (SqL.of hts), _, _, rfl, rfl, ?_⟩
    have : decide ((k : Int) < (tvs.length : Int)) = decide (k < st.prog.tests.length) := decide_eq_decide.mpr (by rw [← X.mp]; omega)
    dsimp only
    rw [this]
    exact q
theorem ok_has_place (T : Tp K mg A) {f : Addr} {fd : FuncData} (F : C8.Fun K "has_place" "House.has_place" (inClass (top 94) 2) f fd) (me : Meth K A.H "has_place" f) (b : Binds K fd ["self", "i"] []) : Met P w K mg base 1 A.H "has_place" (spHasPlace A) [] := by
  have sc : FnScope ["self", "i"] ["self", "i"] (fnScope (inClass (top 94) 2)) := fnScope_by (by decide +kernel)
  refine met0 T.cH me F b sc (fun vs H Q E h => ?_) (fun cdv A' outer s H vs Q E hr h => ?_)
  · obtain ⟨st, a, k, rfl, _⟩ := h
    rfl
  · obtain ⟨st, a, k, rfl, X, q⟩ := h
    refine ⟨_, pss_one (ps_ret (pe_cmpR op_lt (pv 1) (pe_callB call_len_seq (by rfl) T.b_len PySem.boot_len (pa_cons (pe_fld (pe_fld (pv 0) rfl) rfl) pa_nil)) (nomark _))), ?_⟩
    obtain ⟨dx, pv, ev, m, X⟩ := X
    obtain ⟨g, gdx, cd, pl, fn, ts, tk, rfl, Y⟩ := X.prog
    obtain ⟨tvs, hts, pts⟩ := Y.places
    have lt := Paired.length pts
    have e2 := PL_len X.good
    refine ⟨_, rfl, _, rfl, a, _, dx, _, _, rfl, X.ins, T.cH, T.h_program, hl_program, g, _, gdx, _, _, rfl, Y.ins, T.cG, T.g_places, gl_places, pl, _, rfl, .inl (SqL.of hts), _, _, rfl, rfl, ?_⟩
    have : decide ((k : Int) < (tvs.length : Int)) = decide (k < Ty01.total st.prog) := decide_eq_decide.mpr (by rw [← X.mp]; omega)
    dsimp only
    rw [this]
    exact q
end
end Pf
namespace Pf
open PySem PySem.Spec PyProof.Rows L2 SX
open C8 (Cal Met Mak Def cal0 met0 mak0 pe_c pe_mk pe_mt pe_mt0 pe_gc fnScope fnBody fnArgs fnScope_by)
def spWrite (A : Ad) : Sp := fun vs H Q _ => ∃ (s : Ty01.St) (a ln : Addr) (ns : List Nat), vs = [.ref a, .ref ln] ∧ HouseAt A H s a ∧ H ln = some (.lst (iV ns)) ∧ ns.length ≤ 1000 ∧
  ∀ p H', But a H H' → HouseAt A H' (Ty01.step s (.write ns)).1 a → H p = none → H' p = some (.lst ((Ty01.step s (.write ns)).2.map V.int)) → Q (.ref p) H'
theorem step_write (s : Ty01.St) (w : List Nat) : Ty01.step s (.write w) = if 600 < w.length ∨ (w.all fun c => decide (c ≤ 255)) = false then (s, [-1]) else (match Ty01.read w with
    | .error e => (s, [textV e.1 e.2])
    | .ok p => (⟨p, some s.prog⟩, Ty01.ints [p.funs.length, p.tests.length, Ty01.total p])) := rfl
section
variable {P : PySem.Program} {w : World} {K : PySem.W.Frag} {mg : Str → Option Value} {base : Heap} {A : Ad}
theorem ok_write (T : Tp K mg A) (cR : Cal P w K mg base 6 "read_text" (spReadText A) []) {f : Addr} {fd : FuncData} (F : C8.Fun K "write" "House.write" (inClass (top 94) 3) f fd) (me : Meth K A.H "write" f) (b : Binds K fd ["self", "numbers"] []) : Met P w K mg base 7 A.H "write" (spWrite A) [] := by
  have sc : FnScope ["self", "numbers", "found", "program", "byte"] ["self", "numbers"] (fnScope (inClass (top 94) 3)) := fnScope_by (by decide +kernel)
  refine met0 T.cH me F b sc (fun vs H Q E h => ?_) (fun cdv A' outer s H vs Q E hr h => ?_)
  · obtain ⟨st, a, ln, ns, rfl, _⟩ := h
    rfl
  · obtain ⟨st, a, ln, ns, rfl, X, hln, lns, k⟩ := h
    refine ⟨_, pss_cons (ps_if (PW.pt (pw_or (pt_cmpR op_gt (pe_callB call_len_seq (by rfl) T.b_len PySem.boot_len (pa_cons (pv 1) pa_nil)) (pe_gc (by rfl) T.MOST_BYTES) (nomark _)) (pw_or1 (pt_val (pe_callB (cr_any rfl) (by rfl) T.b_any (by decide +kernel) (pa_cons (pe_lc (own := [("byte", 4)]) (g := gName 4) (tt := tYes) rfl sc.nd (pi_list (pv 1)) (blkOk_by (N := ["self", "numbers", "found", "program", "byte"]) (sc := fnScope (inClass (top 94) 3)) (by decide +kernel)) (fun _ _ _ _ _ => pg_name (i := 4) sc.nd rfl (Or.inl rfl)) (fun _ _ _ _ _ => pts_nil) (fun _ _ _ _ _ => pe_cmpR op_gt (pv 4) (pe_gc (by rfl) T.HIGHEST_BYTE) (nomark _))) pa_nil))))))
        (pss_one (ps_ret (pe_lst (pa_cons (pe_un un_neg pe_int) pa_nil)))) pss_nil)
      (pss_cons (ps_set (i := 2) sc.nd rfl (.inl rfl) (pe_c cR hr (by decide) (by rfl) (pa_cons (pv 1) pa_nil)))
      (pss_cons (ps_set (i := 3) sc.nd rfl (.inl rfl) (pe_ix ix_tup (pv 2) pe_int (fun _ _ => rfl)))
      (pss_cons (ps_if (pt_cmpR op_isN (pv 3) pe_non (nomark _)) (pss_one (ps_ret (pe_lst (pa_cons (pe_ix ix_tup (pv 2) pe_int (fun _ _ => rfl)) pa_nil)))) pss_nil)
      (pss_cons (ps_fld (pv 0) (pe_fld (pv 0) rfl) rfl)
      (pss_cons (ps_fld (pv 0) (pv 3) rfl)
      (pss_one (ps_ret (pe_lst (pa_cons (pe_callB call_lenD (by rfl) T.b_len PySem.boot_len (pa_cons (pe_fld (pv 3) rfl) pa_nil)) (pa_cons (pe_callB call_len_seq (by rfl) T.b_len PySem.boot_len (pa_cons (pe_fld (pv 3) rfl) pa_nil)) (pa_cons (pe_callB call_len_seq (by rfl) T.b_len PySem.boot_len (pa_cons (pe_fld (pv 3) rfl) pa_nil)) pa_nil))))))))))), ?_⟩
    have X0 := X
    obtain ⟨dx, pv, ev, m, X⟩ := X
    rw [step_write] at k
    have neg : (600 < ns.length ∨ (ns.all fun c => decide (c ≤ 255)) = false) → ∀ H1, Same H H1 → ∀ p, H1 p = none → Q (.ref p) (upd H1 p (.lst [.int (-1)])) := by
      intro c H1 s1 p hp
      rw [if_pos c] at k
      have s2 := s1.trans (Same.new (o := .lst [.int (-1)]) hp)
      exact k p _ (fun b o e _ => s2 b o e) (X0.mono s2) (s1.free hp) upd_same
    refine ⟨_, rfl, ln, _, rfl, .inl (SqL.of hln), _, _, rfl, rfl, _, rfl, ?_⟩
    refine if_of (fun c => ?_) (fun c => ?_)
    · have c : 600 < ns.length := by have := of_decide_eq_true c; rw [List.length_map] at this; omega
      refine if_true_of rfl ?_
      exact ⟨_, rfl, (by show 1 ≤ sizeLine; decide), fun p hp => neg (.inl c) H (Same.refl _) p hp⟩
    · have c : ¬ 600 < ns.length := by have := of_decide_eq_false c; rw [List.length_map] at this; omega
      refine ⟨_, rfl, ln, rfl, ⟨_, SqL.of hln⟩, fun D hD => ?_⟩
      refine lc_it (walk_list (K := K) (a := ln) (xs := iV ns)) (fun j H' => Same H H' ∧ H' D = some (.lst (((ns.take j).map fun c => decide (255 < c)).map V.bl)))
        ⟨Same.new hD, upd_same⟩ (fun j H' _ B => SqL.of (B.1 _ _ hln)) ?_ ?_
      · rintro j u H2 H3 hj ⟨c1, c2⟩ ⟨rfl, hu⟩
        rw [List.length_map] at hj
        obtain ⟨y, hy⟩ : ∃ y, ns[j]? = some y := ⟨_, List.getElem?_eq_getElem hj⟩
        have : u = V.int (y : Nat) := by rw [iV_get hy] at hu; exact (Option.some.inj hu).symm
        subst this
        refine ⟨rfl, _, rfl, _, _, rfl, rfl, _, c2, (by rw [List.length_map, List.length_map, List.length_take]; show _ < 2 ^ 24; omega), Same.put c1 hD, upd_same.trans ?_⟩
        rw [take_next hy, List.map_append, List.map_append]
        show some (HO.lst (_ ++ [V.bl (decide ((255 : Int) < (y : Int)))])) = _
        rw [show decide ((255 : Int) < (y : Int)) = decide (255 < y) from decide_eq_decide.mpr (by omega)]
        rfl
      · rintro H2 ⟨c1, c2⟩
        rw [List.length_map, List.take_length] at c2
        refine ⟨D, _, rfl, SqL.of c2, _, rfl, ?_⟩
        have ea : (ns.map fun c => decide (255 < c)).any id = !(ns.all fun c => decide (c ≤ 255)) := by
          rw [List.any_map, List.not_all_eq_any_not]
          congr 1
          funext x
          show decide (255 < x) = !decide (x ≤ 255)
          rw [← decide_not]
          exact decide_eq_decide.mpr (by omega)
        rw [ea]
        refine if_of (fun d => ?_) (fun d => ?_)
        · have d : (ns.all fun c => decide (c ≤ 255)) = false := by simpa using d
          exact ⟨_, rfl, (by show 1 ≤ sizeLine; decide), fun p hp => neg (.inr d) H2 c1 p hp⟩
        · have d : ¬ (ns.all fun c => decide (c ≤ 255)) = false := by simpa using d
          rw [if_neg (by rintro (z | z); exact c z; exact d z)] at k
          obtain ⟨rd, rg⟩ := read_is ns
          rw [rd] at k
          refine ⟨_, rfl, ln, ns, rfl, c1 _ _ hln, by omega, ?_⟩
          cases hR : readP 0 MP.start ((Ty01.rows (ns.map sgn)).map Ty01.words) with
          | error e =>
            rw [hR] at k
            simp only at k ⊢
            intro t H3 s3 ht
            refine ⟨_, rfl, t, _, _, _, rfl, rfl, SqT.of ht, atI_nat (j := 0) rfl, ?_⟩
            refine ⟨_, rfl, rfl, _, rfl, if_true_of rfl ?_⟩
            refine ⟨_, rfl, t, _, _, _, rfl, rfl, SqT.of ht, atI_nat (j := 1) rfl, (by show 1 ≤ sizeLine; decide), fun p hp => ?_⟩
            have s4 := (c1.trans s3).trans (Same.new (o := .lst [.int (textV e.1 e.2)]) hp)
            exact k p _ (fun b o e _ => s4 b o e) (X0.mono s4) ((c1.trans s3).free hp) upd_same
          | ok m' =>
            rw [hR] at k
            simp only at k ⊢
            intro t v H3 s3 ht Xv
            have Xv0 := Xv
            obtain ⟨g, gdx, cd, pl, fn, ts, tk, rfl, Y⟩ := Xv
            have s03 := c1.trans s3
            refine ⟨_, rfl, t, _, _, _, rfl, rfl, SqT.of ht, atI_nat (j := 0) rfl, ?_⟩
            refine ⟨_, rfl, rfl, _, rfl, if_false_of rfl ?_⟩
            refine ⟨_, rfl, a, _, dx, _, _, rfl, s03 _ _ X.ins, T.cH, T.h_program, hl_program, _, rfl, a, _, dx, _, rfl, s03 _ _ X.ins, T.cH, T.h_earlier, (by show 2 < 1000; decide), ?_⟩
            refine ⟨_, rfl, _, rfl, a, _, dx, _, rfl, upd_same, T.cH, T.h_program, (by show 2 < 1000; decide), ?_⟩
            generalize hH5 : upd (upd H3 a _) a _ = H5
            have b5 : But a H3 H5 := fun b o e n => by rw [← hH5, upd_ne n, upd_ne n]; exact e
            have kp : KeepH H3 H5 := keep_but b5 (s03 _ _ X.ins) (.inr ⟨_, _, rfl⟩)
            have i5 : H5 a = some (.ins A.H dx (hF (.ref g) pv)) := by rw [← hH5]; exact upd_same
            have Y5 : ProgAt A H5 m' (.ref g) := Xv0.keep kp
            obtain ⟨g', gdx', cd', pl', fn', ts', tk', eg, Y6⟩ := Y5
            cases eg
            obtain ⟨fvs, hfn, pfn⟩ := Y6.funs
            obtain ⟨tvs, hts, pts⟩ := Y6.tests
            obtain ⟨pvs, hps, pps⟩ := Y6.places
            have G' := rg m' hR
            have l1 := Paired.length pfn
            have l2 := Paired.length pts
            have l3 := Paired.length pps
            rw [FS_len G'] at l1
            rw [TS_len G'] at l2
            rw [PL_len G'] at l3
            refine ⟨_, rfl, g, _, gdx', _, _, rfl, Y6.ins, T.cG, T.g_functions, gl_functions, fn', fvs, rfl, hfn, ?_⟩
            refine ⟨_, rfl, g, _, gdx', _, _, rfl, Y6.ins, T.cG, T.g_tests, gl_tests, ts', tvs, rfl, .inl (SqL.of hts), ?_⟩
            refine ⟨_, rfl, g, _, gdx', _, _, rfl, Y6.ins, T.cG, T.g_places, gl_places, pl', pvs, rfl, .inl (SqL.of hps), (by show 3 ≤ sizeLine; decide), fun p hp => ?_⟩
            have s5 : Same H5 (upd H5 p (.lst [.int (fvs.length : Nat), .int (tvs.length : Nat), .int (pvs.length : Nat)])) := Same.new hp
            have npa : p ≠ a := fun z => by rw [z, i5] at hp; cases hp
            have hp0 : H p = none := by
              cases e : H p with
              | none => rfl
              | some o => rw [b5 p o (s03 _ _ e) npa] at hp; cases hp
            refine k p _ (fun b o e n => s5 _ _ (b5 b o (s03 _ _ e) n)) ⟨dx, .ref g, pv, m', s5 _ _ i5, (ProgAt.keep kp Xv0).mono s5, G', rfl, ⟨m, ((X.prog.mono s03).keep kp).mono s5, X.good, X.mp⟩⟩ hp0 (upd_same.trans ?_)
            rw [l1, l2, l3]
            rfl
end
end Pf
namespace Pf
open PySem PySem.Spec PyProof.Rows L2 SX
open C8 (Cal Met Mak Def cal0 met0 mak0 pe_c pe_mk pe_mt pe_mt0 pe_gc fnScope fnBody fnArgs fnScope_by)
def spHouse (A : Ad) (c : Nat → Ty01.Call) : Sp := fun vs H Q _ => ∃ (s : Ty01.St) (a : Addr) (k : Nat), vs = [.ref a, .int (k : Nat)] ∧ HouseAt A H s a ∧ Ans H (Ty01.step s (c k)).2 Q
def spHouse0 (A : Ad) (c : Ty01.Call) : Sp := fun vs H Q _ => ∃ (s : Ty01.St) (a : Addr), vs = [.ref a] ∧ HouseAt A H s a ∧ Ans H (Ty01.step s c).2 Q
theorem firstFrom_mem {p : Ty01.Program} {b : List Ty01.Tok} : ∀ {l : List (List Val)} {i j : Nat} {e : List Val} {y : Nat}, Ty01.firstFrom p b i l = some (j, e, y) → e ∈ l
  | [], _, _, _, _, h => by cases h
  | x :: l, i, j, e, y, h => by
    unfold Ty01.firstFrom at h
    split at h
    · cases h; exact List.mem_cons_self ..
    · exact List.mem_cons_of_mem _ (firstFrom_mem h)
theorem told_len {x : Val} (h : ValOk x) : (Ty01.toldVal x).length ≤ 20 := by
  cases x with
  | n x => show 2 ≤ 20; decide
  | l xs =>
    have h : xs.length ≤ 10 ∧ _ := h
    show xs.length + 1 + 1 ≤ 20
    omega
theorem notest {s : Ty01.St} {k : Nat} (h : ¬ k < s.prog.tests.length) (f : Ty01.Test → List Int) : Ty01.onTest s k f = [-2] := by
  unfold Ty01.onTest
  rw [List.getElem?_eq_none (by omega)]
theorem atest {s : Ty01.St} {k : Nat} {t : Ty01.Test} (h : s.prog.tests[k]? = some t) (f : Ty01.Test → List Int) : Ty01.onTest s k f = f t := by
  unfold Ty01.onTest
  rw [h]
/-- a test of the house's program -/
theorem HoIn.test {A : Ad} {H : Hp} {s : Ty01.St} {a dx : Addr} {pv ev : V} {m : MP} (X : HoIn A H s a dx pv ev m) {k : Nat} (hk : k < s.prog.tests.length) :
    ∃ (t : Ty01.Test) (st : Nat) (g gdx cd pl fn ts tk : Addr) (tvs : List V) (tv : V), s.prog.tests[k]? = some t ∧ pv = .ref g ∧ ProgIn A H m g gdx cd pl fn ts tk ∧ H ts = some (.lst tvs) ∧ tvs[k]? = some tv ∧ TestAt A H t st tv ∧ TestIn s.prog m.code m.fst t st := by
  obtain ⟨g, gdx, cd, pl, fn, ts, tk, e, Y⟩ := X.prog
  obtain ⟨tvs, hts, pts⟩ := Y.tests
  have hm : m.p.tests[k]? = some (s.prog.tests[k]'hk) := by rw [X.mp]; exact List.getElem?_eq_getElem hk
  obtain ⟨st, hst⟩ := zip_get2 (Good.tl' X.good) hm
  obtain ⟨tv, h1, h2⟩ := LiI.paired_get pts hst
  refine ⟨_, st, g, gdx, cd, pl, fn, ts, tk, tvs, tv, List.getElem?_eq_getElem hk, e, Y, hts, h1, h2, ?_⟩
  have := X.good.T k _ st hm (by
    rw [List.getElem?_zip_eq_some] at hst
    exact hst.2)
  rw [X.mp] at this
  exact this
section
variable {P : PySem.Program} {w : World} {K : PySem.W.Frag} {mg : Str → Option Value} {base : Heap} {A : Ad}
theorem ok_test (T : Tp K mg A) (cH : Met P w K mg base 1 A.H "has_test" (spHasTest A) []) (cL : Cal P w K mg base 7 "least_failing" (spLeast A) []) (cI : Cal P w K mg base 3 "inputs_of" spInputs []) (cT : Cal P w K mg base 2 "told" spTold [])
    {f : Addr} {fd : FuncData} (F : C8.Fun K "test" "House.test" (inClass (top 94) 4) f fd) (me : Meth K A.H "test" f) (b : Binds K fd ["self", "k"] []) : Met P w K mg base 8 A.H "test" (spHouse A .test) [] := by
  have sc : FnScope ["self", "k", "test", "failing", "answer", "value"] ["self", "k"] (fnScope (inClass (top 94) 4)) := fnScope_by (by decide +kernel)
  refine met0 T.cH me F b sc (fun vs H Q E h => ?_) (fun cdv A' outer s H vs Q E hr h => ?_)
  · obtain ⟨st, a, k, rfl, _⟩ := h
    rfl
  · obtain ⟨st, a, k, rfl, X, q⟩ := h
    refine ⟨_, pss_cons (ps_if (pt_not (pt_val (pe_mt cH hr (by decide) (pv 0) (pa_cons (pv 1) pa_nil)))) (pss_one (ps_ret (pe_lst (pa_cons (pe_un un_neg pe_int) pa_nil)))) pss_nil)
      (pss_cons (ps_set (i := 2) sc.nd rfl (.inl rfl) (pe_ix ix_list (pe_fld (pe_fld (pv 0) rfl) rfl) (pv 1) (fun _ _ => rfl)))
      (pss_cons (ps_set (i := 3) sc.nd rfl (.inl rfl) (pe_c cL hr (by decide) (by rfl) (pa_cons (pe_fld (pe_fld (pv 0) rfl) rfl) (pa_cons (pv 2) pa_nil))))
      (pss_cons (ps_if (pt_cmpR op_isN (pv 3) pe_non (nomark _)) (pss_one (ps_ret (pe_lst (pa_cons pe_int (pa_cons (pe_callB call_len_seq (by rfl) T.b_len PySem.boot_len (pa_cons (pe_c cI hr (by decide) (by rfl) (pa_cons (pe_fld (pv 2) rfl) pa_nil)) pa_nil)) pa_nil))))) pss_nil)
      (pss_cons (ps_set (i := 4) sc.nd rfl (.inl rfl) (pe_lst (pa_cons pe_int (pa_cons (pe_ix ix_tup (pv 3) pe_int (fun _ _ => rfl)) (pa_cons (pe_ix ix_tup (pv 3) pe_int (fun _ _ => rfl)) pa_nil)))))
      (pss_cons (ps_for PassesOwn.never rfl (pi_list (pe_ix ix_tup (pv 3) pe_int (fun _ _ => rfl))) (pg_name (i := 5) sc.nd rfl (.inl rfl))
        (pss_one (ps_expr (pe_bm PySem.F.plainAttrs_list PySem.F.slot_list_extend PySem.F.type_list_extend mt_extend (pv 4) (pa_cons (pe_c cT hr (by decide) (by rfl) (pa_cons (pv 5) pa_nil)) pa_nil)))))
      (pss_one (ps_ret (pv 4)))))))), ?_⟩
    have X0 := X
    obtain ⟨dx, pv, ev, m, X⟩ := X
    have q : Ans H (Ty01.onTest st k fun t => match Ty01.firstBad st.prog t with
      | none => Ty01.ints [1, (Ty01.inputs t.shapes).length]
      | some (i, e, w) => Ty01.ints ([0, w, i] ++ e.flatMap Ty01.toldVal)) Q := q
    refine ⟨_, rfl, a, dx, _, rfl, X.ins, hl_none (by decide +kernel), _, rfl, st, a, k, rfl, X0, _, rfl, ?_⟩
    refine if_of (fun c => ?_) (fun c => ?_)
    · have c : ¬ k < st.prog.tests.length := by simpa using c
      rw [notest c] at q
      exact ⟨_, rfl, (by show 1 ≤ sizeLine; decide), fun p hp => q p _ (Same.new hp) hp upd_same⟩
    · have c : k < st.prog.tests.length := by simpa using c
      obtain ⟨t, ss, g, gdx, cd, pl, fn, ts, tk, tvs, tv, ht, rfl, Y, hts, htv, tx, ti⟩ := X.test c
      rw [atest ht] at q
      have tx0 := tx
      obtain ⟨ta, tdx, tr, rfl, f1, f2⟩ := tx
      refine ⟨_, rfl, a, _, dx, _, _, rfl, X.ins, T.cH, T.h_program, hl_program, g, _, gdx, _, _, rfl, Y.ins, T.cG, T.g_tests, gl_tests, _, rfl, ts, _, _, _, rfl, rfl, SqL.of hts, atI_nat htv, ?_⟩
      refine ⟨_, rfl, a, _, dx, _, _, rfl, X.ins, T.cH, T.h_program, hl_program, g, _, gdx, _, _, rfl, Y.ins, T.cG, T.g_code, gl_code, _, rfl, st.prog, t, cd, _, rfl, ⟨m.code, m.fst, ss, Y.code, tx0, ti⟩, ?_, ?_⟩
      · intro hb H1 s1
        rw [hb] at q
        simp only at q
        refine ⟨_, rfl, rfl, _, rfl, if_true_of rfl ?_⟩
        refine ⟨_, rfl, ta, _, tdx, _, _, rfl, s1 _ _ f1, T.cT, T.t_shapes, tl_shapes, t.shapes, rfl, ti.len, ti.sh, fun pi H2 us s2 np hp hu => ?_⟩
        refine ⟨pi, us, rfl, .inl (SqL.of hp), (by show 2 ≤ sizeLine; decide), fun p hp' => ?_⟩
        have lu := Paired.length hu
        rw [← lu]
        exact q.nat p _ (s1.trans (s2.trans (Same.new hp'))) ((s1.trans s2).free hp') upd_same
      · intro i env y hb H1 r h us s1 hr1 hh hus
        rw [hb] at q
        simp only at q
        refine ⟨_, rfl, rfl, _, rfl, if_false_of rfl ?_⟩
        refine ⟨_, rfl, r, _, _, _, rfl, rfl, SqT.of hr1, atI_nat (j := 2) rfl, _, rfl, r, _, _, _, rfl, rfl, SqT.of hr1, atI_nat (j := 0) rfl, (by show 3 ≤ sizeLine; decide), fun D hD => ?_⟩
        have s2 : Same H1 (upd H1 D (.lst [.int 0, .int (y : Nat), .int (i : Nat)])) := Same.new hD
        refine ⟨_, rfl, r, _, _, _, rfl, rfl, SqT.of (s2 _ _ hr1), atI_nat (j := 1) rfl, h, rfl, ⟨_, SqL.of (s2 _ _ hh)⟩, ?_⟩
        have lu : env.length = us.length := Paired.length hus
        obtain ⟨in1, in2⟩ := inputs_ok ti.len ti.sh
        obtain ⟨el, eok⟩ := in1 env (firstFrom_mem hb)
        have el2 : env.length ≤ 2 := by have := ti.len; omega
        refine for_it (walk_list (K := K) (a := h) (xs := us)) (fun j σ H' => ∃ o5 : Option V, σ = [some (.ref a), some (.int (k : Nat)), some (.ref ta), some (.ref r), some (.ref D), o5] ∧ Same H1 H' ∧ H' D = some (.lst (iV ([0, y, i] ++ (env.take j).flatMap Ty01.toldVal))) ∧ ((env.take j).flatMap Ty01.toldVal).length ≤ 20 * j)
          ⟨none, rfl, s2, upd_same, Nat.zero_le _⟩ (fun j σ H' _ ⟨_, _, s, _⟩ => SqL.of (s _ _ hh)) ?_ ?_
        · rintro j u σ H3 H4 hj ⟨o5, rfl, j1, j2, j3⟩ ⟨rfl, hu⟩
          obtain ⟨x, hx⟩ : ∃ x, env[j]? = some x := ⟨_, List.getElem?_eq_getElem (by omega)⟩
          have hv := pd_at hus hx hu
          have ox := eok x (List.mem_of_getElem? hx)
          have ltx := told_len ox
          refine ⟨_, rfl, .inl ⟨rfl, _, SqL.of j2⟩, _, rfl, x, u, rfl, hv.mono j1, ox, fun p H5 s5 np hp => ?_⟩
          have nlen : ((env.take (j + 1)).flatMap Ty01.toldVal) = (env.take j).flatMap Ty01.toldVal ++ Ty01.toldVal x := by
            rw [take_next hx, List.flatMap_append, List.flatMap_cons, List.flatMap_nil, List.append_nil]
          refine ⟨D, p, _, _, rfl, rfl, s5 _ _ j2, hp, ?_, _, rfl, Same.put (j1.trans s5) hD, upd_same.trans ?_, ?_⟩
          · rw [List.length_map, List.length_map, List.length_append]
            show _ ≤ 2 ^ 24
            simp only [List.length_cons, List.length_nil]
            omega
          · rw [nlen, ← List.append_assoc, ← List.map_append]
          · rw [nlen, List.length_append]; omega
        · rintro σ H3 ⟨o5, rfl, j1, j2, j3⟩
          rw [← lu, List.take_length] at j2
          refine ⟨_, rfl, ?_⟩
          exact q.nat D H3 (s1.trans j1) (s1.free hD) j2
end
end Pf
namespace Pf
open PySem PySem.Spec PyProof.Rows L2 SX
open C8 (Cal Met Mak Def cal0 met0 mak0 pe_c pe_mk pe_mt pe_mt0 pe_gc fnScope fnBody fnArgs fnScope_by)
def spHRun (A : Ad) : Sp := fun vs H Q _ => ∃ (s : Ty01.St) (a ln : Addr) (k : Nat) (ns : List Nat), vs = [.ref a, .int (k : Nat), .ref ln] ∧ HouseAt A H s a ∧ H ln = some (.lst (iV ns)) ∧ ns.length ≤ 1000 ∧ Ans H (Ty01.step s (.run k ns)).2 Q
section
variable {P : PySem.Program} {w : World} {K : PySem.W.Frag} {mg : Str → Option Value} {base : Heap} {A : Ad}
theorem ok_run (T : Tp K mg A) (cH : Met P w K mg base 1 A.H "has_test" (spHasTest A) []) (cV : Cal P w K mg base 2 "read_values" spReadV []) (cR : Cal P w K mg base 6 "run_test" (spRunTest A) []) (cT : Cal P w K mg base 2 "told" spTold []) (cU : Met P w K mg base 1 A.R "value" (spValue A) [])
    {f : Addr} {fd : FuncData} (F : C8.Fun K "run" "House.run" (inClass (top 94) 6) f fd) (me : Meth K A.H "run" f) (b : Binds K fd ["self", "k", "numbers"] []) : Met P w K mg base 7 A.H "run" (spHRun A) [] := by
  have sc : FnScope ["self", "k", "numbers", "test", "given", "run"] ["self", "k", "numbers"] (fnScope (inClass (top 94) 6)) := fnScope_by (by decide +kernel)
  refine met0 T.cH me F b sc (fun vs H Q E h => ?_) (fun cdv A' outer s H vs Q E hr h => ?_)
  · obtain ⟨st, a, ln, k, ns, rfl, _⟩ := h
    rfl
  · obtain ⟨st, a, ln, k, ns, rfl, X, hln, lns, q⟩ := h
    refine ⟨_, pss_cons (ps_if (pt_not (pt_val (pe_mt cH hr (by decide) (pv 0) (pa_cons (pv 1) pa_nil)))) (pss_one (ps_ret (pe_lst (pa_cons (pe_un un_neg pe_int) pa_nil)))) pss_nil)
      (pss_cons (ps_set (i := 3) sc.nd rfl (.inl rfl) (pe_ix ix_list (pe_fld (pe_fld (pv 0) rfl) rfl) (pv 1) (fun _ _ => rfl)))
      (pss_cons (ps_set (i := 4) sc.nd rfl (.inl rfl) (pe_c cV hr (by decide) (by rfl) (pa_cons (pv 2) (pa_cons (pe_fld (pv 3) rfl) pa_nil))))
      (pss_cons (ps_if (pt_cmpR op_isN (pv 4) pe_non (nomark _)) (pss_one (ps_ret (pe_lst (pa_cons (pe_un un_neg pe_int) pa_nil)))) pss_nil)
      (pss_cons (ps_set (i := 5) sc.nd rfl (.inl rfl) (pe_c cR hr (by decide) (by rfl) (pa_cons (pe_fld (pe_fld (pv 0) rfl) rfl) (pa_cons (pv 3) (pa_cons (pv 4) pa_nil)))))
      (pss_cons (ps_if (pt_cmpR op_ne (pe_fld (pv 5) rfl) (pe_gc (by rfl) T.NONE) (nomark _)) (pss_one (ps_ret (pe_lst (pa_cons pe_int (pa_cons (pe_fld (pv 5) rfl) (pa_cons (pe_fld (pv 5) rfl) pa_nil)))))) pss_nil)
      (pss_one (ps_ret (pe_op op_cat (pe_lst (pa_cons pe_int (pa_cons (pe_fld (pv 5) rfl) pa_nil))) (pe_c cT hr (by decide) (by rfl) (pa_cons (pe_mt0 cU hr (by decide) (pv 5)) pa_nil)))))))))), ?_⟩
    have X0 := X
    obtain ⟨dx, pv, ev, m, X⟩ := X
    have q : Ans H (Ty01.onTest st k fun t => match Ty01.valsFrom t.shapes ns with
      | none => [-1]
      | some e => match (Ty01.runOne st.prog t.body e).val with
        | .ok v => Ty01.ints (1 :: (100 - (Ty01.runOne st.prog t.body e).left) :: Ty01.toldVal v)
        | .error w => Ty01.ints [0, 100 - (Ty01.runOne st.prog t.body e).left, w]) Q := q
    refine ⟨_, rfl, a, dx, _, rfl, X.ins, hl_none (by decide +kernel), _, rfl, st, a, k, rfl, X0, _, rfl, ?_⟩
    refine if_of (fun c => ?_) (fun c => ?_)
    · have c : ¬ k < st.prog.tests.length := by simpa using c
      rw [notest c] at q
      exact ⟨_, rfl, (by show 1 ≤ sizeLine; decide), fun p hp => q p _ (Same.new hp) hp upd_same⟩
    · have c : k < st.prog.tests.length := by simpa using c
      obtain ⟨t, ss, g, gdx, cd, pl, fn, ts, tk, tvs, tv, ht, rfl, Y, hts, htv, tx, ti⟩ := X.test c
      rw [atest ht] at q
      have tx0 := tx
      obtain ⟨ta, tdx, tr, rfl, f1, f2⟩ := tx
      refine ⟨_, rfl, a, _, dx, _, _, rfl, X.ins, T.cH, T.h_program, hl_program, g, _, gdx, _, _, rfl, Y.ins, T.cG, T.g_tests, gl_tests, _, rfl, ts, _, _, _, rfl, rfl, SqL.of hts, atI_nat htv, ?_⟩
      refine ⟨_, rfl, _, rfl, ta, _, tdx, _, _, rfl, f1, T.cT, T.t_shapes, tl_shapes, ln, ns, t.shapes, rfl, hln, lns, ti.sh, (by have := ti.len; omega), ?_, ?_⟩
      · intro hv H1 s1
        rw [hv] at q
        simp only at q
        refine ⟨_, rfl, rfl, _, rfl, if_true_of rfl ?_⟩
        exact ⟨_, rfl, (by show 1 ≤ sizeLine; decide), fun p hp => q p _ (s1.trans (Same.new hp)) (s1.free hp) upd_same⟩
      · intro env hv pe H1 us s1 hpe hus
        rw [hv] at q
        simp only at q
        obtain ⟨v1, v2⟩ := valsFrom_ok _ _ _ hv
        obtain ⟨n, e, R⟩ := run_one ti v1 v2
        refine ⟨_, rfl, rfl, _, rfl, if_false_of rfl ?_⟩
        have Y1 := Y.mono s1
        refine ⟨_, rfl, a, _, dx, _, _, rfl, s1 _ _ X.ins, T.cH, T.h_program, hl_program, g, _, gdx, _, _, rfl, Y1.ins, T.cG, T.g_code, gl_code, _, rfl, _, rfl, ?_⟩
        refine ⟨m.fst, m.code, t, ss, n, e, cd, _, pe, us, env, rfl, Y1.code, ti.ok, tx0.mono s1, hpe, hus, R.runs, fun Hi H4 r rdx re td rs s4 Z => ?_⟩
        have s04 : Same H H4 := s1.trans (s4.trans Z.sm)
        refine ⟨_, rfl, r, _, rdx, _, _, rfl, Z.ins, T.cR, T.r_why, rl_why, rfl, _, rfl, ?_⟩
        have est := R.st
        cases hval : (Ty01.runOne st.prog t.body env).val with
        | error y =>
          rw [hval] at q
          simp only at q
          obtain ⟨w1, w2⟩ := R.er y hval
          refine if_true_of (by rw [decide_eq_false (fun z => by have := V.int.inj z; omega)]; rfl) ?_
          refine ⟨_, rfl, r, _, rdx, _, _, rfl, Z.ins, T.cR, T.r_steps, rl_steps, _, rfl, r, _, rdx, _, _, rfl, Z.ins, T.cR, T.r_why, rl_why, (by show 3 ≤ sizeLine; decide), fun p hp => ?_⟩
          refine q.nat p _ (s04.trans (Same.new hp)) (s04.free hp) (upd_same.trans ?_)
          rw [w1, est]
          rfl
        | ok v =>
          rw [hval] at q
          simp only at q
          obtain ⟨w1, w2, w3⟩ := R.ok v hval
          refine if_false_of (by rw [w1]; rfl) ?_
          refine ⟨_, rfl, r, _, rdx, _, _, rfl, Z.ins, T.cR, T.r_steps, rl_steps, (by show 2 ≤ sizeLine; decide), fun L hL => ?_⟩
          have Z2 := Z.new (o := .lst [.int 1, .int (e.steps : Nat)]) hL
          have s5 : Same H4 (upd H4 L (.lst [.int 1, .int (e.steps : Nat)])) := Same.new hL
          refine ⟨_, rfl, r, rdx, _, rfl, Z2.ins, rl_none (by decide +kernel), ?_⟩
          refine ⟨m.fst, m.code, _, r, rdx, cd, re, td, rs, e, v, [], rfl, Z2, w2, fun u hu => ?_⟩
          have hu5 := ValAt.mono Z2.sm hu
          refine ⟨v, u, rfl, hu5, w3, fun p H6 s6 np hp => ?_⟩
          have lv := told_len w3
          refine ⟨L, p, _, _, rfl, rfl, s6 _ _ upd_same, hp, (by rw [List.length_map]; show 2 + _ ≤ 2 ^ 24; omega), fun rp hrp => ?_⟩
          have s07 : Same H (upd H6 rp (.lst ([.int 1, .int (e.steps : Nat)] ++ iV (Ty01.toldVal v)))) := s04.trans (s5.trans (s6.trans (Same.new hrp)))
          refine q.nat rp _ s07 ((s04.trans (s5.trans s6)).free hrp) (upd_same.trans ?_)
          rw [est]
          rfl
end
end Pf
namespace Pf
open PySem PySem.Spec PyProof.Rows L2 SX
open C8 (Cal Met Mak Def cal0 met0 mak0 pe_c pe_mk pe_mt pe_mt0 pe_gc fnScope fnBody fnArgs fnScope_by)
theorem natI_sum : ∀ l : List Nat, (natI l).sum = (l.sum : Int)
  | [] => rfl
  | x :: l => by
    show (x : Int) + (natI l).sum = _
    rw [natI_sum l, List.sum_cons]
    omega
theorem iV_nat (l : List Nat) : iV l = (natI l).map V.int := by unfold natI; rw [List.map_map]; rfl
def markOf (p : Ty01.Program) (t : Ty01.Test) : Nat := if Ty01.holds p t = true then 1 else 0
section
variable {P : PySem.Program} {w : World} {K : PySem.W.Frag} {mg : Str → Option Value} {base : Heap} {A : Ad}
theorem ok_all_tests (T : Tp K mg A) (cH : Cal P w K mg base 8 "holds" (spHolds A) [])
    {f : Addr} {fd : FuncData} (F : C8.Fun K "all_tests" "House.all_tests" (inClass (top 94) 5) f fd) (me : Meth K A.H "all_tests" f) (b : Binds K fd ["self"] []) : Met P w K mg base 9 A.H "all_tests" (spHouse0 A .all) [] := by
  have sc : FnScope ["self", "marks", "test"] ["self"] (fnScope (inClass (top 94) 5)) := fnScope_by (by decide +kernel)
  refine met0 T.cH me F b sc (fun vs H Q E h => ?_) (fun cdv A' outer s H vs Q E hr h => ?_)
  · obtain ⟨st, a, rfl, _⟩ := h
    rfl
  · obtain ⟨st, a, rfl, X, q⟩ := h
    refine ⟨_, pss_cons (ps_setLc (i := 1) (own := [("test", 2)]) (g := gName 2) (tt := tYes) (te := tIf (tB (tCall (spHolds A) [] C8.E0 (tCons (tFld K (tFld K (tVar 0) "program") "code") (tCons (tVar 2) tNil)))) (tC (.int 1)) (tC (.int 0))) rfl sc.nd rfl rfl rfl (pi_list (pe_fld (pe_fld (pv 0) rfl) rfl)) (blkOk_by (N := ["self", "marks", "test"]) (sc := fnScope (inClass (top 94) 5)) (by decide +kernel)) (fun _ _ _ _ _ => pg_name (i := 2) sc.nd rfl (Or.inl rfl)) (fun _ _ _ _ _ => pts_nil) (fun _ _ _ _ _ => pe_ifExp (pt_val (pe_c cH hr (by decide) (by rfl) (pa_cons (pe_fld (pe_fld (pv 0) rfl) rfl) (pa_cons (pv 2) pa_nil)))) pe_int pe_int))
      (pss_one (ps_ret (pe_op op_cat (pe_lst (pa_cons (pe_callB (cr_sum rfl) (by rfl) T.b_sum (by decide +kernel) (pa_cons (pv 1) pa_nil)) pa_nil)) (pv 1)))), ?_⟩
    obtain ⟨dx, pv, ev, m, X⟩ := X
    obtain ⟨g, gdx, cd, pl, fn, ts, tk, rfl, Y⟩ := X.prog
    obtain ⟨tvs, hts, pts⟩ := Y.tests
    have lt := Paired.length pts
    have e2 := TS_len X.good
    have b2 := X.good.tn
    have q : Ans H (Ty01.ints ((m.p.tests.map (markOf m.p)).sum :: m.p.tests.map (markOf m.p))) Q := by
      rw [X.mp]; exact q
    refine ⟨_, rfl, a, _, dx, _, _, rfl, X.ins, T.cH, T.h_program, hl_program, g, _, gdx, _, _, rfl, Y.ins, T.cG, T.g_tests, gl_tests, ts, rfl, ⟨_, SqL.of hts⟩, fun D hD => ?_⟩
    refine lc_it (walk_list (K := K) (a := ts) (xs := tvs)) (fun j H' => Same H H' ∧ H' D = some (.lst (iV ((m.p.tests.take j).map (markOf m.p)))))
      ⟨Same.new hD, upd_same⟩ (fun j H' _ B => SqL.of (B.1 _ _ hts)) ?_ ?_
    · rintro j u H2 H3 hj ⟨c1, c2⟩ ⟨rfl, hu⟩
      obtain ⟨x, hx⟩ : ∃ x, m.TS[j]? = some x := ⟨_, List.getElem?_eq_getElem (by omega)⟩
      have tx := pd_at pts hx hu
      have hx1 := zip_get1 hx
      have ti := X.good.T j x.1 x.2 hx1 (by rw [List.getElem?_zip_eq_some] at hx; exact hx.2)
      have Y2 := Y.mono c1
      have fin : ∀ H4, Same H3 H4 → ∀ n : Nat, n = markOf m.p x.1 → (upd H4 D (.lst (iV ((m.p.tests.take j).map (markOf m.p)) ++ [.int (n : Nat)]))) D = some (.lst (iV ((m.p.tests.take (j + 1)).map (markOf m.p)))) := fun H4 s4 n hn => by
        rw [upd_same, take_next hx1, List.map_append, hn]
        show some (HO.lst _) = some (HO.lst (List.map _ (_ ++ _)))
        rw [List.map_append]
        rfl
      refine ⟨rfl, _, rfl, a, _, dx, _, _, rfl, c1 _ _ X.ins, T.cH, T.h_program, hl_program, g, _, gdx, _, _, rfl, Y2.ins, T.cG, T.g_code, gl_code, _, rfl, m.p, x.1, cd, u, rfl, ⟨m.code, m.fst, x.2, Y2.code, TestAt.mono c1 tx, ti⟩, fun H4 s4 => ?_⟩
      refine ⟨_, rfl, ?_⟩
      refine if_of (fun c => ?_) (fun c => ?_)
      · refine ⟨_, s4 _ _ c2, (by rw [List.length_map, List.length_map, List.length_take]; show _ < 2 ^ 24; omega), Same.put (c1.trans s4) hD, fin H4 s4 1 (by unfold markOf; rw [if_pos c])⟩
      · refine ⟨_, s4 _ _ c2, (by rw [List.length_map, List.length_map, List.length_take]; show _ < 2 ^ 24; omega), Same.put (c1.trans s4) hD, fin H4 s4 0 (by unfold markOf; rw [c]; rfl)⟩
    · rintro H2 ⟨c1, c2⟩
      rw [show tvs.length = m.p.tests.length by omega, List.take_length] at c2
      have c2' := c2
      rw [iV_nat] at c2'
      refine ⟨_, rfl, D, _, rfl, SqL.of c2', (by show 1 ≤ sizeLine; decide), fun L hL => ?_⟩
      have s3 : Same H2 (upd H2 L (.lst [.int ((natI (m.p.tests.map (markOf m.p))).sum)])) := Same.new hL
      refine ⟨_, rfl, L, D, _, _, rfl, rfl, upd_same, s3 _ _ c2, (by rw [List.length_map, List.length_map]; show 1 + _ ≤ 2 ^ 24; omega), fun p hp => ?_⟩
      refine q.nat p _ (c1.trans (s3.trans (Same.new hp))) ((c1.trans s3).free hp) (upd_same.trans ?_)
      rw [natI_sum]
      rfl
end
end Pf
namespace Pf
open PySem PySem.Spec PyProof.Rows L2 SX
open C8 (Cal Met Mak Def cal0 met0 mak0 pe_c pe_mk pe_mt pe_mt0 pe_gc fnScope fnBody fnArgs fnScope_by)
theorem where_none {p : Ty01.Program} {i : Nat} (h : Ty01.total p ≤ i) : Ty01.whereFrom 0 i p.funs = none := by
  cases hw : Ty01.whereFrom 0 i p.funs with
  | none => rfl
  | some x =>
    obtain ⟨_, _, _, _, h3, _⟩ := (spoil_where p.funs 0 i).2 x.1 x.2 hw
    have h3 : i < Ty01.total p := h3
    omega
theorem HoIn.place {A : Ad} {H : Hp} {s : Ty01.St} {a dx : Addr} {pv ev : V} {m : MP} (X : HoIn A H s a dx pv ev m) {i : Nat} (hi : i < Ty01.total s.prog) :
    ∃ (q : Pl4) (g gdx cd pl fn ts tk : Addr) (pvs : List V) (u : V), m.PL[i]? = some q ∧ pv = .ref g ∧ ProgIn A H m g gdx cd pl fn ts tk ∧ H pl = some (.lst pvs) ∧ pvs[i]? = some u ∧ PlaceAt A H q u := by
  obtain ⟨g, gdx, cd, pl, fn, ts, tk, e, Y⟩ := X.prog
  obtain ⟨pvs, hps, pps⟩ := Y.places
  obtain ⟨q, hq⟩ : ∃ q, m.PL[i]? = some q := ⟨_, List.getElem?_eq_getElem (by rw [PL_len X.good, X.mp]; exact hi)⟩
  obtain ⟨u, h1, h2⟩ := LiI.paired_get pps hq
  exact ⟨q, g, gdx, cd, pl, fn, ts, tk, pvs, u, hq, e, Y, hps, h1, h2⟩
theorem fewest_len {m : MP} (G : Good m) : (Ty01.fewest m.p).length ≤ 1000 := by
  have tn := G.tn
  unfold Ty01.fewest
  simp only
  cases hf : List.find? (fun c => Ty01.enough (Ty01.table m.p) c) ((List.range (m.p.tests.length + 1)).flatMap fun k => Ty01.choices k (List.range m.p.tests.length)) with
  | none => exact Nat.zero_le _
  | some c =>
    have hm := List.mem_of_find?_eq_some hf
    obtain ⟨k, hk, hc⟩ := List.mem_flatMap.mp hm
    have hk := List.mem_range.mp hk
    have := List.all_eq_true.mp (choices_low m.p.tests.length (by omega) k (by omega)) c hc
    rw [Bool.and_eq_true, decide_eq_true_eq] at this
    show c.length ≤ 1000
    omega
theorem seers_len {m : MP} (G : Good m) (i : Nat) : (Ty01.seers m.p i).length ≤ 1000 := by
  have tn := G.tn
  unfold Ty01.seers
  exact Nat.le_trans (List.length_filter_le _ _) (by rw [List.length_range]; omega)
section
variable {P : PySem.Program} {w : World} {K : PySem.W.Frag} {mg : Str → Option Value} {base : Heap} {A : Ad}
theorem ok_place (T : Tp K mg A) (cH : Met P w K mg base 1 A.H "has_place" (spHasPlace A) []) (cC : Cal P w K mg base 2 "can_be_spoilt" (spCan A) [])
    {f : Addr} {fd : FuncData} (F : C8.Fun K "place" "House.place" (inClass (top 94) 8) f fd) (me : Meth K A.H "place" f) (b : Binds K fd ["self", "i"] []) : Met P w K mg base 3 A.H "place" (spHouse A .place) [] := by
  have sc : FnScope ["self", "i", "place"] ["self", "i"] (fnScope (inClass (top 94) 8)) := fnScope_by (by decide +kernel)
  refine met0 T.cH me F b sc (fun vs H Q E h => ?_) (fun cdv A' outer s H vs Q E hr h => ?_)
  · obtain ⟨st, a, k, rfl, _⟩ := h
    rfl
  · obtain ⟨st, a, k, rfl, X, q⟩ := h
    refine ⟨_, pss_cons (ps_if (pt_not (pt_val (pe_mt cH hr (by decide) (pv 0) (pa_cons (pv 1) pa_nil)))) (pss_one (ps_ret (pe_lst (pa_cons (pe_un un_neg pe_int) pa_nil)))) pss_nil)
      (pss_cons (ps_set (i := 2) sc.nd rfl (.inl rfl) (pe_ix ix_list (pe_fld (pe_fld (pv 0) rfl) rfl) (pv 1) (fun _ _ => rfl)))
      (pss_one (ps_ret (pe_lst (pa_cons (pe_fld (pv 2) rfl) (pa_cons (pe_fld (pv 2) rfl) (pa_cons (pe_ifExp (pt_val (pe_c cC hr (by decide) (by rfl) (pa_cons (pe_fld (pv 0) rfl) (pa_cons (pv 2) pa_nil)))) pe_int pe_int) pa_nil))))))), ?_⟩
    have X0 := X
    obtain ⟨dx, pv, ev, m, X⟩ := X
    have q : Ans H (match Ty01.whereFrom 0 k st.prog.funs with
      | none => [-2]
      | some x => Ty01.ints [x.1, x.2, if (Ty01.spoilt st.prog k).isSome = true then 1 else 0]) Q := q
    refine ⟨_, rfl, a, dx, _, rfl, X.ins, hl_none (by decide +kernel), _, rfl, st, a, k, rfl, X0, _, rfl, ?_⟩
    refine if_of (fun c => ?_) (fun c => ?_)
    · have c : ¬ k < Ty01.total st.prog := by simpa using c
      rw [where_none (by omega)] at q
      exact ⟨_, rfl, (by show 1 ≤ sizeLine; decide), fun p hp => q p _ (Same.new hp) hp upd_same⟩
    · have c : k < Ty01.total st.prog := by simpa using c
      obtain ⟨qq, g, gdx, cd, pl, fn, ts, tk, pvs, u, hq, rfl, Y, hps, hu, px⟩ := X.place c
      have px0 := px
      obtain ⟨pa, pdx, rfl, f1⟩ := px
      obtain ⟨hh, s0, tok, I⟩ := place_is X.good hq
      rw [← X.mp, I.wh] at q
      simp only at q
      refine ⟨_, rfl, a, _, dx, _, _, rfl, X.ins, T.cH, T.h_program, hl_program, g, _, gdx, _, _, rfl, Y.ins, T.cG, T.g_places, gl_places, _, rfl, pl, _, _, _, rfl, rfl, SqL.of hps, atI_nat hu, ?_⟩
      refine ⟨_, rfl, pa, _, pdx, _, _, rfl, f1, T.cP, T.p_function, ll_function, _, rfl, pa, _, pdx, _, _, rfl, f1, T.cP, T.p_which, ll_which, ?_⟩
      refine ⟨_, rfl, a, _, dx, _, _, rfl, X.ins, T.cH, T.h_program, hl_program, _, rfl, m, k, qq, _, _, rfl, X.prog, X.good, hq, px0, fun H1 s1 => ?_⟩
      refine ⟨_, rfl, ?_⟩
      refine if_of (fun d => ?_) (fun d => ?_)
      · rw [if_pos d] at q
        exact ⟨(by show 3 ≤ sizeLine; decide), fun p hp => q.nat p _ (s1.trans (Same.new hp)) (s1.free hp) upd_same⟩
      · rw [if_neg (by rw [d]; decide)] at q
        exact ⟨(by show 3 ≤ sizeLine; decide), fun p hp => q.nat p _ (s1.trans (Same.new hp)) (s1.free hp) upd_same⟩
theorem ok_sees (T : Tp K mg A) (cH : Met P w K mg base 1 A.H "has_place" (spHasPlace A) []) (cC : Cal P w K mg base 2 "can_be_spoilt" (spCan A) []) (cS : Cal P w K mg base 10 "sight_of" (spSight A) []) (cN : Cal P w K mg base 1 "counted" spCounted [])
    {f : Addr} {fd : FuncData} (F : C8.Fun K "sees" "House.sees" (inClass (top 94) 9) f fd) (me : Meth K A.H "sees" f) (b : Binds K fd ["self", "i"] []) : Met P w K mg base 11 A.H "sees" (spHouse A .sees) [] := by
  have sc : FnScope ["self", "i", "place"] ["self", "i"] (fnScope (inClass (top 94) 9)) := fnScope_by (by decide +kernel)
  refine met0 T.cH me F b sc (fun vs H Q E h => ?_) (fun cdv A' outer s H vs Q E hr h => ?_)
  · obtain ⟨st, a, k, rfl, _⟩ := h
    rfl
  · obtain ⟨st, a, k, rfl, X, q⟩ := h
    refine ⟨_, pss_cons (ps_if (pt_not (pt_val (pe_mt cH hr (by decide) (pv 0) (pa_cons (pv 1) pa_nil)))) (pss_one (ps_ret (pe_lst (pa_cons (pe_un un_neg pe_int) pa_nil)))) pss_nil)
      (pss_cons (ps_set (i := 2) sc.nd rfl (.inl rfl) (pe_ix ix_list (pe_fld (pe_fld (pv 0) rfl) rfl) (pv 1) (fun _ _ => rfl)))
      (pss_cons (ps_if (pt_not (pt_val (pe_c cC hr (by decide) (by rfl) (pa_cons (pe_fld (pv 0) rfl) (pa_cons (pv 2) pa_nil))))) (pss_one (ps_ret (pe_lst (pa_cons (pe_un un_neg pe_int) pa_nil)))) pss_nil)
      (pss_one (ps_ret (pe_c cN hr (by decide) (by rfl) (pa_cons (pe_c cS hr (by decide) (by rfl) (pa_cons (pe_fld (pv 0) rfl) (pa_cons (pv 2) pa_nil))) pa_nil)))))), ?_⟩
    have X0 := X
    obtain ⟨dx, pv, ev, m, X⟩ := X
    have q : Ans H (if Ty01.total st.prog ≤ k then [-2] else if (Ty01.spoilt st.prog k).isNone = true then [-3] else Ty01.listed (Ty01.seers st.prog k)) Q := q
    refine ⟨_, rfl, a, dx, _, rfl, X.ins, hl_none (by decide +kernel), _, rfl, st, a, k, rfl, X0, _, rfl, ?_⟩
    refine if_of (fun c => ?_) (fun c => ?_)
    · have c : ¬ k < Ty01.total st.prog := by simpa using c
      rw [if_pos (by omega)] at q
      exact ⟨_, rfl, (by show 1 ≤ sizeLine; decide), fun p hp => q p _ (Same.new hp) hp upd_same⟩
    · have c : k < Ty01.total st.prog := by simpa using c
      rw [if_neg (by omega)] at q
      obtain ⟨qq, g, gdx, cd, pl, fn, ts, tk, pvs, u, hq, rfl, Y, hps, hu, px⟩ := X.place c
      rw [← X.mp] at q
      refine ⟨_, rfl, a, _, dx, _, _, rfl, X.ins, T.cH, T.h_program, hl_program, g, _, gdx, _, _, rfl, Y.ins, T.cG, T.g_places, gl_places, _, rfl, pl, _, _, _, rfl, rfl, SqL.of hps, atI_nat hu, ?_⟩
      refine ⟨_, rfl, a, _, dx, _, _, rfl, X.ins, T.cH, T.h_program, hl_program, _, rfl, m, k, qq, _, _, rfl, X.prog, X.good, hq, px, fun H1 s1 => ?_⟩
      refine ⟨_, rfl, ?_⟩
      refine if_of (fun d => ?_) (fun d => ?_)
      · rw [if_pos (by cases hs : Ty01.spoilt m.p k with | none => rfl | some x => rw [hs] at d; cases d)] at q
        exact ⟨_, rfl, (by show 1 ≤ sizeLine; decide), fun p hp => q p _ (s1.trans (Same.new hp)) (s1.free hp) upd_same⟩
      · have d : (Ty01.spoilt m.p k).isSome = true := by cases hs : Ty01.spoilt m.p k with | none => rw [hs] at d; cases d | some x => rfl
        rw [if_neg (by cases hs : Ty01.spoilt m.p k with | none => rw [hs] at d; cases d | some x => simp)] at q
        refine ⟨_, rfl, a, _, dx, _, _, rfl, s1 _ _ X.ins, T.cH, T.h_program, hl_program, _, rfl, m, k, qq, _, _, rfl, X.prog.mono s1, X.good, hq, d, px.mono s1, fun p H2 s2 np hp => ?_⟩
        exact ⟨p, _, rfl, hp, seers_len X.good k, fun p' H3 s3 np' hp' => q p' H3 (s1.trans (s2.trans s3)) ((s1.trans s2).free np') hp'⟩
theorem ok_fewest (T : Tp K mg A) (cF : Cal P w K mg base 11 "fewest_tests" (spFewest A) []) (cN : Cal P w K mg base 1 "counted" spCounted [])
    {f : Addr} {fd : FuncData} (F : C8.Fun K "fewest" "House.fewest" (inClass (top 94) 11) f fd) (me : Meth K A.H "fewest" f) (b : Binds K fd ["self"] []) : Met P w K mg base 12 A.H "fewest" (spHouse0 A .fewest) [] := by
  have sc : FnScope ["self"] ["self"] (fnScope (inClass (top 94) 11)) := fnScope_by (by decide +kernel)
  refine met0 T.cH me F b sc (fun vs H Q E h => ?_) (fun cdv A' outer s H vs Q E hr h => ?_)
  · obtain ⟨st, a, rfl, _⟩ := h
    rfl
  · obtain ⟨st, a, rfl, X, q⟩ := h
    refine ⟨_, pss_one (ps_ret (pe_c cN hr (by decide) (by rfl) (pa_cons (pe_c cF hr (by decide) (by rfl) (pa_cons (pe_fld (pv 0) rfl) pa_nil)) pa_nil))), ?_⟩
    obtain ⟨dx, pv, ev, m, X⟩ := X
    have q : Ans H (Ty01.listed (Ty01.fewest m.p)) Q := by rw [X.mp]; exact q
    refine ⟨_, rfl, a, _, dx, _, _, rfl, X.ins, T.cH, T.h_program, hl_program, m, _, rfl, X.prog, X.good, fun p H2 s2 hp => ?_⟩
    exact ⟨p, _, rfl, hp, fewest_len X.good, fun p' H3 s3 np' hp' => q p' H3 (s2.trans s3) (s2.free np') hp'⟩
theorem ok_touched (T : Tp K mg A) (cF : Cal P w K mg base 2 "touched_tests" (spTouched A) []) (cN : Cal P w K mg base 1 "counted" spCounted [])
    {f : Addr} {fd : FuncData} (F : C8.Fun K "touched" "House.touched" (inClass (top 94) 12) f fd) (me : Meth K A.H "touched" f) (b : Binds K fd ["self"] []) : Met P w K mg base 3 A.H "touched" (spHouse0 A .touched) [] := by
  have sc : FnScope ["self"] ["self"] (fnScope (inClass (top 94) 12)) := fnScope_by (by decide +kernel)
  refine met0 T.cH me F b sc (fun vs H Q E h => ?_) (fun cdv A' outer s H vs Q E hr h => ?_)
  · obtain ⟨st, a, rfl, _⟩ := h
    rfl
  · obtain ⟨st, a, rfl, X, q⟩ := h
    refine ⟨_, pss_cons (ps_if (pt_cmpR op_isN (pe_fld (pv 0) rfl) pe_non (nomark _)) (pss_one (ps_ret (pe_lst (pa_cons (pe_un un_neg pe_int) pa_nil)))) pss_nil)
      (pss_one (ps_ret (pe_c cN hr (by decide) (by rfl) (pa_cons (pe_c cF hr (by decide) (by rfl) (pa_cons (pe_fld (pv 0) rfl) (pa_cons (pe_fld (pv 0) rfl) pa_nil))) pa_nil)))), ?_⟩
    obtain ⟨dx, pv, ev, m, X⟩ := X
    have q : Ans H (match st.was with
      | none => [-3]
      | some o => Ty01.listed (Ty01.touched o st.prog)) Q := q
    have hw := X.was
    refine ⟨_, rfl, a, _, dx, _, _, rfl, X.ins, T.cH, T.h_earlier, hl_earlier, rfl, _, rfl, ?_⟩
    cases e : st.was with
    | none =>
      rw [e] at q hw
      have hw : ev = .non := hw
      subst hw
      refine if_true_of rfl ?_
      exact ⟨_, rfl, (by show 1 ≤ sizeLine; decide), fun p hp => q p _ (Same.new hp) hp upd_same⟩
    | some o =>
      rw [e] at q hw
      obtain ⟨mo, h1, h2, rfl⟩ := hw
      rw [← X.mp] at q
      have ne : ev ≠ .non := by
        obtain ⟨g, _, _, _, _, _, _, rfl, _⟩ := h1
        intro z; cases z
      refine if_false_of (decide_eq_false ne) ?_
      refine ⟨_, rfl, a, _, dx, _, _, rfl, X.ins, T.cH, T.h_earlier, hl_earlier, _, rfl, a, _, dx, _, _, rfl, X.ins, T.cH, T.h_program, hl_program, mo, m, _, _, rfl, h1, h2, X.prog, X.good, fun p H2 s2 hp => ?_⟩
      have tl : (Ty01.touched mo.p m.p).length ≤ 1000 := by
        have := X.good.tn
        unfold Ty01.touched
        exact Nat.le_trans (List.length_filter_le _ _) (by rw [List.length_range]; omega)
      exact ⟨p, _, rfl, hp, tl, fun p' H3 s3 np' hp' => q p' H3 (s2.trans s3) (s2.free np') hp'⟩
end
end Pf
namespace Pf
open PySem PySem.Spec PyProof.Rows L2 SX
open C8 (Cal Met Mak Def cal0 met0 mak0 pe_c pe_mk pe_mt pe_mt0 pe_gc fnScope fnBody fnArgs fnScope_by)
theorem where_psum : ∀ (l : List Ty01.Fun) (f i g j : Nat), Ty01.whereFrom f i l = some (g, j) → f ≤ g ∧ i = psum l (g - f) + j
  | [], f, i, g, j, h => by cases h
  | x :: l, f, i, g, j, h => by
    unfold Ty01.whereFrom at h
    split at h
    · cases h
      rw [Nat.sub_self]
      exact ⟨Nat.le_refl _, (Nat.zero_add _).symm⟩
    · rename_i c
      obtain ⟨h1, h2⟩ := where_psum l (f + 1) _ g j h
      refine ⟨by omega, ?_⟩
      rw [show g - f = (g - (f + 1)) + 1 by omega]
      have : psum (x :: l) (g - (f + 1) + 1) = x.body.length + psum l (g - (f + 1)) := by
        unfold psum
        rw [List.take_succ_cons, List.map_cons, List.sum_cons]
      rw [this]
      omega
theorem seenK_some (sn : List Nat) (n : Nat) : (valV (seenK sn) (Sum.inl (n : Int))).isSome = decide (n ∈ sn) := by
  induction sn with
  | nil => rfl
  | cons x sn ih =>
    show (valV ((Sum.inl (x : Int), V.bl true) :: seenK sn) (Sum.inl (n : Int))).isSome = _
    by_cases e : x = n
    · rw [valV_pos (p := (Sum.inl (x : Int), V.bl true)) (by rw [e])]
      exact (decide_eq_true (by rw [e]; exact List.mem_cons_self ..)).symm
    · rw [valV_neg (p := (Sum.inl (x : Int), V.bl true)) (fun z => e (by have := Sum.inl.inj z; omega)), ih]
      exact decide_eq_decide.mpr ⟨List.mem_cons_of_mem _, fun h => (List.mem_cons.mp h).resolve_left fun z => e z.symm⟩
def reachB (p : Ty01.Program) (t : Ty01.Test) (i : Nat) : Bool := ((Ty01.inputs t.shapes).map fun e => (Ty01.runOne p t.body e).seen).any fun l => l.contains i
theorem reachB_iff {p : Ty01.Program} {t : Ty01.Test} {i : Nat} : reachB p t i = true ↔ ∃ env ∈ Ty01.inputs t.shapes, i ∈ (Ty01.runOne p t.body env).seen := by
  unfold reachB
  rw [List.any_map, List.any_eq_true]
  constructor
  · rintro ⟨e, h1, h2⟩
    exact ⟨e, h1, by simpa using h2⟩
  · rintro ⟨e, h1, h2⟩
    exact ⟨e, h1, by simpa using h2⟩
section
variable {P : PySem.Program} {w : World} {K : PySem.W.Frag} {mg : Str → Option Value} {base : Heap} {A : Ad}
theorem ok_reach (T : Tp K mg A) (cH : Met P w K mg base 1 A.H "has_test" (spHasTest A) []) (cR : Cal P w K mg base 7 "reached_by" (spReached A) []) (cN : Cal P w K mg base 1 "counted" spCounted [])
    {f : Addr} {fd : FuncData} (F : C8.Fun K "reach" "House.reach" (inClass (top 94) 7) f fd) (me : Meth K A.H "reach" f) (b : Binds K fd ["self", "k"] []) : Met P w K mg base 8 A.H "reach" (spHouse A .reach) [] := by
  have sc : FnScope ["self", "k", "reached", "i", "place"] ["self", "k"] (fnScope (inClass (top 94) 7)) := fnScope_by (by decide +kernel)
  refine met0 T.cH me F b sc (fun vs H Q E h => ?_) (fun cdv A' outer s H vs Q E hr h => ?_)
  · obtain ⟨st, a, k, rfl, _⟩ := h
    rfl
  · obtain ⟨st, a, k, rfl, X, q⟩ := h
    refine ⟨_, pss_cons (ps_if (pt_not (pt_val (pe_mt cH hr (by decide) (pv 0) (pa_cons (pv 1) pa_nil)))) (pss_one (ps_ret (pe_lst (pa_cons (pe_un un_neg pe_int) pa_nil)))) pss_nil)
      (pss_cons (ps_set (i := 2) sc.nd rfl (.inr rfl) (pe_c cR hr (by decide) (by rfl) (pa_cons (pe_fld (pe_fld (pv 0) rfl) rfl) (pa_cons (pe_ix ix_list (pe_fld (pe_fld (pv 0) rfl) rfl) (pv 1) (fun _ _ => rfl)) pa_nil))))
      (pss_one (ps_ret (pe_c cN hr (by decide) (by rfl) (pa_cons (pe_lc (own := [("i", 3), ("place", 4)]) (g := gTup K 2 (gCons (gName 3) (gCons (gName 4) gNil))) (tt := tB (tDIn (tFld K (tVar 4) "position") (tVar 2))) rfl sc.nd (pi_enum (by rfl) T.b_enumerate (pa_cons (pe_fld (pe_fld (pv 0) rfl) rfl) pa_nil)) (blkOk_by (N := ["self", "k", "reached", "i", "place"]) (sc := fnScope (inClass (top 94) 7)) (by decide +kernel)) (fun _ _ _ _ _ => pg_tup rfl (pgs_cons (pg_name (i := 3) sc.nd rfl (.inl rfl)) (pgs_cons (pg_name (i := 4) sc.nd rfl (.inl rfl)) pgs_nil))) (fun _ _ _ _ _ => pts_one (pt_cmp (pc_din (hu_of hr) (pe_fld (pv 4) rfl) (pv 2)))) (fun _ _ _ _ _ => pv 3)) pa_nil))))), ?_⟩
    have X0 := X
    obtain ⟨dx, pv, ev, m, X⟩ := X
    have q : Ans H (Ty01.onTest st k fun t => Ty01.listed ((List.range (Ty01.total st.prog)).filter (reachB st.prog t))) Q := q
    refine ⟨_, rfl, a, dx, _, rfl, X.ins, hl_none (by decide +kernel), _, rfl, st, a, k, rfl, X0, _, rfl, ?_⟩
    refine if_of (fun c => ?_) (fun c => ?_)
    · have c : ¬ k < st.prog.tests.length := by simpa using c
      rw [notest c] at q
      exact ⟨_, rfl, (by show 1 ≤ sizeLine; decide), fun p hp => q p _ (Same.new hp) hp upd_same⟩
    · have c : k < st.prog.tests.length := by simpa using c
      obtain ⟨t, ss, g, gdx, cd, pl, fn, ts, tk, tvs, tv, ht, rfl, Y, hts, htv, tx, ti⟩ := X.test c
      rw [atest ht] at q
      refine ⟨_, rfl, a, _, dx, _, _, rfl, X.ins, T.cH, T.h_program, hl_program, g, _, gdx, _, _, rfl, Y.ins, T.cG, T.g_code, gl_code, _, rfl, a, _, dx, _, _, rfl, X.ins, T.cH, T.h_program, hl_program, g, _, gdx, _, _, rfl, Y.ins, T.cG, T.g_tests, gl_tests, _, rfl, ts, _, _, _, rfl, rfl, SqL.of hts, atI_nat htv, ?_⟩
      refine ⟨st.prog, t, cd, tv, m.code, m.fst, ss, rfl, Y.code, tx, ti, fun H1 d sn s1 hd hsn => ?_⟩
      obtain ⟨pvs, hps, pps⟩ := Y.places
      have lp := Paired.length pps
      have ep := PL_len X.good
      have tot := X.good.tot
      refine ⟨_, rfl, a, _, dx, _, _, rfl, s1 _ _ X.ins, T.cH, T.h_program, hl_program, g, _, gdx, _, _, rfl, s1 _ _ Y.ins, T.cG, T.g_places, gl_places, pl, pvs, rfl, SqL.of (s1 _ _ hps), fun D hD => ?_⟩
      have li : ∀ n, ((List.range n).filter (reachB st.prog t)).length ≤ n := fun n => Nat.le_trans (List.length_filter_le _ _) (Nat.le_of_eq List.length_range)
      refine lc_it (walk_enum (K := K) (a := pl) (xs := pvs)) (fun i H' => Same H1 H' ∧ H' D = some (.lst (iV ((List.range i).filter (reachB st.prog t)))))
        ⟨Same.new hD, upd_same⟩ (fun i H' _ B => SqL.of (B.1 _ _ (s1 _ _ hps))) ?_ ?_
      · rintro i x H2 H3 hi ⟨b1, b2⟩ ⟨tp, xi, xu, rfl, ntp, rfl, ei, eu⟩
        cases ei
        have eu : pvs[i]? = some xu := eu
        obtain ⟨pq, hpq⟩ : ∃ pq, m.PL[i]? = some pq := ⟨_, List.getElem?_eq_getElem (by omega)⟩
        obtain ⟨pa, pdx, rfl, f1⟩ := pd_at pps hpq eu
        obtain ⟨hh, s0, tok, I⟩ := place_is X.good hpq
        have s3 : Same H1 (upd H2 tp (.tup [.int (i : Nat), .ref pa])) := b1.trans (Same.new ntp)
        have nDt : D ≠ tp := fun z => by rw [← z, b2] at ntp; cases ntp
        refine ⟨tp, _, rfl, SqT.of upd_same, rfl, _, _, rfl, _, _, rfl, rfl, rfl, ?_⟩
        refine ⟨_, rfl, pa, _, pdx, _, _, rfl, s3 _ _ (s1 _ _ f1), T.cP, T.p_position, ll_position, _, rfl, d, _, rfl, DGet.k (k := Sum.inl (pq.1 : Int)) (s3 _ _ hd), _, rfl, ?_⟩
        have hfn := I.fn
        rw [X.mp] at hfn
        have eb : pbase st.prog pq.2.1 + pq.2.2.1 = i := by
          have h1 := (where_psum _ _ _ _ _ I.wh).2
          rw [X.mp, Nat.sub_zero] at h1
          rw [pbase_eq (lt_of_get hfn)]
          exact h1.symm
        have er : (valV (seenK sn) (Sum.inl (pq.1 : Int))).isSome = reachB st.prog t i := by
          rw [seenK_some, Bool.eq_iff_iff, decide_eq_true_eq, reachB_iff, I.pos, hsn _ hh s0 _ hfn I.st (lt_of_get I.at_), eb]
        rw [er]
        have hD4 : (upd H2 tp (.tup [.int (i : Nat), .ref pa])) D = _ := (upd_ne nDt).trans b2
        refine if_of (fun c => ?_) (fun c => ?_)
        · refine ⟨_, rfl, _, hD4, (by rw [List.length_map]; have := li i; show _ < 2 ^ 24; omega), Same.put s3 hD, upd_same.trans ?_⟩
          rw [filter_next (n := 0), if_pos c]
          show _ = some (HO.lst (List.map _ (_ ++ [i])))
          rw [List.map_append]
          rfl
        · refine ⟨s3, hD4.trans ?_⟩
          rw [filter_next (n := 0), if_neg (by rw [c]; decide), List.append_nil]
      · rintro H2 ⟨b1, b2⟩
        rw [show pvs.length = Ty01.total st.prog by rw [← X.mp]; omega] at b2
        have := li (Ty01.total st.prog)
        rw [← X.mp] at this
        refine ⟨D, _, rfl, b2, (by rw [← X.mp]; omega), fun p' H3 s3 np' hp' => ?_⟩
        exact q p' H3 (s1.trans (b1.trans s3)) ((s1.trans b1).free np') hp'
end
end Pf
namespace Pf
open PySem PySem.Spec PyProof.Rows L2 SX
open C8 (Cal Met Mak Def cal0 met0 mak0 pe_c pe_mk pe_mt pe_mt0 pe_gc fnScope fnBody fnArgs fnScope_by)
def unsL (t : List (Nat × List Nat)) : List Nat := t.filterMap fun x => if x.2.isEmpty = true then some x.1 else none
theorem uns_next {t : List (Nat × List Nat)} {i : Nat} {x : Nat × List Nat} (h : t[i]? = some x) : unsL (t.take (i + 1)) = unsL (t.take i) ++ (if x.2.isEmpty = true then [x.1] else []) := by
  unfold unsL
  rw [take_next h, List.filterMap_append]
  congr 1
  rw [List.filterMap_cons]
  split
  · rename_i e
    split at e
    · cases e
    · rename_i c; rw [if_neg c]; rfl
  · rename_i e
    split at e
    · rename_i c
      cases e
      rw [if_pos c]; rfl
    · cases e
theorem uns_len (t : List (Nat × List Nat)) : (unsL t).length ≤ t.length := by
  unfold unsL
  exact List.length_filterMap_le ..
section
variable {P : PySem.Program} {w : World} {K : PySem.W.Frag} {mg : Str → Option Value} {base : Heap} {A : Ad}
theorem ok_unseen (T : Tp K mg A) (cS : Cal P w K mg base 10 "all_sights" (spSights A) []) (cN : Cal P w K mg base 1 "counted" spCounted [])
    {f : Addr} {fd : FuncData} (F : C8.Fun K "unseen" "House.unseen" (inClass (top 94) 10) f fd) (me : Meth K A.H "unseen" f) (b : Binds K fd ["self"] []) : Met P w K mg base 11 A.H "unseen" (spHouse0 A .unseen) [] := by
  have sc : FnScope ["self", "i", "sight"] ["self"] (fnScope (inClass (top 94) 10)) := fnScope_by (by decide +kernel)
  refine met0 T.cH me F b sc (fun vs H Q E h => ?_) (fun cdv A' outer s H vs Q E hr h => ?_)
  · obtain ⟨st, a, rfl, _⟩ := h
    rfl
  · obtain ⟨st, a, rfl, X, q⟩ := h
    refine ⟨_, pss_one (ps_ret (pe_c cN hr (by decide) (by rfl) (pa_cons (pe_lc (own := [("i", 1), ("sight", 2)]) (g := gTup K 2 (gCons (gName 1) (gCons (gName 2) gNil))) (tt := tTest (tOp (rEqE K) (tVar 2) (tLst tNil))) rfl sc.nd (pi_items (pe_lk (pe_c cS hr (by decide) (by rfl) (pa_cons (pe_fld (pv 0) rfl) pa_nil)))) (blkOk_by (N := ["self", "i", "sight"]) (sc := fnScope (inClass (top 94) 10)) (by decide +kernel)) (fun _ _ _ _ _ => pg_tup rfl (pgs_cons (pg_name (i := 1) sc.nd rfl (.inl rfl)) (pgs_cons (pg_name (i := 2) sc.nd rfl (.inl rfl)) pgs_nil))) (fun _ _ _ _ _ => pts_one (pt_cmpR (op_eqE hr.units0) (pv 2) (pe_lst pa_nil) (nomark _))) (fun _ _ _ _ _ => pv 1)) pa_nil))), ?_⟩
    obtain ⟨dx, pv, ev, m, X⟩ := X
    have q : Ans H (Ty01.listed (unsL (Ty01.table m.p))) Q := by rw [X.mp]; exact q
    have tot := X.good.tot
    refine ⟨_, rfl, a, _, dx, _, _, rfl, X.ins, T.cH, T.h_program, hl_program, m, _, rfl, X.prog, X.good, fun d kvs H1 s1 nd hd pk => ⟨d, kvs, rfl, hd, fun o => ?_⟩⟩
    obtain ⟨HB, eHB⟩ : ∃ HB, HB = upd H1 d (.frz o (.dK kvs)) := ⟨_, rfl⟩
    have sB : Same H HB := by rw [eHB]; exact Same.put s1 nd
    have hdB : HB d = some (.frz o (.dK kvs)) := by rw [eHB]; exact upd_same
    have pkB : Paired (SightKv HB) (Ty01.table m.p) kvs := Paired.mapP pk fun _ _ ⟨g1, l', g2, g3⟩ => ⟨g1, l', g2, by rw [eHB]; exact (upd_ne (L2.ne_of g3 hd (by intro y; cases y))).trans g3⟩
    rw [← eHB]
    refine ⟨d, o, kvs, rfl, hdB, fun D hD => ?_⟩
    have lk := Paired.length pkB
    have ltab : (Ty01.table m.p).length ≤ 30 := by rw [← tab_all]; have := tab_len m.p (Ty01.total m.p); omega
    refine lc_it (walk_items (d := d) (o := o) (kvs := kvs)) (fun i H' => Same HB H' ∧ H' D = some (.lst (iV (unsL ((Ty01.table m.p).take i)))))
      ⟨Same.new hD, upd_same⟩ (fun i H' _ B => B.1 _ _ hdB) ?_ ?_
    · rintro i u H2 H3 hi ⟨b1, b2⟩ ⟨tp, xi, xu, rfl, ntp, rfl, ei, eu⟩
      obtain ⟨x, hx⟩ : ∃ x, (Ty01.table m.p)[i]? = some x := ⟨_, List.getElem?_eq_getElem (by omega)⟩
      obtain ⟨kv, hkv⟩ : ∃ kv, kvs[i]? = some kv := ⟨_, List.getElem?_eq_getElem (by omega)⟩
      obtain ⟨g1, l, hl1, hl⟩ := pd_at pkB hx hkv
      simp only [hkv] at ei eu
      have ei : kV kv.1 = xi := Option.some.inj ei
      have eu : kv.2 = xu := Option.some.inj eu
      rw [g1] at ei
      rw [hl1] at eu
      subst ei eu
      have s3 : Same HB (upd H2 tp (.tup [kV (Sum.inl (x.1 : Int)), .ref l])) := b1.trans (Same.new ntp)
      have nDt : D ≠ tp := fun z => by rw [← z, b2] at ntp; cases ntp
      have hD3 : (upd H2 tp (.tup [kV (Sum.inl (x.1 : Int)), .ref l])) D = _ := (upd_ne nDt).trans b2
      refine ⟨tp, _, rfl, SqT.of upd_same, rfl, _, _, rfl, _, _, rfl, rfl, rfl, ?_⟩
      refine ⟨_, rfl, (by show 0 ≤ sizeLine; decide), fun en hen => ?_⟩
      have s4 := s3.trans (Same.new (o := .lst []) hen)
      have nDe : D ≠ en := fun z => by rw [← z, hD3] at hen; cases hen
      refine ⟨l, en, _, rfl, rfl, SqL.of (s4 _ _ hl), SqL.of upd_same, _, rfl, ?_⟩
      have ee : (iV x.2).isEmpty = x.2.isEmpty := by cases x.2 <;> rfl
      have lu := uns_len ((Ty01.table m.p).take i)
      rw [List.length_take] at lu
      refine if_of (fun c => ?_) (fun c => ?_)
      · refine ⟨_, rfl, _, (upd_ne nDe).trans hD3, (by rw [List.length_map]; show _ < 2 ^ 24; omega), Same.put s4 hD, upd_same.trans ?_⟩
        rw [uns_next hx, if_pos (by rw [← ee]; exact c)]
        show _ = some (HO.lst (List.map _ (_ ++ [x.1])))
        rw [List.map_append]
        rfl
      · refine ⟨s4, ((upd_ne nDe).trans hD3).trans ?_⟩
        rw [uns_next hx, if_neg (by rw [← ee, c]; decide), List.append_nil]
    · rintro H2 ⟨b1, b2⟩
      rw [← lk, List.take_length] at b2
      have := uns_len (Ty01.table m.p)
      exact ⟨D, _, rfl, b2, (by omega), fun p' H3 s3 np' hp' => q p' H3 (sB.trans (b1.trans s3)) ((sB.trans b1).free np') hp'⟩
end
end Pf
namespace Pf
open PySem PySem.Spec PyProof.Rows L2 SX
open C8 (Cal Met Mak Def cal0 met0 mak0 pe_c pe_mk pe_mt pe_mt0 pe_gc fnScope fnBody fnArgs fnScope_by)
def headsL : List Nat := [2, 2, 1, 3, 2, 2, 2, 1, 1, 1]
theorem enc_facts (c : Ty01.Call) : ∃ kd hd : Nat, (enc c)[0]? = some kd ∧ headsL[kd]? = some hd ∧ 1 ≤ hd ∧ (((kd = 0 ∨ kd = 3) ∧ ∃ n, (enc c)[hd - 1]? = some n ∧ (enc c).length = hd + n) ∨ (¬ (kd = 0 ∨ kd = 3) ∧ (enc c).length = hd)) := by
  cases c with
  | write w => exact ⟨0, 2, rfl, rfl, by decide, .inl ⟨.inl rfl, w.length, rfl, by show w.length + 1 + 1 = _; omega⟩⟩
  | run k r => exact ⟨3, 3, rfl, rfl, by decide, .inl ⟨.inr rfl, r.length, rfl, by show r.length + 1 + 1 + 1 = _; omega⟩⟩
  | test k => exact ⟨1, 2, rfl, rfl, by decide, .inr ⟨by decide, rfl⟩⟩
  | all => exact ⟨2, 1, rfl, rfl, by decide, .inr ⟨by decide, rfl⟩⟩
  | reach k => exact ⟨4, 2, rfl, rfl, by decide, .inr ⟨by decide, rfl⟩⟩
  | place k => exact ⟨5, 2, rfl, rfl, by decide, .inr ⟨by decide, rfl⟩⟩
  | sees k => exact ⟨6, 2, rfl, rfl, by decide, .inr ⟨by decide, rfl⟩⟩
  | unseen => exact ⟨7, 1, rfl, rfl, by decide, .inr ⟨by decide, rfl⟩⟩
  | fewest => exact ⟨8, 1, rfl, rfl, by decide, .inr ⟨by decide, rfl⟩⟩
  | touched => exact ⟨9, 1, rfl, rfl, by decide, .inr ⟨by decide, rfl⟩⟩
theorem enc_at {pre e post : List Nat} {i x : Nat} (h : e[i]? = some x) : (iV (pre ++ e ++ post))[pre.length + i]? = some (V.int (x : Nat)) := by
  refine iV_get ?_
  rw [List.append_assoc, List.getElem?_append_right (by omega), Nat.add_sub_cancel_left, List.getElem?_append_left (lt_of_get h)]
  exact h
def spCallEnd (K : PySem.W.Frag) : Sp := fun vs H Q _ => ∃ (a : Addr) (pre post : List Nat) (c : Ty01.Call), vs = [.ref a, .int (pre.length : Nat)] ∧ SqL K H a (iV (pre ++ enc c ++ post)) ∧ ∀ H', Same H H' → Q (.int ((pre.length + (enc c).length : Nat) : Int)) H'
theorem SqL.mono {K : PySem.W.Frag} {H H' : Hp} {a : Addr} {xs : List V} (h : SqL K H a xs) (s : Same H H') : SqL K H' a xs := h.imp (fun r => r.imp (s _ _) fun ⟨o, e⟩ => ⟨o, s _ _ e⟩) id
section
variable {P : PySem.Program} {w : World} {K : PySem.W.Frag} {mg : Str → Option Value} {base : Heap} {A : Ad}
theorem ok_call_end (T : Tp K mg A) (U : Tq K mg w) {f : Addr} {fd : FuncData} (F : Def K mg "call_end" (top 106) f fd) (b : Binds K fd ["calls", "at"] []) : Cal P w K mg base 1 "call_end" (spCallEnd K) [] := by
  have sc : FnScope ["calls", "at", "behind"] ["calls", "at"] (fnScope (top 106)) := fnScope_by (by decide +kernel)
  obtain ⟨aa, ao, aits, an, am, al, ac, adi, ada, asz, av⟩ := U.HEADS
  have aT : ∀ H : Hp, SqT K H aa (iV headsL) := fun H => sqT_of al ac ada asz av
  refine cal0 F b .nil sc (fun vs H Q E h => ?_) (fun cdv A' outer s H vs Q E hr h => ?_)
  · obtain ⟨a, pre, post, c, rfl, _⟩ := h
    rfl
  · obtain ⟨a, pre, post, c, rfl, ha, k⟩ := h
    refine ⟨_, pss_cons (ps_set (i := 2) sc.nd rfl (.inl rfl) (pe_op op_add (pv 1) (pe_ix ix_tup (pe_gc (v := .ref aa) (by rfl) ⟨_, am, rfl⟩) (pe_ix ix_list (pv 0) (pv 1) (fun _ _ => rfl)) (fun _ _ => rfl))))
      (pss_cons (ps_if (pt_cmpR op_in_seq (pe_ix ix_list (pv 0) (pv 1) (fun _ _ => rfl)) (pe_tup (pa_cons (pe_gc (by rfl) T.WRITE) (pa_cons (pe_gc (by rfl) T.RUN) pa_nil))) (by rfl)) (pss_one (ps_ret (pe_op op_add (pv 2) (pe_ix ix_list (pv 0) (pe_op op_sub (pv 2) pe_int) (fun _ _ => rfl))))) pss_nil)
      (pss_one (ps_ret (pv 2)))), ?_⟩
    obtain ⟨kd, hd, h1, h2, h3, h4⟩ := enc_facts c
    have g1 := enc_at (pre := pre) (post := post) h1
    refine ⟨_, rfl, _, rfl, _, rfl, a, _, _, _, rfl, rfl, ha, atI_nat g1, aa, _, _, _, rfl, rfl, aT H, atI_nat (iV_get h2), _, _, rfl, rfl, ?_⟩
    refine ⟨_, rfl, _, rfl, a, _, _, _, rfl, rfl, ha, atI_nat g1, (by show 2 ≤ sizeLine; decide), fun t ht => ?_⟩
    have s1 : Same H (upd H t (.tup [.int 0, .int 3])) := Same.new ht
    refine ⟨t, _, rfl, .inr (SqT.of upd_same), rfl, rfl, _, rfl, ?_⟩
    have ein : inV (V.int (kd : Nat)) [.int 0, .int 3] = decide (kd = 0 ∨ kd = 3) := by
      have : ([.int 0, .int 3] : List V) = iV [0, 3] := rfl
      rw [this, inV_ints]
      rw [Bool.eq_iff_iff, decide_eq_true_eq]
      simp
    have ein' : (if false = true then !inV (V.int (kd : Nat)) [.int 0, .int 3] else inV (V.int (kd : Nat)) [.int 0, .int 3]) = decide (kd = 0 ∨ kd = 3) := ein
    rw [ein']
    rcases h4 with ⟨c1, n, n1, n2⟩ | ⟨c1, n2⟩
    · refine if_true_of (decide_eq_true c1) ?_
      have g2 := enc_at (pre := pre) (post := post) n1
      have g3 : atI (iV (pre ++ enc c ++ post)) ((pre.length : Int) + (hd : Int) - 1) = some (V.int (n : Nat)) := by
        have e : ((pre.length : Int) + (hd : Int) - 1) = ((pre.length + (hd - 1) : Nat) : Int) := by omega
        rw [e]
        exact atI_nat g2
      refine ⟨_, rfl, _, rfl, _, rfl, _, _, rfl, rfl, a, _, _, _, rfl, rfl, SqL.mono ha s1, g3, _, _, rfl, rfl, ?_⟩
      · have := k _ s1
        rw [n2] at this
        have e : ((pre.length + (hd + n) : Nat) : Int) = (pre.length : Int) + (hd : Int) + (n : Int) := by omega
        rw [e] at this
        exact this
    · refine if_false_of (decide_eq_false c1) ?_
      have := k _ s1
      rw [n2] at this
      exact ⟨_, rfl, this⟩
end
end Pf
namespace Pf
open PySem PySem.Spec PyProof.Rows L2 SX
open C8 (Cal Met Mak Def cal0 met0 mak0 pe_c pe_mk pe_mt pe_mt0 pe_gc fnScope fnBody fnArgs fnScope_by)
def spAnswerCall (A : Ad) : Sp := fun vs H Q _ => ∃ (s : Ty01.St) (a ln : Addr) (c : Ty01.Call), vs = [.ref a, .ref ln] ∧ HouseAt A H s a ∧ H ln = some (.lst (iV (enc c))) ∧ smallC c ∧
  ∀ p H', But a H H' → HouseAt A H' (Ty01.step s c).1 a → H p = none → H' p = some (.lst ((Ty01.step s c).2.map V.int)) → Q (.ref p) H'
section
variable {P : PySem.Program} {w : World} {K : PySem.W.Frag} {mg : Str → Option Value} {base : Heap} {A : Ad}
theorem ok_answer_call (T : Tp K mg A) (c0 : Met P w K mg base 7 A.H "write" (spWrite A) []) (c1 : Met P w K mg base 8 A.H "test" (spHouse A .test) []) (c2 : Met P w K mg base 9 A.H "all_tests" (spHouse0 A .all) []) (c3 : Met P w K mg base 7 A.H "run" (spHRun A) []) (c4 : Met P w K mg base 8 A.H "reach" (spHouse A .reach) []) (c5 : Met P w K mg base 3 A.H "place" (spHouse A .place) []) (c6 : Met P w K mg base 11 A.H "sees" (spHouse A .sees) []) (c7 : Met P w K mg base 11 A.H "unseen" (spHouse0 A .unseen) []) (c8 : Met P w K mg base 12 A.H "fewest" (spHouse0 A .fewest) []) (c9 : Met P w K mg base 3 A.H "touched" (spHouse0 A .touched) [])
    {f : Addr} {fd : FuncData} (F : Def K mg "answer_call" (top 107) f fd) (b : Binds K fd ["house", "call"] []) : Cal P w K mg base 13 "answer_call" (spAnswerCall A) [] := by
  have sc : FnScope ["house", "call"] ["house", "call"] (fnScope (top 107)) := fnScope_by (by decide +kernel)
  refine cal0 F b .nil sc (fun vs H Q E h => ?_) (fun cdv A' outer s H vs Q E hr h => ?_)
  · obtain ⟨st, a, ln, c, rfl, _⟩ := h
    rfl
  · obtain ⟨st, a, ln, c, rfl, X, hl, sm, k⟩ := h
    refine ⟨_, pss_cons (ps_if (pt_cmpR op_eq (pe_ix ix_list (pv 1) pe_int (fun _ _ => rfl)) (pe_gc (by rfl) T.WRITE) (nomark _)) (pss_one (ps_ret (pe_mt c0 hr (by decide) (pv 0) (pa_cons (pe_slice sl_list (pv 1) (po_some pe_int) po_none) pa_nil)))) pss_nil)
      (pss_cons (ps_if (pt_cmpR op_eq (pe_ix ix_list (pv 1) pe_int (fun _ _ => rfl)) (pe_gc (by rfl) T.TEST) (nomark _)) (pss_one (ps_ret (pe_mt c1 hr (by decide) (pv 0) (pa_cons (pe_ix ix_list (pv 1) pe_int (fun _ _ => rfl)) pa_nil)))) pss_nil)
      (pss_cons (ps_if (pt_cmpR op_eq (pe_ix ix_list (pv 1) pe_int (fun _ _ => rfl)) (pe_gc (by rfl) T.ALL) (nomark _)) (pss_one (ps_ret (pe_mt0 c2 hr (by decide) (pv 0)))) pss_nil)
      (pss_cons (ps_if (pt_cmpR op_eq (pe_ix ix_list (pv 1) pe_int (fun _ _ => rfl)) (pe_gc (by rfl) T.RUN) (nomark _)) (pss_one (ps_ret (pe_mt c3 hr (by decide) (pv 0) (pa_cons (pe_ix ix_list (pv 1) pe_int (fun _ _ => rfl)) (pa_cons (pe_slice sl_list (pv 1) (po_some pe_int) po_none) pa_nil))))) pss_nil)
      (pss_cons (ps_if (pt_cmpR op_eq (pe_ix ix_list (pv 1) pe_int (fun _ _ => rfl)) (pe_gc (by rfl) T.REACH) (nomark _)) (pss_one (ps_ret (pe_mt c4 hr (by decide) (pv 0) (pa_cons (pe_ix ix_list (pv 1) pe_int (fun _ _ => rfl)) pa_nil)))) pss_nil)
      (pss_cons (ps_if (pt_cmpR op_eq (pe_ix ix_list (pv 1) pe_int (fun _ _ => rfl)) (pe_gc (by rfl) T.PLACE) (nomark _)) (pss_one (ps_ret (pe_mt c5 hr (by decide) (pv 0) (pa_cons (pe_ix ix_list (pv 1) pe_int (fun _ _ => rfl)) pa_nil)))) pss_nil)
      (pss_cons (ps_if (pt_cmpR op_eq (pe_ix ix_list (pv 1) pe_int (fun _ _ => rfl)) (pe_gc (by rfl) T.SEES) (nomark _)) (pss_one (ps_ret (pe_mt c6 hr (by decide) (pv 0) (pa_cons (pe_ix ix_list (pv 1) pe_int (fun _ _ => rfl)) pa_nil)))) pss_nil)
      (pss_cons (ps_if (pt_cmpR op_eq (pe_ix ix_list (pv 1) pe_int (fun _ _ => rfl)) (pe_gc (by rfl) T.UNSEEN) (nomark _)) (pss_one (ps_ret (pe_mt0 c7 hr (by decide) (pv 0)))) pss_nil)
      (pss_cons (ps_if (pt_cmpR op_eq (pe_ix ix_list (pv 1) pe_int (fun _ _ => rfl)) (pe_gc (by rfl) T.FEWEST) (nomark _)) (pss_one (ps_ret (pe_mt0 c8 hr (by decide) (pv 0)))) pss_nil)
      (pss_one (ps_ret (pe_mt0 c9 hr (by decide) (pv 0)))))))))))), ?_⟩
    have X0 := X
    obtain ⟨dx, pv, ev, m, X⟩ := X
    have same : ∀ c' : Ty01.Call, c' = c → (Ty01.step st c').1 = st → ∀ p H', Same H H' → H p = none → H' p = some (.lst ((Ty01.step st c').2.map V.int)) → Q (.ref p) H' := by
      intro c' e1 e2 p H' s1 np hp
      subst e1
      exact k p H' (fun b o e _ => s1 _ _ e) (by rw [e2]; exact X0.mono s1) np hp
    cases c with
    | write w =>
      refine ⟨_, rfl, ln, _, _, _, rfl, rfl, SqL.of hl, atI_nat (j := 0) rfl, rfl, _, rfl, if_true_of rfl ?_⟩
      refine ⟨_, rfl, a, dx, _, rfl, X.ins, hl_none (by decide +kernel), ?_⟩
      refine ⟨_, rfl, 2, rfl, ln, _, rfl, SqL.of hl, fun p hp => ?_⟩
      have ecut : cutV (iV (enc (.write w))) (some 2) none = iV w := by
        rw [show (some (2 : Int)) = some ((2 : Nat) : Int) by rfl, cutV_from]
        rfl
      rw [ecut]
      have s1 : Same H (upd H p (.lst (iV w))) := Same.new hp
      have sm : w.length ≤ 700 ∧ _ := sm
      refine ⟨st, a, p, w, rfl, X0.mono s1, upd_same, (by omega), fun p' H' b1 hX np hp' => ?_⟩
      exact k p' H' (fun b o e n => b1 b o (s1 _ _ e) n) hX (s1.free np) hp'
    | test j =>
      refine ⟨_, rfl, ln, _, _, _, rfl, rfl, SqL.of hl, atI_nat (j := 0) rfl, rfl, _, rfl, if_false_of rfl ?_⟩
      refine ⟨_, rfl, ln, _, _, _, rfl, rfl, SqL.of hl, atI_nat (j := 0) rfl, rfl, _, rfl, if_true_of rfl ?_⟩
      refine ⟨_, rfl, a, dx, _, rfl, X.ins, hl_none (by decide +kernel), ?_⟩
      refine ⟨_, rfl, ln, _, _, _, rfl, rfl, SqL.of hl, atI_nat (j := 1) rfl, ?_⟩
      exact ⟨st, a, j, rfl, X0, fun p' H' s2 np hp' => same _ rfl rfl p' H' s2 np hp'⟩
    | all =>
      refine ⟨_, rfl, ln, _, _, _, rfl, rfl, SqL.of hl, atI_nat (j := 0) rfl, rfl, _, rfl, if_false_of rfl ?_⟩
      refine ⟨_, rfl, ln, _, _, _, rfl, rfl, SqL.of hl, atI_nat (j := 0) rfl, rfl, _, rfl, if_false_of rfl ?_⟩
      refine ⟨_, rfl, ln, _, _, _, rfl, rfl, SqL.of hl, atI_nat (j := 0) rfl, rfl, _, rfl, if_true_of rfl ?_⟩
      refine ⟨_, rfl, a, dx, _, rfl, X.ins, hl_none (by decide +kernel), ?_⟩
      exact ⟨st, a, rfl, X0, fun p' H' s2 np hp' => same _ rfl rfl p' H' s2 np hp'⟩
    | run j r =>
      refine ⟨_, rfl, ln, _, _, _, rfl, rfl, SqL.of hl, atI_nat (j := 0) rfl, rfl, _, rfl, if_false_of rfl ?_⟩
      refine ⟨_, rfl, ln, _, _, _, rfl, rfl, SqL.of hl, atI_nat (j := 0) rfl, rfl, _, rfl, if_false_of rfl ?_⟩
      refine ⟨_, rfl, ln, _, _, _, rfl, rfl, SqL.of hl, atI_nat (j := 0) rfl, rfl, _, rfl, if_false_of rfl ?_⟩
      refine ⟨_, rfl, ln, _, _, _, rfl, rfl, SqL.of hl, atI_nat (j := 0) rfl, rfl, _, rfl, if_true_of rfl ?_⟩
      refine ⟨_, rfl, a, dx, _, rfl, X.ins, hl_none (by decide +kernel), ?_⟩
      refine ⟨_, rfl, ln, _, _, _, rfl, rfl, SqL.of hl, atI_nat (j := 1) rfl, ?_⟩
      refine ⟨_, rfl, 3, rfl, ln, _, rfl, SqL.of hl, fun p hp => ?_⟩
      have ecut : cutV (iV (enc (.run j r))) (some 3) none = iV r := by
        rw [show (some (3 : Int)) = some ((3 : Nat) : Int) by rfl, cutV_from]
        rfl
      rw [ecut]
      have s1 : Same H (upd H p (.lst (iV r))) := Same.new hp
      have sm : _ ∧ r.length ≤ 40 ∧ _ := sm
      refine ⟨st, a, p, j, r, rfl, X0.mono s1, upd_same, (by omega), fun p' H' s2 np hp' => ?_⟩
      exact same _ rfl rfl p' H' (s1.trans s2) (s1.free np) hp'
    | reach j =>
      refine ⟨_, rfl, ln, _, _, _, rfl, rfl, SqL.of hl, atI_nat (j := 0) rfl, rfl, _, rfl, if_false_of rfl ?_⟩
      refine ⟨_, rfl, ln, _, _, _, rfl, rfl, SqL.of hl, atI_nat (j := 0) rfl, rfl, _, rfl, if_false_of rfl ?_⟩
      refine ⟨_, rfl, ln, _, _, _, rfl, rfl, SqL.of hl, atI_nat (j := 0) rfl, rfl, _, rfl, if_false_of rfl ?_⟩
      refine ⟨_, rfl, ln, _, _, _, rfl, rfl, SqL.of hl, atI_nat (j := 0) rfl, rfl, _, rfl, if_false_of rfl ?_⟩
      refine ⟨_, rfl, ln, _, _, _, rfl, rfl, SqL.of hl, atI_nat (j := 0) rfl, rfl, _, rfl, if_true_of rfl ?_⟩
      refine ⟨_, rfl, a, dx, _, rfl, X.ins, hl_none (by decide +kernel), ?_⟩
      refine ⟨_, rfl, ln, _, _, _, rfl, rfl, SqL.of hl, atI_nat (j := 1) rfl, ?_⟩
      exact ⟨st, a, j, rfl, X0, fun p' H' s2 np hp' => same _ rfl rfl p' H' s2 np hp'⟩
    | place j =>
      refine ⟨_, rfl, ln, _, _, _, rfl, rfl, SqL.of hl, atI_nat (j := 0) rfl, rfl, _, rfl, if_false_of rfl ?_⟩
      refine ⟨_, rfl, ln, _, _, _, rfl, rfl, SqL.of hl, atI_nat (j := 0) rfl, rfl, _, rfl, if_false_of rfl ?_⟩
      refine ⟨_, rfl, ln, _, _, _, rfl, rfl, SqL.of hl, atI_nat (j := 0) rfl, rfl, _, rfl, if_false_of rfl ?_⟩
      refine ⟨_, rfl, ln, _, _, _, rfl, rfl, SqL.of hl, atI_nat (j := 0) rfl, rfl, _, rfl, if_false_of rfl ?_⟩
      refine ⟨_, rfl, ln, _, _, _, rfl, rfl, SqL.of hl, atI_nat (j := 0) rfl, rfl, _, rfl, if_false_of rfl ?_⟩
      refine ⟨_, rfl, ln, _, _, _, rfl, rfl, SqL.of hl, atI_nat (j := 0) rfl, rfl, _, rfl, if_true_of rfl ?_⟩
      refine ⟨_, rfl, a, dx, _, rfl, X.ins, hl_none (by decide +kernel), ?_⟩
      refine ⟨_, rfl, ln, _, _, _, rfl, rfl, SqL.of hl, atI_nat (j := 1) rfl, ?_⟩
      exact ⟨st, a, j, rfl, X0, fun p' H' s2 np hp' => same _ rfl rfl p' H' s2 np hp'⟩
    | sees j =>
      refine ⟨_, rfl, ln, _, _, _, rfl, rfl, SqL.of hl, atI_nat (j := 0) rfl, rfl, _, rfl, if_false_of rfl ?_⟩
      refine ⟨_, rfl, ln, _, _, _, rfl, rfl, SqL.of hl, atI_nat (j := 0) rfl, rfl, _, rfl, if_false_of rfl ?_⟩
      refine ⟨_, rfl, ln, _, _, _, rfl, rfl, SqL.of hl, atI_nat (j := 0) rfl, rfl, _, rfl, if_false_of rfl ?_⟩
      refine ⟨_, rfl, ln, _, _, _, rfl, rfl, SqL.of hl, atI_nat (j := 0) rfl, rfl, _, rfl, if_false_of rfl ?_⟩
      refine ⟨_, rfl, ln, _, _, _, rfl, rfl, SqL.of hl, atI_nat (j := 0) rfl, rfl, _, rfl, if_false_of rfl ?_⟩
      refine ⟨_, rfl, ln, _, _, _, rfl, rfl, SqL.of hl, atI_nat (j := 0) rfl, rfl, _, rfl, if_false_of rfl ?_⟩
      refine ⟨_, rfl, ln, _, _, _, rfl, rfl, SqL.of hl, atI_nat (j := 0) rfl, rfl, _, rfl, if_true_of rfl ?_⟩
      refine ⟨_, rfl, a, dx, _, rfl, X.ins, hl_none (by decide +kernel), ?_⟩
      refine ⟨_, rfl, ln, _, _, _, rfl, rfl, SqL.of hl, atI_nat (j := 1) rfl, ?_⟩
      exact ⟨st, a, j, rfl, X0, fun p' H' s2 np hp' => same _ rfl rfl p' H' s2 np hp'⟩
    | unseen =>
      refine ⟨_, rfl, ln, _, _, _, rfl, rfl, SqL.of hl, atI_nat (j := 0) rfl, rfl, _, rfl, if_false_of rfl ?_⟩
      refine ⟨_, rfl, ln, _, _, _, rfl, rfl, SqL.of hl, atI_nat (j := 0) rfl, rfl, _, rfl, if_false_of rfl ?_⟩
      refine ⟨_, rfl, ln, _, _, _, rfl, rfl, SqL.of hl, atI_nat (j := 0) rfl, rfl, _, rfl, if_false_of rfl ?_⟩
      refine ⟨_, rfl, ln, _, _, _, rfl, rfl, SqL.of hl, atI_nat (j := 0) rfl, rfl, _, rfl, if_false_of rfl ?_⟩
      refine ⟨_, rfl, ln, _, _, _, rfl, rfl, SqL.of hl, atI_nat (j := 0) rfl, rfl, _, rfl, if_false_of rfl ?_⟩
      refine ⟨_, rfl, ln, _, _, _, rfl, rfl, SqL.of hl, atI_nat (j := 0) rfl, rfl, _, rfl, if_false_of rfl ?_⟩
      refine ⟨_, rfl, ln, _, _, _, rfl, rfl, SqL.of hl, atI_nat (j := 0) rfl, rfl, _, rfl, if_false_of rfl ?_⟩
      refine ⟨_, rfl, ln, _, _, _, rfl, rfl, SqL.of hl, atI_nat (j := 0) rfl, rfl, _, rfl, if_true_of rfl ?_⟩
      refine ⟨_, rfl, a, dx, _, rfl, X.ins, hl_none (by decide +kernel), ?_⟩
      exact ⟨st, a, rfl, X0, fun p' H' s2 np hp' => same _ rfl rfl p' H' s2 np hp'⟩
    | fewest =>
      refine ⟨_, rfl, ln, _, _, _, rfl, rfl, SqL.of hl, atI_nat (j := 0) rfl, rfl, _, rfl, if_false_of rfl ?_⟩
      refine ⟨_, rfl, ln, _, _, _, rfl, rfl, SqL.of hl, atI_nat (j := 0) rfl, rfl, _, rfl, if_false_of rfl ?_⟩
      refine ⟨_, rfl, ln, _, _, _, rfl, rfl, SqL.of hl, atI_nat (j := 0) rfl, rfl, _, rfl, if_false_of rfl ?_⟩
      refine ⟨_, rfl, ln, _, _, _, rfl, rfl, SqL.of hl, atI_nat (j := 0) rfl, rfl, _, rfl, if_false_of rfl ?_⟩
      refine ⟨_, rfl, ln, _, _, _, rfl, rfl, SqL.of hl, atI_nat (j := 0) rfl, rfl, _, rfl, if_false_of rfl ?_⟩
      refine ⟨_, rfl, ln, _, _, _, rfl, rfl, SqL.of hl, atI_nat (j := 0) rfl, rfl, _, rfl, if_false_of rfl ?_⟩
      refine ⟨_, rfl, ln, _, _, _, rfl, rfl, SqL.of hl, atI_nat (j := 0) rfl, rfl, _, rfl, if_false_of rfl ?_⟩
      refine ⟨_, rfl, ln, _, _, _, rfl, rfl, SqL.of hl, atI_nat (j := 0) rfl, rfl, _, rfl, if_false_of rfl ?_⟩
      refine ⟨_, rfl, ln, _, _, _, rfl, rfl, SqL.of hl, atI_nat (j := 0) rfl, rfl, _, rfl, if_true_of rfl ?_⟩
      refine ⟨_, rfl, a, dx, _, rfl, X.ins, hl_none (by decide +kernel), ?_⟩
      exact ⟨st, a, rfl, X0, fun p' H' s2 np hp' => same _ rfl rfl p' H' s2 np hp'⟩
    | touched =>
      refine ⟨_, rfl, ln, _, _, _, rfl, rfl, SqL.of hl, atI_nat (j := 0) rfl, rfl, _, rfl, if_false_of rfl ?_⟩
      refine ⟨_, rfl, ln, _, _, _, rfl, rfl, SqL.of hl, atI_nat (j := 0) rfl, rfl, _, rfl, if_false_of rfl ?_⟩
      refine ⟨_, rfl, ln, _, _, _, rfl, rfl, SqL.of hl, atI_nat (j := 0) rfl, rfl, _, rfl, if_false_of rfl ?_⟩
      refine ⟨_, rfl, ln, _, _, _, rfl, rfl, SqL.of hl, atI_nat (j := 0) rfl, rfl, _, rfl, if_false_of rfl ?_⟩
      refine ⟨_, rfl, ln, _, _, _, rfl, rfl, SqL.of hl, atI_nat (j := 0) rfl, rfl, _, rfl, if_false_of rfl ?_⟩
      refine ⟨_, rfl, ln, _, _, _, rfl, rfl, SqL.of hl, atI_nat (j := 0) rfl, rfl, _, rfl, if_false_of rfl ?_⟩
      refine ⟨_, rfl, ln, _, _, _, rfl, rfl, SqL.of hl, atI_nat (j := 0) rfl, rfl, _, rfl, if_false_of rfl ?_⟩
      refine ⟨_, rfl, ln, _, _, _, rfl, rfl, SqL.of hl, atI_nat (j := 0) rfl, rfl, _, rfl, if_false_of rfl ?_⟩
      refine ⟨_, rfl, ln, _, _, _, rfl, rfl, SqL.of hl, atI_nat (j := 0) rfl, rfl, _, rfl, if_false_of rfl ?_⟩
      refine ⟨_, rfl, a, dx, _, rfl, X.ins, hl_none (by decide +kernel), ?_⟩
      exact ⟨st, a, rfl, X0, fun p' H' s2 np hp' => same _ rfl rfl p' H' s2 np hp'⟩
end
end Pf
namespace Pf
open PySem PySem.Spec PyProof.Rows L2 SX
open C8 (Cal Met Mak Def cal0 met0 mak0 pe_c pe_mk pe_mt pe_mt0 pe_gc fnScope fnBody fnArgs fnScope_by)
def spAns (K : PySem.W.Frag) : Sp := fun vs H Q _ => ∃ (a : Addr) (ns : List Int), vs = [.ref a] ∧ SqL K H a (ns.map V.int) ∧ PyTy01.answers_asked ns = true ∧
  ∀ (H' : Hp) (p : Addr), H' p = some (.lst ((PyTy01.answers ns).map V.int)) → Q (.ref p) H'
theorem sqL_but {K : PySem.W.Frag} {H H' : Hp} {a h C dx : Addr} {fs : Fs} {xs : List V} (x : SqL K H a xs) (hh : H h = some (.ins C dx fs)) (bt : But h H H') : SqL K H' a xs := by
  refine x.imp (fun r => r.imp (fun e => bt _ _ e fun z => ?_) (fun ⟨o, e⟩ => ⟨o, bt _ _ e fun z => ?_⟩)) id
  · rw [z, hh] at e; cases e
  · rw [z, hh] at e; cases e
theorem enc_pos (c : Ty01.Call) : 1 ≤ (enc c).length := by
  obtain ⟨kd, _, h, _⟩ := enc_facts c
  exact lt_of_get h
theorem told_cons (z : List Int) (r : List (List Int)) : PyFlat.told (z :: r) = ((z.length : Int) :: z) ++ PyFlat.told r := rfl
section
variable {P : PySem.Program} {w : World} {K : PySem.W.Frag} {mg : Str → Option Value} {base : Heap} {A : Ad}
theorem ok_answers (T : Tp K mg A) (cH : Mak P w K mg base 3 "House" A.H (spHInit A) []) (cE : Cal P w K mg base 1 "call_end" (spCallEnd K) []) (cA : Cal P w K mg base 13 "answer_call" (spAnswerCall A) [])
    {f : Addr} {fd : FuncData} (F : Def K mg "answers" (top 108) f fd) : FnOk P w K mg base CX0 14 f fd ["calls"] (spAns K) := by
  have sc : FnScope ["calls", "given", "house", "at", "behind", "answer"] ["calls"] (fnScope (top 108)) := fnScope_by (by decide +kernel)
  refine C8.fn0 F.fn sc (fun vs H Q E h => ?_) (fun cdv A' outer s H vs Q E hr h => ?_)
  · obtain ⟨a, ns, rfl, _⟩ := h
    rfl
  · obtain ⟨a, ns, rfl, ha, ask, k⟩ := h
    refine ⟨_, pss_cons (ps_set (i := 1) sc.nd rfl (.inl rfl) (pe_lst pa_nil))
      (pss_cons (ps_lock (ps_set (i := 2) sc.nd rfl (.inl rfl) (pe_mk0 cH hr (by decide) (by rfl))))
      (pss_cons (ps_set (i := 3) sc.nd rfl (.inl rfl) pe_int)
      (pss_cons (ps_while PassesOwn.never (pt_cmpR op_lt (pv 3) (pe_callB call_len_seq (by rfl) T.b_len PySem.boot_len (pa_cons (pv 0) pa_nil)) (nomark _))
        (pss_cons (ps_set (i := 4) sc.nd rfl (.inl rfl) (pe_c cE hr (by decide) (by rfl) (pa_cons (pv 0) (pa_cons (pv 3) pa_nil))))
        (pss_cons (ps_lock (ps_set (i := 5) sc.nd rfl (.inl rfl) (pe_c cA hr (by decide) (by rfl) (pa_cons (pv 2) (pa_cons (pe_slice sl_list (pv 0) (po_some (pv 3)) (po_some (pv 4))) pa_nil)))))
        (pss_cons (ps_expr (pe_bm PySem.F.plainAttrs_list PySem.F.slot_list_append PySem.F.type_list_append mt_append (pv 1) (pa_cons (pe_callB call_len_seq (by rfl) T.b_len PySem.boot_len (pa_cons (pv 5) pa_nil)) pa_nil)))
        (pss_cons (ps_expr (pe_bm PySem.F.plainAttrs_list PySem.F.slot_list_extend PySem.F.type_list_extend mt_extend (pv 1) (pa_cons (pv 5) pa_nil)))
        (pss_one (ps_set (i := 3) sc.nd rfl (.inl rfl) (pv 4))))))))
      (pss_one (ps_ret (pv 1)))))), ?_⟩
    obtain ⟨cs, rfl, small, lcs, eans, lans⟩ := asked_calls ask
    rw [eans] at k lans
    rw [← iV_nat] at ha
    refine ⟨by show 0 ≤ sizeLine; decide, fun D hD => ?_⟩
    refine ⟨D, .lst [], upd_same, trivial, fun od => ?_⟩
    have s1 : Same H (upd (upd H D (.lst [])) D (.frz od (.lst []))) := Same.put (Same.new hD) hD
    intro h hdx nh nhd ne
    refine ⟨h, hdx, rfl, upd_same, fun H1 hX bt => ⟨rfl, ?_⟩⟩
    have s2 : Same (upd (upd H D (.lst [])) D (.frz od (.lst []))) H1 := Same.made nh nhd bt
    have hD1 : H1 D = some (.frz od (.lst [])) := s2 _ _ upd_same
    have s01 : Same H (sans H1 D) := fun b o e => by rw [sans_ne (ne_of_none e hD)]; exact s2 _ _ (s1 _ _ e)
    have su : ∀ (H' : Hp) (o : HO), Same (sans H' D) (upd H' D o) := fun H' o b u e => by
      have nb : b ≠ D := fun z => by rw [z, sans_at] at e; cases e
      rw [upd_ne nb]; rw [sans_ne nb] at e; exact e
    refine ⟨hD1, ?_⟩
    refine ⟨fun mm σ H' => ∃ (Hi : Hp) (dn rest : List Ty01.Call) (s : Ty01.St) (G : List Int) (o4 o5 : Option V), mm = rest.length ∧ cs = dn ++ rest ∧ σ = [some (.ref a), some (.ref D), some (.ref h), some (.int ((dn.flatMap enc).length : Nat)), o4, o5] ∧ Hi D = none ∧ Same Hi H' ∧ HouseAt A Hi s h ∧ SqL K Hi a (iV (cs.flatMap enc)) ∧ H' D = some (.lst (G.map V.int)) ∧ PyFlat.told (runC Ty01.init cs) = G ++ PyFlat.told (runC s rest),
      ⟨_, sans H1 D, [], cs, Ty01.init, [], none, none, rfl, rfl, rfl, sans_at _ _, su _ _, hX.sans hD1, SqL.mono ha s01, upd_same, rfl⟩, ?_⟩
    rintro mm σ H2 ⟨Hi, dn, rest, st, G, o4, o5, rfl, ecs, rfl, hiD, s12, X, hqi, hD2, eG⟩
    have hq := SqL.mono hqi s12
    refine ⟨_, rfl, _, rfl, a, _, rfl, .inl hq, _, _, rfl, rfl, _, rfl, ?_⟩
    have elen : (cs.flatMap enc).length = (dn.flatMap enc).length + (rest.flatMap enc).length := by rw [ecs, List.flatMap_append, List.length_append]
    cases rest with
    | nil =>
      have e0 : decide ((((dn.flatMap enc).length : Nat) : Int) < (((iV (cs.flatMap enc)).length : Nat) : Int)) = false := decide_eq_false (by
        rw [List.length_map, elen]
        show ¬ _
        simp)
      refine if_false_of e0 ?_
      have eG : PyFlat.told (runC Ty01.init cs) = G := by rw [eG]; exact List.append_nil G
      rw [eG] at k
      exact ⟨_, rfl, k H2 D hD2⟩
    | cons c rest =>
      have hc := enc_pos c
      have e0 : decide ((((dn.flatMap enc).length : Nat) : Int) < (((iV (cs.flatMap enc)).length : Nat) : Int)) = true := decide_eq_true (by
        rw [List.length_map, elen, List.flatMap_cons, List.length_append]
        omega)
      refine if_true_of e0 ?_
      have efl : cs.flatMap enc = dn.flatMap enc ++ enc c ++ rest.flatMap enc := by rw [ecs, List.flatMap_append, List.flatMap_cons, List.append_assoc]
      refine ⟨_, fun σ' H' q => ⟨rest.length, by rw [List.length_cons]; exact Nat.lt_succ_self _, q⟩, ?_⟩
      refine ⟨_, rfl, _, rfl, a, dn.flatMap enc, rest.flatMap enc, c, rfl, (by rw [← efl]; exact hq), fun H3 s3 => ?_⟩
      refine ⟨D, .lst (G.map V.int), s3 _ _ hD2, trivial, fun od => ?_⟩
      have s13 : Same Hi (upd H3 D (.frz od (.lst (G.map V.int)))) := Same.put (s12.trans s3) hiD
      refine ⟨_, rfl, _, rfl, _, rfl, _, rfl, _, rfl, _, rfl, a, _, rfl, SqL.mono hqi s13, fun L hL => ?_⟩
      have ecut : cutV (iV (cs.flatMap enc)) (some ((dn.flatMap enc).length : Nat)) (some (((dn.flatMap enc).length + (enc c).length : Nat) : Int)) = iV (enc c) := by
        have e1 : iV (cs.flatMap enc) = iV (dn.flatMap enc) ++ (iV (enc c) ++ iV (rest.flatMap enc)) := by
          rw [efl, List.append_assoc]
          show List.map _ _ = _
          rw [List.map_append, List.map_append]
        rw [cutV_ft, Nat.add_sub_cancel_left, e1, List.drop_left' (List.length_map ..), List.take_left' (List.length_map ..)]
      rw [ecut]
      have s4' : Same (upd H3 D (.frz od (.lst (G.map V.int)))) (upd (upd H3 D (.frz od (.lst (G.map V.int)))) L (.lst (iV (enc c)))) := Same.new hL
      have s4 : Same Hi (upd (upd H3 D (.frz od (.lst (G.map V.int)))) L (.lst (iV (enc c)))) := s13.trans s4'
      have X4 := X.mono s4
      refine ⟨st, h, L, c, rfl, X4, upd_same, small c (by rw [ecs]; simp), fun p H5 b5 X5 np hp => ?_⟩
      obtain ⟨hdx4, _, _, _, Y4⟩ := X
      have hD4 := s4' _ _ upd_same
      have hh4 := s4 _ _ Y4.ins
      have nDh : D ≠ h := (ne_of_none Y4.ins hiD).symm
      have hD5 := b5 _ _ hD4 nDh
      have bi : But h Hi (sans H5 D) := fun b o e n => by
        have nb : b ≠ D := fun z => by rw [z, hiD] at e; cases e
        rw [sans_ne nb]
        exact b5 _ _ (s4 _ _ e) n
      have hq5 := sqL_but hqi Y4.ins bi
      have npD : p ≠ D := fun z => by rw [z, hD4] at np; cases np
      refine ⟨hD5, ?_⟩
      generalize hzs : (Ty01.step st c).2 = zs at hp
      generalize hst : (Ty01.step st c).1 = st' at X5
      have erun : runC st (c :: rest) = zs :: runC st' rest := by
        show (Ty01.step st c).2 :: runC (Ty01.step st c).1 rest = _
        rw [hzs, hst]
      rw [erun, told_cons, ← List.append_assoc] at eG
      have lG : G.length + (zs.length + 1) ≤ 10000000 := by
        have := congrArg List.length eG
        rw [List.length_append, List.length_append, List.length_cons] at this
        omega
      have hp6 : ∀ o, (upd H5 D o) p = some (.lst (zs.map V.int)) := fun o => (upd_ne npD).trans hp
      refine ⟨_, rfl, .inl ⟨rfl, _, SqL.of upd_same⟩, _, rfl, p, _, rfl, .inl (SqL.of (hp6 _)), D, _, _, rfl, rfl, upd_same, (by rw [List.length_map]; show _ < 2 ^ 24; omega), ?_⟩
      refine ⟨_, rfl, .inl ⟨rfl, _, SqL.of upd_same⟩, _, rfl, D, p, _, _, rfl, rfl, upd_same, (upd_ne npD).trans (hp6 _), (by simp only [List.length_append, List.length_map, List.length_singleton]; show _ ≤ 2 ^ 24; omega), ?_⟩
      refine ⟨_, rfl, sans H5 D, dn ++ [c], rest, st', G ++ ((zs.length : Int) :: zs), some (.int (((dn.flatMap enc).length + (enc c).length : Nat) : Int)), some (.ref p), rfl, (by rw [ecs, List.append_assoc]; rfl), ?_, sans_at _ _, ?_, X5.sans hD5, hq5, ?_, eG⟩
      · rw [List.flatMap_append, List.flatMap_cons, List.flatMap_nil, List.append_nil, List.length_append]
        rfl
      · intro b u e
        have nb : b ≠ D := fun z => by rw [z, sans_at] at e; cases e
        rw [sans_ne nb] at e
        rw [upd_ne nb, upd_ne nb, upd_ne nb]
        exact e
      · rw [upd_same, List.map_append, List.length_map, List.append_assoc]
        rfl
end
end Pf
namespace Pf
open PySem PySem.Spec PyProof.Rows L2 SX
open C8 (Cal Met Mak Def cal0 met0 mak0 pe_c pe_mk pe_mt pe_mt0 pe_gc fnScope fnBody fnArgs fnScope_by)
open He (Fa FnD SaysE ga ma)
/-! ### the program's memory, by names -/
def dF (x : Str) (st : Stmt) : FnD := ⟨(x, none), x, x, fnArgs st, fnBody st, fnScope st⟩
def dM (C m q : Str) (st : Stmt) : FnD := ⟨(C, some m), m, q, fnArgs st, fnBody st, fnScope st⟩
def fa0 : List Fa := [.int "AHEAD" 4, .int "NUMBER" 0, .int "HANDED" 1, .int "OPERATION" 2, .int "CHOICE" 3, .int "CALL" 4, .str "LETTERS" "abcdefghijklmnopqrstuvwxyz", .str "DIGITS" "0123456789", .int "NO_FAULT" 0, .int "NO_ROW" 1, .int "NO_NAME" 2, .int "NO_MEANING" 3, .int "NO_EXPRESSION" 4, .int "TOO_MUCH" 5, .int "MOST_FUNCTIONS" 8, .int "MOST_TESTS" 4, .int "MOST_PLACES" 30, .int "MOST_TEST_WORDS" 20, .int "NONE" 0, .int "MISFIT" 1, .int "EMPTY" 2, .int "STEPS" 3, .int "LENGTH" 4, .int "MODULUS" 1000, .int "LONGEST" 10, .int "MOST_STEPS" 100, .int "NUMBERS" 100, .int "MOST_BYTES" 600, .int "HIGHEST_BYTE" 255, .int "WRITE" 0]
def fa1 : List Fa := [.int "TEST" 1, .int "ALL" 2, .int "RUN" 3, .int "REACH" 4, .int "PLACE" 5, .int "SEES" 6, .int "UNSEEN" 7, .int "FEWEST" 8, .free "len", .free "isinstance", .free "tuple", .free "range", .free "int", .free "enumerate", .free "any", .free "all", .free "dict", .free "list", .free "max", .free "reversed", .free "sum", .cls "Word", .cls "Function", .cls "Test", .cls "Place", .cls "Program", .cls "Run", .cls "House", .noat "Word" "kind", .noat "Word" "what"]
def fa2 : List Fa := [.noat "Word" "many", .noat "Word" "parts", .noat "Function" "row", .noat "Function" "many", .noat "Function" "start", .noat "Test" "row", .noat "Test" "shapes", .noat "Test" "start", .noat "Place" "position", .noat "Place" "function", .noat "Place" "which", .noat "Place" "many", .noat "Program" "code", .noat "Program" "places", .noat "Program" "functions", .noat "Program" "tests", .noat "Program" "taken", .noat "Run" "code", .noat "Run" "steps", .noat "Run" "why", .noat "Run" "reached", .noat "Run" "todo", .noat "Run" "results", .noat "House" "program", .noat "House" "earlier", .mkr "Program", .glo "Program", .mkr "House", .glo "House", .glo "call_end"]
def fa3 : List Fa := [.keep "call_end", .glo "sign", .keep "sign", .glo "words_of", .keep "words_of", .glo "rows_of", .keep "rows_of", .glo "are_shapes", .keep "are_shapes", .glo "is_row", .keep "is_row", .glo "is_name", .keep "is_name", .mkr "Function", .glo "Function", .glo "functions_known", .keep "functions_known", .glo "is_number", .keep "is_number", .mkr "Word", .glo "Word", .glo "meaning", .keep "meaning", .glo "join_parts", .keep "join_parts", .glo "is_too_much", .keep "is_too_much", .mkr "Place", .glo "Place", .glo "add_function"]
def fa4 : List Fa := [.keep "add_function", .mkr "Test", .glo "Test", .glo "add_row", .keep "add_row", .glo "read_row", .keep "read_row", .glo "read_text", .keep "read_text", .meth "House" "write", .meth "House" "has_test", .glo "short_lists", .keep "short_lists", .glo "values_of", .keep "values_of", .glo "pairs_of", .keep "pairs_of", .glo "inputs_of", .keep "inputs_of", .mkr "Run", .glo "Run", .glo "is_list", .keep "is_list", .meth "Run" "choose", .meth "Run" "take", .glo "of_numbers", .keep "of_numbers", .glo "cons", .keep "cons", .glo "of_list"]
def fa5 : List Fa := [.keep "of_list", .glo "operate", .keep "operate", .meth "Run" "finish", .meth "Run" "plan_parts", .meth "Run" "come_to", .meth "Run" "go", .glo "run_test", .keep "run_test", .meth "Run" "value", .glo "least_failing", .keep "least_failing", .glo "told", .keep "told", .meth "House" "test", .glo "holds", .keep "holds", .meth "House" "all_tests", .glo "length_told", .keep "length_told", .glo "read_values", .keep "read_values", .meth "House" "run", .glo "reached_by", .keep "reached_by", .glo "counted", .keep "counted", .meth "House" "reach", .meth "House" "has_place", .glo "spoilt_what"]
def fa6 : List Fa := [.keep "spoilt_what", .glo "can_be_spoilt", .keep "can_be_spoilt", .meth "House" "place", .glo "spoilt_code", .keep "spoilt_code", .glo "failing_spoilt", .keep "failing_spoilt", .glo "holding_tests", .keep "holding_tests", .glo "sight_of", .keep "sight_of", .meth "House" "sees", .glo "all_sights", .keep "all_sights", .meth "House" "unseen", .glo "see_all", .keep "see_all", .glo "longer_rows", .keep "longer_rows", .glo "fewest_tests", .keep "fewest_tests", .meth "House" "fewest", .glo "rows_told", .keep "rows_told", .glo "rows_come_by", .keep "rows_come_by", .glo "touched_tests", .keep "touched_tests", .meth "House" "touched"]
def fa7 : List Fa := [.glo "answer_call", .keep "answer_call", .glo "answers", .keep "answers", .glo "PARTS", .glo "BECOMES", .glo "ARGUMENTS", .glo "HEADS"]
def faL : List Fa := fa0 ++ (fa1 ++ (fa2 ++ (fa3 ++ (fa4 ++ (fa5 ++ (fa6 ++ (fa7)))))))
def fn0 : List FnD := [dM "Program" "__init__" "Program.__init__" (inClass (top 11) 0), dM "House" "__init__" "House.__init__" (inClass (top 94) 0), dF "call_end" (top 106), dF "sign" (top 20), dF "words_of" (top 21), dF "rows_of" (top 22), dF "are_shapes" (top 37), dF "is_row" (top 38), dF "is_name" (top 24), dM "Function" "__init__" "Function.__init__" (inClass (top 8) 0), dF "functions_known" (top 42), dF "is_number" (top 23), dM "Word" "__init__" "Word.__init__" (inClass (top 7) 0), dF "meaning" (top 39), dF "join_parts" (top 40), dF "is_too_much" (top 41), dM "Place" "__init__" "Place.__init__" (inClass (top 10) 0), dF "add_function" (top 43), dM "Test" "__init__" "Test.__init__" (inClass (top 9) 0), dF "add_row" (top 44), dF "read_row" (top 45), dF "read_text" (top 46), dM "House" "write" "House.write" (inClass (top 94) 3), dM "House" "has_test" "House.has_test" (inClass (top 94) 1), dF "short_lists" (top 65), dF "values_of" (top 66), dF "pairs_of" (top 67), dF "inputs_of" (top 68), dM "Run" "__init__" "Run.__init__" (inClass (top 62) 0), dF "is_list" (top 55)]
def fn1 : List FnD := [dM "Run" "choose" "Run.choose" (inClass (top 62) 5), dM "Run" "take" "Run.take" (inClass (top 62) 6), dF "of_numbers" (top 56), dF "cons" (top 57), dF "of_list" (top 58), dF "operate" (top 59), dM "Run" "finish" "Run.finish" (inClass (top 62) 4), dM "Run" "plan_parts" "Run.plan_parts" (inClass (top 62) 3), dM "Run" "come_to" "Run.come_to" (inClass (top 62) 2), dM "Run" "go" "Run.go" (inClass (top 62) 1), dF "run_test" (top 63), dM "Run" "value" "Run.value" (inClass (top 62) 7), dF "least_failing" (top 79), dF "told" (top 69), dM "House" "test" "House.test" (inClass (top 94) 4), dF "holds" (top 80), dM "House" "all_tests" "House.all_tests" (inClass (top 94) 5), dF "length_told" (top 70), dF "read_values" (top 71), dM "House" "run" "House.run" (inClass (top 94) 6), dF "reached_by" (top 81), dF "counted" (top 93), dM "House" "reach" "House.reach" (inClass (top 94) 7), dM "House" "has_place" "House.has_place" (inClass (top 94) 2), dF "spoilt_what" (top 75), dF "can_be_spoilt" (top 76), dM "House" "place" "House.place" (inClass (top 94) 8), dF "spoilt_code" (top 77), dF "failing_spoilt" (top 84), dF "holding_tests" (top 83)]
def fn2 : List FnD := [dF "sight_of" (top 85), dM "House" "sees" "House.sees" (inClass (top 94) 9), dF "all_sights" (top 86), dM "House" "unseen" "House.unseen" (inClass (top 94) 10), dF "see_all" (top 88), dF "longer_rows" (top 87), dF "fewest_tests" (top 89), dM "House" "fewest" "House.fewest" (inClass (top 94) 11), dF "rows_told" (top 14), dF "rows_come_by" (top 13), dF "touched_tests" (top 15), dM "House" "touched" "House.touched" (inClass (top 94) 12), dF "answer_call" (top 107), dF "answers" (top 108)]
def fnL : List FnD := fn0 ++ (fn1 ++ (fn2))
section
variable {fa : List Fa} {fn : List FnD} {K : PySem.W.Frag} {h : Heap} {mg : Str → Option Value}
theorem gc_int (X : K.In h) (G : h.Ns mainGlobals mg) {x : Str} {i : Int} (c : (Fa.int x i).ok K = true) : Gc mg x (.int i) := let ⟨t, e⟩ := He.int_ok X G c; ⟨_, e, t, rfl⟩
theorem gc_str (X : K.In h) (G : h.Ns mainGlobals mg) {x z : Str} (c : (Fa.str x z).ok K = true) : Gc mg x (.str z) := let ⟨t, e⟩ := He.str_ok X G c; ⟨_, e, t, rfl⟩
theorem def_of (X : K.In h) (G : h.Ns mainGlobals mg) (c : SaysE fa fn K) (i j l : Nat) {x : Str} {st : Stmt} {ps : List Str} (h0 : fn[i]? = some (dF x st)) (h1 : fa[j]? = some (.glo x)) (h2 : fa[l]? = some (.keep x))
    (hb : ∀ (kV doc pm : Value) (an : Option Addr) (cdv ct : Value) (us : List Value), us.length = ps.length → bindArgs (PySem.W.fnOf x x (fnArgs st) (fnBody st) (fnScope st) .none kV doc pm an cdv ct) ⟨us, []⟩ = pure (ps.zip us)) :
    ∃ f fd, Def K mg x st f fd ∧ Binds K fd ps [] := by
  obtain ⟨oc, od, osl, kV, doc, pm, an, cdv, ct, lk, cd⟩ := c.def_ i h0
  have F : C8.Fun K x x st (ga K x) _ := ⟨oc, od, .none, kV, doc, pm, an, cdv, ct, osl, rfl, lk, cd⟩
  exact ⟨_, _, ⟨F, He.glo_ok X G (c.fact j h1), He.keep_ok (c.fact l h2)⟩, F.binds rfl hb⟩
theorem met_of (c : SaysE fa fn K) (i j : Nat) {C m q : Str} {st : Stmt} {ps : List Str} (h0 : fn[i]? = some (dM C m q st)) (h1 : fa[j]? = some (.meth C m))
    (hb : ∀ (kV doc pm : Value) (an : Option Addr) (cdv ct : Value) (us : List Value), us.length = ps.length → bindArgs (PySem.W.fnOf m q (fnArgs st) (fnBody st) (fnScope st) .none kV doc pm an cdv ct) ⟨us, []⟩ = pure (ps.zip us)) :
    ∃ f fd, C8.Fun K m q st f fd ∧ Meth K (ga K C) m f ∧ Binds K fd ps [] := by
  obtain ⟨oc, od, osl, kV, doc, pm, an, cdv, ct, lk, cd⟩ := c.def_ i h0
  have F : C8.Fun K m q st (ma K (ga K C) m) _ := ⟨oc, od, .none, kV, doc, pm, an, cdv, ct, osl, rfl, lk, cd⟩
  exact ⟨_, _, F, He.meth_ok (c.fact j h1), F.binds rfl hb⟩
theorem mak_of (X : K.In h) (G : h.Ns mainGlobals mg) (c : SaysE fa fn K) (i j l : Nat) {C q : Str} {st : Stmt} {ps : List Str} (h0 : fn[i]? = some (dM C "__init__" q st)) (h1 : fa[j]? = some (.mkr C)) (h2 : fa[l]? = some (.glo C))
    (hb : ∀ (kV doc pm : Value) (an : Option Addr) (cdv ct : Value) (us : List Value), us.length = ps.length → bindArgs (PySem.W.fnOf "__init__" q (fnArgs st) (fnBody st) (fnScope st) .none kV doc pm an cdv ct) ⟨us, []⟩ = pure (ps.zip us)) :
    ∃ f fd, C8.Fun K "__init__" q st f fd ∧ Mk K (ga K C) f ∧ Binds K fd ps [] ∧ mg C = some (.ref (ga K C)) := by
  obtain ⟨oc, od, osl, kV, doc, pm, an, cdv, ct, lk, cd⟩ := c.def_ i h0
  have F : C8.Fun K "__init__" q st (ma K (ga K C) "__init__") _ := ⟨oc, od, .none, kV, doc, pm, an, cdv, ct, osl, rfl, lk, cd⟩
  exact ⟨_, _, F, He.mkr_ok (c.fact j h1), F.binds rfl hb, He.glo_ok X G (c.fact l h2)⟩
/-! tables -/
def pairB : List (Str × V) → List DictEntry → Bool
  | [], [] => true
  | q :: r, e :: l => (match e.key with
    | .str x _ => decide (x = q.1)
    | _ => false) && (He.relB q.2 e.val && pairB r l)
  | _, _ => false
theorem pairB_ok : ∀ {kvs : List (Str × V)} {l : List DictEntry}, pairB kvs l = true → Paired (fun (q : Str × V) (e : DictEntry) => (∃ t, e.key = .str q.1 t) ∧ RelV q.2 e.val) kvs l
  | [], [], _ => .nil
  | [], _ :: _, h => by cases h
  | _ :: _, [], h => by cases h
  | q :: r, e :: l, h => by
    have h : ((match e.key with
      | .str x _ => decide (x = q.1)
      | _ => false) && (He.relB q.2 e.val && pairB r l)) = true := h
    obtain ⟨h1, h2⟩ := He.ba h
    obtain ⟨h3, h4⟩ := He.ba h2
    refine .cons ⟨?_, He.relB_ok h3⟩ (pairB_ok h4)
    split at h1
    · rename_i x t ek
      rw [of_decide_eq_true h1] at ek
      exact ⟨t, ek⟩
    · cases h1
def dictB (K : PySem.W.Frag) (a : Addr) (kvs : List (Str × V)) : Bool := match K.lookup a with
  | some ⟨_, _, .dict es _, _⟩ => pairB kvs es.toList
  | _ => false
theorem dictC_of {w : World} (X : K.In h) (G : h.Ns mainGlobals mg) {x : Str} {kvs : List (Str × V)} {ks : List Str} (g : (Fa.glo x).ok K = true) (e : He.dicW K (ga K x) = some (He.keysIn w.params ks)) (p : dictB K (ga K x) kvs = true) : DictC K mg w x kvs := by
  obtain ⟨es, n, D⟩ := He.dicW_ok e
  refine ⟨ga K x, es, n, He.glo_ok X G g, D, pairB_ok ?_⟩
  unfold dictB at p
  rw [D.at_] at p
  exact p
def valB : List V → List Value → Bool
  | [], [] => true
  | v :: r, u :: l => He.relB v u && valB r l
  | _, _ => false
theorem valB_ok : ∀ {vs : List V} {us : List Value}, valB vs us = true → Vals vs us
  | [], [], _ => .nil
  | [], _ :: _, h => by cases h
  | _ :: _, [], h => by cases h
  | v :: r, u :: l, h => by
    obtain ⟨h1, h2⟩ := He.ba (show (He.relB v u && valB r l) = true from h)
    exact .cons (He.relB_ok h1) (valB_ok h2)
def tupleB (K : PySem.W.Frag) (a : Addr) (vs : List V) : Bool := match K.lookup a with
  | some ⟨.type c, none, .seq its _, _⟩ => decide (c = "tuple") && (decide (its.size ≤ sizeLine) && valB vs its.toList)
  | _ => false
theorem tupC_of (X : K.In h) (G : h.Ns mainGlobals mg) {x : Str} {vs : List V} (g : (Fa.glo x).ok K = true) (p : tupleB K (ga K x) vs = true) : TupC K mg x vs := by
  unfold tupleB at p
  cases q : K.lookup (ga K x) with
  | none => rw [q] at p; cases p
  | some o =>
    obtain ⟨oc, od, dt, osl⟩ := o
    rw [q] at p
    cases oc with
    | type c =>
      cases od with
      | none =>
        cases dt with
        | seq its n =>
          obtain ⟨h1, h2⟩ := He.ba (show (decide (c = "tuple") && (decide (its.size ≤ sizeLine) && valB vs its.toList)) = true from p)
          obtain ⟨h3, h4⟩ := He.ba h2
          exact ⟨ga K x, _, its, n, He.glo_ok X G g, q, congrArg Value.type (of_decide_eq_true h1), rfl, rfl, of_decide_eq_true h3, valB_ok h4⟩
        | _ => cases p
      | some a => cases dt <;> cases p
    | _ => cases od <;> cases dt <;> cases p
end
/-- all that the end leans on -/
structure Says (w : World) (K : PySem.W.Frag) : Prop where
  c : SaysE faL fnL K
  d1 : He.dicW K (ga K "PARTS") = some (He.keysIn w.params (partsL.map (·.1)))
  d2 : He.dicW K (ga K "BECOMES") = some (He.keysIn w.params (becomesL.map (·.1)))
  p1 : dictB K (ga K "PARTS") partsL = true
  p2 : dictB K (ga K "BECOMES") becomesL = true
  t1 : tupleB K (ga K "ARGUMENTS") [.str "a", .str "b", .str "c"] = true
  t2 : tupleB K (ga K "HEADS") [.int 2, .int 2, .int 1, .int 3, .int 2, .int 2, .int 2, .int 1, .int 1, .int 1] = true
  r1 : PySem.W.mroIn K (ga K "Word") (.type "object") = some true
  r2 : PySem.W.findIn K (.ref (ga K "Word")) "__eq__" = some (some (.builtin "object.__eq__"))
theorem all_mk {P : PySem.Program} {w : World} {K : PySem.W.Frag} {h : Heap} {mg : Str → Option Value} {f : Addr} (X : K.In h) (G : h.Ns mainGlobals mg) (hfa : mg "answers" = some (.ref f)) (S : Says w K) :
    ∃ fd : FuncData, (∀ (s : Shared) (us : List Value), us.length = (["calls"] : List Str).length → BindsTo s fd ⟨us, []⟩ ((["calls"] : List Str).zip us)) ∧ ∀ base : Heap, K.In base → base.Ns mainGlobals mg → FnOk P w K mg base CX0 14 f fd ["calls"] (spAns K) := by
  have c := S.c
  have e := hfa.symm.trans (He.glo_ok X G (c.fact 212 (f := .glo "answers") rfl))
  cases e
  obtain ⟨oc, od, osl, kV, doc, pm, an, cdv, ct, lk, cd⟩ := c.def_ 73 (d := dF "answers" (top 108)) rfl
  have FA : Def K mg "answers" (top 108) (ga K "answers") _ := ⟨⟨oc, od, .none, kV, doc, pm, an, cdv, ct, osl, rfl, lk, cd⟩, He.glo_ok X G (c.fact 212 rfl), He.keep_ok (c.fact 213 (f := .keep "answers") rfl)⟩
  let A : Ad := ⟨ga K "Word", ga K "Function", ga K "Test", ga K "Place", ga K "Program", ga K "Run", ga K "House"⟩
  have T : Tp K mg A := ⟨gc_int X G (c.fact 0 rfl), gc_int X G (c.fact 1 rfl), gc_int X G (c.fact 2 rfl), gc_int X G (c.fact 3 rfl), gc_int X G (c.fact 4 rfl), gc_int X G (c.fact 5 rfl), gc_str X G (c.fact 6 rfl), gc_str X G (c.fact 7 rfl), gc_int X G (c.fact 8 rfl), gc_int X G (c.fact 9 rfl), gc_int X G (c.fact 10 rfl), gc_int X G (c.fact 11 rfl), gc_int X G (c.fact 12 rfl), gc_int X G (c.fact 13 rfl), gc_int X G (c.fact 14 rfl), gc_int X G (c.fact 15 rfl), gc_int X G (c.fact 16 rfl), gc_int X G (c.fact 17 rfl), gc_int X G (c.fact 18 rfl), gc_int X G (c.fact 19 rfl), gc_int X G (c.fact 20 rfl), gc_int X G (c.fact 21 rfl), gc_int X G (c.fact 22 rfl), gc_int X G (c.fact 23 rfl), gc_int X G (c.fact 24 rfl), gc_int X G (c.fact 25 rfl), gc_int X G (c.fact 26 rfl), gc_int X G (c.fact 27 rfl), gc_int X G (c.fact 28 rfl), gc_int X G (c.fact 29 rfl), gc_int X G (c.fact 30 rfl), gc_int X G (c.fact 31 rfl), gc_int X G (c.fact 32 rfl), gc_int X G (c.fact 33 rfl), gc_int X G (c.fact 34 rfl), gc_int X G (c.fact 35 rfl), gc_int X G (c.fact 36 rfl), gc_int X G (c.fact 37 rfl), He.free_ok X G (c.fact 38 rfl), He.free_ok X G (c.fact 39 rfl), He.free_ok X G (c.fact 40 rfl), He.free_ok X G (c.fact 41 rfl), He.free_ok X G (c.fact 42 rfl), He.free_ok X G (c.fact 43 rfl), He.free_ok X G (c.fact 44 rfl), He.free_ok X G (c.fact 45 rfl), He.free_ok X G (c.fact 46 rfl), He.free_ok X G (c.fact 47 rfl), He.free_ok X G (c.fact 48 rfl), He.free_ok X G (c.fact 49 rfl), He.free_ok X G (c.fact 50 rfl), He.cls_ok (c.fact 51 rfl), He.cls_ok (c.fact 52 rfl), He.cls_ok (c.fact 53 rfl), He.cls_ok (c.fact 54 rfl), He.cls_ok (c.fact 55 rfl), He.cls_ok (c.fact 56 rfl), He.cls_ok (c.fact 57 rfl), He.noat_ok (c.fact 58 rfl), He.noat_ok (c.fact 59 rfl), He.noat_ok (c.fact 60 rfl), He.noat_ok (c.fact 61 rfl), He.noat_ok (c.fact 62 rfl), He.noat_ok (c.fact 63 rfl), He.noat_ok (c.fact 64 rfl), He.noat_ok (c.fact 65 rfl), He.noat_ok (c.fact 66 rfl), He.noat_ok (c.fact 67 rfl), He.noat_ok (c.fact 68 rfl), He.noat_ok (c.fact 69 rfl), He.noat_ok (c.fact 70 rfl), He.noat_ok (c.fact 71 rfl), He.noat_ok (c.fact 72 rfl), He.noat_ok (c.fact 73 rfl), He.noat_ok (c.fact 74 rfl), He.noat_ok (c.fact 75 rfl), He.noat_ok (c.fact 76 rfl), He.noat_ok (c.fact 77 rfl), He.noat_ok (c.fact 78 rfl), He.noat_ok (c.fact 79 rfl), He.noat_ok (c.fact 80 rfl), He.noat_ok (c.fact 81 rfl), He.noat_ok (c.fact 82 rfl), He.noat_ok (c.fact 83 rfl), He.noat_ok (c.fact 84 rfl)⟩
  have U : Tq K mg w := ⟨dictC_of X G (c.fact 214 rfl) S.d1 S.p1, dictC_of X G (c.fact 215 rfl) S.d2 S.p2, tupC_of X G (c.fact 216 rfl) S.t1, tupC_of X G (c.fact 217 rfl) S.t2⟩
  have R : Tr K A := ⟨S.r1, S.r2⟩
  refine ⟨PySem.W.fnOf "answers" "answers" (fnArgs (top 108)) (fnBody (top 108)) (fnScope (top 108)) .none kV doc pm an cdv ct, fun s us hu => match us, hu with | [_], _ => .of_eq rfl, fun base _ _ => ?_⟩
  obtain ⟨_, _, F, M, b, hm⟩ := mak_of X G c 0 85 86 (C := "Program") (st := (inClass (top 11) 0)) (ps := ["self"]) rfl rfl rfl (fun _ _ _ _ _ _ us hl => match us, hl with | [_], _ => rfl)
  have h_Program := ok_Program (P := P) (w := w) (base := base) T hm F M b
  obtain ⟨_, _, F, M, b, hm⟩ := mak_of X G c 1 87 88 (C := "House") (st := (inClass (top 94) 0)) (ps := ["self"]) rfl rfl rfl (fun _ _ _ _ _ _ us hl => match us, hl with | [_], _ => rfl)
  have h_House := ok_House (P := P) (w := w) (base := base) T hm h_Program F M b
  obtain ⟨_, _, F, b⟩ := def_of X G c 2 89 90 (x := "call_end") (st := (top 106)) (ps := ["calls", "at"]) rfl rfl rfl (fun _ _ _ _ _ _ us hl => match us, hl with | [_, _], _ => rfl)
  have h_call_end := ok_call_end (P := P) (w := w) (base := base) T U F b
  obtain ⟨_, _, F, b⟩ := def_of X G c 3 91 92 (x := "sign") (st := (top 20)) (ps := ["byte"]) rfl rfl rfl (fun _ _ _ _ _ _ us hl => match us, hl with | [_], _ => rfl)
  have h_sign := ok_sign (P := P) (w := w) (base := base) T F b
  obtain ⟨_, _, F, b⟩ := def_of X G c 4 93 94 (x := "words_of") (st := (top 21)) (ps := ["row"]) rfl rfl rfl (fun _ _ _ _ _ _ us hl => match us, hl with | [_], _ => rfl)
  have h_words_of := ok_words_of (P := P) (w := w) (base := base) T F b
  obtain ⟨_, _, F, b⟩ := def_of X G c 5 95 96 (x := "rows_of") (st := (top 22)) (ps := ["numbers"]) rfl rfl rfl (fun _ _ _ _ _ _ us hl => match us, hl with | [_], _ => rfl)
  have h_rows_of := ok_rows_of (P := P) (w := w) (base := base) T h_sign h_words_of F b
  obtain ⟨_, _, F, b⟩ := def_of X G c 6 97 98 (x := "are_shapes") (st := (top 37)) (ps := ["word"]) rfl rfl rfl (fun _ _ _ _ _ _ us hl => match us, hl with | [_], _ => rfl)
  have h_are_shapes := ok_are_shapes (P := P) (w := w) (base := base) T F b
  obtain ⟨_, _, F, b⟩ := def_of X G c 7 99 100 (x := "is_row") (st := (top 38)) (ps := ["words"]) rfl rfl rfl (fun _ _ _ _ _ _ us hl => match us, hl with | [_], _ => rfl)
  have h_is_row := ok_is_row (P := P) (w := w) (base := base) T h_are_shapes F b
  obtain ⟨_, _, F, b⟩ := def_of X G c 8 101 102 (x := "is_name") (st := (top 24)) (ps := ["word"]) rfl rfl rfl (fun _ _ _ _ _ _ us hl => match us, hl with | [_], _ => rfl)
  have h_is_name := ok_is_name (P := P) (w := w) (base := base) T U F b
  obtain ⟨_, _, F, M, b, hm⟩ := mak_of X G c 9 103 104 (C := "Function") (st := (inClass (top 8) 0)) (ps := ["self", "row", "start"]) rfl rfl rfl (fun _ _ _ _ _ _ us hl => match us, hl with | [_, _, _], _ => rfl)
  have h_Function := ok_Function (P := P) (w := w) (base := base) T hm F M b
  obtain ⟨_, _, F, b⟩ := def_of X G c 10 105 106 (x := "functions_known") (st := (top 42)) (ps := ["program", "words"]) rfl rfl rfl (fun _ _ _ _ _ _ us hl => match us, hl with | [_, _], _ => rfl)
  have h_functions_known := ok_functions_known (P := P) (w := w) (base := base) T h_Function F b
  obtain ⟨_, _, F, b⟩ := def_of X G c 11 107 108 (x := "is_number") (st := (top 23)) (ps := ["word"]) rfl rfl rfl (fun _ _ _ _ _ _ us hl => match us, hl with | [_], _ => rfl)
  have h_is_number := ok_is_number (P := P) (w := w) (base := base) T F b
  obtain ⟨_, _, F, M, b, hm⟩ := mak_of X G c 12 109 110 (C := "Word") (st := (inClass (top 7) 0)) (ps := ["self", "kind", "what", "many"]) rfl rfl rfl (fun _ _ _ _ _ _ us hl => match us, hl with | [_, _, _, _], _ => rfl)
  have h_Word := ok_Word (P := P) (w := w) (base := base) T hm F M b
  obtain ⟨_, _, F, b⟩ := def_of X G c 13 111 112 (x := "meaning") (st := (top 39)) (ps := ["word", "many", "functions"]) rfl rfl rfl (fun _ _ _ _ _ _ us hl => match us, hl with | [_, _, _], _ => rfl)
  have h_meaning := ok_meaning (P := P) (w := w) (base := base) T U h_is_number h_Word F b
  obtain ⟨_, _, F, b⟩ := def_of X G c 14 113 114 (x := "join_parts") (st := (top 40)) (ps := ["expression", "start"]) rfl rfl rfl (fun _ _ _ _ _ _ us hl => match us, hl with | [_, _], _ => rfl)
  have h_join_parts := ok_join_parts (P := P) (w := w) (base := base) T F b
  obtain ⟨_, _, F, b⟩ := def_of X G c 15 115 116 (x := "is_too_much") (st := (top 41)) (ps := ["program", "words"]) rfl rfl rfl (fun _ _ _ _ _ _ us hl => match us, hl with | [_, _], _ => rfl)
  have h_is_too_much := ok_is_too_much (P := P) (w := w) (base := base) T F b
  obtain ⟨_, _, F, M, b, hm⟩ := mak_of X G c 16 117 118 (C := "Place") (st := (inClass (top 10) 0)) (ps := ["self", "position", "function", "which", "many"]) rfl rfl rfl (fun _ _ _ _ _ _ us hl => match us, hl with | [_, _, _, _, _], _ => rfl)
  have h_Place := ok_Place (P := P) (w := w) (base := base) T hm F M b
  obtain ⟨_, _, F, b⟩ := def_of X G c 17 119 120 (x := "add_function") (st := (top 43)) (ps := ["program", "function", "length"]) rfl rfl rfl (fun _ _ _ _ _ _ us hl => match us, hl with | [_, _, _], _ => rfl)
  have h_add_function := ok_add_function (P := P) (w := w) (base := base) T h_Place F b
  obtain ⟨_, _, F, M, b, hm⟩ := mak_of X G c 18 121 122 (C := "Test") (st := (inClass (top 9) 0)) (ps := ["self", "row", "start"]) rfl rfl rfl (fun _ _ _ _ _ _ us hl => match us, hl with | [_, _, _], _ => rfl)
  have h_Test := ok_Test (P := P) (w := w) (base := base) T hm F M b
  obtain ⟨_, _, F, b⟩ := def_of X G c 19 123 124 (x := "add_row") (st := (top 44)) (ps := ["program", "words", "expression"]) rfl rfl rfl (fun _ _ _ _ _ _ us hl => match us, hl with | [_, _, _], _ => rfl)
  have h_add_row := ok_add_row (P := P) (w := w) (base := base) T h_add_function h_Function h_Test F b
  obtain ⟨_, _, F, b⟩ := def_of X G c 20 125 126 (x := "read_row") (st := (top 45)) (ps := ["program", "words"]) rfl rfl rfl (fun _ _ _ _ _ _ us hl => match us, hl with | [_, _], _ => rfl)
  have h_read_row := ok_read_row (P := P) (w := w) (base := base) T R h_is_row h_is_name h_functions_known h_meaning h_join_parts h_is_too_much h_add_row F b
  obtain ⟨_, _, F, b⟩ := def_of X G c 21 127 128 (x := "read_text") (st := (top 46)) (ps := ["numbers"]) rfl rfl rfl (fun _ _ _ _ _ _ us hl => match us, hl with | [_], _ => rfl)
  have h_read_text := ok_read_text (P := P) (w := w) (base := base) T h_Program h_rows_of h_read_row F b
  obtain ⟨_, _, F, me, b⟩ := met_of c 22 129 (C := "House") (m := "write") (q := "House.write") (st := (inClass (top 94) 3)) (ps := ["self", "numbers"]) rfl rfl (fun _ _ _ _ _ _ us hl => match us, hl with | [_, _], _ => rfl)
  have h_write := ok_write (P := P) (w := w) (mg := mg) (base := base) T h_read_text F me b
  obtain ⟨_, _, F, me, b⟩ := met_of c 23 130 (C := "House") (m := "has_test") (q := "House.has_test") (st := (inClass (top 94) 1)) (ps := ["self", "k"]) rfl rfl (fun _ _ _ _ _ _ us hl => match us, hl with | [_, _], _ => rfl)
  have h_has_test := ok_has_test (P := P) (w := w) (mg := mg) (base := base) T F me b
  obtain ⟨_, _, F, b⟩ := def_of X G c 24 131 132 (x := "short_lists") (st := (top 65)) (ps := []) rfl rfl rfl (fun _ _ _ _ _ _ us hl => match us, hl with | [], _ => rfl)
  have h_short_lists := ok_short_lists (P := P) (w := w) (base := base) T F b
  obtain ⟨_, _, F, b⟩ := def_of X G c 25 133 134 (x := "values_of") (st := (top 66)) (ps := ["shape"]) rfl rfl rfl (fun _ _ _ _ _ _ us hl => match us, hl with | [_], _ => rfl)
  have h_values_of := ok_values_of (P := P) (w := w) (base := base) T h_short_lists F b
  obtain ⟨_, _, F, b⟩ := def_of X G c 26 135 136 (x := "pairs_of") (st := (top 67)) (ps := ["firsts", "seconds"]) rfl rfl rfl (fun _ _ _ _ _ _ us hl => match us, hl with | [_, _], _ => rfl)
  have h_pairs_of := ok_pairs_of (P := P) (w := w) (base := base) T F b
  obtain ⟨_, _, F, b⟩ := def_of X G c 27 137 138 (x := "inputs_of") (st := (top 68)) (ps := ["shapes"]) rfl rfl rfl (fun _ _ _ _ _ _ us hl => match us, hl with | [_], _ => rfl)
  have h_inputs_of := ok_inputs_of (P := P) (w := w) (base := base) T h_values_of h_pairs_of F b
  obtain ⟨_, _, F, M, b, hm⟩ := mak_of X G c 28 139 140 (C := "Run") (st := (inClass (top 62) 0)) (ps := ["self", "code"]) rfl rfl rfl (fun _ _ _ _ _ _ us hl => match us, hl with | [_, _], _ => rfl)
  have h_Run := ok_Run (P := P) (w := w) (base := base) T hm F M b
  obtain ⟨_, _, F, b⟩ := def_of X G c 29 141 142 (x := "is_list") (st := (top 55)) (ps := ["value"]) rfl rfl rfl (fun _ _ _ _ _ _ us hl => match us, hl with | [_], _ => rfl)
  have h_is_list := ok_is_list (P := P) (w := w) (base := base) T F b
  obtain ⟨_, _, F, me, b⟩ := met_of c 30 143 (C := "Run") (m := "choose") (q := "Run.choose") (st := (inClass (top 62) 5)) (ps := ["self", "word", "handed"]) rfl rfl (fun _ _ _ _ _ _ us hl => match us, hl with | [_, _, _], _ => rfl)
  have h_choose := ok_choose (P := P) (w := w) (mg := mg) (base := base) T h_is_list F me b
  obtain ⟨_, _, F, me, b⟩ := met_of c 31 144 (C := "Run") (m := "take") (q := "Run.take") (st := (inClass (top 62) 6)) (ps := ["self", "many"]) rfl rfl (fun _ _ _ _ _ _ us hl => match us, hl with | [_, _], _ => rfl)
  have h_take := ok_take (P := P) (w := w) (mg := mg) (base := base) T F me b
  obtain ⟨_, _, F, b⟩ := def_of X G c 32 145 146 (x := "of_numbers") (st := (top 56)) (ps := ["name", "first", "second"]) rfl rfl rfl (fun _ _ _ _ _ _ us hl => match us, hl with | [_, _, _], _ => rfl)
  have h_of_numbers := ok_of_numbers (P := P) (w := w) (base := base) T h_is_list F b
  obtain ⟨_, _, F, b⟩ := def_of X G c 33 147 148 (x := "cons") (st := (top 57)) (ps := ["first", "second"]) rfl rfl rfl (fun _ _ _ _ _ _ us hl => match us, hl with | [_, _], _ => rfl)
  have h_cons := ok_cons (P := P) (w := w) (base := base) T h_is_list F b
  obtain ⟨_, _, F, b⟩ := def_of X G c 34 149 150 (x := "of_list") (st := (top 58)) (ps := ["name", "value"]) rfl rfl rfl (fun _ _ _ _ _ _ us hl => match us, hl with | [_, _], _ => rfl)
  have h_of_list := ok_of_list (P := P) (w := w) (base := base) T h_is_list F b
  obtain ⟨_, _, F, b⟩ := def_of X G c 35 151 152 (x := "operate") (st := (top 59)) (ps := ["name", "parts"]) rfl rfl rfl (fun _ _ _ _ _ _ us hl => match us, hl with | [_, _], _ => rfl)
  have h_operate := ok_operate (P := P) (w := w) (base := base) T h_of_numbers h_cons h_of_list F b
  obtain ⟨_, _, F, me, b⟩ := met_of c 36 153 (C := "Run") (m := "finish") (q := "Run.finish") (st := (inClass (top 62) 4)) (ps := ["self", "word", "handed"]) rfl rfl (fun _ _ _ _ _ _ us hl => match us, hl with | [_, _, _], _ => rfl)
  have h_finish := ok_finish (P := P) (w := w) (mg := mg) (base := base) T h_choose h_take h_operate F me b
  obtain ⟨_, _, F, me, b⟩ := met_of c 37 154 (C := "Run") (m := "plan_parts") (q := "Run.plan_parts") (st := (inClass (top 62) 3)) (ps := ["self", "word", "handed"]) rfl rfl (fun _ _ _ _ _ _ us hl => match us, hl with | [_, _, _], _ => rfl)
  have h_plan_parts := ok_plan_parts (P := P) (w := w) (mg := mg) (base := base) T F me b
  obtain ⟨_, _, F, me, b⟩ := met_of c 38 155 (C := "Run") (m := "come_to") (q := "Run.come_to") (st := (inClass (top 62) 2)) (ps := ["self", "position", "handed"]) rfl rfl (fun _ _ _ _ _ _ us hl => match us, hl with | [_, _, _], _ => rfl)
  have h_come_to := ok_come_to (P := P) (w := w) (mg := mg) (base := base) T h_plan_parts F me b
  obtain ⟨_, _, F, me, b⟩ := met_of c 39 156 (C := "Run") (m := "go") (q := "Run.go") (st := (inClass (top 62) 1)) (ps := ["self", "start", "handed"]) rfl rfl (fun _ _ _ _ _ _ us hl => match us, hl with | [_, _, _], _ => rfl)
  have h_go := ok_go (P := P) (w := w) (mg := mg) (base := base) T h_finish h_come_to F me b
  obtain ⟨_, _, F, b⟩ := def_of X G c 40 157 158 (x := "run_test") (st := (top 63)) (ps := ["code", "test", "handed"]) rfl rfl rfl (fun _ _ _ _ _ _ us hl => match us, hl with | [_, _, _], _ => rfl)
  have h_run_test := ok_run_test (P := P) (w := w) (base := base) T h_Run h_go F b
  obtain ⟨_, _, F, me, b⟩ := met_of c 41 159 (C := "Run") (m := "value") (q := "Run.value") (st := (inClass (top 62) 7)) (ps := ["self"]) rfl rfl (fun _ _ _ _ _ _ us hl => match us, hl with | [_], _ => rfl)
  have h_value := ok_value (P := P) (w := w) (mg := mg) (base := base) T F me b
  obtain ⟨_, _, F, b⟩ := def_of X G c 42 160 161 (x := "least_failing") (st := (top 79)) (ps := ["code", "test"]) rfl rfl rfl (fun _ _ _ _ _ _ us hl => match us, hl with | [_, _], _ => rfl)
  have h_least_failing := ok_least_failing (P := P) (w := w) (base := base) T h_inputs_of h_run_test h_value F b
  obtain ⟨_, _, F, b⟩ := def_of X G c 43 162 163 (x := "told") (st := (top 69)) (ps := ["value"]) rfl rfl rfl (fun _ _ _ _ _ _ us hl => match us, hl with | [_], _ => rfl)
  have h_told := ok_told (P := P) (w := w) (base := base) T h_is_list F b
  obtain ⟨_, _, F, me, b⟩ := met_of c 44 164 (C := "House") (m := "test") (q := "House.test") (st := (inClass (top 94) 4)) (ps := ["self", "k"]) rfl rfl (fun _ _ _ _ _ _ us hl => match us, hl with | [_, _], _ => rfl)
  have h_test := ok_test (P := P) (w := w) (mg := mg) (base := base) T h_has_test h_least_failing h_inputs_of h_told F me b
  obtain ⟨_, _, F, b⟩ := def_of X G c 45 165 166 (x := "holds") (st := (top 80)) (ps := ["code", "test"]) rfl rfl rfl (fun _ _ _ _ _ _ us hl => match us, hl with | [_, _], _ => rfl)
  have h_holds := ok_holds (P := P) (w := w) (base := base) T h_least_failing F b
  obtain ⟨_, _, F, me, b⟩ := met_of c 46 167 (C := "House") (m := "all_tests") (q := "House.all_tests") (st := (inClass (top 94) 5)) (ps := ["self"]) rfl rfl (fun _ _ _ _ _ _ us hl => match us, hl with | [_], _ => rfl)
  have h_all_tests := ok_all_tests (P := P) (w := w) (mg := mg) (base := base) T h_holds F me b
  obtain ⟨_, _, F, b⟩ := def_of X G c 47 168 169 (x := "length_told") (st := (top 70)) (ps := ["numbers", "shape"]) rfl rfl rfl (fun _ _ _ _ _ _ us hl => match us, hl with | [_, _], _ => rfl)
  have h_length_told := ok_length_told (P := P) (w := w) (base := base) T F b
  obtain ⟨_, _, F, b⟩ := def_of X G c 48 170 171 (x := "read_values") (st := (top 71)) (ps := ["numbers", "shapes"]) rfl rfl rfl (fun _ _ _ _ _ _ us hl => match us, hl with | [_, _], _ => rfl)
  have h_read_values := ok_read_values (P := P) (w := w) (base := base) T h_length_told F b
  obtain ⟨_, _, F, me, b⟩ := met_of c 49 172 (C := "House") (m := "run") (q := "House.run") (st := (inClass (top 94) 6)) (ps := ["self", "k", "numbers"]) rfl rfl (fun _ _ _ _ _ _ us hl => match us, hl with | [_, _, _], _ => rfl)
  have h_run := ok_run (P := P) (w := w) (mg := mg) (base := base) T h_has_test h_read_values h_run_test h_told h_value F me b
  obtain ⟨_, _, F, b⟩ := def_of X G c 50 173 174 (x := "reached_by") (st := (top 81)) (ps := ["code", "test"]) rfl rfl rfl (fun _ _ _ _ _ _ us hl => match us, hl with | [_, _], _ => rfl)
  have h_reached_by := ok_reached_by (P := P) (w := w) (base := base) T h_inputs_of h_run_test F b
  obtain ⟨_, _, F, b⟩ := def_of X G c 51 175 176 (x := "counted") (st := (top 93)) (ps := ["numbers"]) rfl rfl rfl (fun _ _ _ _ _ _ us hl => match us, hl with | [_], _ => rfl)
  have h_counted := ok_counted (P := P) (w := w) (base := base) T F b
  obtain ⟨_, _, F, me, b⟩ := met_of c 52 177 (C := "House") (m := "reach") (q := "House.reach") (st := (inClass (top 94) 7)) (ps := ["self", "k"]) rfl rfl (fun _ _ _ _ _ _ us hl => match us, hl with | [_, _], _ => rfl)
  have h_reach := ok_reach (P := P) (w := w) (mg := mg) (base := base) T h_has_test h_reached_by h_counted F me b
  obtain ⟨_, _, F, me, b⟩ := met_of c 53 178 (C := "House") (m := "has_place") (q := "House.has_place") (st := (inClass (top 94) 2)) (ps := ["self", "i"]) rfl rfl (fun _ _ _ _ _ _ us hl => match us, hl with | [_, _], _ => rfl)
  have h_has_place := ok_has_place (P := P) (w := w) (mg := mg) (base := base) T F me b
  obtain ⟨_, _, F, b⟩ := def_of X G c 54 179 180 (x := "spoilt_what") (st := (top 75)) (ps := ["word", "many"]) rfl rfl rfl (fun _ _ _ _ _ _ us hl => match us, hl with | [_, _], _ => rfl)
  have h_spoilt_what := ok_spoilt_what (P := P) (w := w) (base := base) T U F b
  obtain ⟨_, _, F, b⟩ := def_of X G c 55 181 182 (x := "can_be_spoilt") (st := (top 76)) (ps := ["program", "place"]) rfl rfl rfl (fun _ _ _ _ _ _ us hl => match us, hl with | [_, _], _ => rfl)
  have h_can_be_spoilt := ok_can_be_spoilt (P := P) (w := w) (base := base) T h_spoilt_what F b
  obtain ⟨_, _, F, me, b⟩ := met_of c 56 183 (C := "House") (m := "place") (q := "House.place") (st := (inClass (top 94) 8)) (ps := ["self", "i"]) rfl rfl (fun _ _ _ _ _ _ us hl => match us, hl with | [_, _], _ => rfl)
  have h_place := ok_place (P := P) (w := w) (mg := mg) (base := base) T h_has_place h_can_be_spoilt F me b
  obtain ⟨_, _, F, b⟩ := def_of X G c 57 184 185 (x := "spoilt_code") (st := (top 77)) (ps := ["program", "place"]) rfl rfl rfl (fun _ _ _ _ _ _ us hl => match us, hl with | [_, _], _ => rfl)
  have h_spoilt_code := ok_spoilt_code (P := P) (w := w) (base := base) T h_spoilt_what h_Word F b
  obtain ⟨_, _, F, b⟩ := def_of X G c 58 186 187 (x := "failing_spoilt") (st := (top 84)) (ps := ["program", "holding", "place"]) rfl rfl rfl (fun _ _ _ _ _ _ us hl => match us, hl with | [_, _, _], _ => rfl)
  have h_failing_spoilt := ok_failing_spoilt (P := P) (w := w) (base := base) T h_holds h_spoilt_code F b
  obtain ⟨_, _, F, b⟩ := def_of X G c 59 188 189 (x := "holding_tests") (st := (top 83)) (ps := ["program"]) rfl rfl rfl (fun _ _ _ _ _ _ us hl => match us, hl with | [_], _ => rfl)
  have h_holding_tests := ok_holding_tests (P := P) (w := w) (base := base) T h_holds F b
  obtain ⟨_, _, F, b⟩ := def_of X G c 60 190 191 (x := "sight_of") (st := (top 85)) (ps := ["program", "place"]) rfl rfl rfl (fun _ _ _ _ _ _ us hl => match us, hl with | [_, _], _ => rfl)
  have h_sight_of := ok_sight_of (P := P) (w := w) (base := base) T h_failing_spoilt h_holding_tests F b
  obtain ⟨_, _, F, me, b⟩ := met_of c 61 192 (C := "House") (m := "sees") (q := "House.sees") (st := (inClass (top 94) 9)) (ps := ["self", "i"]) rfl rfl (fun _ _ _ _ _ _ us hl => match us, hl with | [_, _], _ => rfl)
  have h_sees := ok_sees (P := P) (w := w) (mg := mg) (base := base) T h_has_place h_can_be_spoilt h_sight_of h_counted F me b
  obtain ⟨_, _, F, b⟩ := def_of X G c 62 193 194 (x := "all_sights") (st := (top 86)) (ps := ["program"]) rfl rfl rfl (fun _ _ _ _ _ _ us hl => match us, hl with | [_], _ => rfl)
  have h_all_sights := ok_all_sights (P := P) (w := w) (base := base) T h_holding_tests h_can_be_spoilt h_failing_spoilt F b
  obtain ⟨_, _, F, me, b⟩ := met_of c 63 195 (C := "House") (m := "unseen") (q := "House.unseen") (st := (inClass (top 94) 10)) (ps := ["self"]) rfl rfl (fun _ _ _ _ _ _ us hl => match us, hl with | [_], _ => rfl)
  have h_unseen := ok_unseen (P := P) (w := w) (mg := mg) (base := base) T h_all_sights h_counted F me b
  obtain ⟨_, _, F, b⟩ := def_of X G c 64 196 197 (x := "see_all") (st := (top 88)) (ps := ["row", "seen"]) rfl rfl rfl (fun _ _ _ _ _ _ us hl => match us, hl with | [_, _], _ => rfl)
  have h_see_all := ok_see_all (P := P) (w := w) (base := base) T F b
  obtain ⟨_, _, F, b⟩ := def_of X G c 65 198 199 (x := "longer_rows") (st := (top 87)) (ps := ["rows", "many"]) rfl rfl rfl (fun _ _ _ _ _ _ us hl => match us, hl with | [_, _], _ => rfl)
  have h_longer_rows := ok_longer_rows (P := P) (w := w) (base := base) T F b
  obtain ⟨_, _, F, b⟩ := def_of X G c 66 200 201 (x := "fewest_tests") (st := (top 89)) (ps := ["program"]) rfl rfl rfl (fun _ _ _ _ _ _ us hl => match us, hl with | [_], _ => rfl)
  have h_fewest_tests := ok_fewest_tests (P := P) (w := w) (base := base) T h_all_sights h_see_all h_longer_rows F b
  obtain ⟨_, _, F, me, b⟩ := met_of c 67 202 (C := "House") (m := "fewest") (q := "House.fewest") (st := (inClass (top 94) 11)) (ps := ["self"]) rfl rfl (fun _ _ _ _ _ _ us hl => match us, hl with | [_], _ => rfl)
  have h_fewest := ok_fewest (P := P) (w := w) (mg := mg) (base := base) T h_fewest_tests h_counted F me b
  obtain ⟨_, _, F, b⟩ := def_of X G c 68 203 204 (x := "rows_told") (st := (top 14)) (ps := ["program"]) rfl rfl rfl (fun _ _ _ _ _ _ us hl => match us, hl with | [_], _ => rfl)
  have h_rows_told := ok_rows_told (P := P) (w := w) (base := base) T F b
  obtain ⟨_, _, F, b⟩ := def_of X G c 69 205 206 (x := "rows_come_by") (st := (top 13)) (ps := ["program", "test"]) rfl rfl rfl (fun _ _ _ _ _ _ us hl => match us, hl with | [_, _], _ => rfl)
  have h_rows_come_by := ok_rows_come_by (P := P) (w := w) (base := base) T F b
  obtain ⟨_, _, F, b⟩ := def_of X G c 70 207 208 (x := "touched_tests") (st := (top 15)) (ps := ["earlier", "program"]) rfl rfl rfl (fun _ _ _ _ _ _ us hl => match us, hl with | [_, _], _ => rfl)
  have h_touched_tests := ok_touched_tests (P := P) (w := w) (base := base) T h_rows_told h_rows_come_by F b
  obtain ⟨_, _, F, me, b⟩ := met_of c 71 209 (C := "House") (m := "touched") (q := "House.touched") (st := (inClass (top 94) 12)) (ps := ["self"]) rfl rfl (fun _ _ _ _ _ _ us hl => match us, hl with | [_], _ => rfl)
  have h_touched := ok_touched (P := P) (w := w) (mg := mg) (base := base) T h_touched_tests h_counted F me b
  obtain ⟨_, _, F, b⟩ := def_of X G c 72 210 211 (x := "answer_call") (st := (top 107)) (ps := ["house", "call"]) rfl rfl rfl (fun _ _ _ _ _ _ us hl => match us, hl with | [_, _], _ => rfl)
  have h_answer_call := ok_answer_call (P := P) (w := w) (base := base) T h_write h_test h_all_tests h_run h_reach h_place h_sees h_unseen h_fewest h_touched F b
  exact ok_answers T h_House h_call_end h_answer_call FA
end Pf
open PySem PySem.W PyProof.Rows
theorem PySem.Challenge.cw_spoiltplaces_s01_answers_holds : PySem.Challenge.rw_spoiltplaces_s01_answers.Holds := by
  w_on; k_headS; (case hw => exact ⟨[.list [.int 2]], by decide +kernel, by decide +kernel⟩)
  k_fillS
  refine L2.walk_specK (r := PySem.Challenge.rw_spoiltplaces_s01_answers) (k := 14) (CX := L2.CX0) (ps := ["calls"]) (sp := Pf.spAns) (by decide +kernel) rfl rfl ⟨rfl, by decide, by decide⟩ (fun w h Y => PySem.W.kIn_of Y) ?F ?S (fun _ _ _ _ z => z)
  case F =>
    intro w mg fa h Y KX G hmg
    refine Pf.all_mk KX G hmg ⟨?c, ?d1, ?d2, ?p1, ?p2, ?t1, ?t2, ?r1, ?r2⟩
    case d1 => kernel_rfl
    case d2 => kernel_rfl
    case p1 => kernel_rfl
    case p2 => kernel_rfl
    case t1 => kernel_rfl
    case t2 => kernel_rfl
    case r1 => kernel_rfl
    case r2 => kernel_rfl
    case c =>
      unfold He.SaysE
      kernel_rfl
  case S =>
    intro K H xs a hO hwi hask hx
    cases hx with
    | cons h1 h2 =>
      cases h2
      cases h1 with
      | lst hs ha =>
        have e := L2.ints_dw a.1 _ ha
        subst e
        exact ⟨_, a.1, rfl, hs, hask, fun H' p hp => .lst (L2.SqL.of hp) (L2.dw_ints _)⟩

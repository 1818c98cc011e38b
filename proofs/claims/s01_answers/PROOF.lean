import PyProof.Rows.All
import Wide.All
import OpenK.AllK
import Wide.FinOn
import Open.SpecLaws
import KE.OsGo
import HandS.ForSpec
import HandS.ForMost
import HandS.Walk
import HandS.TupLe
import HandS.TupAny
import HandS.Lambda
import KE.SortKeyHeap
import PySem.Challenge.RW_worthmost_s01_answers

set_option Elab.async false
set_option linter.all false
set_option maxRecDepth 100000

/-! The specification's side: orders, ways, and what `known` knows. -/
namespace WM
open Pn (Act Task)
open Pn11 (less better Known at_ round settle known)

abbrev Cl := Nat × List Nat

theorem less_irrefl : ∀ l : List Nat, less l l = false
  | [] => rfl
  | a :: r => by simp [less, less_irrefl r]

theorem less_trans : ∀ {a b c : List Nat}, less a b = true → less b c = true → less a c = true
  | [], [], _, h, _ => by simp [less] at h
  | [], _ :: _, [], _, h => by simp [less] at h
  | [], _ :: _, _ :: _, _, _ => by simp [less]
  | _ :: _, [], _, h, _ => by simp [less] at h
  | _ :: _, _ :: _, [], _, h => by simp [less] at h
  | x :: a, y :: b, z :: c, h, h' => by
    simp only [less, Bool.or_eq_true, decide_eq_true_eq, Bool.and_eq_true, beq_iff_eq] at *
    rcases h with h | ⟨h, h1⟩ <;> rcases h' with h' | ⟨h', h1'⟩
    · left; omega
    · left; omega
    · left; omega
    · right; exact ⟨by omega, less_trans h1 h1'⟩

theorem less_total : ∀ {a b : List Nat}, less a b = false → less b a = false → a = b
  | [], [], _, _ => rfl
  | [], _ :: _, h, _ => by simp [less] at h
  | _ :: _, [], _, h => by simp [less] at h
  | x :: a, y :: b, h, h' => by
    simp only [less, Bool.or_eq_false_iff, decide_eq_false_iff_not, Bool.and_eq_false_iff, beq_eq_false_iff_ne] at *
    have e : x = y := by omega
    subst e
    have h1 : less a b = false := by rcases h.2 with q | q; exact absurd rfl q; exact q
    have h2 : less b a = false := by rcases h'.2 with q | q; exact absurd rfl q; exact q
    rw [less_total h1 h2]

theorem less_snoc : ∀ {a b : List Nat} (k : Nat), a.length = b.length → less (a ++ [k]) (b ++ [k]) = less a b
  | [], [], k, _ => by simp [less]
  | [], _ :: _, _, h => by simp at h
  | _ :: _, [], _, h => by simp at h
  | x :: a, y :: b, k, h => by
    have := less_snoc (a := a) (b := b) k (by simpa using h)
    simp [less, this]

theorem better_iff {a b : Cl} : better a b = true ↔ a.1 < b.1 ∨ (a.1 = b.1 ∧ (a.2.length < b.2.length ∨ (a.2.length = b.2.length ∧ less a.2 b.2 = true))) := by
  simp [better]

theorem better_irrefl (a : Cl) : better a a = false := by
  simp [better, less_irrefl]

theorem better_trans {a b c : Cl} (h : better a b = true) (h' : better b c = true) : better a c = true := by
  rw [better_iff] at *
  rcases h with h | ⟨h, h | ⟨h1, h2⟩⟩ <;> rcases h' with h' | ⟨h', h' | ⟨h1', h2'⟩⟩
  all_goals first
    | (left; omega)
    | (right; refine ⟨by omega, ?_⟩; left; omega)
    | (right; refine ⟨by omega, ?_⟩; right; exact ⟨by omega, less_trans h2 h2'⟩)

theorem better_total {a b : Cl} (h : better a b = false) (h' : better b a = false) : a = b := by
  have h := mt better_iff.2 (by simpa using h)
  have h' := mt better_iff.2 (by simpa using h')
  have e1 : a.1 = b.1 := by omega
  have e2 : a.2.length = b.2.length := by
    rcases Nat.lt_trichotomy a.2.length b.2.length with q | q | q
    · exact absurd (Or.inr ⟨e1, Or.inl q⟩) h
    · exact q
    · exact absurd (Or.inr ⟨e1.symm, Or.inl q⟩) h'
  have e3 : a.2 = b.2 := by
    apply less_total
    · cases q : less a.2 b.2 with
      | false => rfl
      | true => exact absurd (Or.inr ⟨e1, Or.inr ⟨e2, q⟩⟩) h
    · cases q : less b.2 a.2 with
      | false => rfl
      | true => exact absurd (Or.inr ⟨e1.symm, Or.inr ⟨e2.symm, q⟩⟩) h'
  exact Prod.ext e1 e3

/-- a is no worse than b -/
def Le (a b : Cl) : Prop := better b a = false

theorem Le.refl (a : Cl) : Le a a := better_irrefl a

theorem Le.trans {a b c : Cl} (h : Le a b) (h' : Le b c) : Le a c := by
  unfold Le at *
  cases q : better c a with
  | false => rfl
  | true =>
    cases q2 : better a b with
    | true => rw [better_trans q q2] at h'; cases h'
    | false =>
      have := better_total q2 h; subst this
      rw [q] at h'; cases h'

theorem Le.antisymm {a b : Cl} (h : Le a b) (h' : Le b a) : a = b := better_total h' h

theorem Le.of_better {a b : Cl} (h : better a b = true) : Le a b := by
  unfold Le
  cases q : better b a with
  | false => rfl
  | true => have := better_trans h q; rw [better_irrefl] at this; cases this

theorem better_of_not_le {a b : Cl} (h : ¬ Le a b) : better b a = true := by
  unfold Le at h
  cases q : better b a with
  | true => rfl
  | false => exact absurd q h

theorem Le.lt {a b c : Cl} (h : Le a b) (h' : better b c = true) : better a c = true := by
  cases q : better a c with
  | true => rfl
  | false =>
    have h1 : Le c a := q
    have := h1.trans h
    unfold Le at this; rw [h'] at this; cases this

theorem Le.cost {a b : Cl} (h : Le a b) : a.1 ≤ b.1 := by
  unfold Le at h
  have := mt better_iff.2 (by simpa using h : ¬ (better b a = true))
  omega

/-- one act more -/
def ext (c : Cl) (x k : Nat) : Cl := (c.1 + x, c.2 ++ [k])

theorem better_ext {a b : Cl} (x k : Nat) : better (ext a x k) (ext b x k) = better a b := by
  have : (better (ext a x k) (ext b x k) = true) ↔ (better a b = true) := by
    rw [better_iff, better_iff]
    simp only [ext, List.length_append, List.length_cons, List.length_nil]
    constructor
    · rintro (h | ⟨h, h | ⟨h1, h2⟩⟩)
      · left; omega
      · right; exact ⟨by omega, Or.inl (by omega)⟩
      · right; refine ⟨by omega, Or.inr ⟨by omega, ?_⟩⟩
        rwa [less_snoc k (by omega)] at h2
    · rintro (h | ⟨h, h | ⟨h1, h2⟩⟩)
      · left; omega
      · right; exact ⟨by omega, Or.inl (by omega)⟩
      · right; refine ⟨by omega, Or.inr ⟨by omega, ?_⟩⟩
        rwa [less_snoc k (by omega)]
  cases p : better (ext a x k) (ext b x k) <;> cases q : better a b <;> simp_all

theorem Le.ext {a b : Cl} (h : Le a b) (x k : Nat) : Le (ext a x k) (ext b x k) := by
  unfold Le at *; rw [better_ext]; exact h

theorem better_of_ext {c : Cl} {x k : Nat} (h : 1 ≤ x) : better c (WM.ext c x k) = true := by
  rw [better_iff]; left; simp only [WM.ext]; omega

/-- the way that costs nothing -/
theorem Le.zero (c : Cl) : Le (0, []) c := by
  unfold Le
  cases q : better c (0, []) with
  | false => rfl
  | true => rw [better_iff] at q; simp at q; rcases q with ⟨_, q⟩; cases h : c.2 <;> simp_all [less]

/-- m is led to by the acts of c -/
inductive Way (t : Task) (s : Nat) : Nat → Cl → Prop
  | nil : Way t s s (0, [])
  | snoc {m c k} : Way t s m c → t.can m k = true → Way t s ((t.act k).then_ m) (WM.ext c (t.act k).cost k)

/-- the one least way to m -/
def Least (t : Task) (s m : Nat) (c : Cl) : Prop := Way t s m c ∧ ∀ c', Way t s m c' → Le c c'

theorem Least.unique {t s m c c'} (h : Least t s m c) (h' : Least t s m c') : c = c' :=
  (h.2 _ h'.1).antisymm (h'.2 _ h.1)

/-- a task as the calls leave it -/
structure Good (t : Task) : Prop where
  acts : ∀ a ∈ t.acts, a.right t.facts = true
  start : t.start < 2 ^ t.facts

theorem Good.act {t : Task} (g : Good t) {m k : Nat} (h : t.can m k = true) : (t.act k).right t.facts = true := by
  simp only [Task.can, Bool.and_eq_true, decide_eq_true_eq] at h
  have e : t.act k = t.acts[k]'h.1 := by simp [Task.act, List.getD, h.1]
  rw [e]; exact g.acts _ (List.getElem_mem _)

theorem right_iff {a : Act} {n : Nat} : a.right n = true ↔ a.pre < 2 ^ n ∧ a.no < 2 ^ n ∧ a.add < 2 ^ n ∧ a.del < 2 ^ n ∧ 1 ≤ a.cost ∧ a.cost ≤ 1000 := by
  simp only [Act.right, Bool.and_eq_true, decide_eq_true_eq]
  exact Iff.rfl

theorem then_lt {a : Act} {n m : Nat} (h : a.add < 2 ^ n) (hm : m < 2 ^ n) : a.then_ m < 2 ^ n := by
  unfold Act.then_
  exact Nat.or_lt_two_pow (by omega) h

theorem Good.lt {t : Task} (g : Good t) {s m : Nat} {c : Cl} (hs : s < 2 ^ t.facts) (h : Way t s m c) : m < 2 ^ t.facts := by
  induction h with
  | nil => exact hs
  | snoc h hk ih => exact then_lt (right_iff.1 (g.act hk)).2.2.1 ih

theorem Good.cost {t : Task} (g : Good t) {m k : Nat} (h : t.can m k = true) : 1 ≤ (t.act k).cost := (right_iff.1 (g.act h)).2.2.2.2.1

/-- the same acts lead to the same state, at the same cost -/
theorem Way.det {t s m m' c c'} (h : Way t s m c) (h' : Way t s m' c') (e : c.2 = c'.2) : m = m' ∧ c = c' := by
  induction h generalizing m' c' with
  | nil =>
    cases h' with
    | nil => exact ⟨rfl, rfl⟩
    | snoc h' hk => simp [WM.ext] at e
  | @snoc m1 c1 k1 h hk ih =>
    cases h' with
    | nil => simp [WM.ext] at e
    | @snoc m2 c2 k2 h2 hk2 =>
      simp only [WM.ext] at e
      have e1 := List.append_inj' e rfl
      have ek : k1 = k2 := by simpa using e1.2
      have := ih h2 e1.1
      obtain ⟨q1, q2⟩ := this
      subst q1 q2 ek
      exact ⟨rfl, rfl⟩

theorem Way.len_le {t s m c} (g : Good t) (h : Way t s m c) : c.2.length ≤ c.1 := by
  induction h with
  | nil => simp
  | snoc h hk ih => have := g.cost hk; simp only [WM.ext, List.length_append, List.length_cons, List.length_nil]; omega

theorem Way.acts_lt {t s m c} (h : Way t s m c) : ∀ k ∈ c.2, k < t.acts.length := by
  induction h with
  | nil => simp
  | @snoc m c k h hk ih =>
    intro j hj
    simp only [WM.ext, List.mem_append, List.mem_singleton] at hj
    rcases hj with hj | hj
    · exact ih j hj
    · subst hj
      simp only [Task.can, Bool.and_eq_true, decide_eq_true_eq] at hk
      exact hk.1

/-- the way ahead of the last act of a least way is a least one -/
theorem Least.before {t s m c k} (hk : t.can m k = true) (h : Way t s m c) (hl : Least t s ((t.act k).then_ m) (WM.ext c (t.act k).cost k)) : Least t s m c := by
  refine ⟨h, fun c' h' => ?_⟩
  have := hl.2 _ (h'.snoc hk)
  unfold Le at *
  rwa [better_ext] at this
end WM

/-! What `known` knows: at each state its least way. -/
namespace WM
open Pn (Act Task)
open Pn11 (less better Known at_ round settle known)

/-- one pair of a round -/
def turn (t : Task) (x : Array Known × List Nat) (p : Nat × Nat) : Array Known × List Nat := match at_ x.1 p.1 with
  | none => x
  | some c => if t.can p.1 p.2 = false then x else
    let m := (t.act p.2).then_ p.1
    let e := (c.1 + (t.act p.2).cost, c.2 ++ [p.2])
    match at_ x.1 m with
      | none => (x.1.setIfInBounds m (some e), x.2 ++ [m])
      | some o => if better e o = true then (x.1.setIfInBounds m (some e), if x.2.contains m = true then x.2 else x.2 ++ [m]) else x

def pairs (t : Task) (new : List Nat) : List (Nat × Nat) := new.flatMap fun s => (List.range t.acts.length).map fun k => (s, k)

theorem round_eq (t : Task) (d : Array Known) (new : List Nat) : round t d new = (pairs t new).foldl (turn t) (d, []) := rfl

theorem at_set_same {d : Array Known} {m : Nat} {v : Known} (h : m < d.size) : at_ (d.setIfInBounds m v) m = v := by
  simp [at_, Array.getD, h]

theorem at_set_ne {d : Array Known} {m n : Nat} {v : Known} (h : n ≠ m) : at_ (d.setIfInBounds m v) n = at_ d n := by
  simp only [at_, Array.getD_eq_getD_getElem?]
  rw [Array.getElem?_setIfInBounds_ne (Ne.symm h)]

/-- all that's known stays known, or becomes better -/
def Grows (d d' : Array Known) : Prop := ∀ m c, at_ d m = some c → ∃ c', at_ d' m = some c' ∧ Le c' c

theorem Grows.refl (d : Array Known) : Grows d d := fun _ c h => ⟨c, h, Le.refl c⟩

theorem Grows.trans {d d' d''} (h : Grows d d') (h' : Grows d' d'') : Grows d d'' := fun m c q => by
  obtain ⟨c1, q1, l1⟩ := h m c q
  obtain ⟨c2, q2, l2⟩ := h' m c1 q1
  exact ⟨c2, q2, l2.trans l1⟩

/-- what one pair does -/
structure Turned (t : Task) (p : Nat × Nat) (x y : Array Known × List Nat) : Prop where
  size : y.1.size = x.1.size
  grows : Grows x.1 y.1
  sub : ∀ m ∈ x.2, m ∈ y.2
  still : ∀ m, m ∉ y.2 → at_ y.1 m = at_ x.1 m
  led : ∀ c, t.can p.1 p.2 = true → (t.act p.2).then_ p.1 < x.1.size → at_ x.1 p.1 = some c → ∃ c', at_ y.1 ((t.act p.2).then_ p.1) = some c' ∧ Le c' (ext c (t.act p.2).cost p.2)
  from_ : ∀ m c, at_ y.1 m = some c → at_ x.1 m = some c ∨ (∃ c0, at_ x.1 p.1 = some c0 ∧ t.can p.1 p.2 = true ∧ m = (t.act p.2).then_ p.1 ∧ c = ext c0 (t.act p.2).cost p.2)

theorem Turned.same {t p x} (h : ∀ c, t.can p.1 p.2 = true → (t.act p.2).then_ p.1 < x.1.size → at_ x.1 p.1 = some c → ∃ c', at_ x.1 ((t.act p.2).then_ p.1) = some c' ∧ Le c' (ext c (t.act p.2).cost p.2)) : Turned t p x x :=
  ⟨rfl, Grows.refl _, fun _ h => h, fun _ _ => rfl, h, fun _ _ h => .inl h⟩

theorem Turned.put {t : Task} {p : Nat × Nat} {x : Array Known × List Nat} {l : List Nat} {c : Cl} (hc : at_ x.1 p.1 = some c) (hk : t.can p.1 p.2 = true)
    (hb : ∀ o, at_ x.1 ((t.act p.2).then_ p.1) = some o → better (ext c (t.act p.2).cost p.2) o = true)
    (hl : ∀ m ∈ x.2, m ∈ l) (hm : (t.act p.2).then_ p.1 ∈ l) :
    Turned t p x (x.1.setIfInBounds ((t.act p.2).then_ p.1) (some (ext c (t.act p.2).cost p.2)), l) := by
  refine ⟨by simp, ?_, hl, ?_, ?_, ?_⟩
  · intro m o ho
    by_cases e : m = (t.act p.2).then_ p.1
    · subst e
      by_cases hz : (t.act p.2).then_ p.1 < x.1.size
      · exact ⟨_, at_set_same hz, Le.of_better (hb _ ho)⟩
      · exfalso
        simp [at_, Array.getD, hz] at ho
    · exact ⟨o, by rw [at_set_ne e]; exact ho, Le.refl _⟩
  · intro m hm'
    exact at_set_ne (fun e => hm' (e ▸ hm))
  · intro c' _ hz hc'
    rw [hc] at hc'; cases hc'
    exact ⟨_, at_set_same hz, Le.refl _⟩
  · intro m o ho
    by_cases e : m = (t.act p.2).then_ p.1
    · subst e
      by_cases hz : (t.act p.2).then_ p.1 < x.1.size
      · rw [at_set_same hz] at ho
        exact .inr ⟨c, hc, hk, rfl, by cases ho; rfl⟩
      · left
        rw [← ho]
        simp [at_, Array.getD, hz]
    · left; rwa [at_set_ne e] at ho

theorem turned (t : Task) (p : Nat × Nat) (x : Array Known × List Nat) : Turned t p x (turn t x p) := by
  unfold turn
  split
  · next h => exact .same (fun c _ _ hc => by rw [h] at hc; cases hc)
  · next c h =>
    split
    · next hk => exact .same (fun c hk' => by rw [hk] at hk'; cases hk')
    · next hk =>
      have hk : t.can p.1 p.2 = true := by simpa using hk
      dsimp only
      split
      · next ho =>
        exact .put h hk (fun o q => by rw [ho] at q; cases q) (by simp +contextual) (by simp)
      · next o ho =>
        split
        · next hb =>
          refine .put h hk (fun o' q => by rw [ho] at q; cases q; exact hb) ?_ ?_
          · intro m hm; split
            · exact hm
            · simp [hm]
          · split
            · next q => simpa using q
            · simp
        · next hb =>
          refine .same (fun c' _ _ hc => ?_)
          rw [h] at hc; cases hc
          exact ⟨o, ho, by unfold Le ext; simpa using hb⟩

/-- what a row of pairs does -/
structure Ran (t : Task) (L : List (Nat × Nat)) (x y : Array Known × List Nat) : Prop where
  size : y.1.size = x.1.size
  grows : Grows x.1 y.1
  sub : ∀ m ∈ x.2, m ∈ y.2
  still : ∀ m, m ∉ y.2 → at_ y.1 m = at_ x.1 m
  led : ∀ p ∈ L, ∀ c, t.can p.1 p.2 = true → (t.act p.2).then_ p.1 < x.1.size → at_ x.1 p.1 = some c → ∃ c', at_ y.1 ((t.act p.2).then_ p.1) = some c' ∧ Le c' (ext c (t.act p.2).cost p.2)

theorem ran (t : Task) : ∀ (L : List (Nat × Nat)) (x : Array Known × List Nat), Ran t L x (L.foldl (turn t) x)
  | [], x => ⟨rfl, Grows.refl _, fun _ h => h, fun _ _ => rfl, fun _ h => by cases h⟩
  | p :: L, x => by
    have h1 := turned t p x
    have h2 := ran t L (turn t x p)
    rw [List.foldl_cons]
    refine ⟨h2.size.trans h1.size, h1.grows.trans h2.grows, fun m h => h2.sub m (h1.sub m h), ?_, ?_⟩
    · intro m hm
      rw [h2.still m hm]
      exact h1.still m (fun q => hm (h2.sub m q))
    · intro q hq c hk hz hc
      rcases List.mem_cons.1 hq with e | hq
      · subst e
        obtain ⟨c1, q1, l1⟩ := h1.led c hk hz hc
        obtain ⟨c2, q2, l2⟩ := h2.grows _ _ q1
        exact ⟨c2, q2, l2.trans l1⟩
      · obtain ⟨c1, q1, l1⟩ := h1.grows _ _ hc
        obtain ⟨c2, q2, l2⟩ := h2.led q hq c1 hk (by rw [h1.size]; exact hz) q1
        exact ⟨c2, q2, l2.trans (l1.ext _ _)⟩

theorem ran_ways (t : Task) (s : Nat) : ∀ (L : List (Nat × Nat)) (x : Array Known × List Nat), (∀ m c, at_ x.1 m = some c → Way t s m c) → ∀ m c, at_ (L.foldl (turn t) x).1 m = some c → Way t s m c
  | [], _, h => h
  | p :: L, x, h => by
    rw [List.foldl_cons]
    refine ran_ways t s L _ (fun m c q => ?_)
    rcases (turned t p x).from_ m c q with q | ⟨c0, q0, hk, e1, e2⟩
    · exact h m c q
    · subst e1 e2
      exact (h _ _ q0).snoc hk

theorem mem_pairs {t : Task} {new : List Nat} {m k : Nat} : (m, k) ∈ pairs t new ↔ m ∈ new ∧ k < t.acts.length := by
  simp only [pairs, List.mem_flatMap, List.mem_map, List.mem_range, Prod.mk.injEq]
  constructor
  · rintro ⟨a, ha, b, hb, rfl, rfl⟩; exact ⟨ha, hb⟩
  · rintro ⟨ha, hb⟩; exact ⟨m, ha, k, hb, rfl, rfl⟩

/-- between two rounds: j rounds are done -/
structure Between (t : Task) (s j : Nat) (x : Array Known × List Nat) : Prop where
  size : x.1.size = 2 ^ t.facts
  ways : ∀ m c, at_ x.1 m = some c → Way t s m c
  closed : ∀ m c k, at_ x.1 m = some c → m ∉ x.2 → t.can m k = true → ∃ c', at_ x.1 ((t.act k).then_ m) = some c' ∧ Le c' (ext c (t.act k).cost k)
  far : ∀ m c, Way t s m c → c.2.length ≤ j → ∃ c', at_ x.1 m = some c' ∧ Le c' c

theorem Between.next {t s j x} (g : Good t) (hs : s < 2 ^ t.facts) (b : Between t s j x) : Between t s (j + 1) (round t x.1 x.2) := by
  rw [round_eq]
  have r := ran t (pairs t x.2) (x.1, [])
  have lt : ∀ m c k, at_ x.1 m = some c → t.can m k = true → (t.act k).then_ m < x.1.size := fun m c k h hk => by
    rw [b.size]; exact g.lt hs ((b.ways m c h).snoc hk)
  have klt : ∀ m k, t.can m k = true → k < t.acts.length := fun m k h => by
    simp only [Task.can, Bool.and_eq_true, decide_eq_true_eq] at h; exact h.1
  have step : ∀ m c k, at_ x.1 m = some c → t.can m k = true → ∃ c', at_ ((pairs t x.2).foldl (turn t) (x.1, [])).1 ((t.act k).then_ m) = some c' ∧ Le c' (ext c (t.act k).cost k) := by
    intro m c k h hk
    by_cases hm : m ∈ x.2
    · exact r.led (m, k) (mem_pairs.2 ⟨hm, klt m k hk⟩) c hk (lt m c k h hk) h
    · obtain ⟨c1, q1, l1⟩ := b.closed m c k h hm hk
      obtain ⟨c2, q2, l2⟩ := r.grows _ _ q1
      exact ⟨c2, q2, l2.trans l1⟩
  refine ⟨r.size.trans b.size, ran_ways t s _ _ b.ways, ?_, ?_⟩
  · intro m c k h hm hk
    rw [r.still m hm] at h
    exact step m c k h hk
  · intro m c w hl
    cases w with
    | nil =>
      obtain ⟨c1, q1, l1⟩ := b.far s (0, []) .nil (by simp)
      obtain ⟨c2, q2, l2⟩ := r.grows _ _ q1
      exact ⟨c2, q2, l2.trans l1⟩
    | @snoc m c k w hk =>
      obtain ⟨c1, q1, l1⟩ := b.far m c w (by simp [ext] at hl; exact hl)
      obtain ⟨c2, q2, l2⟩ := step m c1 k q1 hk
      exact ⟨c2, q2, l2.trans (l1.ext _ _)⟩

/-- no longer list without the same twice -/
theorem nodup_le : ∀ (N : Nat) (l : List Nat), l.Nodup → (∀ x ∈ l, x < N) → l.length ≤ N
  | 0, l, _, h => by
    cases l with
    | nil => simp
    | cons a r => exact absurd (h a (by simp)) (by omega)
  | N + 1, l, hn, h => by
    have h1 := nodup_le N (l.erase N) (hn.erase N) (fun x hx => by
      have := h x (List.mem_of_mem_erase hx)
      have ne : x ≠ N := fun e => by subst e; exact (List.Nodup.not_mem_erase hn) hx
      omega)
    have := List.length_erase (a := N) (l := l)
    by_cases q : N ∈ l
    · rw [if_pos q] at this; omega
    · rw [if_neg q] at this; rw [List.erase_of_not_mem q] at h1; exact Nat.le_succ_of_le h1

/-- a least way is no longer than there are states -/
theorem Least.short {t s} (g : Good t) (hs : s < 2 ^ t.facts) : ∀ (n m : Nat) (c : Cl), c.2.length = n → Least t s m c → c.2.length < 2 ^ t.facts := by
  have key : ∀ (n m : Nat) (c : Cl), c.2.length = n → Least t s m c → ∃ l : List Nat, l.length = n + 1 ∧ l.Nodup ∧ ∀ x ∈ l, ∃ cx, Least t s x cx ∧ cx.1 ≤ c.1 := by
    intro n
    induction n with
    | zero =>
      intro m c hc hl
      exact ⟨[m], rfl, by simp, fun x hx => by simp at hx; subst hx; exact ⟨c, hl, Nat.le_refl _⟩⟩
    | succ n ih =>
      intro m c hc hl
      have hl' := hl
      obtain ⟨w, _⟩ := hl'
      cases w with
      | nil => simp at hc
      | @snoc m0 c0 k w hk =>
        have h0 := Least.before hk w hl
        obtain ⟨l, e, nd, hx⟩ := ih m0 c0 (by simp [ext] at hc; exact hc) h0
        have hcost := g.cost hk
        refine ⟨(t.act k).then_ m0 :: l, by simp [e], ?_, ?_⟩
        · rw [List.nodup_cons]
          refine ⟨fun q => ?_, nd⟩
          obtain ⟨cx, q1, q2⟩ := hx _ q
          have := q1.unique hl
          subst this
          simp only [ext] at q2
          omega
        · intro x q
          rcases List.mem_cons.1 q with q | q
          · subst q; exact ⟨_, hl, Nat.le_refl _⟩
          · obtain ⟨cx, q1, q2⟩ := hx _ q
            refine ⟨cx, q1, ?_⟩
            simp only [ext]; omega
  intro n m c hc hl
  obtain ⟨l, e, nd, hx⟩ := key n m c hc hl
  have := nodup_le _ l nd (fun x q => by obtain ⟨cx, q1, _⟩ := hx x q; exact g.lt hs q1.1)
  omega

theorem settle_between {t s} (g : Good t) (hs : s < 2 ^ t.facts) : ∀ (n j : Nat) (x : Array Known × List Nat), Between t s j x → ∃ y, settle t n x = y.1 ∧ (Between t s (j + n) y ∨ (∃ j, Between t s j y) ∧ y.2 = [])
  | 0, j, x, b => ⟨x, rfl, .inl b⟩
  | n + 1, j, x, b => by
    unfold settle
    split
    · next h => exact ⟨x, rfl, .inr ⟨⟨j, b⟩, by simpa using h⟩⟩
    · obtain ⟨y, e, h⟩ := settle_between g hs n (j + 1) _ (b.next g hs)
      exact ⟨y, e, by rwa [Nat.add_right_comm] at h⟩

theorem Between.done {t s j x} (b : Between t s j x) (h : x.2 = []) : ∀ m c, Way t s m c → ∃ c', at_ x.1 m = some c' ∧ Le c' c := by
  intro m c w
  induction w with
  | nil => exact b.far s _ .nil (by simp)
  | @snoc m c k w hk ih =>
    obtain ⟨c1, q1, l1⟩ := ih
    obtain ⟨c2, q2, l2⟩ := b.closed m c1 k q1 (by simp [h]) hk
    exact ⟨c2, q2, l2.trans (l1.ext _ _)⟩

theorem Between.first {t s} (hs : s < 2 ^ t.facts) : Between t s 0 ((Array.replicate (2 ^ t.facts) none).setIfInBounds s (some (0, [])), [s]) := by
  have hz : s < (Array.replicate (2 ^ t.facts) (none : Known)).size := by simpa using hs
  have non : ∀ m, at_ (Array.replicate (2 ^ t.facts) (none : Known)) m = none := by
    intro m; simp [at_, Array.getD]
  refine ⟨by simp, ?_, ?_, ?_⟩
  · intro m c h
    by_cases e : m = s
    · subst e; rw [at_set_same hz] at h; cases h; exact .nil
    · rw [at_set_ne e, non] at h; cases h
  · intro m c k h hm
    by_cases e : m = s
    · exact absurd (by simp [e]) hm
    · rw [at_set_ne e, non] at h; cases h
  · intro m c w hl
    cases w with
    | nil => exact ⟨_, at_set_same hz, Le.refl _⟩
    | snoc w hk => simp [ext] at hl

/-! A least one there is. -/
theorem acc_less : ∀ (n : Nat) (l : List Nat), l.length = n → Acc (fun a b : List Nat => a.length = b.length ∧ less a b = true) l
  | 0, l, h => ⟨_, fun a ⟨q, z⟩ => by
    have : l = [] := List.length_eq_zero_iff.1 h
    subst this
    have : a = [] := List.length_eq_zero_iff.1 q
    subst this
    simp [less] at z⟩
  | n + 1, [], h => by simp at h
  | n + 1, x :: r, h => by
    have ih := acc_less n
    clear acc_less
    induction x using Nat.strongRecOn generalizing r with
    | _ x ihx =>
      have hr : r.length = n := by simpa using h
      have ar := ih r hr
      clear h
      induction ar with
      | intro r _ ihr =>
        refine ⟨_, fun a ⟨q, z⟩ => ?_⟩
        cases a with
        | nil => simp at q
        | cons y b =>
          have hb : b.length = r.length := by simpa using q
          simp only [less, Bool.or_eq_true, decide_eq_true_eq, Bool.and_eq_true, beq_iff_eq] at z
          rcases z with z | ⟨z, z'⟩
          · exact ihx y z b (by simp; omega)
          · subst z; exact ihr b ⟨hb, z'⟩ (by omega)

theorem wf_better : ∀ (n : Nat) (m : Nat) (c : Cl), c.1 = n → c.2.length = m → Acc (fun a b : Cl => better a b = true) c := by
  intro n
  induction n using Nat.strongRecOn with
  | _ n ihn =>
    intro m
    induction m using Nat.strongRecOn with
    | _ m ihm =>
      intro c h1 h2
      obtain ⟨c1, l⟩ := c
      dsimp only at h1 h2
      subst h1
      have al := acc_less m l h2
      induction al with
      | intro l _ ihl =>
        refine ⟨_, fun a z => ?_⟩
        rw [better_iff] at z
        obtain ⟨a1, q⟩ := a
        dsimp only at z
        rcases z with z | ⟨e, z | ⟨z1, z2⟩⟩
        · exact ihn a1 z _ _ rfl rfl
        · exact ihm q.length (by omega) _ e rfl
        · subst e; exact ihl q ⟨z1, z2⟩ (by omega)

theorem least_exists {t s m c} (h : Way t s m c) : ∃ c', Least t s m c' := by
  have a := wf_better _ _ c rfl rfl
  induction a with
  | intro c _ ih =>
    by_cases q : ∃ c', Way t s m c' ∧ better c' c = true
    · obtain ⟨c', w, b⟩ := q
      exact ih c' b w
    · refine ⟨c, h, fun c' w => ?_⟩
      cases b : better c' c with
      | false => exact b
      | true => exact absurd ⟨c', w, b⟩ q

/-- **What `known` knows.** -/
theorem known_iff {t : Task} {s : Nat} (g : Good t) (hs : s < 2 ^ t.facts) (m : Nat) (c : Cl) : at_ (known t s) m = some c ↔ Least t s m c := by
  unfold known
  obtain ⟨y, e, h⟩ := settle_between g hs (2 ^ t.facts + 1) 0 _ (Between.first (t := t) hs)
  rw [e]
  have hw : ∀ m c, at_ y.1 m = some c → Way t s m c := by
    rcases h with h | ⟨⟨j, h⟩, _⟩
    · exact h.ways
    · exact h.ways
  have hl : ∀ m c, Least t s m c → ∃ c', at_ y.1 m = some c' ∧ Le c' c := by
    intro m c l
    rcases h with h | ⟨⟨j, h⟩, z⟩
    · exact h.far m c l.1 (by have := Least.short g hs _ m c rfl l; omega)
    · exact h.done z m c l.1
  have hl' : ∀ m c, Least t s m c → at_ y.1 m = some c := by
    intro m c l
    obtain ⟨c', q, z⟩ := hl m c l
    have := (l.2 c' (hw _ _ q)).antisymm z
    rw [this]; exact q
  constructor
  · intro q
    obtain ⟨c', l⟩ := least_exists (hw _ _ q)
    have := hl' _ _ l
    rw [q] at this
    cases this
    exact l
  · exact hl' m c
end WM

/-! What the specification chooses among the ends. -/
namespace WM
open Pn (Act Task)
open Pn11 (less better Known at_ known End Worth worth ends bestOf)

/-- the end at a state -/
def endAt (w : Worth) (m : Nat) (c : Cl) : End := ⟨worth w m, c.1, c.2⟩

theorem mem_ends {t : Task} {w : Worth} (g : Good t) {e : End} : e ∈ ends t w ↔ ∃ m c, Least t t.start m c ∧ e = endAt w m c := by
  unfold ends
  simp only [List.mem_filterMap, List.mem_range, Option.map_eq_some_iff]
  constructor
  · rintro ⟨m, hm, c, hc, e⟩
    exact ⟨m, c, (known_iff g g.start m c).1 hc, e.symm⟩
  · rintro ⟨m, c, h, e⟩
    exact ⟨m, g.lt g.start h.1, c, (known_iff g g.start m c).2 h, e.symm⟩

/-- a choice that keeps an order -/
structure Chooses (f : End → End → Bool) : Prop where
  asym : ∀ a b, f a b = true → f b a = false
  neg : ∀ a b c, f a b = false → f b c = false → f a c = false

theorem Chooses.irr {f} (h : Chooses f) (a : End) : f a a = false := by
  cases q : f a a with
  | false => rfl
  | true => have := h.asym a a q; rw [q] at this; exact this

theorem bestOf_fold {f} (h : Chooses f) : ∀ (l : List End) (y : End), ∃ z, l.foldl (fun (a : Option End) x => match a with
  | none => some x
  | some y => if f x y = true then some x else some y) (some y) = some z ∧ (z = y ∨ z ∈ l) ∧ f y z = false ∧ ∀ x ∈ l, f x z = false
  | [], y => ⟨y, rfl, .inl rfl, h.irr y, by simp⟩
  | x :: l, y => by
    rw [List.foldl_cons]
    dsimp only
    split
    · next q =>
      obtain ⟨z, e, hm, hz, hl⟩ := bestOf_fold h l x
      refine ⟨z, e, .inr ?_, h.neg _ _ _ (h.asym _ _ q) hz, ?_⟩
      · rcases hm with rfl | hm
        · simp
        · simp [hm]
      · intro v hv
        rcases List.mem_cons.1 hv with rfl | hv
        · exact hz
        · exact hl v hv
    · next q =>
      have q : f x y = false := by simpa using q
      obtain ⟨z, e, hm, hz, hl⟩ := bestOf_fold h l y
      refine ⟨z, e, ?_, hz, ?_⟩
      · rcases hm with rfl | hm
        · exact .inl rfl
        · exact .inr (by simp [hm])
      · intro v hv
        rcases List.mem_cons.1 hv with rfl | hv
        · exact h.neg _ _ _ q hz
        · exact hl v hv

theorem bestOf_some {f} (h : Chooses f) {l : List End} {e : End} (he : e ∈ l) : ∃ z, bestOf f l = some z ∧ z ∈ l ∧ ∀ x ∈ l, f x z = false := by
  cases l with
  | nil => cases he
  | cons x l =>
    obtain ⟨z, q, hm, hz, hl⟩ := bestOf_fold h l x
    refine ⟨z, q, ?_, ?_⟩
    · rcases hm with rfl | hm
      · simp
      · simp [hm]
    · intro v hv
      rcases List.mem_cons.1 hv with rfl | hv
      · exact hz
      · exact hl v hv

theorem le_iff {a b : Cl} : better a b = false ↔ Le b a := Iff.rfl

theorem chooses_least : Chooses (fun a b => better (a.c, a.l) (b.c, b.l)) :=
  ⟨fun _ _ h => Le.of_better h, fun _ _ _ h h' => Le.trans (le_iff.1 h') (le_iff.1 h)⟩

theorem over_iff {a b : End} : End.over a b = true ↔ b.w < a.w ∨ (a.w = b.w ∧ better (a.c, a.l) (b.c, b.l) = true) := by
  simp [End.over]

theorem over_false {a b : End} : End.over a b = false ↔ a.w ≤ b.w ∧ (a.w = b.w → better (a.c, a.l) (b.c, b.l) = false) := by
  rw [← Bool.not_eq_true, over_iff]
  constructor
  · intro h
    refine ⟨by omega, fun e => ?_⟩
    cases q : better (a.c, a.l) (b.c, b.l) with
    | false => rfl
    | true => exact absurd (Or.inr ⟨e, q⟩) h
  · rintro ⟨h, h'⟩ (q | ⟨q, q'⟩)
    · omega
    · rw [h' q] at q'; cases q'

theorem chooses_over : Chooses End.over := by
  refine ⟨fun a b h => ?_, fun a b c h h' => ?_⟩
  · rw [over_iff] at h
    rw [over_false]
    rcases h with h | ⟨h, h'⟩
    · exact ⟨by omega, fun e => by omega⟩
    · exact ⟨by omega, fun _ => Le.of_better h'⟩
  · rw [over_false] at *
    refine ⟨by omega, fun e => ?_⟩
    have h1 := h.2 (by omega)
    have h2 := h'.2 (by omega)
    exact Le.trans (le_iff.1 h2) (le_iff.1 h1)

/-- more is left; or as much, and better -/
def overLeft (a b : End) : Bool := decide (b.left < a.left) || (a.left == b.left && better (a.c, a.l) (b.c, b.l))

theorem left_iff {a b : End} : overLeft a b = true ↔ b.left < a.left ∨ (a.left = b.left ∧ better (a.c, a.l) (b.c, b.l) = true) := by
  simp [overLeft]

theorem left_false {a b : End} : overLeft a b = false ↔ a.left ≤ b.left ∧ (a.left = b.left → better (a.c, a.l) (b.c, b.l) = false) := by
  rw [← Bool.not_eq_true, left_iff]
  constructor
  · intro h
    refine ⟨by omega, fun e => ?_⟩
    cases q : better (a.c, a.l) (b.c, b.l) with
    | false => rfl
    | true => exact absurd (Or.inr ⟨e, q⟩) h
  · rintro ⟨h, h'⟩ (q | ⟨q, q'⟩)
    · omega
    · rw [h' q] at q'; cases q'

theorem chooses_left : Chooses overLeft := by
  refine ⟨fun a b h => ?_, fun a b c h h' => ?_⟩
  · rw [left_iff] at h
    rw [left_false]
    rcases h with h | ⟨h, h'⟩
    · exact ⟨by omega, fun e => by omega⟩
    · exact ⟨by omega, fun _ => Le.of_better h'⟩
  · rw [left_false] at *
    refine ⟨by omega, fun e => ?_⟩
    have h1 := h.2 (by omega)
    have h2 := h'.2 (by omega)
    exact Le.trans (le_iff.1 h2) (le_iff.1 h1)

/-- ends with the same acts are one -/
theorem end_same {t : Task} {w : Worth} {m m' : Nat} {c c' : Cl} (h : Least t t.start m c) (h' : Least t t.start m' c') (e : c = c') : endAt w m c = endAt w m' c' := by
  subst e
  obtain ⟨q, _⟩ := Way.det h.1 h'.1 rfl
  subst q; rfl

theorem nil_least {t : Task} : Least t t.start t.start (0, []) := ⟨.nil, fun c _ => Le.zero c⟩

/-- **best** -/
theorem best_is {t : Task} {w : Worth} {b m : Nat} {c : Cl} (g : Good t) (h : Least t t.start m c) (hb : c.1 ≤ b)
    (hm : ∀ m' c', Least t t.start m' c' → c'.1 ≤ b → End.over (endAt w m' c') (endAt w m c) = false) : Pn11.best t w b = some (endAt w m c) := by
  unfold Pn11.best
  have he : endAt w m c ∈ (ends t w).filter fun e => decide (e.c ≤ b) := by
    rw [List.mem_filter]; exact ⟨(mem_ends g).2 ⟨m, c, h, rfl⟩, decide_eq_true hb⟩
  obtain ⟨z, q, hz, hl⟩ := bestOf_some chooses_over he
  rw [q]
  rw [List.mem_filter] at hz
  obtain ⟨m', c', h', e⟩ := (mem_ends g).1 hz.1
  subst e
  have h1 := hm m' c' h' (of_decide_eq_true hz.2)
  have h2 := hl _ he
  rw [over_false] at h1 h2
  have ew : (endAt w m' c').w = (endAt w m c).w := by omega
  have := better_total (h1.2 ew) (h2.2 ew.symm)
  exact congrArg some (end_same h' h this)

/-- **least** -/
theorem least_is {t : Task} {w : Worth} {n m : Nat} {c : Cl} (g : Good t) (h : Least t t.start m c) (hb : n ≤ worth w m)
    (hm : ∀ m' c', Least t t.start m' c' → n ≤ worth w m' → Le c c') : Pn11.least t w n = some (endAt w m c) := by
  unfold Pn11.least
  have he : endAt w m c ∈ (ends t w).filter fun e => decide (n ≤ e.w) := by
    rw [List.mem_filter]; exact ⟨(mem_ends g).2 ⟨m, c, h, rfl⟩, decide_eq_true hb⟩
  obtain ⟨z, q, hz, hl⟩ := bestOf_some chooses_least he
  rw [q]
  rw [List.mem_filter] at hz
  obtain ⟨m', c', h', e⟩ := (mem_ends g).1 hz.1
  subst e
  have h1 := hm m' c' h' (of_decide_eq_true hz.2)
  have h2 := hl _ he
  exact congrArg some (end_same h' h (Le.antisymm (le_iff.1 h2) h1))

theorem least_none {t : Task} {w : Worth} {n : Nat} (g : Good t) (hm : ∀ m c, Least t t.start m c → ¬ n ≤ worth w m) : Pn11.least t w n = none := by
  unfold Pn11.least
  have : ((ends t w).filter fun e => decide (n ≤ e.w)) = [] := by
    rw [List.filter_eq_nil_iff]
    intro e he
    obtain ⟨m, c, h, q⟩ := (mem_ends g).1 he
    subst q
    exact fun q => hm m c h (of_decide_eq_true q)
  rw [this]; rfl

/-- **net** -/
theorem net_is {t : Task} {w : Worth} {m : Nat} {c : Cl} (g : Good t) (h : Least t t.start m c)
    (hm : ∀ m' c', Least t t.start m' c' → overLeft (endAt w m' c') (endAt w m c) = false) : Pn11.net t w = some (endAt w m c) := by
  show bestOf overLeft (ends t w) = _
  have he : endAt w m c ∈ ends t w := (mem_ends g).2 ⟨m, c, h, rfl⟩
  obtain ⟨z, q, hz, hl⟩ := bestOf_some chooses_left he
  rw [q]
  obtain ⟨m', c', h', e⟩ := (mem_ends g).1 hz
  subst e
  have h1 := hm m' c' h'
  have h2 := hl _ he
  rw [left_false] at h1 h2
  have ew : (endAt w m' c').left = (endAt w m c).left := by omega
  have := better_total (h1.2 ew) (h2.2 ew.symm)
  exact congrArg some (end_same h' h this)

/-! front -/
/-- q makes p no pair of the front -/
def beats (q p : Nat × Nat) : Prop := (p.1 = q.1 ∧ p.2 < q.2) ∨ (q.1 < p.1 ∧ p.2 ≤ q.2)

/-- a pair of an end -/
def IsPair (t : Task) (w : Worth) (p : Nat × Nat) : Prop := ∃ m c, Least t t.start m c ∧ p = (c.1, worth w m)

def IsFront (t : Task) (w : Worth) (p : Nat × Nat) : Prop := IsPair t w p ∧ ∀ q, IsPair t w q → ¬ beats q p

def rising (l : List (Nat × Nat)) : Prop := l.Pairwise (fun x y => x.1 < y.1)

theorem rising_ext : ∀ {l l' : List (Nat × Nat)}, rising l → rising l' → (∀ p, p ∈ l ↔ p ∈ l') → l = l'
  | [], [], _, _, _ => rfl
  | [], b :: _, _, _, h => by have := (h b).2 (by simp); cases this
  | a :: _, [], _, _, h => by have := (h a).1 (by simp); cases this
  | a :: l, b :: l', h1, h2, h => by
    have h1' := List.pairwise_cons.1 h1
    have h2' := List.pairwise_cons.1 h2
    have e : a = b := by
      rcases List.mem_cons.1 ((h a).1 (by simp)) with q | q
      · exact q
      · rcases List.mem_cons.1 ((h b).2 (by simp)) with q' | q'
        · exact q'.symm
        · have := h1'.1 b q'
          have := h2'.1 a q
          omega
    subst e
    rw [rising_ext h1'.2 h2'.2 (fun p => ?_)]
    constructor
    · intro q
      rcases List.mem_cons.1 ((h p).1 (by simp [q])) with q' | q'
      · subst q'; have := h1'.1 p q; omega
      · exact q'
    · intro q
      rcases List.mem_cons.1 ((h p).2 (by simp [q])) with q' | q'
      · subst q'; have := h2'.1 p q; omega
      · exact q'

/-- one pair of each cost -/
def single (l : List (Nat × Nat)) : Prop := ∀ p ∈ l, ∀ q ∈ l, p.1 = q.1 → p = q

def put1 (x : Nat × Nat) (m : List (Nat × Nat)) : List (Nat × Nat) := (m.filter fun y => decide (y.1 < x.1)) ++ (x :: m.filter fun y => decide (x.1 < y.1))

theorem put1_rising {x m} (h : rising m) : rising (put1 x m) := by
  unfold rising put1
  rw [List.pairwise_append, List.pairwise_cons]
  refine ⟨h.filter _, ⟨?_, h.filter _⟩, ?_⟩
  · intro y hy; simp only [List.mem_filter, decide_eq_true_eq] at hy; exact hy.2
  · intro a ha b hb
    simp only [List.mem_filter, decide_eq_true_eq] at ha
    rcases List.mem_cons.1 hb with rfl | hb
    · exact ha.2
    · simp only [List.mem_filter, decide_eq_true_eq] at hb; omega

theorem put1_mem {x m} (h : ∀ y ∈ m, y.1 = x.1 → y = x) (p : Nat × Nat) : p ∈ put1 x m ↔ p = x ∨ p ∈ m := by
  unfold put1
  simp only [List.mem_append, List.mem_cons, List.mem_filter, decide_eq_true_eq]
  constructor
  · rintro (⟨q, _⟩ | q | ⟨q, _⟩)
    · exact .inr q
    · exact .inl q
    · exact .inr q
  · rintro (q | q)
    · exact .inr (.inl q)
    · rcases Nat.lt_trichotomy p.1 x.1 with z | z | z
      · exact .inl ⟨q, z⟩
      · exact .inr (.inl (h p q z))
      · exact .inr (.inr ⟨q, z⟩)

theorem sorted_all : ∀ (l : List (Nat × Nat)), single l → rising (l.foldr put1 []) ∧ ∀ p, p ∈ l.foldr put1 [] ↔ p ∈ l
  | [], _ => ⟨List.Pairwise.nil, fun _ => Iff.rfl⟩
  | x :: l, h => by
    have ih := sorted_all l (fun p hp q hq e => h p (by simp [hp]) q (by simp [hq]) e)
    rw [List.foldr_cons]
    refine ⟨put1_rising ih.1, fun p => ?_⟩
    rw [put1_mem (fun y hy e => h y (by simp [(ih.2 y).1 hy]) x (by simp) e), ih.2, List.mem_cons]

def once1 (l : List (Nat × Nat)) : List (Nat × Nat) := l.foldl (fun (m : List (Nat × Nat)) x => if m.contains x = true then m else m ++ [x]) []

theorem once1_mem (l : List (Nat × Nat)) : ∀ (m : List (Nat × Nat)) p, p ∈ l.foldl (fun (m : List (Nat × Nat)) x => if m.contains x = true then m else m ++ [x]) m ↔ p ∈ m ∨ p ∈ l := by
  induction l with
  | nil => intro m p; simp
  | cons x l ih =>
    intro m p
    rw [List.foldl_cons, ih]
    split
    · next q =>
      have q : x ∈ m := by simpa using q
      constructor
      · rintro (h | h)
        · exact .inl h
        · exact .inr (by simp [h])
      · rintro (h | h)
        · exact .inl h
        · rcases List.mem_cons.1 h with rfl | h
          · exact .inl q
          · exact .inr h
    · simp only [List.mem_append, List.mem_cons, List.not_mem_nil, or_false]
      constructor
      · rintro ((h | h) | h)
        · exact .inl h
        · exact .inr (.inl h)
        · exact .inr (.inr h)
      · rintro (h | h | h)
        · exact .inl (.inl h)
        · exact .inl (.inr h)
        · exact .inr h

/-- the pairs of the front, as they come -/
def kept (e : List End) : List (Nat × Nat) := e.filterMap fun x => if (e.any fun y => (decide (x.c = y.c) && decide (x.w < y.w)) || (decide (y.c < x.c) && decide (x.w ≤ y.w))) = true then none else some (x.c, x.w)

theorem front_eq (t : Task) (w : Worth) : Pn11.front t w = (once1 (kept (ends t w))).foldr put1 [] := rfl

theorem mem_kept {e : List End} {p : Nat × Nat} : p ∈ kept e ↔ (∃ x ∈ e, p = (x.c, x.w)) ∧ ∀ y ∈ e, ¬ beats (y.c, y.w) p := by
  unfold kept
  simp only [List.mem_filterMap]
  constructor
  · rintro ⟨x, hx, h⟩
    split at h
    · cases h
    · next q =>
      cases h
      refine ⟨⟨x, hx, rfl⟩, fun y hy z => q ?_⟩
      rw [List.any_eq_true]
      refine ⟨y, hy, ?_⟩
      simpa [beats] using z
  · rintro ⟨⟨x, hx, rfl⟩, h⟩
    refine ⟨x, hx, ?_⟩
    rw [if_neg]
    intro q
    rw [List.any_eq_true] at q
    obtain ⟨y, hy, z⟩ := q
    exact h y hy (by simpa [beats] using z)

theorem front_iff {t : Task} {w : Worth} (g : Good t) (p : Nat × Nat) : p ∈ kept (ends t w) ↔ IsFront t w p := by
  rw [mem_kept]
  unfold IsFront IsPair
  constructor
  · rintro ⟨⟨x, hx, e⟩, h⟩
    obtain ⟨m, c, l, q⟩ := (mem_ends g).1 hx
    subst q
    refine ⟨⟨m, c, l, e⟩, ?_⟩
    rintro q ⟨m', c', l', rfl⟩
    exact h (endAt w m' c') ((mem_ends g).2 ⟨m', c', l', rfl⟩)
  · rintro ⟨⟨m, c, l, e⟩, h⟩
    refine ⟨⟨endAt w m c, (mem_ends g).2 ⟨m, c, l, rfl⟩, e⟩, fun y hy => ?_⟩
    obtain ⟨m', c', l', q⟩ := (mem_ends g).1 hy
    subst q
    exact h _ ⟨m', c', l', rfl⟩

theorem front_single {t : Task} {w : Worth} {p q : Nat × Nat} (hp : IsFront t w p) (hq : IsFront t w q) (e : p.1 = q.1) : p = q := by
  have h1 := hp.2 q hq.1
  have h2 := hq.2 p hp.1
  unfold beats at h1 h2
  apply Prod.ext
  · exact e
  · omega

/-- **front** -/
theorem front_is {t : Task} {w : Worth} (g : Good t) {l : List (Nat × Nat)} (hr : rising l) (hl : ∀ p, p ∈ l ↔ IsFront t w p) : Pn11.front t w = l := by
  rw [front_eq]
  have hm : ∀ p, p ∈ once1 (kept (ends t w)) ↔ IsFront t w p := fun p => by
    unfold once1; rw [once1_mem]; simp only [List.not_mem_nil, false_or]; exact front_iff g p
  have := sorted_all (once1 (kept (ends t w))) (fun p hp q hq e => front_single ((hm p).1 hp) ((hm q).1 hq) e)
  exact rising_ext this.1 hr (fun p => by rw [this.2, hm, hl])

theorem front_rising {t : Task} {w : Worth} (g : Good t) : rising (Pn11.front t w) ∧ ∀ p, p ∈ Pn11.front t w ↔ IsFront t w p := by
  rw [front_eq]
  have hm : ∀ p, p ∈ once1 (kept (ends t w)) ↔ IsFront t w p := fun p => by
    unfold once1; rw [once1_mem]; simp only [List.not_mem_nil, false_or]; exact front_iff g p
  have := sorted_all (once1 (kept (ends t w))) (fun p hp q hq e => front_single ((hm p).1 hp) ((hm q).1 hq) e)
  exact ⟨this.1, fun p => by rw [this.2, hm]⟩
end WM

/-! The specification's house: what holds of it, and what each call answers. -/
namespace WM
open Pn (Task)
open Pn11 (House Call step)

structure HGood (h : House) : Prop where
  good : Good h.task
  f1 : 1 ≤ h.task.facts
  f6 : h.task.facts ≤ 6
  acts : h.task.acts.length ≤ 10
  wors : h.worth.length ≤ 8
  wor : ∀ x ∈ h.worth, x.1 < 2 ^ h.task.facts ∧ x.2 ≤ 1000

theorem hgood_init : HGood Pn11.init := ⟨⟨(fun a ha => nomatch ha), (by decide)⟩, by decide, by decide, by decide, by decide, (fun x hx => nomatch hx)⟩

theorem act_some {n : Nat} {r : List Nat} {a : Pn.Act} (h : Pn.act? n r = some a) : a.right n = true ∧ r = [a.pre, a.no, a.add, a.del, a.cost] := by
  unfold Pn.act? at h
  split at h
  · dsimp only at h
    split at h
    · next z => cases h; exact ⟨z, rfl⟩
    · cases h
  · cases h

theorem HGood.step {h : House} (g : HGood h) (c : Call) : HGood (Pn11.step h c).1 := by
  cases c with
  | begins n s =>
    unfold Pn11.step
    dsimp only
    split
    · exact g
    · next q =>
      have q : ¬ (n = 0 ∨ 6 < n ∨ 2 ^ n ≤ s) := q
      refine ⟨⟨(fun a ha => nomatch ha), ?_⟩, ?_, ?_, Nat.zero_le _, Nat.zero_le _, (fun x hx => nomatch hx)⟩
      · show s < 2 ^ n; omega
      · show 1 ≤ n; omega
      · show n ≤ 6; omega
  | act r =>
    unfold Pn11.step
    dsimp only
    split
    · exact g
    · next q =>
      have q : ¬ h.task.acts.length = 10 := q
      split
      · exact g
      · next a ha =>
        obtain ⟨r1, _⟩ := act_some ha
        refine ⟨⟨?_, g.good.start⟩, g.f1, g.f6, ?_, g.wors, g.wor⟩
        · intro b hb
          rcases List.mem_append.1 hb with z | z
          · exact g.good.acts b z
          · rw [List.mem_singleton.1 z]; exact r1
        · show (h.task.acts ++ [a]).length ≤ 10
          rw [List.length_append, List.length_singleton]
          have := g.acts; omega
  | worth s n =>
    unfold Pn11.step
    dsimp only
    split
    · exact g
    · next q =>
      have q : ¬ h.worth.length = 8 := q
      split
      · exact g
      · next q2 =>
        have q2 : ¬ (2 ^ h.task.facts ≤ s ∨ n = 0 ∨ 1000 < n) := q2
        refine ⟨g.good, g.f1, g.f6, g.acts, ?_, ?_⟩
        · show (h.worth ++ [(s, n)]).length ≤ 8
          rw [List.length_append, List.length_singleton]
          have := g.wors; omega
        · intro x hx
          rcases List.mem_append.1 hx with z | z
          · exact g.wor x z
          · rw [List.mem_singleton.1 z]
            show s < 2 ^ h.task.facts ∧ n ≤ 1000
            omega
  | start s =>
    unfold Pn11.step
    dsimp only
    split
    · exact g
    · next q => exact ⟨⟨g.good.acts, by show s < 2 ^ h.task.facts; omega⟩, g.f1, g.f6, g.acts, g.wors, g.wor⟩
  | best b => exact g
  | least n => exact g
  | net => exact g
  | front => exact g
  | drop i =>
    unfold Pn11.step
    dsimp only
    split
    · exact g
    · next q =>
      refine ⟨g.good, g.f1, g.f6, g.acts, ?_, ?_⟩
      · show (h.worth.take i ++ h.worth.drop (i + 1)).length ≤ 8
        rw [List.length_append, List.length_take, List.length_drop]
        have := g.wors; omega
      · intro x hx
        rcases List.mem_append.1 hx with z | z
        · exact g.wor x (List.mem_of_mem_take z)
        · exact g.wor x (List.mem_of_mem_drop z)
end WM

/-! The calls as one list: how they part, and what is due for them. -/
namespace WF
open Pn11 (House Call step)
open Pn11Neutral (out)

def up (l : List Nat) : List Int := l.map fun (n : Nat) => (n : Int)

/-- a call's own numbers; the call; its rows -/
inductive Item : List Int → Call → List (List Int) → Prop
  | begins (a b : Nat) : Item [0, a, b] (.begins a b) [[0, a, b]]
  | act (r : List Nat) : Item (1 :: (r.length : Int) :: up r) (.act r) [[1], up r]
  | worth (a b : Nat) : Item [2, a, b] (.worth a b) [[2, a, b]]
  | start (a : Nat) : Item [3, a] (.start a) [[3, a]]
  | best (a : Nat) : Item [4, a] (.best a) [[4, a]]
  | least (a : Nat) : Item [5, a] (.least a) [[5, a]]
  | net : Item [6] .net [[6]]
  | front : Item [7] .front [[7]]
  | drop (a : Nat) : Item [8, a] (.drop a) [[8, a]]

theorem nats_up (l : List Nat) : Pn11Neutral.nats (up l) = l := by
  unfold Pn11Neutral.nats up
  rw [List.map_map]
  induction l with
  | nil => rfl
  | cons x l ih => simpa using ih

theorem Item.step {f : List Int} {x : Call} {c : List (List Int)} (h : Item f x c) (s : House) : Pn11Neutral.step s (PyPn11.whole c) = ((step s x).1, out (step s x).2) := by
  cases h with
  | act r =>
    show (match Pn11Neutral.callOf [[1], up r] with | none => (s, []) | some x => ((Pn11.step s x).1, out (Pn11.step s x).2)) = _
    have : Pn11Neutral.callOf [[1], up r] = some (.act r) := by
      show some (Call.act (Pn11Neutral.nats (up r))) = _
      rw [nats_up]
    rw [this]
  | _ => rfl

theorem up_of : ∀ (l : List Int), (∀ x ∈ l, 0 ≤ x) → ∃ r : List Nat, l = up r
  | [], _ => ⟨[], rfl⟩
  | x :: l, h => by
    obtain ⟨r, e⟩ := up_of l (fun y hy => h y (by simp [hy]))
    refine ⟨x.toNat :: r, ?_⟩
    have := h x (by simp)
    show x :: l = ((x.toNat : Nat) : Int) :: up r
    rw [← e, Int.toNat_of_nonneg this]

theorem two {r : List Int} (h : ¬ r.length < 2) : ∃ a b t, r = a :: b :: t := by
  match r, h with
  | [], h => simp at h
  | [_], h => simp at h
  | a :: b :: t, _ => exact ⟨a, b, t, rfl⟩
theorem one {r : List Int} (h : ¬ r.length < 1) : ∃ a t, r = a :: t := by
  match r, h with
  | [], h => simp at h
  | a :: t, _ => exact ⟨a, t, rfl⟩

theorem shape_cases (p : Int) : (p = 0 ∧ PyPn11.shape p = some (2, 0)) ∨ (p = 1 ∧ PyPn11.shape p = some (0, 1)) ∨ (p = 2 ∧ PyPn11.shape p = some (2, 0)) ∨ (p = 3 ∧ PyPn11.shape p = some (1, 0)) ∨ (p = 4 ∧ PyPn11.shape p = some (1, 0)) ∨ (p = 5 ∧ PyPn11.shape p = some (1, 0)) ∨
    (p = 6 ∧ PyPn11.shape p = some (0, 0)) ∨ (p = 7 ∧ PyPn11.shape p = some (0, 0)) ∨ (p = 8 ∧ PyPn11.shape p = some (1, 0)) ∨ PyPn11.shape p = none := by
  by_cases h0 : p = 0; · subst h0; exact .inl ⟨rfl, rfl⟩
  by_cases h1 : p = 1; · subst h1; exact .inr (.inl ⟨rfl, rfl⟩)
  by_cases h2 : p = 2; · subst h2; exact .inr (.inr (.inl ⟨rfl, rfl⟩))
  by_cases h3 : p = 3; · subst h3; exact .inr (.inr (.inr (.inl ⟨rfl, rfl⟩)))
  by_cases h4 : p = 4; · subst h4; exact .inr (.inr (.inr (.inr (.inl ⟨rfl, rfl⟩))))
  by_cases h5 : p = 5; · subst h5; exact .inr (.inr (.inr (.inr (.inr (.inl ⟨rfl, rfl⟩)))))
  by_cases h6 : p = 6; · subst h6; exact .inr (.inr (.inr (.inr (.inr (.inr (.inl ⟨rfl, rfl⟩))))))
  by_cases h7 : p = 7; · subst h7; exact .inr (.inr (.inr (.inr (.inr (.inr (.inr (.inl ⟨rfl, rfl⟩)))))))
  by_cases h8 : p = 8; · subst h8; exact .inr (.inr (.inr (.inr (.inr (.inr (.inr (.inr (.inl ⟨rfl, rfl⟩))))))))
  refine .inr (.inr (.inr (.inr (.inr (.inr (.inr (.inr (.inr ?_))))))))
  unfold PyPn11.shape
  rw [if_neg h0, if_neg h1, if_neg h2, if_neg h3, if_neg h4, if_neg h5, if_neg h6, if_neg h7, if_neg h8]

theorem call_flat {p : Int} {r : List Int} {n k : Nat} {c : List (List Int)} {t : List Int} (hs : PyPn11.shape p = some (n, k)) (h : PyFlat.call PyPn11.shape (p :: r) = some (c, t)) :
    ¬ r.length < n ∧ ∃ xs, PyFlat.rows k (r.drop n) = some (xs, t) ∧ c = (p :: r.take n) :: xs := by
  have h : (match PyPn11.shape p with
    | none => none
    | some (n, k) => if r.length < n then none else match PyFlat.rows k (r.drop n) with
      | none => none
      | some (xs, t) => some ((p :: r.take n) :: xs, t)) = some (c, t) := h
  rw [hs] at h
  dsimp only at h
  by_cases q : r.length < n
  · rw [if_pos q] at h; cases h
  · rw [if_neg q] at h
    refine ⟨q, ?_⟩
    cases e : PyFlat.rows k (r.drop n) with
    | none => rw [e] at h; cases h
    | some y => rw [e] at h; cases h; exact ⟨y.1, rfl, rfl⟩

theorem call_item {l : List Int} {c : List (List Int)} {t : List Int} (hl : ∀ x ∈ l, 0 ≤ x) (h : PyFlat.call PyPn11.shape l = some (c, t)) : ∃ f x, Item f x c ∧ l = f ++ t := by
  cases l with
  | nil => cases h
  | cons p r =>
    have num : ∀ a ∈ r, ∃ n : Nat, a = (n : Int) := fun a ha => ⟨a.toNat, (Int.toNat_of_nonneg (hl a (by simp [ha]))).symm⟩
    have two_ : PyPn11.shape p = some (2, 0) → ∃ a b : Nat, p :: r = [p, (a : Int), (b : Int)] ++ t ∧ c = [[p, (a : Int), (b : Int)]] := fun hs => by
      obtain ⟨q, xs, e1, e2⟩ := call_flat hs h
      obtain ⟨a, b, u, rfl⟩ := two q
      obtain ⟨a, rfl⟩ := num a (by simp)
      obtain ⟨b, rfl⟩ := num b (by simp)
      cases e1
      exact ⟨a, b, rfl, e2⟩
    have one_ : PyPn11.shape p = some (1, 0) → ∃ a : Nat, p :: r = [p, (a : Int)] ++ t ∧ c = [[p, (a : Int)]] := fun hs => by
      obtain ⟨q, xs, e1, e2⟩ := call_flat hs h
      obtain ⟨a, u, rfl⟩ := one q
      obtain ⟨a, rfl⟩ := num a (by simp)
      cases e1
      exact ⟨a, rfl, e2⟩
    have none_ : PyPn11.shape p = some (0, 0) → p :: r = [p] ++ t ∧ c = [[p]] := fun hs => by
      obtain ⟨q, xs, e1, e2⟩ := call_flat hs h
      cases e1
      exact ⟨rfl, e2⟩
    rcases shape_cases p with ⟨rfl, hs⟩ | ⟨rfl, hs⟩ | ⟨rfl, hs⟩ | ⟨rfl, hs⟩ | ⟨rfl, hs⟩ | ⟨rfl, hs⟩ | ⟨rfl, hs⟩ | ⟨rfl, hs⟩ | ⟨rfl, hs⟩ | hs
    · obtain ⟨a, b, e1, rfl⟩ := two_ hs
      exact ⟨_, _, .begins a b, e1⟩
    · obtain ⟨q, xs, e1, e2⟩ := call_flat hs h
      cases r with
      | nil => cases e1
      | cons n r =>
        have e1 : (match PyFlat.row (n :: r) with
          | none => none
          | some (x, s) => match PyFlat.rows 0 s with
            | none => none
            | some (xs, t) => some (x :: xs, t)) = some (xs, t) := e1
        unfold PyFlat.row at e1
        dsimp only at e1
        by_cases z : 0 ≤ n ∧ n.toNat ≤ r.length
        · rw [if_pos z] at e1
          cases e1
          obtain ⟨rr, er⟩ := up_of (r.take n.toNat) (fun y hy => hl y (by simp [List.mem_of_mem_take hy]))
          have ln : (rr.length : Int) = n := by
            have := congrArg List.length er
            unfold up at this
            rw [List.length_take, List.length_map] at this
            omega
          refine ⟨1 :: (rr.length : Int) :: up rr, .act rr, ?_, ?_⟩
          · rw [e2]
            show Item _ _ [[1], r.take n.toNat]
            rw [er]
            exact .act rr
          · rw [ln, ← er]
            show 1 :: n :: r = 1 :: n :: (r.take n.toNat ++ r.drop n.toNat)
            rw [List.take_append_drop]
        · rw [if_neg z] at e1
          cases e1
    · obtain ⟨a, b, e1, rfl⟩ := two_ hs
      exact ⟨_, _, .worth a b, e1⟩
    · obtain ⟨a, e1, rfl⟩ := one_ hs
      exact ⟨_, _, .start a, e1⟩
    · obtain ⟨a, e1, rfl⟩ := one_ hs
      exact ⟨_, _, .best a, e1⟩
    · obtain ⟨a, e1, rfl⟩ := one_ hs
      exact ⟨_, _, .least a, e1⟩
    · obtain ⟨e1, rfl⟩ := none_ hs
      exact ⟨_, _, .net, e1⟩
    · obtain ⟨e1, rfl⟩ := none_ hs
      exact ⟨_, _, .front, e1⟩
    · obtain ⟨a, e1, rfl⟩ := one_ hs
      exact ⟨_, _, .drop a, e1⟩
    · unfold PyFlat.call at h
      dsimp only at h
      rw [hs] at h
      cases h

/-- a list that is calls one behind another -/
inductive Flat : List Int → List Call → Prop
  | nil : Flat [] []
  | cons {f x c t xs} : Item f x c → Flat t xs → Flat (f ++ t) (x :: xs)

/-- what is due -/
def due : House → List Call → List Int
  | _, [] => []
  | h, x :: xs => ((out (step h x).2).length : Int) :: out (step h x).2 ++ due (step h x).1 xs

theorem calls_flat : ∀ (n : Nat) (l : List Int) (raw : List (List (List Int))), (∀ x ∈ l, 0 ≤ x) → PyFlat.calls PyPn11.shape n l = some raw →
    ∃ xs, Flat l xs ∧ ∀ h, PyFlat.told (PyFlat.played Pn11Neutral.step h (raw.map PyPn11.whole)) = due h xs
  | n, [], raw, _, h => by
    have : raw = [] := by
      cases n <;> (unfold PyFlat.calls at h; cases h; rfl)
    subst this
    exact ⟨[], .nil, fun _ => rfl⟩
  | 0, p :: r, raw, _, h => by cases h
  | n + 1, p :: r, raw, hl, h => by
    unfold PyFlat.calls at h
    cases e : PyFlat.call PyPn11.shape (p :: r) with
    | none => rw [e] at h; cases h
    | some y =>
      obtain ⟨c, t⟩ := y
      rw [e] at h
      dsimp only at h
      cases e2 : PyFlat.calls PyPn11.shape n t with
      | none => rw [e2] at h; cases h
      | some cs =>
        rw [e2] at h
        cases h
        obtain ⟨f, x, hi, el⟩ := call_item hl e
        obtain ⟨xs, hf, hd⟩ := calls_flat n t cs (fun y hy => hl y (by rw [el]; simp [hy])) e2
        refine ⟨x :: xs, by rw [el]; exact .cons hi hf, fun s => ?_⟩
        have hs := hi.step s
        show PyFlat.told (PyFlat.played Pn11Neutral.step s (PyPn11.whole c :: cs.map PyPn11.whole)) = _
        show ((Pn11Neutral.step s (PyPn11.whole c)).2.length : Int) :: (Pn11Neutral.step s (PyPn11.whole c)).2 ++ PyFlat.told (PyFlat.played Pn11Neutral.step (Pn11Neutral.step s (PyPn11.whole c)).1 (cs.map PyPn11.whole)) = _
        rw [hs]
        show ((out (step s x).2).length : Int) :: out (step s x).2 ++ PyFlat.told (PyFlat.played Pn11Neutral.step (step s x).1 (cs.map PyPn11.whole)) = _
        rw [hd]
        rfl

/-- what is asked of the list: it is calls, and what is due for them is no longer than so -/
theorem asked_flat {l : List Int} (hl : ∀ x ∈ l, 0 ≤ x) (h : PyPn11.answers_asked l = true) : ∃ xs, Flat l xs ∧ PyPn11.answers l = due Pn11.init xs ∧ (due Pn11.init xs).length ≤ 10000000 := by
  unfold PyPn11.answers_asked at h
  cases e : PyFlat.calls PyPn11.shape l.length l with
  | none => rw [e] at h; cases h
  | some raw =>
    rw [e] at h
    dsimp only at h
    simp only [Bool.and_eq_true] at h
    obtain ⟨xs, hf, hd⟩ := calls_flat l.length l raw hl e
    have ea : PyPn11.answers l = due Pn11.init xs := by
      unfold PyPn11.answers PyPn11.calls
      rw [e]
      exact hd Pn11.init
    refine ⟨xs, hf, ea, ?_⟩
    rw [← ea]
    exact of_decide_eq_true h.2
end WF

/-! The search that settles the cheapest first, over lists of states with their ways. -/
namespace WD
open Pn (Act Task)
open Pn11 (less better)
open WM

abbrev Row := List (Nat × Cl)
def keys (L : Row) : List Nat := L.map (·.1)
def get (L : Row) (m : Nat) : Option Cl := (L.find? fun p => decide (p.1 = m)).map (·.2)
def put (L : Row) (m : Nat) (c : Cl) : Row := if (L.any fun p => decide (p.1 = m)) = true then L.map (fun p => if p.1 = m then (p.1, c) else p) else L ++ [(m, c)]
def del (L : Row) (m : Nat) : Row := L.filter fun p => decide (p.1 ≠ m)

theorem mem_keys {L : Row} {m : Nat} : m ∈ keys L ↔ ∃ c, (m, c) ∈ L := by
  unfold keys
  rw [List.mem_map]
  constructor
  · rintro ⟨p, h, rfl⟩; exact ⟨p.2, h⟩
  · rintro ⟨c, h⟩; exact ⟨(m, c), h, rfl⟩

theorem any_keys {L : Row} {m : Nat} : (L.any fun p => decide (p.1 = m)) = true ↔ m ∈ keys L := by
  rw [List.any_eq_true, mem_keys]
  constructor
  · rintro ⟨p, h, e⟩
    have e := of_decide_eq_true e
    subst e; exact ⟨p.2, h⟩
  · rintro ⟨c, h⟩; exact ⟨(m, c), h, decide_eq_true rfl⟩

theorem get_mem : ∀ {L : Row} {m : Nat} {c : Cl}, get L m = some c → (m, c) ∈ L
  | [], _, _, h => by simp [get] at h
  | p :: L, m, c, h => by
    by_cases e : p.1 = m
    · have : p.2 = c := by simpa [get, List.find?_cons, e] using h
      subst e this; simp
    · have : get L m = some c := by simpa [get, List.find?_cons, e] using h
      exact List.mem_cons_of_mem _ (get_mem this)

theorem get_none : ∀ {L : Row} {m : Nat}, get L m = none ↔ m ∉ keys L
  | [], m => by simp [get, keys]
  | p :: L, m => by
    by_cases e : p.1 = m
    · have : get (p :: L) m = some p.2 := by simp [get, List.find?_cons, e]
      rw [this]; simp [keys, e]
    · have : get (p :: L) m = get L m := by simp [get, List.find?_cons, e]
      rw [this, get_none]
      show m ∉ keys L ↔ m ∉ p.1 :: keys L
      rw [List.mem_cons]
      constructor
      · rintro h (z | z)
        · exact e z.symm
        · exact h z
      · intro h z; exact h (.inr z)

theorem uniq {L : Row} (nd : (keys L).Nodup) {m : Nat} {c c' : Cl} (h : (m, c) ∈ L) (h' : (m, c') ∈ L) : c = c' := by
  induction L with
  | nil => cases h
  | cons p L ih =>
    have nd' := List.nodup_cons.1 (show (p.1 :: keys L).Nodup from nd)
    rcases List.mem_cons.1 h with e | h
    · rcases List.mem_cons.1 h' with e' | h'
      · rw [← e'] at e; exact congrArg Prod.snd e
      · exact absurd (mem_keys.2 ⟨c', h'⟩) (by rw [← e] at nd'; exact nd'.1)
    · rcases List.mem_cons.1 h' with e' | h'
      · exact absurd (mem_keys.2 ⟨c, h⟩) (by rw [← e'] at nd'; exact nd'.1)
      · exact ih nd'.2 h h'

theorem get_of_mem {L : Row} (nd : (keys L).Nodup) {m : Nat} {c : Cl} (h : (m, c) ∈ L) : get L m = some c := by
  cases q : get L m with
  | none => exact absurd (mem_keys.2 ⟨c, h⟩) (get_none.1 q)
  | some c' => rw [uniq nd h (get_mem q)]

theorem put_keys_in {L : Row} {m : Nat} {c : Cl} (h : m ∈ keys L) : keys (put L m c) = keys L := by
  unfold put
  rw [if_pos (any_keys.2 h)]
  unfold keys
  rw [List.map_map]
  apply List.map_congr_left
  intro p _
  show (if p.1 = m then (p.1, c) else p).1 = p.1
  split <;> rfl

theorem put_out {L : Row} {m : Nat} {c : Cl} (h : m ∉ keys L) : put L m c = L ++ [(m, c)] := by
  unfold put
  rw [if_neg (fun z => h (any_keys.1 z))]

theorem mem_put {L : Row} (nd : (keys L).Nodup) {m : Nat} {c : Cl} {p : Nat × Cl} : p ∈ put L m c ↔ p = (m, c) ∨ (p ∈ L ∧ p.1 ≠ m) := by
  by_cases h : m ∈ keys L
  · unfold put
    rw [if_pos (any_keys.2 h), List.mem_map]
    constructor
    · rintro ⟨q, hq, e⟩
      by_cases z : q.1 = m
      · rw [if_pos z] at e; left; rw [← e, z]
      · rw [if_neg z] at e; subst e; exact .inr ⟨hq, z⟩
    · rintro (e | ⟨hp, z⟩)
      · obtain ⟨c', hc⟩ := mem_keys.1 h
        exact ⟨_, hc, by rw [if_pos rfl, e]⟩
      · exact ⟨p, hp, if_neg z⟩
  · rw [put_out h, List.mem_append, List.mem_singleton]
    constructor
    · rintro (hp | e)
      · exact .inr ⟨hp, fun z => h (mem_keys.2 ⟨p.2, by rw [← z]; exact hp⟩)⟩
      · exact .inl e
    · rintro (e | ⟨hp, _⟩)
      · exact .inr e
      · exact .inl hp

theorem mem_del {L : Row} {m : Nat} {p : Nat × Cl} : p ∈ del L m ↔ p ∈ L ∧ p.1 ≠ m := by
  unfold del
  rw [List.mem_filter]
  simp

theorem del_nodup {L : Row} {m : Nat} (nd : (keys L).Nodup) : (keys (del L m)).Nodup := by
  unfold keys del
  exact List.Nodup.sublist (List.Sublist.map _ List.filter_sublist) nd

theorem put_nodup {L : Row} {m : Nat} {c : Cl} (nd : (keys L).Nodup) : (keys (put L m c)).Nodup := by
  by_cases h : m ∈ keys L
  · rw [put_keys_in h]; exact nd
  · rw [put_out h]
    unfold keys
    rw [List.map_append]
    show (keys L ++ [m]).Nodup
    rw [List.nodup_append]
    refine ⟨nd, by simp, fun a ha b hb => ?_⟩
    have : b = m := by simpa using hb
    subst this
    rintro rfl
    exact h ha

/-- what holds of the settled S and the waiting Q; P: which ways are looked after -/
structure Held (t : Task) (s : Nat) (S Q : Row) (P : Nat → Cl → Prop) : Prop where
  ndS : (keys S).Nodup
  ndQ : (keys Q).Nodup
  apart : ∀ m, m ∈ keys S → m ∉ keys Q
  least : ∀ p ∈ S, Least t s p.1 p.2
  ways : ∀ p ∈ Q, Way t s p.1 p.2
  start : s ∈ keys S ∨ (s, (0, [])) ∈ Q
  met : ∀ b e, P b e → b ∈ keys S ∨ ∃ c, (b, c) ∈ Q ∧ Le c e

/-- one act behind what is settled -/
def Behind (t : Task) (S : Row) (b : Nat) (e : Cl) : Prop := ∃ m c k, (m, c) ∈ S ∧ t.can m k = true ∧ b = (t.act k).then_ m ∧ e = ext c (t.act k).cost k

theorem held_first (t : Task) (s : Nat) : Held t s [] [(s, (0, []))] (Behind t []) :=
  ⟨by simp [keys], by simp [keys], by simp [keys], by simp, fun p h => by simp at h; subst h; exact .nil, .inr (by simp), fun b e ⟨m, c, k, h, _⟩ => by cases h⟩

theorem Held.mono {t s S Q} {P P' : Nat → Cl → Prop} (h : Held t s S Q P) (hp : ∀ b e, P' b e → P b e) : Held t s S Q P' :=
  ⟨h.ndS, h.ndQ, h.apart, h.least, h.ways, h.start, fun b e z => h.met b e (hp b e z)⟩

/-- some waiting way is no worse than any way to a state that isn't settled -/
theorem Held.waits {t s S Q} (g : Good t) (h : Held t s S Q (Behind t S)) {m : Nat} {c : Cl} (w : Way t s m c) : m ∉ keys S → ∃ q ∈ Q, Le q.2 c := by
  induction w with
  | nil =>
    intro hm
    rcases h.start with z | z
    · exact absurd z hm
    · exact ⟨_, z, Le.refl _⟩
  | @snoc m c k w hk ih =>
    intro hm
    by_cases hs : m ∈ keys S
    · obtain ⟨c0, h0⟩ := mem_keys.1 hs
      rcases h.met _ _ ⟨m, c0, k, h0, hk, rfl, rfl⟩ with z | ⟨c1, z, l⟩
      · exact absurd z hm
      · exact ⟨_, z, l.trans (((h.least _ h0).2 c w).ext _ _)⟩
    · obtain ⟨q, hq, l⟩ := ih hs
      exact ⟨q, hq, l.trans (Le.of_better (better_of_ext (g.cost hk)))⟩

/-- the lowest that waits is settled -/
theorem Held.settle {t s S Q} (g : Good t) (h : Held t s S Q (Behind t S)) {m : Nat} {c : Cl} (hm : (m, c) ∈ Q) (hl : ∀ q ∈ Q, Le c q.2) :
    Least t s m c ∧ Held t s (S ++ [(m, c)]) (del Q m) (Behind t S) := by
  have hS : m ∉ keys S := fun z => h.apart m z (mem_keys.2 ⟨c, hm⟩)
  have L : Least t s m c := by
    refine ⟨h.ways _ hm, fun c' w => ?_⟩
    obtain ⟨q, hq, l⟩ := h.waits g w hS
    exact (hl q hq).trans l
  have ks : ∀ x, x ∈ keys (S ++ [(m, c)]) ↔ x ∈ keys S ∨ x = m := fun x => by simp [keys]
  refine ⟨L, ?_, del_nodup h.ndQ, ?_, ?_, ?_, ?_, ?_⟩
  · have : keys (S ++ [(m, c)]) = keys S ++ [m] := by simp [keys]
    rw [this, List.nodup_append]
    refine ⟨h.ndS, by simp, fun a ha b hb => ?_⟩
    have : b = m := by simpa using hb
    subst this
    rintro rfl
    exact hS ha
  · intro x hx hq
    obtain ⟨c', hc⟩ := mem_keys.1 hq
    have hc := mem_del.1 hc
    rcases (ks x).1 hx with z | z
    · exact h.apart x z (mem_keys.2 ⟨c', hc.1⟩)
    · exact hc.2 z
  · intro p hp
    rcases List.mem_append.1 hp with z | z
    · exact h.least p z
    · have := List.mem_singleton.1 z
      subst this; exact L
  · intro p hp
    exact h.ways p (mem_del.1 hp).1
  · rcases h.start with z | z
    · exact .inl ((ks s).2 (.inl z))
    · by_cases e : s = m
      · exact .inl ((ks s).2 (.inr e))
      · exact .inr (mem_del.2 ⟨z, e⟩)
  · intro b e hb
    rcases h.met b e hb with z | ⟨c', z, l⟩
    · exact .inl ((ks b).2 (.inl z))
    · by_cases q : b = m
      · exact .inl ((ks b).2 (.inr q))
      · exact .inr ⟨c', mem_del.2 ⟨z, q⟩, l⟩

/-- one way more is looked after -/
def relax (S Q : Row) (p : Nat × Cl) : Row := if p.1 ∈ keys S then Q else match get Q p.1 with
  | none => put Q p.1 p.2
  | some o => if better p.2 o = true then put Q p.1 p.2 else Q

theorem Held.relaxed {t s S Q P} (h : Held t s S Q P) {b : Nat} {e : Cl} (w : Way t s b e) : Held t s S (relax S Q (b, e)) (fun b' e' => P b' e' ∨ (b' = b ∧ e' = e)) := by
  have stored : b ∉ keys S → (∀ o, get Q b = some o → better e o = true) → Held t s S (put Q b e) (fun b' e' => P b' e' ∨ (b' = b ∧ e' = e)) := by
    intro hb hq
    have there : ∀ p ∈ Q, ∃ c, (p.1, c) ∈ put Q b e ∧ Le c p.2 := by
      intro p hp
      by_cases z : p.1 = b
      · refine ⟨e, (mem_put h.ndQ).2 (.inl (by rw [z])), Le.of_better (hq p.2 ?_)⟩
        rw [← z]; exact get_of_mem h.ndQ hp
      · exact ⟨p.2, (mem_put h.ndQ).2 (.inr ⟨hp, z⟩), Le.refl _⟩
    refine ⟨h.ndS, put_nodup h.ndQ, ?_, h.least, ?_, ?_, ?_⟩
    · intro m hm hk
      obtain ⟨c, hc⟩ := mem_keys.1 hk
      rcases (mem_put h.ndQ).1 hc with z | ⟨z, _⟩
      · have : m = b := congrArg Prod.fst z
        exact hb (this ▸ hm)
      · exact h.apart m hm (mem_keys.2 ⟨c, z⟩)
    · intro p hp
      rcases (mem_put h.ndQ).1 hp with z | ⟨z, _⟩
      · subst z; exact w
      · exact h.ways p z
    · rcases h.start with z | z
      · exact .inl z
      · obtain ⟨c, hc, l⟩ := there _ z
        have : c = (0, []) := l.antisymm (Le.zero c)
        exact .inr (this ▸ hc)
    · intro b' e' hp
      rcases hp with hp | ⟨rfl, rfl⟩
      · rcases h.met b' e' hp with z | ⟨c, z, l⟩
        · exact .inl z
        · obtain ⟨c', hc', l'⟩ := there _ z
          exact .inr ⟨c', hc', l'.trans l⟩
      · exact .inr ⟨e', (mem_put h.ndQ).2 (.inl rfl), Le.refl _⟩
  unfold relax
  dsimp only
  split
  · next hb =>
    refine ⟨h.ndS, h.ndQ, h.apart, h.least, h.ways, h.start, fun b' e' hp => ?_⟩
    rcases hp with hp | ⟨rfl, rfl⟩
    · exact h.met b' e' hp
    · exact .inl hb
  · next hb =>
    split
    · next hq => exact stored hb (fun o z => by rw [hq] at z; cases z)
    · next o hq =>
      split
      · next hl => exact stored hb (fun o' z => by rw [hq] at z; cases z; exact hl)
      · next hl =>
        refine ⟨h.ndS, h.ndQ, h.apart, h.least, h.ways, h.start, fun b' e' hp => ?_⟩
        rcases hp with hp | ⟨rfl, rfl⟩
        · exact h.met b' e' hp
        · exact .inr ⟨o, get_mem hq, by unfold Le; simpa using hl⟩

/-- the ways one act longer -/
def longer (t : Task) (m : Nat) (c : Cl) : Row := ((List.range t.acts.length).filter fun k => (t.act k).may m).map fun k => ((t.act k).then_ m, ext c (t.act k).cost k)

theorem mem_longer {t : Task} {m : Nat} {c : Cl} {p : Nat × Cl} : p ∈ longer t m c ↔ ∃ k, t.can m k = true ∧ p = ((t.act k).then_ m, ext c (t.act k).cost k) := by
  unfold longer Task.can
  simp only [List.mem_map, List.mem_filter, List.mem_range, Bool.and_eq_true, decide_eq_true_eq]
  constructor
  · rintro ⟨k, h, rfl⟩; exact ⟨k, h, rfl⟩
  · rintro ⟨k, h, rfl⟩; exact ⟨k, h, rfl⟩

theorem Held.relax_all {t s S} : ∀ (L Q : Row) (P : Nat → Cl → Prop), Held t s S Q P → (∀ p ∈ L, Way t s p.1 p.2) → Held t s S (L.foldl (relax S) Q) (fun b e => P b e ∨ (b, e) ∈ L)
  | [], Q, P, h, _ => h.mono (fun b e z => by simpa using z)
  | p :: L, Q, P, h, hw => by
    rw [List.foldl_cons]
    have h1 := h.relaxed (hw p (by simp))
    refine (Held.relax_all L _ _ h1 (fun q hq => hw q (by simp [hq]))).mono (fun b e z => ?_)
    rcases z with z | z
    · exact .inl (.inl z)
    · rcases List.mem_cons.1 z with z | z
      · exact .inl (.inr ⟨congrArg Prod.fst z, congrArg Prod.snd z⟩)
      · exact .inr z

/-- one turn: the lowest is settled, and what is one act behind it looked after -/
theorem Held.turn {t s S Q} (g : Good t) (h : Held t s S Q (Behind t S)) {m : Nat} {c : Cl} (hm : (m, c) ∈ Q) (hl : ∀ q ∈ Q, Le c q.2) :
    Held t s (S ++ [(m, c)]) ((longer t m c).foldl (relax (S ++ [(m, c)])) (del Q m)) (Behind t (S ++ [(m, c)])) := by
  obtain ⟨L, h1⟩ := h.settle g hm hl
  refine (Held.relax_all (longer t m c) _ _ h1 (fun p hp => ?_)).mono (fun b e hb => ?_)
  · obtain ⟨k, hk, rfl⟩ := mem_longer.1 hp
    exact L.1.snoc hk
  · obtain ⟨m', c', k, h', hk, rfl, rfl⟩ := hb
    rcases List.mem_append.1 h' with z | z
    · exact .inl ⟨m', c', k, z, hk, rfl, rfl⟩
    · have := List.mem_singleton.1 z
      injection this with e1 e2
      subst e1 e2
      exact .inr (mem_longer.2 ⟨k, hk, rfl⟩)

/-- nothing waits: the settled are all, each with its least way -/
theorem Held.done {t s S} (g : Good t) (h : Held t s S [] (Behind t S)) : ∀ m c, (m, c) ∈ S ↔ Least t s m c := by
  intro m c
  constructor
  · exact h.least (m, c)
  · intro l
    by_cases z : m ∈ keys S
    · obtain ⟨c', hc⟩ := mem_keys.1 z
      have := (h.least _ hc).unique l
      exact this ▸ hc
    · obtain ⟨q, hq, _⟩ := h.waits g l.1 z
      cases hq

theorem Held.few {t s S Q P} (g : Good t) (hs : s < 2 ^ t.facts) (h : Held t s S Q P) : S.length + Q.length ≤ 2 ^ t.facts := by
  have hl : (keys S ++ keys Q).length ≤ 2 ^ t.facts := by
    refine nodup_le _ _ ?_ ?_
    · rw [List.nodup_append]
      exact ⟨h.ndS, h.ndQ, fun a ha b hb e => h.apart a ha (e ▸ hb)⟩
    · intro x hx
      rcases List.mem_append.1 hx with z | z
      · obtain ⟨c, hc⟩ := mem_keys.1 z
        exact g.lt hs (h.least _ hc).1
      · obtain ⟨c, hc⟩ := mem_keys.1 z
        exact g.lt hs (h.ways _ hc)
  simpa [keys] using hl

/-- how long, how dear a way may be that is held -/
theorem Held.lens {t s S Q P} (g : Good t) (hs : s < 2 ^ t.facts) (h : Held t s S Q P) : ∀ p ∈ S, p.2.2.length < 2 ^ t.facts := fun p hp =>
  Least.short g hs _ p.1 p.2 rfl (h.least p hp)
end WD

/-! Data of ints and tuples, at any depth: ==, <, min. -/
namespace WE
open PySem L2 PyProof.Rows

structure Enc (T : Type) [DecidableEq T] where
  lt : T → T → Bool
  irr : ∀ a, lt a a = false
  tr : ∀ a b c, lt a b = true → lt b c = true → lt a c = true
  tot : ∀ a b, lt a b = false → lt b a = false → a = b
  deep : Nat
  At : PySem.W.Frag → Hp → T → V → Prop
  keep : ∀ (K : PySem.W.Frag) (H H' : Hp) a x, (∀ b xs, SqT K H b xs → SqT K H' b xs) → At K H a x → At K H' a x
  inj : ∀ (X : Cx) pins σ H s a b x, Inv X pins σ H s → At X.K H a x → At X.K H b x → a = b
  eqv : ∀ (X : Cx) pins σ H s (A : Around) a b x y v u, Inv X pins σ H s → A.units + deep < cLine → At X.K H a x → At X.K H b y → RelV x v → RelV y u → SeqAt.EqAt A s v u (decide (a = b))
  ltv : ∀ (X : Cx) pins σ H s (A : Around) a b x y v u, Inv X pins σ H s → A.units + deep < cLine → At X.K H a x → At X.K H b y → RelV x v → RelV y u → Ob.RcOp .Lt A s v u (lt a b)

theorem Enc.asym {T : Type} [DecidableEq T] (e : Enc T) {a b : T} (h : e.lt a b = true) : e.lt b a = false := by
  cases q : e.lt b a with
  | false => rfl
  | true => have := e.tr _ _ _ h q; rw [e.irr] at this; cases this

theorem Enc.neg {T : Type} [DecidableEq T] (e : Enc T) {a b c : T} (h : e.lt a b = false) (h' : e.lt b c = false) : e.lt a c = false := by
  cases q : e.lt a c with
  | false => rfl
  | true =>
    cases z : e.lt b a with
    | true => have := e.tr _ _ _ z q; rw [h'] at this; cases this
    | false => have := e.tot _ _ h z; subst this; rw [q] at h'; cases h'

/-- an int -/
def eInt : Enc Int where
  lt := fun a b => decide (a < b)
  irr := fun a => by simp
  tr := fun a b c h h' => by simp at *; omega
  tot := fun a b h h' => by simp at *; omega
  deep := 0
  At := fun _ _ a x => x = .int a
  keep := fun _ _ _ _ _ _ h => h
  inj := fun _ _ _ _ _ a b x _ h h' => by rw [h] at h'; injection h'
  eqv := fun X pins σ H s A a b x y v u I hu h h' r r' => by
    subst h h'
    obtain ⟨t, rfl⟩ := r
    obtain ⟨t', rfl⟩ := r'
    rw [← Bool.beq_eq_decide_eq]
    exact SeqAt.EqAt.int_int a t b t'
  ltv := fun X pins σ H s A a b x y v u I hu h h' r r' => by
    subst h h'
    obtain ⟨t, rfl⟩ := r
    obtain ⟨t', rfl⟩ := r'
    exact Ob.RcOp.lt_int a b t t'

/-- two tuples, item by item -/
theorem tup_eq {A : Around} {s : Shared} {p q : Addr} {i1 i2 : List Value} {e : Nat → Bool} (ne : p ≠ q) (h1 : IsTup s.heap p i1.toArray) (h2 : IsTup s.heap q i2.toArray) (hu : A.units < cLine)
    (he : ∀ j v u, i1[j]? = some v → i2[j]? = some u → SeqAt.EqAt A.in1 s v u (e j)) :
    SeqAt.EqAt A s (.ref p) (.ref q) ((List.range (min i1.length i2.length)).all e && i1.length == i2.length) := by
  have := SeqAt.RcAt.tuples (A := A) (s := s) (l := p) (b := q) (items := i1.toArray) (items2 := i2.toArray) (e := e) h1 h2 hu (fun j h1 h2 => he j _ _ (by simp at h1; simp [h1]) (by simp at h2; simp [h2]))
  have z := SeqAt.EqAt.of_refs ne this
  simpa using z

theorem tup_lt {A : Around} {s : Shared} {p q : Addr} {i1 i2 : List Value} {e r : Nat → Bool} (h1 : IsTup s.heap p i1.toArray) (h2 : IsTup s.heap q i2.toArray) (hu : A.units < cLine)
    (he : ∀ j v u, i1[j]? = some v → i2[j]? = some u → SeqAt.EqAt A.in1 s v u (e j))
    (hr : ∀ j v u, i1[j]? = some v → i2[j]? = some u → Ob.RcOp .Lt A.in1 s v u (r j)) :
    Ob.RcOp .Lt A s (.ref p) (.ref q) (Ob.lexAt e r (decide (i1.length < i2.length)) 0 (min i1.length i2.length)) := by
  have := Ob.RcOp.tuples_lt (A := A) (s := s) (l := p) (b := q) (items := i1.toArray) (items2 := i2.toArray) (e := e) (r := r) h1 h2 hu
    (fun j h1 h2 => he j _ _ (by simp at h1; simp [h1]) (by simp at h2; simp [h2])) (fun j h1 h2 _ => hr j _ _ (by simp at h1; simp [h1]) (by simp at h2; simp [h2]))
  simpa using this

section
variable {S T : Type} [DecidableEq S] [DecidableEq T]

def pairLt (e : Enc S) (f : Enc T) (a b : S × T) : Bool := if a.1 = b.1 then f.lt a.2 b.2 else e.lt a.1 b.1

theorem vals2 {x y : V} {its : List Value} (r : Vals [x, y] its) : ∃ v u, its = [v, u] ∧ RelV x v ∧ RelV y u := by
  cases r with
  | cons r1 r => cases r with
    | cons r2 r => cases r with
      | nil => exact ⟨_, _, rfl, r1, r2⟩

/-- (a, b) -/
def ePair (e : Enc S) (f : Enc T) : Enc (S × T) where
  lt := pairLt e f
  irr := fun a => by simp [pairLt, f.irr]
  tr := fun a b c h h' => by
    unfold pairLt at *
    split at h
    · next q =>
      split at h'
      · next q' => rw [if_pos (q.trans q')]; exact f.tr _ _ _ h h'
      · next q' => rw [if_neg (fun z => q' (q.symm.trans z)), q]; exact h'
    · next q =>
      split at h'
      · next q' => rw [if_neg (fun z => q (z.trans q'.symm)), ← q']; exact h
      · next q' =>
        have z := e.tr _ _ _ h h'
        split
        · next w => rw [w, e.irr] at z; cases z
        · exact z
  tot := fun a b h h' => by
    unfold pairLt at *
    by_cases q : a.1 = b.1
    · rw [if_pos q] at h; rw [if_pos q.symm] at h'
      exact Prod.ext q (f.tot _ _ h h')
    · rw [if_neg q] at h; rw [if_neg (Ne.symm q)] at h'
      exact absurd (e.tot _ _ h h') q
  deep := max e.deep f.deep + 1
  At := fun K H a x => ∃ p y z, x = .ref p ∧ SqT K H p [y, z] ∧ e.At K H a.1 y ∧ f.At K H a.2 z
  keep := fun K H H' a x hk h => by
    obtain ⟨p, y, z, h1, h2, h3, h4⟩ := h
    exact ⟨p, y, z, h1, hk _ _ h2, e.keep _ _ _ _ _ hk h3, f.keep _ _ _ _ _ hk h4⟩
  inj := fun X pins σ H s a b x I h h' => by
    obtain ⟨p, y, z, h1, h2, h3, h4⟩ := h
    obtain ⟨p', y', z', h1', h2', h3', h4'⟩ := h'
    rw [h1] at h1'; cases h1'
    have := I.tuple_inj h2 h2'; cases this
    exact Prod.ext (e.inj _ _ _ _ _ _ _ _ I h3 h3') (f.inj _ _ _ _ _ _ _ _ I h4 h4')
  eqv := fun X pins σ H s A a b x x' v u I hu h h' r r' => by
    obtain ⟨p, y, z, rfl, h2, h3, h4⟩ := h
    obtain ⟨p', y', z', rfl, h2', h3', h4'⟩ := h'
    cases r; cases r'
    by_cases ne : p = p'
    · subst ne
      have := I.tuple_inj h2 h2'; cases this
      have e1 := e.inj _ _ _ _ _ _ _ _ I h3 h3'
      have e2 := f.inj _ _ _ _ _ _ _ _ I h4 h4'
      have : a = b := Prod.ext e1 e2
      rw [decide_eq_true this]
      exact SeqAt.EqAt.same _
    · obtain ⟨its, rv, ht, _⟩ := I.tuple h2
      obtain ⟨its', rv', ht', _⟩ := I.tuple h2'
      obtain ⟨v1, v2, rfl, r1, r2⟩ := vals2 rv
      obtain ⟨u1, u2, rfl, r1', r2'⟩ := vals2 rv'
      have := tup_eq (A := A) (i1 := [v1, v2]) (i2 := [u1, u2]) (e := fun j => if j = 0 then decide (a.1 = b.1) else decide (a.2 = b.2)) ne ht ht' (by omega) (fun j v u hv hw => by
        match j with
        | 0 => simp at hv hw; subst hv hw; exact e.eqv X pins σ H s _ _ _ _ _ _ _ I (by show A.units + 1 + _ < _; omega) h3 h3' r1 r1'
        | 1 => simp at hv hw; subst hv hw; exact f.eqv X pins σ H s _ _ _ _ _ _ _ I (by show A.units + 1 + _ < _; omega) h4 h4' r2 r2'
        | j + 2 => simp at hv)
      have q : ((List.range (min [v1, v2].length [u1, u2].length)).all (fun j => if j = 0 then decide (a.1 = b.1) else decide (a.2 = b.2)) && [v1, v2].length == [u1, u2].length) = decide (a = b) := by
        have : List.range (min [v1, v2].length [u1, u2].length) = [0, 1] := rfl
        rw [this]
        simp only [List.all_cons, List.all_nil, List.length_cons, List.length_nil]
        by_cases z1 : a.1 = b.1 <;> by_cases z2 : a.2 = b.2
        · have : a = b := Prod.ext z1 z2
          simp [this]
        · have : ¬ a = b := fun w => z2 (by rw [w])
          simp [this, z2]
        · have : ¬ a = b := fun w => z1 (by rw [w])
          simp [this, z1]
        · have : ¬ a = b := fun w => z1 (by rw [w])
          simp [this, z1]
      rw [q] at this
      exact this
  ltv := fun X pins σ H s A a b x x' v u I hu h h' r r' => by
    obtain ⟨p, y, z, rfl, h2, h3, h4⟩ := h
    obtain ⟨p', y', z', rfl, h2', h3', h4'⟩ := h'
    cases r; cases r'
    obtain ⟨its, rv, ht, _⟩ := I.tuple h2
    obtain ⟨its', rv', ht', _⟩ := I.tuple h2'
    obtain ⟨v1, v2, rfl, r1, r2⟩ := vals2 rv
    obtain ⟨u1, u2, rfl, r1', r2'⟩ := vals2 rv'
    have := tup_lt (A := A) (i1 := [v1, v2]) (i2 := [u1, u2]) (e := fun j => if j = 0 then decide (a.1 = b.1) else decide (a.2 = b.2)) (r := fun j => if j = 0 then e.lt a.1 b.1 else f.lt a.2 b.2) ht ht' (by omega) (fun j v u hv hw => by
        match j with
        | 0 => simp at hv hw; subst hv hw; exact e.eqv X pins σ H s _ _ _ _ _ _ _ I (by show A.units + 1 + _ < _; omega) h3 h3' r1 r1'
        | 1 => simp at hv hw; subst hv hw; exact f.eqv X pins σ H s _ _ _ _ _ _ _ I (by show A.units + 1 + _ < _; omega) h4 h4' r2 r2'
        | j + 2 => simp at hv) (fun j v u hv hw => by
        match j with
        | 0 => simp at hv hw; subst hv hw; exact e.ltv X pins σ H s _ _ _ _ _ _ _ I (by show A.units + 1 + _ < _; omega) h3 h3' r1 r1'
        | 1 => simp at hv hw; subst hv hw; exact f.ltv X pins σ H s _ _ _ _ _ _ _ I (by show A.units + 1 + _ < _; omega) h4 h4' r2 r2'
        | j + 2 => simp at hv)
    have q : Ob.lexAt (fun j => if j = 0 then decide (a.1 = b.1) else decide (a.2 = b.2)) (fun j => if j = 0 then e.lt a.1 b.1 else f.lt a.2 b.2) (decide ([v1, v2].length < [u1, u2].length)) 0 (min [v1, v2].length [u1, u2].length) = pairLt e f a b := by
      have : min [v1, v2].length [u1, u2].length = 2 := rfl
      rw [this]
      simp only [Ob.lexAt, pairLt]
      by_cases z1 : a.1 = b.1 <;> by_cases z2 : a.2 = b.2
      · simp [z1, z2, f.irr]
      · simp [z1, z2]
      · simp [z1]
      · simp [z1]
    rw [q] at this
    exact this

def listLt (e : Enc T) : List T → List T → Bool
  | [], [] => false
  | [], _ :: _ => true
  | _ :: _, [] => false
  | a :: as, b :: bs => if a = b then listLt e as bs else e.lt a b

theorem listLt_irr (e : Enc T) : ∀ a, listLt e a a = false
  | [] => rfl
  | a :: r => by simp [listLt, listLt_irr e r]

theorem listLt_tr (e : Enc T) : ∀ a b c, listLt e a b = true → listLt e b c = true → listLt e a c = true
  | [], [], _, h, _ => by simp [listLt] at h
  | [], _ :: _, [], _, h => by simp [listLt] at h
  | [], _ :: _, _ :: _, _, _ => rfl
  | _ :: _, [], _, h, _ => by simp [listLt] at h
  | _ :: _, _ :: _, [], _, h => by simp [listLt] at h
  | a :: r, b :: r', c :: r'', h, h' => by
    unfold listLt at *
    split at h
    · next q =>
      split at h'
      · next q' => rw [if_pos (q.trans q')]; exact listLt_tr e _ _ _ h h'
      · next q' => rw [if_neg (fun z => q' (q.symm.trans z)), q]; exact h'
    · next q =>
      split at h'
      · next q' => rw [if_neg (fun z => q (z.trans q'.symm)), ← q']; exact h
      · next q' =>
        have z := e.tr _ _ _ h h'
        split
        · next w => rw [w, e.irr] at z; cases z
        · exact z

theorem listLt_tot (e : Enc T) : ∀ a b, listLt e a b = false → listLt e b a = false → a = b
  | [], [], _, _ => rfl
  | [], _ :: _, h, _ => by simp [listLt] at h
  | _ :: _, [], _, h => by simp [listLt] at h
  | a :: r, b :: r', h, h' => by
    unfold listLt at *
    by_cases q : a = b
    · rw [if_pos q] at h; rw [if_pos q.symm] at h'
      rw [q, listLt_tot e _ _ h h']
    · rw [if_neg q] at h; rw [if_neg (Ne.symm q)] at h'
      exact absurd (e.tot _ _ h h') q

def itEq (as bs : List T) (j : Nat) : Bool := decide (as[j]? = bs[j]?)
def itLt (e : Enc T) (as bs : List T) (j : Nat) : Bool := match as[j]?, bs[j]? with
  | some a, some b => e.lt a b
  | _, _ => false

theorem lex_list (e : Enc T) : ∀ (as bs : List T), Ob.lexAt (itEq as bs) (itLt e as bs) (decide (as.length < bs.length)) 0 (min as.length bs.length) = listLt e as bs := by
  have key : ∀ (k i : Nat) (as bs xs ys : List T), as.drop i = xs → bs.drop i = ys → min xs.length ys.length = k → i ≤ as.length → i ≤ bs.length → Ob.lexAt (itEq as bs) (itLt e as bs) (decide (as.length < bs.length)) i k = listLt e xs ys := by
    intro k
    induction k with
    | zero =>
      intro i as bs xs ys h1 h2 h3 h4 h5
      have l1 : as.length = i + xs.length := by rw [← h1, List.length_drop]; omega
      have l2 : bs.length = i + ys.length := by rw [← h2, List.length_drop]; omega
      rw [Ob.lexAt_zero, l1, l2]
      cases xs with
      | nil =>
        cases ys with
        | nil => simp [listLt]
        | cons y ys => simp [listLt]
      | cons x xs =>
        cases ys with
        | nil => simp [listLt]
        | cons y ys => simp at h3
    | succ k ih =>
      intro i as bs xs ys h1 h2 h3 h4 h5
      have l1 : as.length = i + xs.length := by rw [← h1, List.length_drop]; omega
      have l2 : bs.length = i + ys.length := by rw [← h2, List.length_drop]; omega
      cases xs with
      | nil => simp at h3
      | cons x xs =>
        cases ys with
        | nil => simp at h3
        | cons y ys =>
          have g1 : as[i]? = some x := by have := congrArg List.head? h1; simpa using this
          have g2 : bs[i]? = some y := by have := congrArg List.head? h2; simpa using this
          have d1 : as.drop (i + 1) = xs := by rw [← List.tail_drop, h1]; rfl
          have d2 : bs.drop (i + 1) = ys := by rw [← List.tail_drop, h2]; rfl
          simp only [List.length_cons] at h3 l1 l2
          rw [Ob.lexAt_succ, ih (i + 1) as bs xs ys d1 d2 (by omega) (by omega) (by omega)]
          unfold itEq itLt
          rw [g1, g2]
          by_cases q : x = y
          · subst q; simp [listLt]
          · simp [listLt, q]
  intro as bs
  exact key _ 0 as bs as bs rfl rfl rfl (Nat.zero_le _) (Nat.zero_le _)

theorem eq_list : ∀ (as bs : List T), ((List.range (min as.length bs.length)).all (itEq as bs) && as.length == bs.length) = decide (as = bs) := by
  intro as bs
  by_cases q : as = bs
  · subst q
    rw [decide_eq_true rfl]
    simp [itEq]
  · rw [decide_eq_false q]
    cases z : ((List.range (min as.length bs.length)).all (itEq as bs) && as.length == bs.length) with
    | false => rfl
    | true =>
      exfalso
      rw [Bool.and_eq_true, List.all_eq_true, beq_iff_eq] at z
      apply q
      apply List.ext_getElem?
      intro i
      by_cases hi : i < as.length
      · have := z.1 i (by rw [List.mem_range]; omega)
        unfold itEq at this
        exact of_decide_eq_true this
      · rw [List.getElem?_eq_none (by omega), List.getElem?_eq_none (by omega)]

theorem paired_get {A B : Type} {F : A → B → Prop} : ∀ {as : List A} {bs : List B} {i : Nat} {b : B}, Paired F as bs → bs[i]? = some b → ∃ a, as[i]? = some a ∧ F a b
  | _, _, _, _, .nil, h => by simp at h
  | _, _, 0, _, .cons r _, h => by simp at h; subst h; exact ⟨_, rfl, r⟩
  | _, _, i + 1, b, .cons _ t, h => by
    obtain ⟨a, h1, h2⟩ := paired_get (i := i) (b := b) t (by simpa using h)
    exact ⟨a, by simpa using h1, h2⟩

theorem paired_got {A B : Type} {F : A → B → Prop} : ∀ {as : List A} {bs : List B} {i : Nat} {a : A}, Paired F as bs → as[i]? = some a → ∃ b, bs[i]? = some b ∧ F a b
  | _, _, _, _, .nil, h => by simp at h
  | _, _, 0, _, .cons r _, h => by simp at h; subst h; exact ⟨_, rfl, r⟩
  | _, _, i + 1, b, .cons _ t, h => by
    obtain ⟨a, h1, h2⟩ := paired_got (i := i) (a := b) t (by simpa using h)
    exact ⟨a, by simpa using h1, h2⟩

theorem paired_map {A B : Type} {F G : A → B → Prop} : ∀ {as : List A} {bs : List B}, Paired F as bs → (∀ a b, F a b → G a b) → Paired G as bs
  | _, _, .nil, _ => .nil
  | _, _, .cons r t, h => .cons (h _ _ r) (paired_map t h)

theorem paired_len {A B : Type} {F : A → B → Prop} : ∀ {as : List A} {bs : List B}, Paired F as bs → as.length = bs.length
  | _, _, .nil => rfl
  | _, _, .cons _ t => by simp [paired_len t]

theorem paired_inj {A B : Type} {F : A → B → Prop} (hF : ∀ a a' b, F a b → F a' b → a = a') : ∀ {as as' : List A} {bs : List B}, Paired F as bs → Paired F as' bs → as = as'
  | _, _, _, .nil, .nil => rfl
  | _, _, _, .cons r t, .cons r' t' => by rw [hF _ _ _ r r', paired_inj hF t t']

/-- a tuple of any length, its items alike -/
def eSeq (e : Enc T) : Enc (List T) where
  lt := listLt e
  irr := listLt_irr e
  tr := listLt_tr e
  tot := listLt_tot e
  deep := e.deep + 1
  At := fun K H a x => ∃ p ys, x = .ref p ∧ SqT K H p ys ∧ Paired (e.At K H) a ys
  keep := fun K H H' a x hk h => by
    obtain ⟨p, ys, h1, h2, h3⟩ := h
    exact ⟨p, ys, h1, hk _ _ h2, paired_map h3 fun a b q => e.keep _ _ _ _ _ hk q⟩
  inj := fun X pins σ H s a b x I h h' => by
    obtain ⟨p, ys, h1, h2, h3⟩ := h
    obtain ⟨p', ys', h1', h2', h3'⟩ := h'
    rw [h1] at h1'; cases h1'
    have := I.tuple_inj h2 h2'; subst this
    exact paired_inj (F := e.At X.K H) (fun a a' b q q' => e.inj _ _ _ _ _ _ _ _ I q q') h3 h3'
  eqv := fun X pins σ H s A a b x x' v u I hu h h' r r' => by
    obtain ⟨p, ys, rfl, h2, h3⟩ := h
    obtain ⟨p', ys', rfl, h2', h3'⟩ := h'
    cases r; cases r'
    by_cases ne : p = p'
    · subst ne
      have := I.tuple_inj h2 h2'; subst this
      have : a = b := paired_inj (F := e.At X.K H) (fun a a' b q q' => e.inj _ _ _ _ _ _ _ _ I q q') h3 h3'
      rw [decide_eq_true this]
      exact SeqAt.EqAt.same _
    · obtain ⟨its, rv, ht, _⟩ := I.tuple h2
      obtain ⟨its', rv', ht', _⟩ := I.tuple h2'
      have := tup_eq (A := A) (e := itEq a b) ne ht ht' (by omega) (fun j v u hv hw => by
        obtain ⟨y, gy, ry⟩ := paired_get rv hv
        obtain ⟨y', gy', ry'⟩ := paired_get rv' hw
        obtain ⟨m, gm, rm⟩ := paired_get h3 gy
        obtain ⟨m', gm', rm'⟩ := paired_get h3' gy'
        have := e.eqv X pins σ H s A.in1 _ _ _ _ _ _ I (by show A.units + 1 + _ < _; omega) rm rm' ry ry'
        unfold itEq; rw [gm, gm']
        simpa using this)
      have l1 : its.length = a.length := by rw [← rv.length, paired_len h3]
      have l2 : its'.length = b.length := by rw [← rv'.length, paired_len h3']
      rw [l1, l2, eq_list] at this
      exact this
  ltv := fun X pins σ H s A a b x x' v u I hu h h' r r' => by
    obtain ⟨p, ys, rfl, h2, h3⟩ := h
    obtain ⟨p', ys', rfl, h2', h3'⟩ := h'
    cases r; cases r'
    obtain ⟨its, rv, ht, _⟩ := I.tuple h2
    obtain ⟨its', rv', ht', _⟩ := I.tuple h2'
    have := tup_lt (A := A) (e := itEq a b) (r := itLt e a b) ht ht' (by omega) (fun j v u hv hw => by
        obtain ⟨y, gy, ry⟩ := paired_get rv hv
        obtain ⟨y', gy', ry'⟩ := paired_get rv' hw
        obtain ⟨m, gm, rm⟩ := paired_get h3 gy
        obtain ⟨m', gm', rm'⟩ := paired_get h3' gy'
        have := e.eqv X pins σ H s A.in1 _ _ _ _ _ _ I (by show A.units + 1 + _ < _; omega) rm rm' ry ry'
        unfold itEq; rw [gm, gm']
        simpa using this) (fun j v u hv hw => by
        obtain ⟨y, gy, ry⟩ := paired_get rv hv
        obtain ⟨y', gy', ry'⟩ := paired_get rv' hw
        obtain ⟨m, gm, rm⟩ := paired_get h3 gy
        obtain ⟨m', gm', rm'⟩ := paired_get h3' gy'
        have := e.ltv X pins σ H s A.in1 _ _ _ _ _ _ I (by show A.units + 1 + _ < _; omega) rm rm' ry ry'
        unfold itLt; rw [gm, gm']
        exact this)
    have l1 : its.length = a.length := by rw [← rv.length, paired_len h3]
    have l2 : its'.length = b.length := by rw [← rv'.length, paired_len h3']
    rw [l1, l2, lex_list] at this
    exact this
end
end WE

/-! Triples; < and min over data. -/
namespace WE
open PySem L2 PyProof.Rows

section
variable {S T U : Type} [DecidableEq S] [DecidableEq T] [DecidableEq U]

def triLt (e : Enc S) (f : Enc T) (g : Enc U) (a b : S × T × U) : Bool := if a.1 = b.1 then (if a.2.1 = b.2.1 then g.lt a.2.2 b.2.2 else f.lt a.2.1 b.2.1) else e.lt a.1 b.1

theorem triLt_eq (e : Enc S) (f : Enc T) (g : Enc U) : triLt e f g = (ePair e (ePair f g)).lt := rfl

theorem vals3 {x y z : V} {its : List Value} (r : Vals [x, y, z] its) : ∃ v u w, its = [v, u, w] ∧ RelV x v ∧ RelV y u ∧ RelV z w := by
  cases r with
  | cons r1 r => cases r with
    | cons r2 r => cases r with
      | cons r3 r => cases r with
        | nil => exact ⟨_, _, _, rfl, r1, r2, r3⟩

/-- (a, b, c) -/
def eTri (e : Enc S) (f : Enc T) (g : Enc U) : Enc (S × T × U) where
  lt := triLt e f g
  irr := fun a => by rw [triLt_eq]; exact (ePair e (ePair f g)).irr a
  tr := fun a b c => by rw [triLt_eq]; exact (ePair e (ePair f g)).tr a b c
  tot := fun a b => by rw [triLt_eq]; exact (ePair e (ePair f g)).tot a b
  deep := max e.deep (max f.deep g.deep) + 1
  At := fun K H a x => ∃ p y z o, x = .ref p ∧ SqT K H p [y, z, o] ∧ e.At K H a.1 y ∧ f.At K H a.2.1 z ∧ g.At K H a.2.2 o
  keep := fun K H H' a x hk h => by
    obtain ⟨p, y, z, o, h1, h2, h3, h4, h5⟩ := h
    exact ⟨p, y, z, o, h1, hk _ _ h2, e.keep _ _ _ _ _ hk h3, f.keep _ _ _ _ _ hk h4, g.keep _ _ _ _ _ hk h5⟩
  inj := fun X pins σ H s a b x I h h' => by
    obtain ⟨p, y, z, o, h1, h2, h3, h4, h5⟩ := h
    obtain ⟨p', y', z', o', h1', h2', h3', h4', h5'⟩ := h'
    rw [h1] at h1'; cases h1'
    have := I.tuple_inj h2 h2'; cases this
    exact Prod.ext (e.inj _ _ _ _ _ _ _ _ I h3 h3') (Prod.ext (f.inj _ _ _ _ _ _ _ _ I h4 h4') (g.inj _ _ _ _ _ _ _ _ I h5 h5'))
  eqv := fun X pins σ H s A a b x x' v u I hu h h' r r' => by
    obtain ⟨p, y, z, o, rfl, h2, h3, h4, h5⟩ := h
    obtain ⟨p', y', z', o', rfl, h2', h3', h4', h5'⟩ := h'
    cases r; cases r'
    by_cases ne : p = p'
    · subst ne
      have := I.tuple_inj h2 h2'; cases this
      have : a = b := Prod.ext (e.inj _ _ _ _ _ _ _ _ I h3 h3') (Prod.ext (f.inj _ _ _ _ _ _ _ _ I h4 h4') (g.inj _ _ _ _ _ _ _ _ I h5 h5'))
      rw [decide_eq_true this]
      exact SeqAt.EqAt.same _
    · obtain ⟨its, rv, ht, _⟩ := I.tuple h2
      obtain ⟨its', rv', ht', _⟩ := I.tuple h2'
      obtain ⟨v1, v2, v3, rfl, r1, r2, r3⟩ := vals3 rv
      obtain ⟨u1, u2, u3, rfl, r1', r2', r3'⟩ := vals3 rv'
      have := tup_eq (A := A) (i1 := [v1, v2, v3]) (i2 := [u1, u2, u3]) (e := fun j => if j = 0 then decide (a.1 = b.1) else if j = 1 then decide (a.2.1 = b.2.1) else decide (a.2.2 = b.2.2)) ne ht ht' (by omega) (fun j v u hv hw => by
        match j with
        | 0 => simp at hv hw; subst hv hw; exact e.eqv X pins σ H s _ _ _ _ _ _ _ I (by show A.units + 1 + _ < _; omega) h3 h3' r1 r1'
        | 1 => simp at hv hw; subst hv hw; exact f.eqv X pins σ H s _ _ _ _ _ _ _ I (by show A.units + 1 + _ < _; omega) h4 h4' r2 r2'
        | 2 => simp at hv hw; subst hv hw; exact g.eqv X pins σ H s _ _ _ _ _ _ _ I (by show A.units + 1 + _ < _; omega) h5 h5' r3 r3'
        | j + 3 => simp at hv)
      have q : ((List.range (min [v1, v2, v3].length [u1, u2, u3].length)).all (fun j => if j = 0 then decide (a.1 = b.1) else if j = 1 then decide (a.2.1 = b.2.1) else decide (a.2.2 = b.2.2)) && [v1, v2, v3].length == [u1, u2, u3].length) = decide (a = b) := by
        have : List.range (min [v1, v2, v3].length [u1, u2, u3].length) = [0, 1, 2] := rfl
        rw [this]
        simp only [List.all_cons, List.all_nil, List.length_cons, List.length_nil]
        by_cases z1 : a.1 = b.1
        · by_cases z2 : a.2.1 = b.2.1
          · by_cases z3 : a.2.2 = b.2.2
            · have : a = b := Prod.ext z1 (Prod.ext z2 z3)
              simp [this]
            · have : ¬ a = b := fun w => z3 (by rw [w])
              simp [this, z3]
          · have : ¬ a = b := fun w => z2 (by rw [w])
            simp [this, z2]
        · have : ¬ a = b := fun w => z1 (by rw [w])
          simp [this, z1]
      rw [q] at this
      exact this
  ltv := fun X pins σ H s A a b x x' v u I hu h h' r r' => by
    obtain ⟨p, y, z, o, rfl, h2, h3, h4, h5⟩ := h
    obtain ⟨p', y', z', o', rfl, h2', h3', h4', h5'⟩ := h'
    cases r; cases r'
    obtain ⟨its, rv, ht, _⟩ := I.tuple h2
    obtain ⟨its', rv', ht', _⟩ := I.tuple h2'
    obtain ⟨v1, v2, v3, rfl, r1, r2, r3⟩ := vals3 rv
    obtain ⟨u1, u2, u3, rfl, r1', r2', r3'⟩ := vals3 rv'
    have := tup_lt (A := A) (i1 := [v1, v2, v3]) (i2 := [u1, u2, u3]) (e := fun j => if j = 0 then decide (a.1 = b.1) else if j = 1 then decide (a.2.1 = b.2.1) else decide (a.2.2 = b.2.2)) (r := fun j => if j = 0 then e.lt a.1 b.1 else if j = 1 then f.lt a.2.1 b.2.1 else g.lt a.2.2 b.2.2) ht ht' (by omega) (fun j v u hv hw => by
        match j with
        | 0 => simp at hv hw; subst hv hw; exact e.eqv X pins σ H s _ _ _ _ _ _ _ I (by show A.units + 1 + _ < _; omega) h3 h3' r1 r1'
        | 1 => simp at hv hw; subst hv hw; exact f.eqv X pins σ H s _ _ _ _ _ _ _ I (by show A.units + 1 + _ < _; omega) h4 h4' r2 r2'
        | 2 => simp at hv hw; subst hv hw; exact g.eqv X pins σ H s _ _ _ _ _ _ _ I (by show A.units + 1 + _ < _; omega) h5 h5' r3 r3'
        | j + 3 => simp at hv) (fun j v u hv hw => by
        match j with
        | 0 => simp at hv hw; subst hv hw; exact e.ltv X pins σ H s _ _ _ _ _ _ _ I (by show A.units + 1 + _ < _; omega) h3 h3' r1 r1'
        | 1 => simp at hv hw; subst hv hw; exact f.ltv X pins σ H s _ _ _ _ _ _ _ I (by show A.units + 1 + _ < _; omega) h4 h4' r2 r2'
        | 2 => simp at hv hw; subst hv hw; exact g.ltv X pins σ H s _ _ _ _ _ _ _ I (by show A.units + 1 + _ < _; omega) h5 h5' r3 r3'
        | j + 3 => simp at hv)
    have q : Ob.lexAt (fun j => if j = 0 then decide (a.1 = b.1) else if j = 1 then decide (a.2.1 = b.2.1) else decide (a.2.2 = b.2.2)) (fun j => if j = 0 then e.lt a.1 b.1 else if j = 1 then f.lt a.2.1 b.2.1 else g.lt a.2.2 b.2.2) (decide ([v1, v2, v3].length < [u1, u2, u3].length)) 0 (min [v1, v2, v3].length [u1, u2, u3].length) = triLt e f g a b := by
      have : min [v1, v2, v3].length [u1, u2, u3].length = 3 := rfl
      rw [this]
      simp only [Ob.lexAt, triLt]
      by_cases z1 : a.1 = b.1
      · by_cases z2 : a.2.1 = b.2.1
        · by_cases z3 : a.2.2 = b.2.2
          · simp [z1, z2, z3, g.irr]
          · simp [z1, z2, z3]
        · simp [z1, z2]
      · simp [z1]
    rw [q] at this
    exact this
end

/-! ### x < y -/
section
variable {T : Type} [DecidableEq T] {X : Cx}
def rLtE (e : Enc T) (K : PySem.W.Frag) : R2 := fun x y H Q => ∃ a b, e.At K H a x ∧ e.At K H b y ∧ Q (.bl (e.lt a b)) H
theorem op_ltE (e : Enc T) (hu : X.A.units + e.deep < cLine) : OpR X (compareOp .Lt) (rLtE e X.K) := by
  intro pins s σ H x y v u Q I rx ry h
  obtain ⟨a, b, ha, hb, q⟩ := h
  exact e.ltv X pins σ H s X.A a b x y v u I hu ha hb rx ry X.prog X.w _ _ ⟨.bl (e.lt a b), H, I, rfl, q⟩
end

/-! ### min: what is compared may lie in the heap -/
section
variable {prog : Program} {w : World} {A : Around} {R : Result → Shared → Prop} {I S : Addr} {fp wr : List Addr} {n : Nat} {P : Nat → Value → Prop} {St : Nat → Heap → Prop}

/-- all of h stands in h' -/
abbrev Kp (h h' : Heap) : Prop := ∀ b o, h.get? b = some o → h'.get? b = some o

theorem kp_upd {g h : Heap} {f : Obj → Obj} {S : Addr} (k : Kp g h) (ns : g.get? S = none) : Kp g (h.update S f) := fun b o e =>
  (Heap.get?_update_other h f (fun z : S = b => by rw [z, e] at ns; cases ns)).trans (k b o e)

theorem lname : (toString "min" ++ toString ".loop" : String) = "min.loop" := by decide

theorem min_go (W : Walks prog w A.in1 I fp wr n P St) (bt : Nat → Nat → Bool) (g : Heap) (s0 : Shared) (sf : S ∉ fp) (gS : g.get? S = none) (gw : ∀ b o, g.get? b = some o → b ∉ wr)
    (cmp : ∀ (h : Heap) (tk : Nat), Kp g h → ∀ i j v u, P i v → P j u → Ob.RcOp .Lt A.in1 { s0 with heap := h, toks := tk } v u (bt i j))
    (done : ∀ v h tk, P (argBest bt (n - 1)) v → Kp g h → R (.ok (.ret v)) { s0 with heap := h, toks := tk }) :
    ∀ (k j : Nat) (h : Heap) (tk : Nat) (x : Value) (c : Nat), n - (j + 1) = k → j + 1 ≤ n → St (j + 1) h → Kp g h → P (argBest bt j) x →
    h.get? S = some { cls := .type "list", dict := none, data := .seq #[x, x] c, slots := #[] } →
    codeAny (model prog w) A (.builtin "min.loop" ⟨[.ref I, .none, .ref S], []⟩) R { s0 with heap := h, toks := tk } := by
  have sw : S ∉ wr := fun z => sf (W.sub _ z)
  intro k
  induction k with
  | zero =>
    intro j h tk x c hk hj st kp px gs
    have jn : j + 1 = n := by omega
    refine codeAny_builtin F.entry_min_loop ?_; rw [Around.under_plainId F.plain_min_loop _]
    show wpAny _ A.in1 (seqItems? (.ref S) >>= _) _ _ { s0 with heap := h, toks := tk }
    refine wpAny_bind (wpAny_seqItems gs rfl (show wpAny _ A.in1 (tryCatch (pyNext (.ref I)) _ >>= _) _ _ { s0 with heap := h, toks := tk } from ?_))
    refine wpAny_bind (wpAny_tryCatch (W.done { s0 with heap := h, toks := tk } _ _ (jn ▸ st) fun h1 tk1 k1 => ?_))
    have gs1 := k1 S _ sw gs
    have kp1 : Kp g h1 := fun b o e => k1 b o (gw b o e) (kp b o e)
    refine wpAny_bind (show wpAny _ A.in1 (updateSeq S (fun _ => #[])) _ _ { s0 with heap := h1, toks := tk1 } from ?_)
    refine wpAny_updateSeq gs1 rfl (wpAny_bind (wpAny_letGo (wpAny_pure (done x _ tk1 (by rw [← jn]; exact px) ?_))))
    exact kp_upd kp1 gS
  | succ k ih =>
    intro j h tk x c hk hj st kp px gs
    have jn : j + 1 < n := by omega
    refine codeAny_builtin F.entry_min_loop ?_; rw [Around.under_plainId F.plain_min_loop _]
    show wpAny _ A.in1 (seqItems? (.ref S) >>= _) _ _ { s0 with heap := h, toks := tk }
    refine wpAny_bind (wpAny_seqItems gs rfl (show wpAny _ A.in1 (tryCatch (pyNext (.ref I)) _ >>= _) _ _ { s0 with heap := h, toks := tk } from ?_))
    refine wpAny_bind (wpAny_tryCatch (W.item (j + 1) { s0 with heap := h, toks := tk } _ _ jn st fun y h1 tk1 py st1 k1 => ?_))
    have gs1 := k1 S _ sw gs
    have kp1 : Kp g h1 := fun b o e => k1 b o (gw b o e) (kp b o e)
    show wpAny _ A.in1 (tryCatch (holding [y, y] (richCompare .Lt y x >>= _)) _ >>= _) _ _ { s0 with heap := h1, toks := tk1 }
    refine wpAny_bind (wpAny_tryCatch (wpAny_holding (wpAny_bind (cmp h1 tk1 kp1 (j + 1) (argBest bt j) y x py px prog w _ _ ?_))))
    refine wpAny_bind (wpAny_holding (wpAny_truthy_bool (wpAny_bind (wpAny_letGo (wpAny_pure ?_)))))
    cases hb : bt (j + 1) (argBest bt j) with
    | true =>
      simp only [if_true]
      refine wpAny_bind (wpAny_updateSeq gs1 rfl (wpAny_bind (wpAny_letGo ?_)))
      rw [lname]
      refine wpAny_pure ⟨plainId_quiet F.plain_min_loop _, ih (j + 1) _ tk1 y _ (by omega) jn (W.frame _ _ _ st1 fun b bf o e => ?_) (kp_upd kp1 gS) (by simp only [argBest, hb, if_true]; exact py) (Heap.get?_update_self _ gs1 rfl)⟩
      exact (Heap.get?_update_other _ _ (fun z : S = b => sf (by rw [z]; exact bf))).trans e
    | false =>
      simp only [Bool.false_eq_true, if_false]
      refine wpAny_bind (wpAny_letGo ?_)
      rw [lname]
      exact wpAny_pure ⟨plainId_quiet F.plain_min_loop _, ih (j + 1) h1 tk1 x c (by omega) jn st1 kp1 (by simp only [argBest, hb, Bool.false_eq_true, if_false]; exact px) gs1⟩

theorem min_first (W : Walks prog w A.in1 I fp wr n P St) (bt : Nat → Nat → Bool) (g : Heap) (s0 : Shared) (sf : S ∉ fp) (gS : g.get? S = none) (gw : ∀ b o, g.get? b = some o → b ∉ wr)
    (cmp : ∀ (h : Heap) (tk : Nat), Kp g h → ∀ i j v u, P i v → P j u → Ob.RcOp .Lt A.in1 { s0 with heap := h, toks := tk } v u (bt i j))
    (done : ∀ v h tk, P (argBest bt (n - 1)) v → Kp g h → R (.ok (.ret v)) { s0 with heap := h, toks := tk })
    (hn : 0 < n) {h : Heap} {tk c : Nat} (st : St 0 h) (kp : Kp g h) (gs : h.get? S = some { cls := .type "list", dict := none, data := .seq #[] c, slots := #[] }) :
    codeAny (model prog w) A (.builtin "min.loop" ⟨[.ref I, .none, .ref S], []⟩) R { s0 with heap := h, toks := tk } := by
  have sw : S ∉ wr := fun z => sf (W.sub _ z)
  refine codeAny_builtin F.entry_min_loop ?_; rw [Around.under_plainId F.plain_min_loop _]
  show wpAny _ A.in1 (seqItems? (.ref S) >>= _) _ _ { s0 with heap := h, toks := tk }
  refine wpAny_bind (wpAny_seqItems gs rfl (show wpAny _ A.in1 (tryCatch (pyNext (.ref I)) _ >>= _) _ _ { s0 with heap := h, toks := tk } from ?_))
  refine wpAny_bind (wpAny_tryCatch (W.item 0 { s0 with heap := h, toks := tk } _ _ hn st fun y h1 tk1 py st1 k1 => ?_))
  have gs1 := k1 S _ sw gs
  have kp1 : Kp g h1 := fun b o e => k1 b o (gw b o e) (kp b o e)
  show wpAny _ A.in1 (updateSeq S (fun _ => #[y, y]) >>= _) _ _ { s0 with heap := h1, toks := tk1 }
  refine wpAny_bind (wpAny_updateSeq gs1 rfl ?_)
  rw [lname]
  refine wpAny_pure ⟨plainId_quiet F.plain_min_loop _, min_go W bt g s0 sf gS gw cmp done _ 0 _ tk1 y _ rfl hn (W.frame _ _ _ st1 fun b bf o e => ?_) (kp_upd kp1 gS) py (Heap.get?_update_self _ gs1 rfl)⟩
  exact (Heap.get?_update_other _ _ (fun z : S = b => sf (by rw [z]; exact bf))).trans e
end

section
variable {prog : Program} {w : World} {A : Around} {E : Value → Shared → Prop} {s : Shared} {l : Addr} {vs : List Value}

/-- min(xs) of a list, by any comparison -/
theorem min_list {Q : Value → Shared → Prop} (bt : Nat → Nat → Bool) (hh : A.handled = none) (hl : s.heap.IsList l vs.toArray) (hn : 0 < vs.length)
    (cmp : ∀ (h : Heap) (tk : Nat), Kp s.heap h → ∀ (i j : Nat) v u, vs[i]? = some v → vs[j]? = some u → Ob.RcOp .Lt A.in1 { s with heap := h, toks := tk } v u (bt i j))
    (done : ∀ v h tk, vs[argBest bt (vs.length - 1)]? = some v → Kp s.heap h → Q v { s with heap := h, toks := tk }) :
    wpAny (model prog w) A (call (.builtin "min") [.ref l]) Q E s := by
  obtain ⟨ol, gl, _⟩ := id hl
  have ll : l < s.heap.objs.size := Heap.lt_size gl
  refine call_function_tree F.kind_min F.plain_min F.entry_min (F.args_min1 (.ref l)) ?_
  show wpAny _ A.in1 (Builtin.Builtins.bindParams "min" ["key", "default"] 0 (Args.mk [] []) >>= _) _ _ s
  refine wpAny_bind (wpAny_of_eq (show Builtin.Builtins.bindParams "min" ["key", "default"] 0 (Args.mk [] []) = pure [none, none] from rfl) (wpAny_bind (wpAny_pure ?_)))
  refine wpAny_bind (wpAny_pyIter_list hl (wpAny_bind (wpAny_newObj_type ?_)))
  rw [lname]
  have sz : (s.heap.push { cls := .type "list_iterator", data := .fields #[.ref l, .int 0 0] }).objs.size = s.heap.objs.size + 1 := Heap.size_push ..
  have W := Walks.list (prog := prog) (w := w) (A := A.in1) hh s.heap.objs.size l (Nat.ne_of_lt ll) vs.toArray
  have zn : vs.toArray.size = vs.length := by simp
  have kp : Kp s.heap ((s.heap.push { cls := .type "list_iterator", data := .fields #[.ref l, .int 0 0] }).push (Obj.mk (.type "list") none (.seq #[] 0) #[])) := fun b o e => Heap.get?_push_of_some _ (Heap.get?_push_of_some _ e)
  refine wpAny_pure ⟨plainId_quiet F.plain_min_loop _, ?_⟩
  refine min_first W bt s.heap s ?_ ?_ ?_ (fun h tk k i j v u hv hw => cmp h tk k i j v u (by simpa using hv) (by simpa using hw)) (fun v h tk hv k => done v h tk (by simpa [zn] using hv) k) (by rw [zn]; exact hn) ?_ kp (Heap.get?_push_size _ rfl)
  · intro z
    have z := List.mem_cons.mp z
    rw [sz] at z
    rcases z with z | z
    · exact absurd z (Nat.succ_ne_self _)
    · have := List.mem_singleton.mp z
      rw [← this] at ll
      exact absurd (Nat.lt_of_succ_lt ll) (Nat.lt_irrefl _)
  · rw [sz]; exact Heap.get?_none_of_le (Nat.le_succ _)
  · intro b o e z
    rw [List.mem_singleton.mp z] at e
    exact absurd (Heap.lt_size e) (Nat.lt_irrefl _)
  · exact ⟨⟨_, Heap.get?_push_of_some _ (Heap.get?_push_size _ rfl), rfl, rfl⟩, (hl.push _).push _⟩

theorem argBest_le (bt : Nat → Nat → Bool) : ∀ k, argBest bt k ≤ k
  | 0 => Nat.le_refl _
  | k + 1 => by
    unfold argBest
    split
    · exact Nat.le_refl _
    · exact Nat.le_succ_of_le (argBest_le bt k)

theorem argBest_min {T : Type} [DecidableEq T] (e : Enc T) (f : Nat → T) : ∀ k j, j ≤ k → e.lt (f j) (f (argBest (fun i j => e.lt (f i) (f j)) k)) = false
  | 0, j, h => by
    have : j = 0 := by omega
    subst this; exact e.irr _
  | k + 1, j, h => by
    unfold argBest
    split
    · next q =>
      by_cases z : j = k + 1
      · subst z; exact e.irr _
      · exact e.neg (argBest_min e f k j (by omega)) (e.asym q)
    · next q =>
      by_cases z : j = k + 1
      · subst z; simpa using q
      · exact argBest_min e f k j (by omega)
end

section
variable {T : Type} [DecidableEq T] {X : Cx}
/-- min(xs): one of the items, none is less -/
def rMinE (e : Enc T) (K : PySem.W.Frag) : List V → Hp → VK → Prop := fun vs H Q => ∃ (a : Addr) (xs : List V) (as : List T), vs = [V.ref a] ∧ SqL K H a xs ∧ Paired (e.At K H) as xs ∧ as ≠ [] ∧
  ∀ (i : Nat) (m : T) (y : V), as[i]? = some m → xs[i]? = some y → (∀ b ∈ as, e.lt b m = false) → Q y H
theorem cr_minE (e : Enc T) (hc : X.calm = true) (hu : X.A.units + 1 + e.deep < cLine) : CallR X (.builtin "min") (rMinE e X.K) := by
  intro pins s σ H vs us Q I r h
  obtain ⟨a, xs, as, rfl, hs, hp, hne, q⟩ := h
  obtain ⟨its, rv, hl, _⟩ := I.list hs
  rw [Vals.ref1 r]
  cases as with
  | nil => exact absurd rfl hne
  | cons a0 ar =>
    have len : its.length = (a0 :: ar).length := by rw [← rv.length, paired_len hp]
    refine min_list (fun i j => e.lt ((a0 :: ar).getD i a0) ((a0 :: ar).getD j a0)) (I.ok.hd hc) hl.isList (by rw [len]; simp) (fun h tk k i j v u hv hw => ?_) (fun v h tk hv k => ?_)
    · obtain ⟨y, gy, ry⟩ := paired_get rv hv
      obtain ⟨y', gy', ry'⟩ := paired_get rv hw
      obtain ⟨m, gm, rm⟩ := paired_get hp gy
      obtain ⟨m', gm', rm'⟩ := paired_get hp gy'
      have I' : Inv X pins σ H { s with heap := h, toks := tk } := I.kept k
      have := e.ltv X pins σ H _ X.A.in1 m m' y y' v u I' hu rm rm' ry ry'
      rw [List.getD_eq_getElem?_getD, List.getD_eq_getElem?_getD, gm, gm']
      exact this
    · have I' : Inv X pins σ H { s with heap := h, toks := tk } := I.kept k
      obtain ⟨y, gy, ry⟩ := paired_get rv hv
      obtain ⟨m, gm, rm⟩ := paired_get hp gy
      refine ⟨y, H, I', ry, q _ m y gm gy fun b hb => ?_⟩
      obtain ⟨j, hj, gj⟩ := List.mem_iff_getElem.mp hb
      have hm := argBest_min e (fun i => (a0 :: ar).getD i a0) (its.length - 1) j (by omega)
      rw [List.getD_eq_getElem?_getD, List.getD_eq_getElem?_getD, gm, List.getElem?_eq_getElem hj, gj] at hm
      exact hm
end
end WE

/-! sorted(xs, key=lambda pair: (pair[0], -pair[1])) -/
namespace WS
open PySem PyProof.Rows L2 LamX

abbrev lamPar (p0 : Pos) : Arguments := { posonlyargs := [], args := [{ arg := "pair", annotation := none, pos := p0 }], vararg := none, kwonlyargs := [], kw_defaults := [], kwarg := none, defaults := [] }
abbrev lamBody (p1 p2 p3 p4 p5 p6 p7 p8 : Pos) : Expr := .Tuple [.Subscript (.Name "pair" p1) (.Constant (.int 0) 0 p2) p3, .UnaryOp .USub (.Subscript (.Name "pair" p4) (.Constant (.int 1) 0 p5) p6) p7] 0 p8
abbrev lamScope : Scope := { kind := .function, names := [("pair", .local)], isGenerator := false, isCoroutine := false, more := [] }

/-- a call of the lambda: its key, and all that was there stands -/
theorem lam_key {prog : Program} {w : World} {A : Around} {s : Shared} {f b c' : Addr} {qual : Str} {pm ctv : Value} {i j : Int} {t1 t2 : Tok} {p0 p1 p2 p3 p4 p5 p6 p7 p8 : Pos}
    (ho : s.heap.get? f = some (PySem.W.kla_obj "<lambda>" qual (lamPar p0) (lamBody p1 p2 p3 p4 p5 p6 p7 p8) lamScope [] pm c' ctv)) (hc : s.heap.CodeRec (.ref c') qual) (hd : A.depth < recursionLimit) (hl : s.heap.NoLimit)
    (ht : IsTup s.heap b #[.int i t1, .int j t2]) : wpAny (model prog w) A (call (.ref f) [.ref b]) (PySem.W.KeyPure (.tuple [.int i, .int (-j)]) s) (fun _ _ => False) s := by
  refine wpAny_call (PySem.W.kla_callFunE hd ho rfl rfl rfl rfl hc ?_)
  have hb : bindArgs (PySem.W.kla_fn "<lambda>" qual (lamPar p0) (lamBody p1 p2 p3 p4 p5 p6 p7 p8) lamScope [] pm (.ref c') ctv) ⟨[.ref b], []⟩ = pure [(("pair" : Str), Value.ref b)] := rfl
  rw [hb]
  refine wpAny_pure (wpAny_newFunctionEnv (by intro y hy; rw [List.mem_singleton.1 hy]; intro z; cases z) (by intro y hy; rw [List.mem_singleton.1 hy]; rfl) (fun h1 hns hsb => ⟨hl.fresh _ hsb, ?_⟩) rfl)
  have kp : ∀ b o, s.heap.get? b = some o → h1.get? b = some o := fun b o e => hsb.extBut b o (Nat.ne_of_lt (Heap.lt_size e)) (Heap.get?_push_of_some _ e)
  obtain ⟨ob, e1, e2, n, e3⟩ := ht
  have ht1 : IsTup h1 b #[.int i t1, .int j t2] := ⟨ob, kp _ _ e1, e2, n, e3⟩
  refine PySem.W.kla_codeExpr ?_
  refine wpAny_Tuple_spliced (Calls.spliced_cons (Subscript_ (wpAny_Name (wpAny_loadName_local rfl rfl hns rfl (wpAny_Constant_int (item_tuple (j := 0) ht1 (by decide) (by decide) rfl rfl ?_))))))
  refine Calls.spliced_cons (wpAny_UnaryOp (Subscript_ (wpAny_Name (wpAny_loadName_local rfl rfl hns rfl (wpAny_Constant_int (item_tuple (j := 1) ht1 (by decide) (by decide) rfl rfl ?_))))))
  refine neg_int (Calls.spliced_nil ⟨by show 2 ≤ sizeLine; decide, ?_⟩)
  refine ⟨_, _, rfl, fun b o e => Heap.get?_push_of_some _ (kp b o e), ?_⟩
  exact .tuple (Heap.get?_push_size _ rfl) rfl rfl (.cons (.int _ _) (.cons (.int _ _) .nil))

/-- a pair of ints -/
def PrAt (K : PySem.W.Frag) (H : Hp) (p : Int × Int) (x : V) : Prop := ∃ b, x = .ref b ∧ SqT K H b [.int p.1, .int p.2]
def RAt (K : PySem.W.Frag) (H : Hp) (v : Value) (p : Int × Int) : Prop := ∃ b, v = .ref b ∧ SqT K H b [.int p.1, .int p.2]
def keyLe (p q : Int × Int) : Bool := decide (p.1 < q.1 ∨ (p.1 = q.1 ∧ -p.2 ≤ -q.2))

theorem rd_ext {H H' : Hp} {a : Addr} {u : HO} (e : ExtN H H') (n : ∀ ps, u ≠ .tbl ps) (h : Rd H a u) : Rd H' a u := by
  rcases h with h | ⟨o, h⟩
  · exact .inl (e _ _ h n)
  · exact .inr ⟨o, e _ _ h (fun ps z => by cases z)⟩
theorem sqL_ext {K : PySem.W.Frag} {H H' : Hp} {a : Addr} {xs : List V} (e : ExtN H H') (h : SqL K H a xs) : SqL K H' a xs := by
  rcases h with h | h
  · exact .inl (rd_ext e (fun ps z => by cases z) h)
  · exact .inr h
theorem sqT_ext {K : PySem.W.Frag} {H H' : Hp} {a : Addr} {xs : List V} (e : ExtN H H') (h : SqT K H a xs) : SqT K H' a xs := by
  rcases h with h | h
  · exact .inl (rd_ext e (fun ps z => by cases z) h)
  · exact .inr h
theorem each_at {K : PySem.W.Frag} {H : Hp} : ∀ {ps : List (Int × Int)} {xs : List V} {us : List Value}, Paired (PrAt K H) ps xs → Vals xs us → PySem.W.EachIs (RAt K H) us ps
  | _, _, _, .nil, .nil => .nil
  | _, _, _, .cons ⟨b, e, h⟩ t, .cons r t' => by
    subst e
    cases r
    exact .cons ⟨b, rfl, h⟩ (each_at t t')
theorem at_each {K : PySem.W.Frag} {H : Hp} : ∀ {ps : List (Int × Int)} {us : List Value}, PySem.W.EachIs (RAt K H) us ps → ∃ xs, Paired (PrAt K H) ps xs ∧ Vals xs us
  | _, _, .nil => ⟨[], .nil, .nil⟩
  | _, _, .cons ⟨b, e, h⟩ t => by
    subst e
    obtain ⟨xs, h1, h2⟩ := at_each t
    exact ⟨.ref b :: xs, .cons ⟨b, rfl, h⟩ h1, .cons rfl h2⟩

def tSortKey (K : PySem.W.Frag) (P : Addr) (q : Str) (te : TE) : TE := fun σ H Q => te σ H fun v H1 => ∃ (a : Addr) (ps : List (Int × Int)) (xs : List V), v = .ref a ∧ SqL K H1 a xs ∧ Paired (PrAt K H1) ps xs ∧ TabS H1 P q ∧
  ∀ (H2 : Hp) (d : Addr) (ys : List V), ExtN H1 H2 → TabS H2 P q → H2 d = none → Paired (PrAt K H2) (ps.mergeSort keyLe) ys → Q (.ref d) (upd H2 d (.lst ys))

theorem pe_sortKey {X : Cx} {c P : Addr} {k : Nat} {e : Expr} {te : TE} {p pos lpos kpos p0 p1 p2 p3 p4 p5 p6 p7 p8 : Pos} (hr : Room k X.A) (TB : TabB X.base X.mg c P) (hcode : X.env.code = .ref c) (hg : Gl X "sorted") (hm : X.mg "sorted" = none) (he : PE X e te)
    (hv : bootBuiltins "sorted" = some (.builtin "sorted")) (hst : starEach [e] X.env = (false, eval e X.env) :: starEach [] X.env := by rfl) :
    PE X (.Call (.Name "sorted" p) [e] [{ arg := some "key", value := .Lambda (lamPar p0) (lamBody p1 p2 p3 p4 p5 p6 p7 p8) lamScope lpos, pos := kpos }] pos) (tSortKey X.K P (X.env.qual ++ "<lambda>") te) := by
  refine ⟨fun pins s σ H Q I h => ?_⟩
  refine wpAny_Call_Name_kw (ld_blt I hg hm hv ?_)
  have ha := (pa_cons he pa_nil hst).run pos pins s σ H (fun vs H1 => match vs with
    | [v] => ∃ (a : Addr) (ps : List (Int × Int)) (xs : List V), v = .ref a ∧ SqL X.K H1 a xs ∧ Paired (PrAt X.K H1) ps xs ∧ TabS H1 P (X.env.qual ++ "<lambda>") ∧
      ∀ (H2 : Hp) (d : Addr) (ys : List V), ExtN H1 H2 → TabS H2 P (X.env.qual ++ "<lambda>") → H2 d = none → Paired (PrAt X.K H2) (ps.mergeSort keyLe) ys → Q (.ref d) (upd H2 d (.lst ys))
    | _ => False) I h
  have hst' : backTo pos (starEach [e] X.env) = (false, eval e X.env) :: backTo pos (starEach [] X.env) := by rw [hst]; rfl
  refine PyProof.Rows.callWith_kw (thn ha fun us s1 z => ?_) hst' (by rw [hst']; rfl)
  obtain ⟨vs, H1, I1, r1, q1⟩ := z
  match vs, r1, q1 with
  | [v], r1, ⟨a, ps, xs, ev, hs, hp, hT, k2⟩ =>
    subst ev
    obtain rfl := Vals.ref1 r1
    show wpAny _ _ (evalAll ((do let v ← eval (.Lambda (lamPar p0) (lamBody p1 p2 p3 p4 p5 p6 p7 p8) lamScope lpos) X.env; standAt pos; pure v) :: [])) _ _ s1
    refine wpAny_evalAll_cons (wpAny_bind (lam_make2 (T := [(P, X.env.qual ++ "<lambda>")]) I1 TB hcode (List.mem_singleton.2 rfl) (fun p hp _ => by rw [List.mem_singleton.1 hp]) (fun p hp => by rw [List.mem_singleton.1 hp]; exact hT) rfl
      (fun y hy e => by rw [List.mem_singleton.1 hy] at e; cases e) fun f c' pm ctv H2 s2 I2 eN T2 hf hfn hfr hco => wpAny_bind (wpAny_standAt (wpAny_pure (wpAny_evalAll_nil ?_)))))
    show wpAny _ _ (call (.builtin "sorted") [.ref a] [(Str.ofString "key", .ref f)]) _ _ s2
    obtain ⟨its, rv, hl, hz⟩ := I2.list (sqL_ext eN hs)
    have hp2 : Paired (PrAt X.K H2) ps xs := WE.paired_map hp fun p x ⟨b, e1, e2⟩ => ⟨b, e1, sqT_ext eN e2⟩
    have hlen : ps.length ≤ sizeLine := by rw [WE.paired_len hp2]; exact hz
    obtain ⟨⟨oc, vs', t', hoc, hdc, hvc⟩, _, _⟩ := I2.hok c' _ hco
    have hT2 := T2 (P, X.env.qual ++ "<lambda>") (List.mem_singleton.2 rfl)
    refine PySem.W.sorted_key_data (b := false) (R := RAt X.K H2) (fun p : Int × Int => .tuple [.int p.1, .int (-p.2)]) hl.isList (each_at hp2 rv) (PySem.W.AllAlike.of fun _ _ => by simp [PySem.W.alike, PySem.W.alikeAll]) (PySem.W.Sortable.tuples fun _ => ⟨_, _, rfl⟩) hlen (fun p _ => ?_)
      (ksk_s1 _ _) (fun _ => ksk_l1 _ _) (fun _ => ksk_t1 _ _) (fun v p hv _ h tk kp => ?_) fun out c h' tk kp fr hD ho eo => ?_
    · have hd : (PyData.tuple [.int p.1, .int (-p.2)]).depth = 1 := by simp [PyData.depth, PyData.depthAll]
      have := hr.units
      omega
    · obtain ⟨b, rfl, hb⟩ := hv
      obtain ⟨its2, rv2, ht2, _⟩ := I2.tuple hb
      obtain ⟨u1, u2, rfl, ⟨t1, rfl⟩, ⟨t2, rfl⟩⟩ := WE.vals2 rv2
      obtain ⟨ob, e1, e2, n, e3⟩ := ht2
      exact lam_key (s := { s2 with heap := h, toks := tk }) (kp _ _ hf) ⟨c', oc, vs', t', rfl, kp _ _ hoc, hdc, hvc⟩ hr.depth (I2.nolimit.keeps kp) ⟨ob, kp _ _ e1, e2, n, e3⟩
    · rw [PySem.W.dataLe_ii (β := Int × Int) (fun p => p.1) (fun p => -p.2)] at eo
      obtain ⟨ys, py, vy⟩ := at_each eo
      have hn : H2 (s2.heap.objs.size + 1) = none := I2.hok.fresh (Nat.le_succ _)
      refine ⟨.ref _, upd H2 (s2.heap.objs.size + 1) (.lst ys), I2.laid (t' := tk) kp (Nat.le_succ _) ⟨?_, out, c, vy, hD⟩, rfl, k2 H2 _ ys eN hT2 hn py⟩
      rw [vy.length, ho]; exact hlen
end WS

/-! The pairs of the front, scanned in the order of cost. -/
namespace WN
open WM (beats rising)

def before (p q : Nat × Nat) : Prop := p.1 < q.1 ∨ (p.1 = q.1 ∧ q.2 ≤ p.2)
def iP (p : Nat × Nat) : Int × Int := ((p.1 : Int), (p.2 : Int))
def nP (p : Int × Int) : Nat × Nat := (p.1.toNat, p.2.toNat)
theorem nP_iP (p : Nat × Nat) : nP (iP p) = p := by
  unfold nP iP
  simp

/-- what is sorted is the same pairs in the order of cost, at one cost what is worth most first -/
theorem sorted_nat (L : List (Nat × Nat)) : ∃ S : List (Nat × Nat), (L.map iP).mergeSort WS.keyLe = S.map iP ∧ (∀ p, p ∈ S ↔ p ∈ L) ∧ S.Pairwise before ∧ S.length = L.length := by
  have pm : ((L.map iP).mergeSort WS.keyLe).Perm (L.map iP) := List.mergeSort_perm _ _
  have pw : ((L.map iP).mergeSort WS.keyLe).Pairwise (fun a b => WS.keyLe a b = true) := by
    apply List.pairwise_mergeSort
    · intro a b c h1 h2
      unfold WS.keyLe at *
      simp only [decide_eq_true_eq] at *
      omega
    · intro a b
      unfold WS.keyLe
      simp only [Bool.or_eq_true, decide_eq_true_eq]
      omega
  have e : (L.map iP).mergeSort WS.keyLe = (((L.map iP).mergeSort WS.keyLe).map nP).map iP := by
    rw [List.map_map]
    have : ∀ x ∈ (L.map iP).mergeSort WS.keyLe, (iP ∘ nP) x = x := fun x hx => by
      obtain ⟨y, _, rfl⟩ := List.mem_map.1 (pm.mem_iff.1 hx)
      show iP (nP (iP y)) = iP y
      rw [nP_iP]
    exact ((List.map_congr_left this).trans (List.map_id' _)).symm
  refine ⟨((L.map iP).mergeSort WS.keyLe).map nP, e, fun p => ?_, ?_, ?_⟩
  · rw [List.mem_map]
    constructor
    · rintro ⟨x, hx, rfl⟩
      obtain ⟨y, hy, rfl⟩ := List.mem_map.1 (pm.mem_iff.1 hx)
      rw [nP_iP]; exact hy
    · intro h
      exact ⟨iP p, pm.mem_iff.2 (List.mem_map_of_mem h), nP_iP p⟩
  · rw [e, List.pairwise_map] at pw
    refine pw.imp fun {a b} h => ?_
    unfold WS.keyLe iP at h
    simp only [decide_eq_true_eq] at h
    unfold before
    omega
  · rw [List.length_map, pm.length_eq, List.length_map]

/-- what is kept of the pairs so far -/
structure FInv (pre kept : List (Nat × Nat)) : Prop where
  up : rising kept
  mem : ∀ p, p ∈ kept ↔ p ∈ pre ∧ ∀ q ∈ pre, ¬ beats q p
  top : (kept = [] ∧ pre = []) ∨ ∃ ks l, kept = ks ++ [l] ∧ ∀ q ∈ pre, q.2 ≤ l.2

theorem FInv.nil : FInv [] [] := ⟨List.Pairwise.nil, fun p => ⟨fun h => (by cases h), fun h => (by cases h.1)⟩, .inl ⟨rfl, rfl⟩⟩

theorem not_beats {p q : Nat × Nat} (h : before p q) : ¬ beats q p := by
  unfold before at h
  unfold beats
  omega

/-- the next pair is worth more than all before it: it is kept -/
theorem FInv.yes {pre kept : List (Nat × Nat)} {x : Nat × Nat} (F : FInv pre kept) (hb : ∀ q ∈ pre, before q x) (h : ∀ q ∈ pre, q.2 < x.2) : FInv (pre ++ [x]) (kept ++ [x]) := by
  refine ⟨?_, fun p => ?_, .inr ⟨kept, x, rfl, fun q hq => ?_⟩⟩
  · unfold rising
    rw [List.pairwise_append]
    refine ⟨F.up, List.pairwise_singleton _ _, fun a ha b hb' => ?_⟩
    rw [List.mem_singleton.1 hb']
    have m := ((F.mem a).1 ha).1
    have := hb a m
    have := h a m
    unfold before at *
    omega
  · rw [List.mem_append, List.mem_singleton, List.mem_append, List.mem_singleton]
    constructor
    · rintro (hp | rfl)
      · obtain ⟨h1, h2⟩ := (F.mem p).1 hp
        refine ⟨.inl h1, fun q hq => ?_⟩
        rcases List.mem_append.1 hq with hq | hq
        · exact h2 q hq
        · rw [List.mem_singleton.1 hq]; exact not_beats (hb p h1)
      · refine ⟨.inr rfl, fun q hq => ?_⟩
        rcases List.mem_append.1 hq with hq | hq
        · have := h q hq
          unfold beats
          omega
        · rw [List.mem_singleton.1 hq]
          unfold beats
          omega
    · rintro ⟨h1 | h1, h2⟩
      · exact .inl ((F.mem p).2 ⟨h1, fun q hq => h2 q (List.mem_append.2 (.inl hq))⟩)
      · exact .inr h1
  · rcases List.mem_append.1 hq with hq | hq
    · exact Nat.le_of_lt (h q hq)
    · rw [List.mem_singleton.1 hq]; exact Nat.le_refl _

/-- else it is not -/
theorem FInv.no {pre ks : List (Nat × Nat)} {x l : Nat × Nat} (F : FInv pre (ks ++ [l])) (hb : ∀ q ∈ pre, before q x) (h : x.2 ≤ l.2) : FInv (pre ++ [x]) (ks ++ [l]) := by
  have ml := ((F.mem l).1 (by simp)).1
  refine ⟨F.up, fun p => ?_, .inr ⟨ks, l, rfl, fun q hq => ?_⟩⟩
  · constructor
    · intro hp
      obtain ⟨h1, h2⟩ := (F.mem p).1 hp
      refine ⟨List.mem_append.2 (.inl h1), fun q hq => ?_⟩
      rcases List.mem_append.1 hq with hq | hq
      · exact h2 q hq
      · rw [List.mem_singleton.1 hq]; exact not_beats (hb p h1)
    · rintro ⟨h1, h2⟩
      have h2' : ∀ q ∈ pre, ¬ beats q p := fun q hq => h2 q (List.mem_append.2 (.inl hq))
      rcases List.mem_append.1 h1 with h1 | h1
      · exact (F.mem p).2 ⟨h1, h2'⟩
      · have e := List.mem_singleton.1 h1
        subst e
        have b := hb l ml
        have n := h2' l ml
        have : p = l := by
          unfold before at b
          unfold beats at n
          exact Prod.ext (by omega) (by omega)
        subst this
        exact (F.mem p).2 ⟨ml, h2'⟩
  · rcases List.mem_append.1 hq with hq | hq
    · rcases F.top with ⟨z, _⟩ | ⟨ks', l', e, t⟩
      · simp at z
      · obtain ⟨_, e2⟩ := List.append_inj' e rfl
        injection e2 with e2
        subst e2
        exact t q hq
    · rw [List.mem_singleton.1 hq]; exact h

theorem FInv.done {S kept ps : List (Nat × Nat)} (F : FInv S kept) (h : ∀ p, p ∈ S ↔ p ∈ ps) : rising kept ∧ ∀ p, p ∈ kept ↔ p ∈ ps ∧ ∀ q ∈ ps, ¬ beats q p :=
  ⟨F.up, fun p => by rw [F.mem]; simp only [h]⟩

theorem before_at {S : List (Nat × Nat)} {i : Nat} {x : Nat × Nat} (h : S.Pairwise before) (hx : S[i]? = some x) : ∀ q ∈ S.take i, before q x := by
  intro q hq
  obtain ⟨j, hj, e⟩ := List.mem_iff_getElem.1 hq
  obtain ⟨hi, ei⟩ := List.getElem?_eq_some_iff.1 hx
  rw [List.length_take] at hj
  rw [List.getElem_take] at e
  rw [← e, ← ei]
  exact List.pairwise_iff_getElem.1 h j i (by omega) hi (by omega)
end WN

/-! The end of a row of a specification, where a def makes a lambda: the table of its code object is tracked from the beginning. -/
namespace WT
open PySem PyProof.Rows L2 LamX
open PySem.W (WData Codec OpenSpec WellAll ReadsW)

/-- the table's object -/
abbrev tabO : Obj := { cls := .none, data := .fields #[] }

theorem call_tab {P : Program} {w : World} {K : PySem.W.Frag} {mg mb : Str → Option Value} {k : Nat} {fa c T : Addr} {fd : FuncData} {ps : List Str} {sp : Sp} {s : Shared} {vals : List Value} {ds : List WData} {R : PySem.W.WRecords} {cl : Str → Option Addr} {d0 : WData}
    (KX : K.In s.heap) (hns : s.heap.Ns mainGlobals mg) (hb : s.heap.Ns builtinsNs mb) (hbb : ∀ x : Str, x ≠ "__name__" → mb x = bootBuiltins x) (hlim : s.heap.NoLimit) (hg : s.gens = #[]) (hT : s.heap.get? T = some tabO) (nT : K.lookup T = none) (C : PySem.W.CodeHd s.heap c T)
    (hbm : ∃ (bm : Addr) (ob : Obj), mg "__builtins__" = some (.ref bm) ∧ bm ≠ builtinsNs ∧ s.heap.get? bm = some ob ∧ ob.cls = .type "module" ∧ ob.dict = some builtinsNs ∧ ob.data = .plain) (hwl : WellAll w.params s.heap vals ds) (hpl : plWs ds = true) (hwt : ∀ d ∈ ds, d.weight ≤ 1048576) (hr : Room k callerA)
    (F : ∀ base : Heap, K.In base → base.Ns mainGlobals mg → TabB base mg c T → FnOk P w K mg base CX0 k fa fd ps sp) (hbind : ∀ (s : Shared) (us : List Value), us.length = ps.length → BindsTo s fd ⟨us, []⟩ (ps.zip us)) (hlen : ds.length = ps.length)
    (hsp : ∀ (H : Hp) (xs : List V), OnlyF H → H T = none → DwAll K H xs ds → sp xs (upd H T (.tbl #[])) (fun v H' => Dw K H' v d0) fun _ _ _ => False) :
    codeAny (model P w) callerA (.call (.ref fa) ⟨vals, []⟩) (fun r s' => ∃ u as, r = .ok (.ret u) ∧ ReadsW R cl s'.heap u d0 as ∧ OldK s.heap s'.heap ∧ s'.os = s.os ∧ AllBare s'.gens) s := by
  obtain ⟨Ar, inA, ar⟩ := area_all ds vals hwl hpl hwt
  have hO := argH_only (K := K) ar
  have hok0 : HOk P w (argH K s.heap Ar) s.heap := argH_ok ar
  have hS := dw_all KX ar ds vals hwl hpl inA
  have hV := vals_toV inA
  have sq : ∀ b u, argH K s.heap Ar b = some u → K.lookup b = none ∧ ∃ o, s.heap.get? b = some o ∧ ∃ vs n, o.data = .seq vs n := fun b u q => by
    obtain ⟨hk, vs, _, _, ⟨e, _⟩ | ⟨e, _⟩⟩ := argH_is ar q
    · exact ⟨hk, _, e, _, _, rfl⟩
    · exact ⟨hk, _, e, _, _, rfl⟩
  generalize argH K s.heap Ar = H0 at hO hok0 hS sq
  have n0 : H0 T = none := by
    cases q : H0 T with
    | none => rfl
    | some u =>
      obtain ⟨_, o, e, vs, n, d⟩ := sq T u q
      rw [hT] at e
      cases e
      cases d
  have sm : Same H0 (upd H0 T (.tbl #[])) := fun b u e => by
    rw [upd_ne (ne_of_none e n0)]
    exact e
  have inH : ∀ b u, upd H0 T (.tbl #[]) b = some u → b = T ∨ H0 b = some u := fun b u e => by
    by_cases z : b = T
    · exact .inl z
    · rw [upd_ne z] at e
      exact .inr e
  have hok : HOk P w (upd H0 T (.tbl #[])) s.heap := fun b u e => by
    rcases inH b u e with z | z
    · subst z
      rw [upd_same] at e
      cases e
      exact hT
    · exact (hok0 b u z).stay (fun _ _ _ q => q) (fun d q => sm _ _ q) fun d xs q => sm _ _ q
  have hq := hsp H0 _ hO n0 hS
  have hKn : ∀ b o, K.lookup b = some o → upd H0 T (.tbl #[]) b = none := fun b o e => by
    cases q : upd H0 T (.tbl #[]) b with
    | none => rfl
    | some u =>
      rcases inH b u q with z | z
      · rw [z, nT] at e
        cases e
      · rw [(sq b u z).1] at e
        cases e
  -- what is no list, no tuple and no table is not tracked
  have clear : ∀ b o, s.heap.get? b = some o → (∀ vs n, o.data ≠ .seq vs n) → o.data ≠ .fields #[] → upd H0 T (.tbl #[]) b = none := fun b o e h1 h2 => by
    cases q : upd H0 T (.tbl #[]) b with
    | none => rfl
    | some u =>
      rcases inH b u q with z | z
      · rw [z, hT] at e
        cases e
        exact (h2 rfl).elim
      · obtain ⟨_, o', e', vs, n, d⟩ := sq b u z
        rw [e] at e'
        cases e'
        exact (h1 _ _ d).elim
  have fr : ∀ b, H0 b = none ∨ ∃ o u, upd H0 T (.tbl #[]) b = some (.frz o u) := fun b => by
    rcases hO b with z | ⟨o, u, z⟩
    · exact .inl z
    · exact .inr ⟨o, u, sm _ _ z⟩
  have hHT : upd H0 T (.tbl #[]) T = some (.tbl #[]) := upd_same
  have hH0 : ∀ b, b ≠ T → upd H0 T (.tbl #[]) b = H0 b := fun b z => upd_ne z
  generalize upd H0 T (.tbl #[]) = H at hok hq hKn clear fr hHT hH0
  have up : ∀ b o, s.heap.get? b = some o → H b = none → (hidT s.heap H).get? b = some o := fun b o e n => hidT_get e n
  have nsK : ∀ b (m : Str → Option Value), s.heap.Ns b m → (hidT s.heap H).Ns b m := fun b m ⟨o, es, ep, e, d, r⟩ => ⟨o, es, ep, up b o e (clear b o e (fun vs n z => by rw [d] at z; cases z) (fun z => by rw [d] at z; cases z)), d, r⟩
  have hKb : K.In (hidT s.heap H) := fun b o e => up b o (KX b o e) (hKn b o e)
  have hM : Mod K mg (hidT s.heap H) := ⟨hKb, nsK _ _ hns, ⟨mb, nsK _ _ hb, hbb⟩, let ⟨mc, h1, h2⟩ := hlim; ⟨mc, nsK _ _ h1, h2⟩⟩
  have TB : TabB (hidT s.heap H) mg c T := by
    refine ⟨?_, ?_, fun z => ?_⟩
    · obtain ⟨o, us, file, tf, flags, tg, inF, text, tt, e1, r1, r2, r3, rest⟩ := C
      exact ⟨o, us, file, tf, flags, tg, inF, text, tt, up _ _ e1 (clear _ _ e1 (fun vs n z => by rw [r2] at z; cases z) (fun z => by rw [r2] at z; cases z; simp at r3)), r1, r2, r3, rest⟩
    · obtain ⟨bm, ob, b1, b2, b3, bc, bd, b6⟩ := hbm
      have nG : bm ≠ mainGlobals := fun q => by obtain ⟨o, es, ep, e, hd, _⟩ := hns; rw [q, e] at b3; cases b3; rw [hd] at b6; cases b6
      have nP : bm ≠ T := fun q => by rw [q, hT] at b3; cases b3; cases b6
      exact ⟨bm, ob, b1, b2, nG, nP, up _ _ b3 (clear _ _ b3 (fun vs n z => by rw [b6] at z; cases z) (fun z => by rw [b6] at z; cases z)), bc, bd, b6⟩
    · obtain ⟨o, es, n, e, hd, _⟩ := hns
      rw [z, hT] at e
      cases e
      cases hd
  have e0 : Env0 P w K mg (hidT s.heap H) callerA [] s H := ⟨rfl, hM, fun b o e => of_hidT e, Nat.le_of_eq (hidT_size _ _), trivial, fun b z => (nomatch (show b ∈ ([] : List Addr) from z)), hok, .of_eq hg⟩
  have hl : vals.length = ps.length := (wellAll_len hwl).trans hlen
  refine codeAny_mono ((F _ hKb (nsK _ _ hns) TB).run callerA [] s H ⟨vals, []⟩ vals (vals.map toV) _ _ hr e0 (hbind s vals hl) hV hq) fun r s' x => ?_
  match r, x with
  | .error e, x => exact (show False from x).elim
  | .ok .next, x => exact (show False from x).elim
  | .ok .brk, x => exact (show False from x).elim
  | .ok .cont, x => exact (show False from x).elim
  | .ok (.ret u), x =>
    obtain ⟨v, H', os, bare, un, held, rel, q⟩ := x
    have kept : ∀ b o, b ≠ T → s.heap.get? b = some o → s'.heap.get? b = some o := fun b o nb e => by
      rcases fr b with z | ⟨ob, u3, z⟩
      · exact un.keep b o e ((hH0 b nb).trans z) (fun z => (nomatch (show b ∈ ([] : List Addr) from z))) (by simp)
      · obtain ⟨e1, _⟩ := hok b _ z
        obtain ⟨e2, _⟩ := held b _ (un.frzs b ob _ z)
        rw [e] at e1
        cases e1
        exact e2
    obtain ⟨more, zm⟩ := un.tbls T #[] hHT
    have hm : s'.heap.get? T = some { cls := .none, data := .fields (#[] ++ more) } := held T _ zm
    have kin : K.In s'.heap := fun b o e => kept b o (fun z => by rw [z, nT] at e; cases e) (KX b o e)
    obtain ⟨as, hrd⟩ := Dw.reads (R := R) (cl := cl) held kin d0 v u q rel
    refine ⟨u, as, rfl, hrd, ⟨fun b o e => ?_, fun b o e => ?_⟩, os, bare⟩
    · by_cases z : b = T
      · subst z
        rw [hT] at e
        cases e
        exact .inr (.inl ⟨(C.tab hT).isCodeTable, rfl, #[], more, rfl, hm⟩)
      · exact .inl (kept b o z e)
    · by_cases z : b = T
      · exact ⟨_, by rw [z]; exact hm⟩
      · exact ⟨o, kept b o z e⟩

theorem walk_tab {r : OpenSpec} {k : Nat} {q : Program} {loose : List Str} {XP : (Str → Option Value) → Heap → Prop} {YP : World → Heap → Prop} {d d' : DefRec} {K : Params → PySem.W.Frag} {ps : List Str} {sp : PySem.W.Frag → Sp} {x : Str} {c T : Addr}
    (hwell : r.wellSaid = true) (hdf : d.params.defaults = []) (hlen : r.args.length = ps.length) (hr : Room k callerA) (hY : ∀ (w : World) (h : Heap), YP w h → (K w.params).In h)
    (hrec : (recsOf q).find? (fun e => e.name == x) = some d') (htab : ∀ w : World, PySem.W.tabIn (K w.params) x = some (c, T)) (nT : ∀ w : World, (K w.params).lookup T = none)
    (F : ∀ (w : World) (mg : Str → Option Value) (fa : Addr) (h : Heap), YP w h → (K w.params).In h → h.Ns mainGlobals mg → mg d.name = some (.ref fa) → ∃ fd : FuncData, (∀ (s : Shared) (us : List Value), us.length = ps.length → BindsTo s fd ⟨us, []⟩ (ps.zip us)) ∧
        ∀ base : Heap, (K w.params).In base → base.Ns mainGlobals mg → TabB base mg c T → FnOk r.prog w (K w.params) mg base CX0 k fa fd ps (sp (K w.params)))
    (hsp : ∀ (K : PySem.W.Frag) (H : Hp) (xs : List V) (a : Codec.denoteAll r.args), OnlyF H → H T = none → Codec.withinAll r.args a = true → Codec.app r.args r.asked a = true → DwAll K H xs (Codec.encAll r.args a) →
      sp K xs (upd H T (.tbl #[])) (fun v H' => Dw K H' v (r.ret.enc (Codec.app r.args r.f a))) fun _ _ _ => False) :
    PySem.W.WalkOS q loose XP YP r d [] (fun f vs => PySem.call f vs) := by
  intro w so s mg mb G Y fa o pm cd doc dV kV _ _ _ _ hmg hg args vals _ pre lay _ wl _
  obtain ⟨a, da, ask⟩ := PySem.W.os_pre_some pre
  obtain ⟨rfl, wi⟩ := Codec.encAll_of_decAll r.args args a da
  obtain ⟨fd, bd, ok⟩ := F w mg fa _ Y (hY w _ Y) G.T.g hmg
  obtain ⟨C, hT⟩ := PySem.W.tab_of G.T (hY w _ Y) hrec (htab w)
  have run := call_tab (c := c) (T := T) (R := []) (cl := classAt so.heap) (d0 := r.ret.enc (Codec.app r.args r.f a)) (hY w _ Y) G.T.g G.T.b G.T.builtins G.T.nolimit hg hT (nT w) C G.T.bmain wl (pl_encAll _ _) (layable_weight lay) hr ok bd
    ((encAll_len _ _).trans hlen) fun H xs hO hn hS => hsp _ H xs a hO hn wi ask hS
  refine PySem.W.enter_call (codeAny_mono run fun _ _ ⟨u, bs, e, rd, old, os, bare⟩ => ?_)
  subst e
  exact ⟨.inl ⟨u, _, bs, rfl, fun _ => rfl, rd, (OpenSpec.post_iff hwell wi _ _).mpr rfl, fun z => (nomatch (show false = true from z))⟩, old, os, bare⟩
end WT

/-! The program's small defs. -/
namespace WP
open PySem L2
open Pn (Task)

/-! ### the text by places -/
def top (i : Nat) : Stmt := PySem.Challenge.pw_worthmost_s01_answers.main.body.getD i (.Pass ⟨0, 0, 0, 0⟩)
abbrev sActInit : Stmt := inClass (top 17) 0
abbrev sMay : Stmt := inClass (top 17) 1
abbrev sBehind : Stmt := inClass (top 17) 2
abbrev sInit : Stmt := inClass (top 18) 0
abbrev sBegins : Stmt := inClass (top 18) 1
abbrev sAct : Stmt := inClass (top 18) 2
abbrev sWorth : Stmt := inClass (top 18) 3
abbrev sStart : Stmt := inClass (top 18) 4
abbrev sBest : Stmt := inClass (top 18) 5
abbrev sLeast : Stmt := inClass (top 18) 6
abbrev sNet : Stmt := inClass (top 18) 7
abbrev sFront : Stmt := inClass (top 18) 8
abbrev sDrop : Stmt := inClass (top 18) 9
abbrev sValued : Stmt := inClass (top 18) 10
abbrev sWorthOf : Stmt := inClass (top 18) 11
abbrev sHas : Stmt := top 19
abbrev sThere : Stmt := top 20
abbrev sPrice : Stmt := top 21
abbrev sParts : Stmt := top 22
abbrev sCheapest : Stmt := top 23
abbrev sLowest : Stmt := top 24
abbrev sLonger : Stmt := top 25
abbrev sFrontOf : Stmt := top 26
abbrev sLength : Stmt := top 27
abbrev sAnswer : Stmt := top 28
abbrev sAnswers : Stmt := top 29

/-! ### a def by its name -/
/-- the def of that name keeps its promise -/
structure Def (P : Program) (w : World) (K : PySem.W.Frag) (mg : Str → Option Value) (base : Heap) (x : Str) (k : Nat) (ps : List Str) (sp : Sp) : Prop where
  ex : ∃ f fd, mg x = some (.ref f) ∧ PySem.W.keepIn K (.ref f) = true ∧ Binds K fd ps [] ∧ FnOk P w K mg base CX0 k f fd ps sp
theorem pe_def {X : Cx} {k : Nat} {ps : List Str} {sp : Sp} {x : Str} {p pos : Pos} {e : Expr} {es : List Expr} {t : TA} (D : Def X.prog X.w X.K X.mg X.base x k ps sp) (hr : Room k X.A) (hg : Gl X x) (ha : PA X (e :: es) t)
    (hd : (x == ("__debug__" : Str)) = false := by decide) (hst : starEach (e :: es) X.env = (false, eval e X.env) :: starEach es X.env := by rfl) (hpl : (backTo pos (starEach es X.env)).any (·.1) = false := by rfl) :
    PE X (.Call (.Name x p) (e :: es) [] pos) (tCall sp [] E0 t) := by
  obtain ⟨f, fd, h1, h2, h3, h4⟩ := D.ex
  exact pe_call h4 hr hg h1 h2 h3 .nil pass0 ha (hdb := hd) (he := hst) (hpl := hpl)

variable {P : Program} {w : World} {K : PySem.W.Frag} {mg : Str → Option Value} {base : Heap}

/-! ### has_all, are_there, is_price -/
theorem andNat (a b : Nat) : Builtin.bitAnd (a : Int) (b : Int) = ((a &&& b : Nat) : Int) := by
  unfold Builtin.bitAnd
  rw [decide_eq_true (Int.natCast_nonneg a), decide_eq_true (Int.natCast_nonneg b)]
  rfl
def spHas : Sp := fun vs H Q _ => ∃ s f : Nat, vs = [.int s, .int f] ∧ Q (.bl (Pn.within f s)) H
theorem scHas : FnScope ["state", "facts"] ["state", "facts"] (defScope sHas) := ⟨rfl, rfl, rfl, by decide +kernel, rfl, by decide +kernel, by decide +kernel⟩
theorem within_eq (s f : Nat) : decide (V.int (Builtin.bitAnd (s : Int) (f : Int)) = V.int (f : Int)) = Pn.within f s := by
  rw [andNat]
  unfold Pn.within
  have e : (f.land s == f) = decide (f.land s = f) := Bool.beq_eq_decide_eq _ _
  rw [e]
  apply decide_eq_decide.mpr
  constructor
  · intro h
    injection h with h
    have h : s &&& f = f := by omega
    rw [Nat.and_comm] at h
    exact h
  · intro h
    have h : s &&& f = f := by rw [Nat.and_comm]; exact h
    rw [h]
theorem ok_has {f : Addr} {fd : FuncData} (F : Fun K "has_all" "has_all" sHas f fd) : FnOk P w K mg base CX0 1 f fd ["state", "facts"] spHas := by
  refine F.ok scHas (fun vs H Q E h => ?_) (fun cdv A outer s H vs Q E hr h => ?_)
  · obtain ⟨s, f, rfl, _⟩ := h
    rfl
  · obtain ⟨st, fa, rfl, k⟩ := h
    refine ⟨_, pss_one (ps_ret (pe_cmpR op_eq (pe_op op_and (pv 0) (pv 1)) (pv 1) (nomark _))), ?_⟩
    refine ⟨_, rfl, _, rfl, _, _, rfl, rfl, _, rfl, rfl, ?_⟩
    rw [within_eq]
    exact k

def spThere : Sp := fun vs H Q _ => ∃ n f : Nat, vs = [.int n, .int f] ∧ n ≤ 6 ∧ Q (.bl (decide (f < 2 ^ n))) H
theorem scThere : FnScope ["fact_count", "facts"] ["fact_count", "facts"] (defScope sThere) := ⟨rfl, rfl, rfl, by decide +kernel, rfl, by decide +kernel, by decide +kernel⟩
theorem ok_there {f : Addr} {fd : FuncData} (F : Fun K "are_there" "are_there" sThere f fd) : FnOk P w K mg base CX0 1 f fd ["fact_count", "facts"] spThere := by
  refine F.ok scThere (fun vs H Q E h => ?_) (fun cdv A outer s H vs Q E hr h => ?_)
  · obtain ⟨s, f, rfl, _⟩ := h
    rfl
  · obtain ⟨n, fa, rfl, hn, k⟩ := h
    refine ⟨_, pss_one (ps_ret (pe_cmpR op_lt (pv 1) (pe_op op_shl pe_int (pv 0)) (nomark _))), ?_⟩
    refine ⟨_, rfl, _, rfl, _, _, rfl, rfl, ⟨by omega, by omega, by decide⟩, _, _, rfl, rfl, ?_⟩
    have e : decide ((fa : Int) < 1 * 2 ^ (n : Int).toNat) = decide (fa < 2 ^ n) := by
      apply decide_eq_decide.mpr
      rw [Int.toNat_natCast, Int.one_mul]
      have : ((2 : Int) ^ n) = ((2 ^ n : Nat) : Int) := by push_cast; rfl
      rw [this]; omega
    show Q (.bl (decide ((fa : Int) < 1 * 2 ^ (n : Int).toNat))) H
    rw [e]
    exact k

def spPrice : Sp := fun vs H Q _ => ∃ n : Nat, vs = [.int n] ∧ Q (.bl (decide (1 ≤ n ∧ n ≤ 1000))) H
theorem scPrice : FnScope ["number"] ["number"] (defScope sPrice) := ⟨rfl, rfl, rfl, by decide +kernel, rfl, by decide +kernel, by decide +kernel⟩
theorem ok_price {f : Addr} {fd : FuncData} {t : Tok} (F : Fun K "is_price" "is_price" sPrice f fd) (gM : mg "MOST_PRICE" = some (.int 1000 t)) : FnOk P w K mg base CX0 1 f fd ["number"] spPrice := by
  refine F.ok scPrice (fun vs H Q E h => ?_) (fun cdv A outer s H vs Q E hr h => ?_)
  · obtain ⟨s, rfl, _⟩ := h
    rfl
  · obtain ⟨n, rfl, k⟩ := h
    refine ⟨_, pss_one (ps_ret (pe_and (pe_cmpR op_ge (pv 0) pe_int (nomark _)) (pe_one (pe_cmpR op_le (pv 0) (pe_glob (v := .int 1000) rfl gM ⟨_, rfl⟩) (nomark _))))), ?_⟩
    refine ⟨_, rfl, _, _, rfl, rfl, _, rfl, ?_⟩
    by_cases h1 : (1 : Int) ≤ (n : Int)
    · rw [decide_eq_true h1]
      refine iteT ⟨_, rfl, _, _, rfl, rfl, ?_⟩
      have e : decide ((n : Int) ≤ 1000) = decide (1 ≤ n ∧ n ≤ 1000) := decide_eq_decide.mpr (by omega)
      show Q (.bl (decide ((n : Int) ≤ 1000))) H
      rw [e]; exact k
    · rw [decide_eq_false h1]
      refine iteF ?_
      have e : decide (1 ≤ n ∧ n ≤ 1000) = false := decide_eq_false (by omega)
      rw [e] at k; exact k
end WP

namespace WP
open PySem L2
open Pn (Task)
variable {P : Program} {w : World} {K : PySem.W.Frag} {mg : Str → Option Value} {base : Heap}

/-- a row of numbers as values -/
def nV (l : List Nat) : List V := l.map fun (n : Nat) => V.int (n : Int)
theorem nV_get {l : List Nat} {i : Nat} {x : V} (h : (nV l)[i]? = some x) : ∃ n, l[i]? = some n ∧ x = .int (n : Int) := by
  unfold nV at h
  rw [List.getElem?_map] at h
  cases e : l[i]? with
  | none => rw [e] at h; cases h
  | some z => rw [e] at h; exact ⟨z, rfl, (Option.some.inj h).symm⟩

/-! ### are_act_parts -/
def spParts (K : PySem.W.Frag) : Sp := fun vs H Q _ => ∃ (n : Nat) (a : Addr) (l : List Nat), vs = [.int n, .ref a] ∧ n ≤ 6 ∧ SqL K H a (nV l) ∧ ∀ H', Same H H' → Q (.bl (Pn.act? n l).isSome) H'
theorem scParts : FnScope ["fact_count", "parts", "facts"] ["fact_count", "parts"] (defScope sParts) := ⟨rfl, rfl, rfl, by decide +kernel, rfl, by decide +kernel, by decide +kernel⟩
theorem cut4 (xs : List V) (h : xs.length = 5) : cutV xs none (some 4) = xs.take 4 := by
  match xs, h with
  | [a, b, c, d, e], _ => rfl
theorem upd_new {H : Hp} {p : Addr} {o : HO} (h : H p = none) : Same H (upd H p o) := fun b u e => by
  rw [upd_ne (ne_of_none e h)]
  exact e
theorem act_len {n : Nat} {l : List Nat} (h : l.length ≠ 5) : (Pn.act? n l).isSome = false := by
  unfold Pn.act?
  split
  · exact absurd rfl h
  · rfl
theorem act_right {n : Nat} {l : List Nat} (h : l.length = 5) : (Pn.act? n l).isSome = true ↔ ((∀ j, j < 4 → l.getD j 0 < 2 ^ n) ∧ 1 ≤ l.getD 4 0 ∧ l.getD 4 0 ≤ 1000) := by
  match l, h with
  | [a, b, c, d, e], _ =>
    have q : (Pn.act? n [a, b, c, d, e]).isSome = (Pn.Act.mk a b c d e).right n := by
      unfold Pn.act?
      dsimp only
      split
      · next z => rw [z]; rfl
      · next z => simp only [Bool.not_eq_true] at z; rw [z]; rfl
    rw [q, WM.right_iff]
    constructor
    · rintro ⟨h1, h2, h3, h4, h5, h6⟩
      refine ⟨fun j hj => ?_, h5, h6⟩
      match j, hj with
      | 0, _ => exact h1
      | 1, _ => exact h2
      | 2, _ => exact h3
      | 3, _ => exact h4
    · rintro ⟨h, h5, h6⟩
      exact ⟨h 0 (by decide), h 1 (by decide), h 2 (by decide), h 3 (by decide), h5, h6⟩
theorem ok_parts {f : Addr} {fd : FuncData} (F : Fun K "are_act_parts" "are_act_parts" sParts f fd) (zlen : mg "len" = none)
    (DT : Def P w K mg base "are_there" 1 ["fact_count", "facts"] spThere) (DP : Def P w K mg base "is_price" 1 ["number"] spPrice) : FnOk P w K mg base CX0 2 f fd ["fact_count", "parts"] (spParts K) := by
  refine F.ok scParts (fun vs H Q E h => ?_) (fun cdv A outer s H vs Q E hr h => ?_)
  · obtain ⟨n, a, l, rfl, _⟩ := h
    rfl
  · obtain ⟨n, a, l, rfl, hn, hs, k⟩ := h
    refine ⟨_, pss_cons (ps_if (pt_cmpR op_ne (pe_callB call_len_seq (by rfl) zlen PySem.boot_len (pa_cons (pv 1) pa_nil)) pe_int (nomark _)) (pss_one (ps_ret pe_bl)) pss_nil)
      (pss_cons (ps_for PassesOwn.never rfl (pi_list (pe_slice sl_list (pv 1) po_none (po_some pe_int))) (pg_name (i := 2) scParts.nd rfl (Or.inl rfl))
        (pss_one (ps_if (pt_not (pt_val (pe_def DT hr (by rfl) (pa_cons (pv 0) (pa_cons (pv 2) pa_nil))))) (pss_one (ps_ret pe_bl)) pss_nil)))
      (pss_one (ps_ret (pe_def DP hr (by rfl) (pa_cons (pe_ix ix_list (pv 1) pe_int (fun _ _ => rfl)) pa_nil))))), ?_⟩
    refine ⟨_, rfl, a, _, rfl, .inl hs, rfl, _, rfl, ?_⟩
    have hl : (nV l).length = l.length := by simp [nV]
    by_cases h5 : l.length = 5
    · refine iteNS (by rw [hl, h5]; rfl) ?_
      refine ⟨_, rfl, _, rfl, a, _, rfl, hs, fun p np => ?_⟩
      rw [cut4 _ (hl.trans h5)]
      have sm : Same H (upd H p (.lst ((nV l).take 4))) := upd_new np
      refine ⟨_, rfl, ⟨_, SqL.of upd_same⟩, for_list (K := K) (a := p) (xs := (nV l).take 4) (fun i σ H' => ∃ v : Option V, σ = [some (.int (n : Int)), some (.ref a), v] ∧ H' = upd H p (.lst ((nV l).take 4)) ∧ ∀ j, j < i → l.getD j 0 < 2 ^ n)
        ⟨none, rfl, rfl, fun j h => absurd h (Nat.not_lt_zero _)⟩ (fun i σ H' _ ⟨_, _, e, _⟩ => by rw [e]; exact SqL.of upd_same) ?_ ?_⟩
      · rintro i y σ H' hi ⟨v, rfl, rfl, hj⟩
        have hi4 : i < 4 := by
          have := (List.getElem?_eq_some_iff.mp hi).1
          rw [List.length_take, hl, h5] at this
          omega
        rw [List.getElem?_take_of_lt hi4] at hi
        obtain ⟨z, hz, rfl⟩ := nV_get hi
        refine ⟨_, rfl, _, rfl, n, z, rfl, hn, _, rfl, ?_⟩
        have ez : l.getD i 0 = z := by rw [List.getD_eq_getElem?_getD, hz]; rfl
        by_cases c : z < 2 ^ n
        · rw [decide_eq_true c]
          refine iteF ⟨_, rfl, rfl, fun j hji => ?_⟩
          by_cases e : j = i
          · rw [e, ez]; exact c
          · exact hj j (by omega)
        · rw [decide_eq_false c]
          refine iteT ?_
          have e : (Pn.act? n l).isSome = false := by
            refine Bool.eq_false_iff.mpr fun q => c ?_
            have := ((act_right h5).1 q).1 i hi4
            rw [ez] at this; exact this
          have k := k _ sm
          rw [e] at k
          exact k
      · rintro σ H' ⟨v, rfl, rfl, hj⟩
        have l4 : ((nV l).take 4).length = 4 := by rw [List.length_take, hl, h5]; rfl
        rw [l4] at hj
        have g4 : (nV l)[4]? = some (.int ((l.getD 4 0 : Nat) : Int)) := by
          match l, h5 with
          | [a, b, c, d, e], _ => rfl
        refine ⟨_, rfl, a, _, _, _, rfl, rfl, sm.seq hs, atI_nat g4, l.getD 4 0, rfl, ?_⟩
        have e : (Pn.act? n l).isSome = decide (1 ≤ l.getD 4 0 ∧ l.getD 4 0 ≤ 1000) := by
          rw [Bool.eq_iff_iff, act_right h5, decide_eq_true_eq]
          exact ⟨fun q => q.2, fun q => ⟨hj, q⟩⟩
        have k := k _ sm
        rw [e] at k
        exact k
    · have ne : decide (V.int ((nV l).length : Int) = V.int 5) = false := decide_eq_false (by rw [hl]; intro q; injection q with q; omega)
      show if (!decide (V.int ((nV l).length : Int) = V.int 5)) = true then _ else _
      rw [ne]
      refine iteT ?_
      have k := k H (Same.refl H)
      rw [act_len h5] at k
      exact k
end WP

/-! The class Act. -/
namespace WP
open PySem L2
open Pn (Task)
variable {P : Program} {w : World} {K : PySem.W.Frag} {mg : Str → Option Value} {base : Heap}

def aF (a : Pn.Act) : List (Str × V) := [("needs", .int a.pre), ("bars", .int a.no), ("brings", .int a.add), ("takes", .int a.del), ("cost", .int a.cost)]
def ActAt (CA : Addr) (H : Hp) (p : Addr) (a : Pn.Act) : Prop := ∃ dx, H p = some (.ins CA dx (aF a))
structure ActT (K : PySem.W.Frag) (CA : Addr) : Prop where
  cl : Cls K CA
  n1 : NoAttr K CA "needs"
  n2 : NoAttr K CA "bars"
  n3 : NoAttr K CA "brings"
  n4 : NoAttr K CA "takes"
  n5 : NoAttr K CA "cost"

def spActInit (K : PySem.W.Frag) (CA : Addr) : Sp := fun vs H Q _ => ∃ (p q dx : Addr) (a : Pn.Act), vs = [.ref p, .ref q] ∧ H p = some (.ins CA dx []) ∧ SqL K H q (nV [a.pre, a.no, a.add, a.del, a.cost]) ∧
  ∀ H', ActAt CA H' p a → (∀ b o, H b = some o → b ≠ p → H' b = some o) → Q .non H'
theorem scActInit : FnScope ["self", "parts"] ["self", "parts"] (defScope sActInit) := ⟨rfl, rfl, rfl, by decide +kernel, rfl, by decide +kernel, by decide +kernel⟩

theorem seq_upd {H : Hp} {p q : Addr} {o u : HO} {xs : List V} (hp : H p = some u) (hu : ∀ l, u ≠ .lst l) (hf : ∀ l c, u ≠ .frz c (.lst l)) (h : SqL K H q xs) : SqL K (upd H p o) q xs := by
  rcases h with (h | ⟨c, h⟩) | h
  · exact .inl (.inl (by rw [upd_ne (fun e => by rw [e, hp] at h; exact hu _ (Option.some.inj h))]; exact h))
  · exact .inl (.inr ⟨c, by rw [upd_ne (fun e => by rw [e, hp] at h; exact hf _ _ (Option.some.inj h))]; exact h⟩)
  · exact .inr h
theorem seq_ins {H : Hp} {p q C dx : Addr} {fs gs : List (Str × V)} {xs : List V} (hp : H p = some (.ins C dx fs)) (h : SqL K H q xs) : SqL K (upd H p (.ins C dx gs)) q xs :=
  seq_upd hp (fun _ z => by cases z) (fun _ _ z => by cases z) h

theorem ok_actInit {f CA : Addr} {fd : FuncData} (F : Fun K "__init__" "Act.__init__" sActInit f fd) (T : ActT K CA) : FnOk P w K mg base CX0 1 f fd ["self", "parts"] (spActInit K CA) := by
  refine F.ok scActInit (fun vs H Q E h => ?_) (fun cdv A outer s H vs Q E hr h => ?_)
  · obtain ⟨p, q, dx, a, rfl, _⟩ := h
    rfl
  · obtain ⟨p, q, dx, a, rfl, hp, hq, k⟩ := h
    refine ⟨_, pss_cons (ps_fld (pv 0) (pe_ix ix_list (pv 1) pe_int (fun _ _ => rfl)) rfl) (pss_cons (ps_fld (pv 0) (pe_ix ix_list (pv 1) pe_int (fun _ _ => rfl)) rfl)
      (pss_cons (ps_fld (pv 0) (pe_ix ix_list (pv 1) pe_int (fun _ _ => rfl)) rfl) (pss_cons (ps_fld (pv 0) (pe_ix ix_list (pv 1) pe_int (fun _ _ => rfl)) rfl)
      (pss_one (ps_fld (pv 0) (pe_ix ix_list (pv 1) pe_int (fun _ _ => rfl)) rfl))))), ?_⟩
    have q1 := seq_ins (gs := putF "needs" (.int a.pre) []) hp hq
    refine ⟨_, rfl, q, _, _, _, rfl, rfl, hq, atI_nat (j := 0) rfl, _, rfl, p, CA, dx, [], rfl, hp, T.cl, T.n1, (by show 0 < 1000; decide), ?_⟩
    have q2 := seq_ins (gs := putF "bars" (.int a.no) (putF "needs" (.int a.pre) [])) upd_same q1
    rw [upd_upd] at q2
    refine ⟨_, rfl, q, _, _, _, rfl, rfl, q1, atI_nat (j := 1) rfl, _, rfl, p, CA, dx, _, rfl, upd_same, T.cl, T.n2, (by show 1 < 1000; decide), ?_⟩
    rw [upd_upd]
    have q3 := seq_ins (gs := putF "brings" (.int a.add) (putF "bars" (.int a.no) (putF "needs" (.int a.pre) []))) upd_same q2
    rw [upd_upd] at q3
    refine ⟨_, rfl, q, _, _, _, rfl, rfl, q2, atI_nat (j := 2) rfl, _, rfl, p, CA, dx, _, rfl, upd_same, T.cl, T.n3, (by show 2 < 1000; decide), ?_⟩
    rw [upd_upd]
    have q4 := seq_ins (gs := putF "takes" (.int a.del) (putF "brings" (.int a.add) (putF "bars" (.int a.no) (putF "needs" (.int a.pre) [])))) upd_same q3
    rw [upd_upd] at q4
    refine ⟨_, rfl, q, _, _, _, rfl, rfl, q3, atI_nat (j := 3) rfl, _, rfl, p, CA, dx, _, rfl, upd_same, T.cl, T.n4, (by show 3 < 1000; decide), ?_⟩
    rw [upd_upd]
    refine ⟨_, rfl, q, _, _, _, rfl, rfl, q4, atI_nat (j := 4) rfl, _, rfl, p, CA, dx, _, rfl, upd_same, T.cl, T.n5, (by show 4 < 1000; decide), ?_⟩
    rw [upd_upd]
    exact k _ ⟨dx, upd_same⟩ fun b o e hb => by rw [upd_ne hb]; exact e

def spMay (CA : Addr) : Sp := fun vs H Q _ => ∃ (p : Addr) (s : Nat) (a : Pn.Act), vs = [.ref p, .int s] ∧ ActAt CA H p a ∧ Q (.bl (a.may s)) H
theorem scMay : FnScope ["self", "state"] ["self", "state"] (defScope sMay) := ⟨rfl, rfl, rfl, by decide +kernel, rfl, by decide +kernel, by decide +kernel⟩
theorem apart_eq (s f : Nat) : decide (V.int (Builtin.bitAnd (s : Int) (f : Int)) = V.int 0) = Pn.apart f s := by
  rw [andNat]
  unfold Pn.apart
  have e : (f.land s == 0) = decide (f.land s = 0) := Bool.beq_eq_decide_eq _ _
  rw [e]
  apply decide_eq_decide.mpr
  constructor
  · intro h
    injection h with h
    have h : s &&& f = 0 := by omega
    rw [Nat.and_comm] at h
    exact h
  · intro h
    have h : s &&& f = 0 := by rw [Nat.and_comm]; exact h
    rw [h]; rfl
theorem ok_may {f CA : Addr} {fd : FuncData} (F : Fun K "may_be_done" "Act.may_be_done" sMay f fd) (T : ActT K CA) (DH : Def P w K mg base "has_all" 1 ["state", "facts"] spHas) : FnOk P w K mg base CX0 2 f fd ["self", "state"] (spMay CA) := by
  refine F.ok scMay (fun vs H Q E h => ?_) (fun cdv A outer s H vs Q E hr h => ?_)
  · obtain ⟨p, s, a, rfl, _⟩ := h
    rfl
  · obtain ⟨p, st, a, rfl, ⟨dx, hp⟩, k⟩ := h
    refine ⟨_, pss_one (ps_ret (pe_and (pe_def DH hr (by rfl) (pa_cons (pv 1) (pa_cons (pe_fld (pv 0) rfl) pa_nil))) (pe_one (pe_cmpR op_eq (pe_op op_and (pv 1) (pe_fld (pv 0) rfl)) pe_int (nomark _))))), ?_⟩
    refine ⟨_, rfl, _, rfl, p, CA, dx, _, _, rfl, hp, T.cl, T.n1, rfl, st, a.pre, rfl, _, rfl, ?_⟩
    cases e : Pn.within a.pre st with
    | true =>
      refine iteT ⟨_, rfl, _, rfl, p, CA, dx, _, _, rfl, hp, T.cl, T.n2, rfl, _, _, rfl, rfl, rfl, ?_⟩
      have em : a.may st = Pn.apart a.no st := by unfold Pn.Act.may; rw [e]; rfl
      rw [apart_eq]
      rw [em] at k; exact k
    | false =>
      refine iteF ?_
      have em : a.may st = false := by unfold Pn.Act.may; rw [e]; rfl
      rw [em] at k; exact k

def spBehind (CA : Addr) : Sp := fun vs H Q _ => ∃ (p : Addr) (s : Nat) (a : Pn.Act), vs = [.ref p, .int s] ∧ ActAt CA H p a ∧ Q (.int ((a.then_ s : Nat) : Int)) H
theorem scBehind : FnScope ["self", "state"] ["self", "state"] (defScope sBehind) := ⟨rfl, rfl, rfl, by decide +kernel, rfl, by decide +kernel, by decide +kernel⟩
theorem behind_eq (s t b : Nat) : Builtin.bitOr (Builtin.bitAnd (s : Int) (Builtin.bitNot (t : Int))) (b : Int) = (((s - s.land t).lor b : Nat) : Int) := by
  have e1 : Builtin.bitAnd (s : Int) (Builtin.bitNot (t : Int)) = ((s - s.land t : Nat) : Int) := by
    unfold Builtin.bitAnd
    rw [decide_eq_true (Int.natCast_nonneg s), decide_eq_false (by unfold Builtin.bitNot; omega)]
    have n : Builtin.bitNot (Builtin.bitNot (t : Int)) = (t : Int) := by unfold Builtin.bitNot; omega
    dsimp only
    rw [n, Int.toNat_natCast, Int.toNat_natCast]
    have le : s &&& t ≤ s := Nat.and_le_left
    have : s.land t = s &&& t := rfl
    rw [this]; omega
  rw [e1, Bits.bitOr_pp (Int.natCast_nonneg _) (Int.natCast_nonneg _), Int.toNat_natCast, Int.toNat_natCast]
  rfl
theorem ok_behind {f CA : Addr} {fd : FuncData} (F : Fun K "state_behind" "Act.state_behind" sBehind f fd) (T : ActT K CA) : FnOk P w K mg base CX0 1 f fd ["self", "state"] (spBehind CA) := by
  refine F.ok scBehind (fun vs H Q E h => ?_) (fun cdv A outer s H vs Q E hr h => ?_)
  · obtain ⟨p, s, a, rfl, _⟩ := h
    rfl
  · obtain ⟨p, st, a, rfl, ⟨dx, hp⟩, k⟩ := h
    refine ⟨_, pss_one (ps_ret (pe_op op_or (pe_op op_and (pv 1) (pe_un un_inv (pe_fld (pv 0) rfl))) (pe_fld (pv 0) rfl))), ?_⟩
    refine ⟨_, rfl, _, rfl, p, CA, dx, _, _, rfl, hp, T.cl, T.n4, rfl, _, rfl, _, _, rfl, rfl, _, rfl, p, CA, dx, _, _, rfl, hp, T.cl, T.n3, rfl, _, _, rfl, rfl, ?_⟩
    show Q (.int (Builtin.bitOr (Builtin.bitAnd (st : Int) (Builtin.bitNot (a.del : Int))) (a.add : Int))) H
    rw [behind_eq]
    exact k
end WP

/-! Ways as data; ends_one_longer. -/
namespace WP
open PySem L2 WE
open Pn (Task)
open WM (Cl)
variable {P : Program} {w : World} {K : PySem.W.Frag} {mg : Str → Option Value} {base : Heap}

/-- (cost, how many acts, acts) -/
def eEnd : Enc (Int × Int × List Int) := eTri eInt eInt (eSeq eInt)
def iL (l : List Nat) : List Int := l.map fun (n : Nat) => (n : Int)
def enc (c : Cl) : Int × Int × List Int := ((c.1 : Int), (c.2.length : Int), iL c.2)
def EndAt (K : PySem.W.Frag) (H : Hp) (c : Cl) (v : V) : Prop := eEnd.At K H (enc c) v
/-- (state, way) -/
def eWay : Enc (Int × (Int × Int × List Int)) := ePair eInt eEnd
def WayAt (K : PySem.W.Frag) (H : Hp) (p : Nat × Cl) (v : V) : Prop := eWay.At K H ((p.1 : Int), enc p.2) v

theorem iL_inj : ∀ {a b : List Nat}, iL a = iL b → a = b
  | [], [], _ => rfl
  | [], _ :: _, h => by cases h
  | _ :: _, [], h => by cases h
  | x :: a, y :: b, h => by
    unfold iL at h
    simp only [List.map_cons] at h
    injection h with h1 h2
    have e : x = y := by omega
    rw [e, iL_inj h2]
theorem enc_inj {a b : Cl} (h : enc a = enc b) : a = b := by
  unfold enc at h
  injection h with h1 h2
  injection h2 with h2 h3
  exact Prod.ext (by omega) (iL_inj h3)
theorem lt_less : ∀ {a b : List Nat}, a.length = b.length → listLt eInt (iL a) (iL b) = Pn11.less a b
  | [], [], _ => rfl
  | [], _ :: _, h => by cases h
  | _ :: _, [], h => by cases h
  | x :: a, y :: b, h => by
    have ih := lt_less (a := a) (b := b) (by simpa using h)
    show (if (x : Int) = (y : Int) then listLt eInt (iL a) (iL b) else decide ((x : Int) < (y : Int))) = (decide (x < y) || (x == y && Pn11.less a b))
    by_cases e : x = y
    · subst e
      rw [if_pos rfl, ih]; simp
    · rw [if_neg (by omega)]
      have e1 : (x == y) = false := by simp [e]
      rw [e1]; simp
theorem lt_better (a b : Cl) : eEnd.lt (enc a) (enc b) = Pn11.better a b := by
  show (if (a.1 : Int) = (b.1 : Int) then (if (a.2.length : Int) = (b.2.length : Int) then listLt eInt (iL a.2) (iL b.2) else decide ((a.2.length : Int) < (b.2.length : Int))) else decide ((a.1 : Int) < (b.1 : Int))) = _
  unfold Pn11.better
  by_cases e : a.1 = b.1
  · rw [if_pos (by omega)]
    by_cases e2 : a.2.length = b.2.length
    · rw [if_pos (by omega), lt_less e2]
      simp [e, e2]
    · rw [if_neg (by omega)]
      have q : decide ((a.2.length : Int) < (b.2.length : Int)) = decide (a.2.length < b.2.length) := decide_eq_decide.mpr (by omega)
      rw [q]
      simp [e, e2]
  · rw [if_neg (by omega)]
    have q : decide ((a.1 : Int) < (b.1 : Int)) = decide (a.1 < b.1) := decide_eq_decide.mpr (by omega)
    rw [q]
    simp [e]

/-- tuples stay -/
theorem sqT_same {H H' : Hp} (s : Same H H') : ∀ b xs, SqT K H b xs → SqT K H' b xs := fun b xs h => by
  rcases h with (h | ⟨o, h⟩) | h
  · exact .inl (.inl (s _ _ h))
  · exact .inl (.inr ⟨o, s _ _ h⟩)
  · exact .inr h
theorem EndAt.same {H H' : Hp} {c : Cl} {v : V} (h : EndAt K H c v) (s : Same H H') : EndAt K H' c v := eEnd.keep _ _ _ _ _ (sqT_same s) h
theorem WayAt.same {H H' : Hp} {p : Nat × Cl} {v : V} (h : WayAt K H p v) (s : Same H H') : WayAt K H' p v := eWay.keep _ _ _ _ _ (sqT_same s) h
/-- all but a list (a dict, an instance) stays -/
def But (g : Addr) (H H' : Hp) : Prop := ∀ b o, H b = some o → b ≠ g → H' b = some o
theorem sqT_but {g : Addr} {H H' : Hp} {u : HO} (hg : H g = some u) (n1 : ∀ xs, u ≠ .tup xs) (n2 : ∀ o xs, u ≠ .frz o (.tup xs)) (s : But g H H') : ∀ b xs, SqT K H b xs → SqT K H' b xs := fun b xs h => by
  rcases h with (h | ⟨o, h⟩) | h
  · exact .inl (.inl (s _ _ h (fun e => by rw [e, hg] at h; exact n1 _ (Option.some.inj h))))
  · exact .inl (.inr ⟨o, s _ _ h (fun e => by rw [e, hg] at h; exact n2 _ _ (Option.some.inj h))⟩)
  · exact .inr h
theorem but_upd {H : Hp} {g : Addr} {o : HO} : But g H (upd H g o) := fun b u e n => by rw [upd_ne n]; exact e

/-- the acts of a house: a list of objects -/
def ActsAt (CA : Addr) (H : Hp) (la : Addr) (acts : List Pn.Act) : Prop := ∃ ps : List Addr, H la = some (.lst (ps.map V.ref)) ∧ Paired (ActAt CA H) ps acts
theorem ActsAt.same {CA la : Addr} {H H' : Hp} {acts : List Pn.Act} (h : ActsAt CA H la acts) (s : Same H H') : ActsAt CA H' la acts := by
  obtain ⟨ps, h1, h2⟩ := h
  exact ⟨ps, s _ _ h1, paired_map h2 fun a b ⟨dx, q⟩ => ⟨dx, s _ _ q⟩⟩

/-! ### ends_one_longer -/
/-- the ways longer by one of the first i acts -/
def longTo (t : Task) (m : Nat) (c : Cl) (i : Nat) : WD.Row := ((List.range i).filter fun k => (t.act k).may m).map fun k => ((t.act k).then_ m, WM.ext c (t.act k).cost k)
theorem longTo_all (t : Task) (m : Nat) (c : Cl) : longTo t m c t.acts.length = WD.longer t m c := rfl
theorem longTo_yes {t : Task} {m : Nat} {c : Cl} {i : Nat} (h : (t.act i).may m = true) : longTo t m c (i + 1) = longTo t m c i ++ [((t.act i).then_ m, WM.ext c (t.act i).cost i)] := by
  unfold longTo
  rw [List.range_succ, List.filter_append, List.map_append]
  simp [h]
theorem longTo_no {t : Task} {m : Nat} {c : Cl} {i : Nat} (h : (t.act i).may m = false) : longTo t m c (i + 1) = longTo t m c i := by
  unfold longTo
  rw [List.range_succ, List.filter_append]
  simp [h]
theorem longTo_len (t : Task) (m : Nat) (c : Cl) (i : Nat) : (longTo t m c i).length ≤ i := by
  unfold longTo
  rw [List.length_map]
  exact Nat.le_trans (List.length_filter_le _ _) (by simp)

def spLonger (K : PySem.W.Frag) (CA : Addr) : Sp := fun vs H Q _ => ∃ (m : Nat) (c : Cl) (v : V) (la : Addr) (t : Task), vs = [.int m, v, .ref la] ∧ EndAt K H c v ∧ ActsAt CA H la t.acts ∧ t.acts.length ≤ 10 ∧ c.2.length ≤ 1000 ∧
  ∀ (H' : Hp) (r : Addr) (xs : List V), Same H H' → H r = none → H' r = some (.lst xs) → Paired (WayAt K H') (WD.longer t m c) xs → Q (.ref r) H'
theorem scLonger : FnScope ["state", "end", "acts", "longer", "number", "act", "grown"] ["state", "end", "acts"] (defScope sLonger) := ⟨rfl, rfl, rfl, by decide +kernel, rfl, by decide +kernel, by decide +kernel⟩

theorem paired_ints : ∀ (l : List Nat) (K : PySem.W.Frag) (H : Hp), Paired (eInt.At K H) (iL l) (nV l)
  | [], _, _ => .nil
  | x :: l, K, H => .cons rfl (paired_ints l K H)
theorem ints_paired {K : PySem.W.Frag} {H : Hp} : ∀ {l : List Nat} {ys : List V}, Paired (eInt.At K H) (iL l) ys → ys = nV l
  | [], _, h => by cases h; rfl
  | x :: l, _, h => by
    cases h with
    | cons r t =>
      have r : _ = V.int (x : Int) := r
      rw [r, ints_paired t]
      rfl
theorem nV_len (l : List Nat) : (nV l).length = l.length := by simp [nV]
/-- a way's tuple, opened -/
theorem EndAt.open {H : Hp} {c : Cl} {v : V} (h : EndAt K H c v) : ∃ p q, v = .ref p ∧ SqT K H p [.int c.1, .int c.2.length, .ref q] ∧ SqT K H q (nV c.2) := by
  obtain ⟨p, y, z, o, rfl, h1, h2, h3, q, ys, h4, h5, h6⟩ := h
  have h2 : y = .int (c.1 : Int) := h2
  have h3 : z = .int (c.2.length : Int) := h3
  have h6 : ys = nV c.2 := ints_paired h6
  subst h2 h3 h4 h6
  exact ⟨p, q, rfl, h1, h5⟩
theorem EndAt.mk {H : Hp} {c : Cl} {p q : Addr} (h1 : SqT K H p [.int c.1, .int c.2.length, .ref q]) (h2 : SqT K H q (nV c.2)) : EndAt K H c (.ref p) :=
  ⟨p, _, _, _, rfl, h1, rfl, rfl, q, _, rfl, h2, paired_ints _ _ _⟩
theorem WayAt.open {H : Hp} {p : Nat × Cl} {v : V} (h : WayAt K H p v) : ∃ a u, v = .ref a ∧ SqT K H a [.int p.1, u] ∧ EndAt K H p.2 u := by
  obtain ⟨a, y, z, rfl, h1, h2, h3⟩ := h
  have h2 : y = .int (p.1 : Int) := h2
  subst h2
  exact ⟨a, z, rfl, h1, h3⟩
theorem WayAt.mk {H : Hp} {m : Nat} {c : Cl} {a : Addr} {u : V} (h1 : SqT K H a [.int m, u]) (h2 : EndAt K H c u) : WayAt K H (m, c) (.ref a) :=
  ⟨a, _, _, rfl, h1, rfl, h2⟩
theorem act_at {t : Task} {i : Nat} {a : Pn.Act} (h : t.acts[i]? = some a) : t.act i = a := by
  unfold Task.act
  rw [List.getD_eq_getElem?_getD, h]; rfl

/-- t + u: some tuple of all -/
def rCatS (K : PySem.W.Frag) : R2 := fun x y H Q => ∃ a b xs ys, x = .ref a ∧ y = .ref b ∧ SqT K H a xs ∧ SqT K H b ys ∧ xs.length + ys.length ≤ sizeLine ∧ ∀ (q : Addr) (H' : Hp), Same H H' → SqT K H' q (xs ++ ys) → Q (.ref q) H'
theorem op_catS {X : Cx} : OpR X (binaryOp .Add) (rCatS X.K) := by
  intro pins s σ H x y v u Q I rx ry h
  refine op_catA pins s σ H x y v u Q I rx ry ?_
  obtain ⟨a, b, xs, ys, h1, h2, h3, h4, h5, k⟩ := h
  refine ⟨a, b, xs, ys, h1, h2, h3, h4, h5, fun z => k b H (Same.refl H) ?_, fun _ z => k a H (Same.refl H) ?_, fun _ _ p np => k p _ (upd_new np) (SqT.of upd_same)⟩
  · rw [z]; exact h4
  · rw [z, List.append_nil]; exact h3

theorem ok_longer {f CA f1 f2 : Addr} {fd fd1 fd2 : FuncData} (F : Fun K "ends_one_longer" "ends_one_longer" sLonger f fd) (T : ActT K CA) (zenum : mg "enumerate" = none)
    (G1 : FnOk P w K mg base CX0 2 f1 fd1 ["self", "state"] (spMay CA)) (b1 : Binds K fd1 ["self", "state"] []) (m1 : Meth K CA "may_be_done" f1)
    (G2 : FnOk P w K mg base CX0 1 f2 fd2 ["self", "state"] (spBehind CA)) (b2 : Binds K fd2 ["self", "state"] []) (m2 : Meth K CA "state_behind" f2) :
    FnOk P w K mg base CX0 3 f fd ["state", "end", "acts"] (spLonger K CA) := by
  refine F.ok scLonger (fun vs H Q E h => ?_) (fun cdv A outer s H vs Q E hr h => ?_)
  · obtain ⟨m, c, v, la, t, rfl, _⟩ := h
    rfl
  · obtain ⟨m, c, v, la, t, rfl, he, ⟨ps, hla, hps⟩, h10, hlen, k⟩ := h
    have hr1 : Room 1 _ := hr.mono (by decide)
    obtain ⟨pe, qe, rfl, e1, e2⟩ := he.open
    refine ⟨_, pss_cons (ps_set (i := 3) scLonger.nd rfl (.inl rfl) (pe_lst pa_nil))
      (pss_cons (ps_for PassesOwn.never rfl (pi_enum (by rfl) zenum (pa_cons (pv 2) pa_nil)) (pg_tup rfl (pgs_cons (pg_name (i := 4) scLonger.nd rfl (.inl rfl)) (pgs_cons (pg_name (i := 5) scLonger.nd rfl (.inl rfl)) pgs_nil)))
        (pss_one (ps_if (pt_val (pe_meth (pv 5) T.cl m1 G1 hr b1 .nil pass0 (pa_cons (pv 0) pa_nil)))
          (pss_cons (ps_set (i := 6) scLonger.nd rfl (.inl rfl) (pe_tup (pa_cons (pe_op op_add (pe_ix ix_tup (pv 1) pe_int (fun _ _ => rfl)) (pe_fld (pv 5) rfl))
              (pa_cons (pe_op op_add (pe_ix ix_tup (pv 1) pe_int (fun _ _ => rfl)) pe_int) (pa_cons (pe_op op_catS (pe_ix ix_tup (pv 1) pe_int (fun _ _ => rfl)) (pe_tup (pa_cons (pv 4) pa_nil))) pa_nil)))))
            (pss_one (ps_expr (pe_bm PySem.F.plainAttrs_list PySem.F.slot_list_append PySem.F.type_list_append mt_append (pv 3) (pa_cons (pe_tup (pa_cons (pe_meth (pv 5) T.cl m2 G2 hr1 b2 .nil pass0 (pa_cons (pv 0) pa_nil)) (pa_cons (pv 6) pa_nil))) pa_nil)))))
          pss_nil)))
      (pss_one (ps_ret (pv 3)))), ?_⟩
    refine ⟨Nat.zero_le _, fun r nr => ?_⟩
    have s0 : Same H (upd H r (.lst [])) := upd_new nr
    refine ⟨_, rfl, la, _, rfl, SqL.of (s0 _ _ hla), for_it (walk_enum (xs := ps.map V.ref)) (fun i σ H' => ∃ (x y z : Option V) (xs : List V), σ = [some (.int (m : Int)), some (.ref pe), some (.ref la), some (.ref r), x, y, z] ∧ Same H H' ∧ H' r = some (.lst xs) ∧ Paired (WayAt K H') (longTo t m c i) xs)
      ⟨none, none, none, [], rfl, s0, upd_same, .nil⟩ (fun i σ H' _ ⟨_, _, _, _, _, s1, _⟩ => SqL.of (s1 _ _ hla)) ?_ ?_⟩
    · rintro i x σ H1 H2 hi ⟨x0, y0, z0, xs, rfl, s1, hr1', hxs⟩ ⟨T0, u1, u2, rfl, nT, rfl, hu1, hu2⟩
      have hu1 : u1 = .int (i : Int) := (Option.some.inj hu1).symm
      subst hu1
      have hil : i < ps.length := by simpa using hi
      obtain ⟨pa, gpa, rfl⟩ : ∃ pa, ps[i]? = some pa ∧ u2 = .ref pa := by
        have hu2 : (ps.map V.ref)[i]? = some u2 := hu2
        rw [List.getElem?_map, List.getElem?_eq_getElem hil] at hu2
        exact ⟨ps[i], List.getElem?_eq_getElem hil, (Option.some.inj hu2).symm⟩
      obtain ⟨a, ga, ⟨dx, hpa⟩⟩ := paired_got hps gpa
      have ta : t.act i = a := act_at ga
      have sT : Same H1 (upd H1 T0 (.tup [.int (i : Int), .ref pa])) := upd_new nT
      have sH : Same H (upd H1 T0 (.tup [.int (i : Int), .ref pa])) := s1.trans sT
      refine ⟨T0, _, rfl, SqT.of upd_same, rfl, _, _, rfl, _, _, rfl, rfl, ?_⟩
      refine ⟨_, rfl, pa, dx, _, rfl, sH _ _ hpa, rfl, _, rfl, pa, m, a, rfl, ⟨dx, sH _ _ hpa⟩, _, rfl, ?_⟩
      cases hm : a.may m with
      | false =>
        refine iteF ⟨_, _, _, xs, rfl, sH, sT _ _ hr1', ?_⟩
        rw [longTo_no (by rw [ta]; exact hm)]
        exact paired_map hxs fun p v q => q.same sT
      | true =>
        refine iteT ?_
        generalize upd H1 T0 (.tup [.int (i : Int), .ref pa]) = H3 at sT sH
        have e1' := sqT_same sH _ _ e1
        have e2' := sqT_same sH _ _ e2
        -- grown = (end[0] + act.cost, end[1] + 1, end[2] + (number,))
        refine ⟨_, rfl, pe, _, _, _, rfl, rfl, e1', atI_nat (j := 0) rfl, _, rfl, pa, CA, dx, _, _, rfl, sH _ _ hpa, T.cl, T.n5, rfl, _, _, rfl, rfl, ?_⟩
        refine ⟨_, rfl, pe, _, _, _, rfl, rfl, e1', atI_nat (j := 1) rfl, _, _, rfl, rfl, ?_⟩
        refine ⟨_, rfl, pe, _, _, _, rfl, rfl, e1', atI_nat (j := 2) rfl, _, rfl, (by show 1 ≤ sizeLine; decide), fun q1 nq1 => ?_⟩
        have s3 : Same H3 (upd H3 q1 (.tup [.int (i : Int)])) := upd_new nq1
        have e2'' := sqT_same s3 _ _ e2'
        refine ⟨qe, q1, _, _, rfl, rfl, e2'', SqT.of upd_same, (by rw [nV_len]; show c.2.length + 1 ≤ sizeLine; exact Nat.le_of_lt (Nat.lt_of_le_of_lt (Nat.succ_le_succ hlen) (by decide))), fun q H4 s34 hq => ?_⟩
        have s4 : Same H3 H4 := s3.trans s34
        have hq : SqT K H4 q (nV (c.2 ++ [i])) := by
          have : nV (c.2 ++ [i]) = nV c.2 ++ [.int (i : Int)] := by simp [nV]
          rw [this]; exact hq
        refine ⟨by show 3 ≤ sizeLine; decide, fun p np => ?_⟩
        have s5 : Same H4 (upd H4 p (.tup [.int ((c.1 : Int) + (a.cost : Int)), .int ((c.2.length : Int) + 1), .ref q])) := upd_new np
        have s45 := s4.trans s5
        have eA : EndAt K (upd H4 p (.tup [.int ((c.1 : Int) + (a.cost : Int)), .int ((c.2.length : Int) + 1), .ref q])) (WM.ext c a.cost i) (.ref p) := by
          refine EndAt.mk (q := q) ?_ (sqT_same s5 _ _ hq)
          have q1 : ((WM.ext c a.cost i).1 : Int) = (c.1 : Int) + (a.cost : Int) := by simp [WM.ext]
          have q2 : ((WM.ext c a.cost i).2.length : Int) = (c.2.length : Int) + 1 := by simp [WM.ext]
          rw [q1, q2]
          exact SqT.of upd_same
        let H5 : Hp := upd H4 p (.tup [.int ((c.1 : Int) + (a.cost : Int)), .int ((c.2.length : Int) + 1), .ref q])
        have s45 : Same H3 H5 := s45
        have eA : EndAt K H5 (WM.ext c a.cost i) (.ref p) := eA
        have sH5 := sH.trans s45
        -- longer.append((act.state_behind(state), grown))
        refine ⟨_, rfl, .inl ⟨rfl, _, SqL.of (s45 _ _ (sT _ _ hr1'))⟩, _, rfl, pa, dx, _, rfl, sH5 _ _ hpa, rfl, _, rfl, pa, m, a, rfl, ⟨dx, sH5 _ _ hpa⟩, ?_⟩
        refine ⟨_, rfl, (by show 2 ≤ sizeLine; decide), fun p2 np2 => ?_⟩
        have s6 : Same H5 (upd H5 p2 (.tup [.int ((a.then_ m : Nat) : Int), .ref p])) := upd_new np2
        have hr6 := s6 _ _ (s45 _ _ (sT _ _ hr1'))
        have wA : WayAt K (upd H5 p2 (.tup [.int ((a.then_ m : Nat) : Int), .ref p])) (a.then_ m, WM.ext c a.cost i) (.ref p2) := WayAt.mk (SqT.of upd_same) (eA.same s6)
        have xl : xs.length ≤ i := by rw [← paired_len hxs]; exact longTo_len t m c i
        have i10 : i < 10 := by have := paired_len hps; omega
        refine ⟨r, _, _, rfl, rfl, hr6, small1000 (by omega), ?_⟩
        have sAll : Same H1 (upd H5 p2 (.tup [.int ((a.then_ m : Nat) : Int), .ref p])) := sT.trans (s45.trans s6)
        let H6 : Hp := upd H5 p2 (.tup [.int ((a.then_ m : Nat) : Int), .ref p])
        have hr6 : H6 r = some (.lst xs) := hr6
        have sAll : Same H1 H6 := sAll
        have wA : WayAt K H6 (a.then_ m, WM.ext c a.cost i) (.ref p2) := wA
        have bt : ∀ b ys, SqT K H6 b ys → SqT K (upd H6 r (.lst (xs ++ [.ref p2]))) b ys := sqT_but hr6 (fun _ z => by cases z) (fun _ _ z => by cases z) but_upd
        refine ⟨_, _, _, _, rfl, fun b o e => ?_, upd_same, ?_⟩
        · rw [upd_ne (ne_of_none e nr)]
          exact sAll _ _ (s1 _ _ e)
        · rw [longTo_yes (by rw [ta]; exact hm), ta]
          refine Paired.snoc (paired_map hxs fun p v q => ?_) ?_
          · exact eWay.keep _ _ _ _ _ bt (q.same sAll)
          · exact eWay.keep _ _ _ _ _ bt wA
    · rintro σ H' ⟨x, y, z, xs, rfl, s1, hr', hxs⟩
      have lp : (ps.map V.ref).length = t.acts.length := by rw [List.length_map, paired_len hps]
      rw [lp, longTo_all] at hxs
      exact ⟨_, rfl, k H' r xs s1 nr hr' hxs⟩
end WP

/-! Dicts of ways; state_of_lowest. -/
namespace WP
open PySem L2 WE
open Pn (Task)
open WM (Cl)
variable {P : Program} {w : World} {K : PySem.W.Frag} {mg : Str → Option Value} {base : Heap}

/-- an entry of a dict of ways -/
def EntAt (K : PySem.W.Frag) (H : Hp) (p : Nat × Cl) (kv : Key × V) : Prop := kv.1 = Sum.inl (p.1 : Int) ∧ EndAt K H p.2 kv.2
/-- a dict of ways stands at d -/
def RowAt (K : PySem.W.Frag) (H : Hp) (d : Addr) (L : WD.Row) : Prop := ∃ kvs, H d = some (.dK kvs) ∧ Paired (EntAt K H) L kvs

/-- (way, state) -/
def eLow : Enc ((Int × Int × List Int) × Int) := ePair eEnd eInt
def low (p : Nat × Cl) : (Int × Int × List Int) × Int := (enc p.2, (p.1 : Int))
theorem low_le {p q : Nat × Cl} (h : eLow.lt (low q) (low p) = false) : WM.Le p.2 q.2 := by
  have h : (if enc q.2 = enc p.2 then decide ((q.1 : Int) < (p.1 : Int)) else eEnd.lt (enc q.2) (enc p.2)) = false := h
  by_cases e : enc q.2 = enc p.2
  · rw [enc_inj e]; exact WM.Le.refl _
  · rw [if_neg e, lt_better] at h
    exact h

def spLowest (K : PySem.W.Frag) : Sp := fun vs H Q _ => ∃ (d : Addr) (L : WD.Row), vs = [.ref d] ∧ RowAt K H d L ∧ L ≠ [] ∧ L.length ≤ 1000 ∧
  ∀ (H' : Hp) (m : Nat) (c : Cl), Same H H' → (m, c) ∈ L → (∀ q ∈ L, WM.Le c q.2) → Q (.int m) H'
theorem scLowest : FnScope ["ends", "pairs", "state", "end"] ["ends"] (defScope sLowest) := ⟨rfl, rfl, rfl, by decide +kernel, rfl, by decide +kernel, by decide +kernel⟩

theorem take_snoc {T : Type} {l : List T} {i : Nat} {x : T} (h : l[i]? = some x) : l.take (i + 1) = l.take i ++ [x] := by
  rw [List.take_succ, h]; rfl
theorem same_lock {H H' : Hp} {d : Addr} {od : Obj} {u : HO} (hd : H d = some u) (s : Same (upd H d (.frz od u)) H') : Same H (upd H' d u) := fun b o e => by
  by_cases h : b = d
  · subst h
    rw [hd] at e; cases e
    exact upd_same
  · rw [upd_ne h]
    exact s b o (by rw [upd_ne h]; exact e)
theorem lock_none {H : Hp} {d D : Addr} {u : HO} (h : upd H d u D = none) : D ≠ d ∧ H D = none := by
  by_cases e : D = d
  · subst e; rw [upd_same] at h; cases h
  · rw [upd_ne e] at h; exact ⟨e, h⟩

theorem hu4 {A : Around} {k : Nat} (hr : Room k A) : A.units + 1 + 3 < cLine := by have := hr.units; omega
theorem ok_lowest {f : Addr} {fd : FuncData} (F : Fun K "state_of_lowest" "state_of_lowest" sLowest f fd) (zmin : mg "min" = none) : FnOk P w K mg base CX0 1 f fd ["ends"] (spLowest K) := by
  refine F.ok scLowest (fun vs H Q E h => ?_) (fun cdv A outer s H vs Q E hr h => ?_)
  · obtain ⟨d, L, rfl, _⟩ := h
    rfl
  · obtain ⟨d, L, rfl, ⟨kvs, hd, hkv⟩, hne, hlen, k⟩ := h
    refine ⟨_, pss_cons (ps_lock (ps_setLc (i := 1) (own := [("state", 2), ("end", 3)]) (g := gTup K 2 (gCons (gName 2) (gCons (gName 3) gNil))) (tt := tYes) rfl scLowest.nd rfl rfl (sw_true rfl rfl rfl (by decide +kernel)) (pi_items (pv 0))
        (blkOk_by (own := [("state", 2), ("end", 3)]) (N := ["ends", "pairs", "state", "end"]) (sc := defScope sLowest) (by decide +kernel))
        (fun _ _ _ _ _ => pg_tup rfl (pgs_cons (pg_name (i := 2) scLowest.nd rfl (Or.inl rfl)) (pgs_cons (pg_name (i := 3) scLowest.nd rfl (Or.inl rfl)) pgs_nil))) (fun _ _ _ _ _ => pts_nil)
        (fun _ _ _ _ _ => pe_tup (pa_cons (pv 3) (pa_cons (pv 2) pa_nil)))))
      (pss_one (ps_ret (pe_ix ix_tup (pe_callB (cr_minE eLow rfl (hu4 hr)) (by rfl) zmin (by decide +kernel) (pa_cons (pv 1) pa_nil)) pe_int (fun _ _ => rfl)))), ?_⟩
    refine ⟨d, _, hd, trivial, fun od => ?_⟩
    have s0 : ∀ b ys, SqT K H b ys → SqT K (upd H d (.frz od (.dK kvs))) b ys := sqT_but hd (fun _ z => by cases z) (fun _ _ z => by cases z) but_upd
    have len : kvs.length = L.length := (paired_len hkv).symm
    refine ⟨_, rfl, d, od, kvs, rfl, upd_same, fun D nD => ?_⟩
    obtain ⟨nDd, nD0⟩ := lock_none nD
    have sD : Same (upd H d (.frz od (.dK kvs))) (upd (upd H d (.frz od (.dK kvs))) D (.lst [])) := upd_new nD
    refine lc_it (walk_items (d := d) (o := od) (kvs := kvs)) (fun i H' => ∃ xs, Same (upd H d (.frz od (.dK kvs))) H' ∧ H' D = some (.lst xs) ∧ Paired (eLow.At K H') ((L.take i).map low) xs) ⟨[], sD, upd_same, .nil⟩
      (fun i H' _ ⟨xs, s1, _⟩ => s1 _ _ upd_same) ?_ ?_
    · rintro i x H1 H2 hi ⟨xs, s1, hD, hxs⟩ ⟨T0, u1, u2, rfl, nT, rfl, hu1, hu2⟩
      have gk : kvs[i]? = some kvs[i] := List.getElem?_eq_getElem hi
      obtain ⟨p, gp, ep1, ep2⟩ := paired_get hkv gk
      have hu1 : u1 = .int (p.1 : Int) := by
        have : (kvs[i]?.map fun kv => kV kv.1) = some u1 := hu1
        rw [gk] at this
        have : u1 = kV kvs[i].1 := (Option.some.inj this).symm
        rw [this, ep1]; rfl
      have hu2 : u2 = kvs[i].2 := by
        have : (kvs[i]?.map Prod.snd) = some u2 := hu2
        rw [gk] at this
        exact (Option.some.inj this).symm
      subst hu1 hu2
      have sT : Same H1 (upd H1 T0 (.tup [.int (p.1 : Int), kvs[i].2])) := upd_new nT
      refine ⟨T0, _, rfl, SqT.of upd_same, rfl, _, _, rfl, _, _, rfl, rfl, rfl, ?_⟩
      refine ⟨_, rfl, _, rfl, (by show 2 ≤ sizeLine; decide), fun q nq => ?_⟩
      let H3 : Hp := upd H1 T0 (.tup [.int (p.1 : Int), kvs[i].2])
      have sq : Same H3 (upd H3 q (.tup [kvs[i].2, .int (p.1 : Int)])) := upd_new nq
      let H4 : Hp := upd H3 q (.tup [kvs[i].2, .int (p.1 : Int)])
      have s14 : Same H1 H4 := sT.trans sq
      have hD4 : H4 D = some (.lst xs) := s14 _ _ hD
      have xl : xs.length ≤ i := by rw [← paired_len hxs]; simp; omega
      refine ⟨xs, hD4, small1000 (by omega), ?_⟩
      have bt : ∀ b ys, SqT K H4 b ys → SqT K (upd H4 D (.lst (xs ++ [.ref q]))) b ys := sqT_but hD4 (fun _ z => by cases z) (fun _ _ z => by cases z) but_upd
      refine ⟨xs ++ [.ref q], fun b o e => ?_, upd_same, ?_⟩
      · rw [upd_ne (ne_of_none e nD)]
        exact s14 _ _ (s1 _ _ e)
      · rw [take_snoc gp, List.map_append]
        refine Paired.snoc (paired_map hxs fun p v z => eLow.keep _ _ _ _ _ bt (eLow.keep _ _ _ _ _ (sqT_same s14) z)) ?_
        refine eLow.keep _ _ _ _ _ bt ⟨q, _, _, rfl, SqT.of upd_same, ?_, rfl⟩
        exact eEnd.keep _ _ _ _ _ (fun b ys z => sqT_same s14 _ _ (sqT_same s1 _ _ (s0 _ _ z))) ep2
    · rintro H1 ⟨xs, s1, hD, hxs⟩
      rw [len, List.take_length] at hxs
      refine ⟨s1 _ _ upd_same, ?_⟩
      have bt : ∀ b ys, SqT K H1 b ys → SqT K (upd H1 d (.dK kvs)) b ys := sqT_but (s1 _ _ upd_same) (fun _ z => by cases z) (fun _ _ z => by cases z) but_upd
      have hD' : upd H1 d (.dK kvs) D = some (.lst xs) := by rw [upd_ne nDd]; exact hD
      refine ⟨_, rfl, D, xs, L.map low, rfl, SqL.of hD', paired_map hxs fun p v z => eLow.keep _ _ _ _ _ bt z, (by simpa using hne), fun i m y gm gy hm => ?_⟩
      obtain ⟨m', gm', am⟩ := paired_get hxs gy
      rw [gm] at gm'; cases gm'
      rw [List.getElem?_map] at gm
      cases gL : L[i]? with
      | none => rw [gL] at gm; cases gm
      | some p =>
        rw [gL] at gm
        cases gm
        obtain ⟨r, u, z, rfl, h1, h2, h3⟩ := eLow.keep _ _ _ _ _ bt am
        have h3 : z = .int (p.1 : Int) := h3
        subst h3
        refine ⟨r, _, _, _, rfl, rfl, h1, atI_nat (j := 1) rfl, ?_⟩
        exact k _ p.1 p.2 (same_lock hd s1) (List.mem_of_getElem? gL) fun q hq => low_le (hm _ (List.mem_map_of_mem hq))
end WP

/-! cheapest_ends. -/
namespace WP
open PySem L2 WE
open Pn (Task)
open WM (Cl)
variable {P : Program} {w : World} {K : PySem.W.Frag} {mg : Str → Option Value} {base : Heap}

/-! ### a dict of ways: asked, stored, emptied -/
theorem key_eq (a b : Nat) : decide ((Sum.inl (a : Int) : Key) = Sum.inl (b : Int)) = decide (a = b) := by
  apply decide_eq_decide.mpr
  constructor
  · intro h; have := Sum.inl.inj h; omega
  · intro h; rw [h]
theorem ent_none {H : Hp} : ∀ {L : WD.Row} {kvs : List (Key × V)} {m : Nat}, Paired (EntAt K H) L kvs → WD.get L m = none → valV kvs (Sum.inl (m : Int) : Key) = none
  | _, _, _, .nil, _ => rfl
  | p :: L, kv :: kvs, m, .cons r t, h => by
    by_cases e : p.1 = m
    · have : WD.get (p :: L) m = some p.2 := by simp [WD.get, e]
      rw [this] at h; cases h
    · have h' : WD.get L m = none := by rw [← h]; simp [WD.get, e]
      rw [valV_neg (by rw [r.1]; intro z; exact e (by have := Sum.inl.inj z; omega))]
      exact ent_none t h'
theorem ent_some {H : Hp} : ∀ {L : WD.Row} {kvs : List (Key × V)} {m : Nat} {c : Cl}, Paired (EntAt K H) L kvs → WD.get L m = some c → ∃ v, valV kvs (Sum.inl (m : Int) : Key) = some v ∧ EndAt K H c v
  | _, _, _, _, .nil, h => by simp [WD.get] at h
  | p :: L, kv :: kvs, m, c, .cons r t, h => by
    by_cases e : p.1 = m
    · have : WD.get (p :: L) m = some p.2 := by simp [WD.get, e]
      rw [this] at h; cases h
      exact ⟨kv.2, valV_pos (by rw [r.1, e]), r.2⟩
    · have h' : WD.get L m = some c := by rw [← h]; simp [WD.get, e]
      rw [valV_neg (by rw [r.1]; intro z; exact e (by have := Sum.inl.inj z; omega))]
      exact ent_some t h'
theorem ent_any {H : Hp} {m : Nat} : ∀ {L : WD.Row} {kvs : List (Key × V)}, Paired (EntAt K H) L kvs → (kvs.any fun kv => decide (kv.1 = (Sum.inl (m : Int) : Key))) = (L.any fun p => decide (p.1 = m))
  | _, _, .nil => rfl
  | p :: L, kv :: kvs, .cons r t => by
    rw [List.any_cons, List.any_cons, ent_any t, r.1, key_eq]
theorem ent_map {H : Hp} {m : Nat} {c : Cl} {v : V} (hv : EndAt K H c v) : ∀ {L : WD.Row} {kvs : List (Key × V)}, Paired (EntAt K H) L kvs →
    Paired (EntAt K H) (L.map fun p => if p.1 = m then (p.1, c) else p) (kvs.map fun kv => if kv.1 = (Sum.inl (m : Int) : Key) then (kv.1, v) else kv)
  | _, _, .nil => .nil
  | p :: L, kv :: kvs, .cons r t => by
    refine .cons ?_ (ent_map hv t)
    show EntAt K H (if p.1 = m then (p.1, c) else p) (if kv.1 = (Sum.inl (m : Int) : Key) then (kv.1, v) else kv)
    by_cases e : p.1 = m
    · rw [if_pos e, if_pos (by rw [r.1, e])]
      exact ⟨r.1, hv⟩
    · rw [if_neg e, if_neg (by rw [r.1]; intro z; exact e (by have := Sum.inl.inj z; omega))]
      exact r
theorem ent_put {H : Hp} {L : WD.Row} {kvs : List (Key × V)} {m : Nat} {c : Cl} {v : V} (h : Paired (EntAt K H) L kvs) (hv : EndAt K H c v) : Paired (EntAt K H) (WD.put L m c) (putK kvs (Sum.inl (m : Int) : Key) v) := by
  unfold WD.put putK
  rw [ent_any h]
  by_cases q : (L.any fun p => decide (p.1 = m)) = true
  · rw [if_pos q, if_pos q]
    exact ent_map hv h
  · rw [if_neg q, if_neg q]
    exact Paired.snoc h ⟨rfl, hv⟩
theorem ent_del {H : Hp} {m : Nat} : ∀ {L : WD.Row} {kvs : List (Key × V)}, Paired (EntAt K H) L kvs → Paired (EntAt K H) (WD.del L m) (dropK kvs (Sum.inl (m : Int) : Key))
  | _, _, .nil => .nil
  | p :: L, kv :: kvs, .cons r t => by
    unfold WD.del dropK
    by_cases e : p.1 = m
    · rw [List.filter_cons_of_neg (by simp [e]), List.filter_cons_of_neg (by rw [r.1, e]; simp)]
      exact ent_del t
    · rw [List.filter_cons_of_pos (by simp [e]), List.filter_cons_of_pos (by rw [r.1]; simp; omega)]
      exact .cons r (ent_del t)
theorem ents_keep {H H' : Hp} {L : WD.Row} {kvs : List (Key × V)} (k : ∀ b ys, SqT K H b ys → SqT K H' b ys) (h : Paired (EntAt K H) L kvs) : Paired (EntAt K H') L kvs :=
  paired_map h fun p kv z => ⟨z.1, eEnd.keep _ _ _ _ _ k z.2⟩

/-! ### the promise -/
def spCheapest (K : PySem.W.Frag) (CA : Addr) : Sp := fun vs H Q _ => ∃ (la : Addr) (t : Task), vs = [.int t.start, .ref la] ∧ ActsAt CA H la t.acts ∧ t.acts.length ≤ 10 ∧ t.facts ≤ 6 ∧ WM.Good t ∧
  ∀ (H' : Hp) (d : Addr) (L : WD.Row), Same H H' → H d = none → RowAt K H' d L → L.length ≤ 64 → (∀ m c, (m, c) ∈ L ↔ WM.Least t t.start m c) → Q (.ref d) H'
theorem scCheapest : FnScope ["first_state", "acts", "settled", "waiting", "state", "behind", "end"] ["first_state", "acts"] (defScope sCheapest) := ⟨rfl, rfl, rfl, by decide +kernel, rfl, by decide +kernel, by decide +kernel⟩
theorem pow6 {n : Nat} (h : n ≤ 6) : 2 ^ n ≤ 64 := Nat.le_trans (Nat.pow_le_pow_right (by decide) h) (by decide)
theorem hu2 {A : Around} {k : Nat} (hr : Room k A) : A.units + 2 < cLine := by have := hr.units; omega

/-- the state of the search between two turns -/
structure Mid (K : PySem.W.Frag) (H H' : Hp) (ds dw : Addr) (S Q : WD.Row) : Prop where
  same : Same H H'
  nds : H ds = none
  ndw : H dw = none
  ne : ds ≠ dw
  rs : RowAt K H' ds S
  rw_ : RowAt K H' dw Q
/-- the waiting dict is stored to -/
theorem Mid.setW {H H' : Hp} {ds dw : Addr} {S Q Q' : WD.Row} {kvs : List (Key × V)} (h : Mid K H H' ds dw S Q) (hq : Paired (EntAt K H') Q' kvs) : Mid K H (upd H' dw (.dK kvs)) ds dw S Q' := by
  obtain ⟨kw, hw, _⟩ := h.rw_
  obtain ⟨ks, hs, ps⟩ := h.rs
  have bt : ∀ b ys, SqT K H' b ys → SqT K (upd H' dw (.dK kvs)) b ys := sqT_but hw (fun _ z => by cases z) (fun _ _ z => by cases z) but_upd
  exact ⟨fun b o e => by rw [upd_ne (ne_of_none e h.ndw)]; exact h.same _ _ e, h.nds, h.ndw, h.ne, ⟨ks, by rw [upd_ne h.ne]; exact hs, ents_keep bt ps⟩, ⟨kvs, upd_same, ents_keep bt hq⟩⟩
theorem Mid.setS {H H' : Hp} {ds dw : Addr} {S Q S' : WD.Row} {kvs : List (Key × V)} (h : Mid K H H' ds dw S Q) (hq : Paired (EntAt K H') S' kvs) : Mid K H (upd H' ds (.dK kvs)) ds dw S' Q := by
  obtain ⟨kw, hw, pw⟩ := h.rw_
  obtain ⟨ks, hs, ps⟩ := h.rs
  have bt : ∀ b ys, SqT K H' b ys → SqT K (upd H' ds (.dK kvs)) b ys := sqT_but hs (fun _ z => by cases z) (fun _ _ z => by cases z) but_upd
  exact ⟨fun b o e => by rw [upd_ne (ne_of_none e h.nds)]; exact h.same _ _ e, h.nds, h.ndw, h.ne, ⟨kvs, upd_same, ents_keep bt hq⟩, ⟨kw, by rw [upd_ne h.ne.symm]; exact hw, ents_keep bt pw⟩⟩
theorem Mid.more {H H' H2 : Hp} {ds dw : Addr} {S Q : WD.Row} (h : Mid K H H' ds dw S Q) (s : Same H' H2) : Mid K H H2 ds dw S Q := by
  obtain ⟨kw, hw, pw⟩ := h.rw_
  obtain ⟨ks, hs, ps⟩ := h.rs
  exact ⟨h.same.trans s, h.nds, h.ndw, h.ne, ⟨ks, s _ _ hs, ents_keep (sqT_same s) ps⟩, ⟨kw, s _ _ hw, ents_keep (sqT_same s) pw⟩⟩

theorem ok_cheapest {f CA : Addr} {fd : FuncData} (F : Fun K "cheapest_ends" "cheapest_ends" sCheapest f fd) (zlen : mg "len" = none)
    (DL : Def P w K mg base "state_of_lowest" 1 ["ends"] (spLowest K)) (DG : Def P w K mg base "ends_one_longer" 3 ["state", "end", "acts"] (spLonger K CA)) :
    FnOk P w K mg base CX0 4 f fd ["first_state", "acts"] (spCheapest K CA) := by
  refine F.ok scCheapest (fun vs H Q E h => ?_) (fun cdv A outer s H vs Q E hr h => ?_)
  · obtain ⟨la, t, rfl, _⟩ := h
    rfl
  · obtain ⟨la, t, rfl, ha, h10, h6, g, k⟩ := h
    have hr1 : Room 1 _ := hr.mono (by decide)
    have hu := hu_of hr
    refine ⟨_, pss_cons (ps_set (i := 2) scCheapest.nd rfl (.inl rfl) pe_dnewK)
      (pss_cons (ps_set (i := 3) scCheapest.nd rfl (.inl rfl) (pe_disp (pps_cons (pv 0) (pe_tup (pa_cons pe_int (pa_cons pe_int (pa_cons (pe_tup pa_nil) pa_nil)))) pps_nil) (by rfl) (by rfl) (fun z => by cases z) (by decide)))
      (pss_cons (ps_while PassesOwn.never (pt_cmpR op_gt (pe_callB call_lenD (by rfl) zlen PySem.boot_len (pa_cons (pv 3) pa_nil)) pe_int (nomark _))
        (pss_cons (ps_set (i := 4) scCheapest.nd rfl (.inl rfl) (pe_def DL hr1 (by rfl) (pa_cons (pv 3) pa_nil)))
        (pss_cons (ps_dput hu (pv 2) (pv 4) (pe_dpop1 (pv 3) (pv 4) ⟨rfl, rfl, rfl, rfl⟩) rfl)
        (pss_one (ps_for PassesOwn.never rfl (pi_list (pe_def DG hr (by rfl) (pa_cons (pv 4) (pa_cons (pe_dget hu (pv 2) (pv 4) (fun _ _ => rfl)) (pa_cons (pv 1) pa_nil)))))
          (pg_tup rfl (pgs_cons (pg_name (i := 5) scCheapest.nd rfl (.inl rfl)) (pgs_cons (pg_name (i := 6) scCheapest.nd rfl (.inl rfl)) pgs_nil)))
          (pss_one (ps_if (PW.pt (pw_and (pt_cmp (pc_dnotin hu (pv 5) (pv 2))) (pw_and1 (PW.pt (pw_or (pt_cmp (pc_dnotin hu (pv 5) (pv 3))) (pw_or1 (pt_cmpR (op_ltE eEnd (hu2 hr)) (pv 6) (pe_dget hu (pv 3) (pv 5) (fun _ _ => rfl)) (nomark _))))))))
            (pss_one (ps_dput hu (pv 3) (pv 5) (pv 6) rfl)) pss_nil)))))))
      (pss_one (ps_ret (pv 2))))), ?_⟩
    -- settled = {}; waiting = {first_state: (0, 0, ())}
    intro ds nds
    intro dw ndw
    obtain ⟨ndw1, ndw0⟩ := lock_none ndw
    refine ⟨_, rfl, Nat.zero_le _, fun q0 nq0 => ⟨by show 3 ≤ sizeLine; decide, fun p0 np0 => ?_⟩⟩
    let H2 : Hp := upd (upd H ds (.dK [])) dw (.dK [])
    let H3 : Hp := upd H2 q0 (.tup [])
    let H4 : Hp := upd H3 p0 (.tup [.int 0, .int 0, .ref q0])
    have s2 : Same H H2 := (upd_new nds).trans (upd_new ndw)
    have s3 : Same H2 H3 := upd_new nq0
    have s4 : Same H3 H4 := upd_new np0
    have M0 : Mid K H H4 ds dw [] [] := ⟨(s2.trans s3).trans s4, nds, ndw0, fun e => ndw1 e.symm, ⟨[], s4 _ _ (s3 _ _ (by show upd (upd H ds (.dK [])) dw (.dK []) ds = _; rw [upd_ne (fun e => ndw1 e.symm)]; exact upd_same)), .nil⟩, ⟨[], s4 _ _ (s3 _ _ upd_same), .nil⟩⟩
    have e0 : EndAt K H4 (0, []) (.ref p0) := EndAt.mk (q := q0) (SqT.of upd_same) (sqT_same s4 _ _ (SqT.of upd_same))
    refine ⟨s4 _ _ (s3 _ _ upd_same), [(Sum.inl (t.start : Int), .ref p0)], rfl, (by show 1 ≤ 15; decide), ?_⟩
    have M1 : Mid K H (upd H4 dw (.dK (mergeK [] [(Sum.inl (t.start : Int), .ref p0)]))) ds dw [] [(t.start, (0, []))] := M0.setW (.cons ⟨rfl, e0⟩ .nil)
    -- while len(waiting) > 0
    refine ⟨fun m σ H' => ∃ (S Q' : WD.Row) (x y z : Option V), σ = [some (.int (t.start : Int)), some (.ref la), some (.ref ds), some (.ref dw), x, y, z] ∧ m = 64 - S.length ∧ Mid K H H' ds dw S Q' ∧ WD.Held t t.start S Q' (WD.Behind t S),
      ⟨_, [], _, none, none, none, rfl, rfl, M1, WD.held_first t t.start⟩, ?_⟩
    rintro m0 σ H' ⟨S, Q', x, y, z, rfl, rfl, M, hh⟩
    have few := hh.few g g.start
    have p6 := pow6 h6
    obtain ⟨kw, hw, pw⟩ := id M.rw_
    refine ⟨_, rfl, dw, kw, rfl, hw, _, _, rfl, rfl, _, rfl, ?_⟩
    have lw : kw.length = Q'.length := (paired_len pw).symm
    cases Q' with
    | nil =>
      have : kw = [] := by cases kw with
        | nil => rfl
        | cons a b => simp at lw
      subst this
      refine iteF ⟨_, rfl, ?_⟩
      exact k H' ds S M.same M.nds M.rs (by simp at few; omega) (hh.done g)
    | cons q1 qr =>
      have dt : decide ((0 : Int) < (kw.length : Int)) = true := decide_eq_true (by rw [lw]; simp)
      show if decide ((0 : Int) < (kw.length : Int)) = true then _ else _
      rw [dt]
      refine iteT ⟨fun σ' H'' => ∃ m', m' < 64 - S.length ∧ ∃ (S' Q'' : WD.Row) (x y z : Option V), σ' = [some (.int (t.start : Int)), some (.ref la), some (.ref ds), some (.ref dw), x, y, z] ∧ m' = 64 - S'.length ∧ Mid K H H'' ds dw S' Q'' ∧ WD.Held t t.start S' Q'' (WD.Behind t S'), fun _ _ h => h, ?_⟩
      -- state = state_of_lowest(waiting)
      refine ⟨_, rfl, dw, q1 :: qr, rfl, M.rw_, (fun z => by cases z), (by omega), fun H1 m c s1 hm hl => ?_⟩
      have Ma := M.more s1
      have hS : m ∉ WD.keys S := fun z => hh.apart m z (WD.mem_keys.2 ⟨c, hm⟩)
      obtain ⟨Lm, h1⟩ := hh.settle g hm hl
      have clen : c.2.length < 2 ^ t.facts := WM.Least.short g g.start _ m c rfl Lm
      -- settled[state] = waiting.pop(state)
      obtain ⟨kw1, hw1, pw1⟩ := id Ma.rw_
      obtain ⟨v, gv, ev⟩ := ent_some pw1 (WD.get_of_mem hh.ndQ hm)
      have Mb := Ma.setW (ent_del (m := m) pw1)
      obtain ⟨ks2, hs2, ps2⟩ := id Mb.rs
      have ev2 : EndAt K (upd H1 dw (.dK (dropK kw1 (Sum.inl (m : Int) : Key)))) c v := eEnd.keep _ _ _ _ _ (sqT_but hw1 (fun _ z => by cases z) (fun _ _ z => by cases z) but_upd) ev
      have Mc := Mb.setS (ent_put (m := m) ps2 ev2)
      have ls : ks2.length = S.length := (paired_len ps2).symm
      refine ⟨_, rfl, dw, rfl, .inl ⟨kw1, .inl hw1⟩, _, rfl, kw1, Sum.inl (m : Int), v, hw1, rfl, gv, _, rfl, _, rfl, ds, _, rfl, DPut.k (k := Sum.inl (m : Int)) hs2 (small1000 (by omega)), ?_⟩
      rw [WD.put_out hS] at Mc
      let H3 : Hp := upd (upd H1 dw (.dK (dropK kw1 (Sum.inl (m : Int) : Key)))) ds (.dK (putK ks2 (Sum.inl (m : Int) : Key) v))
      have Mc : Mid K H H3 ds dw (S ++ [(m, c)]) (WD.del (q1 :: qr) m) := Mc
      have ev3 : EndAt K H3 c v := eEnd.keep _ _ _ _ _ (sqT_but hs2 (fun _ z => by cases z) (fun _ _ z => by cases z) but_upd) ev2
      have gg : DGet H3 ds (.int (m : Int)) (some v) := by
        have q : valV (putK ks2 (Sum.inl (m : Int) : Key) v) (Sum.inl (m : Int) : Key) = some v := by rw [valV_put, if_pos rfl]
        rw [← q]
        exact DGet.k (k := Sum.inl (m : Int)) upd_same
      -- for behind, end in ends_one_longer(state, settled[state], acts)
      refine ⟨_, rfl, _, rfl, _, rfl, ds, v, rfl, gg, _, rfl, m, c, v, la, t, rfl, ev3, ha.same Mc.same, h10, (by omega), fun H5 r xs s5 nr hr5 hxs => ?_⟩
      have Md := Mc.more s5
      obtain ⟨kw5, hw5, _⟩ := id Md.rw_
      have nrw : r ≠ dw := ne_of hr5 hw5 (by intro z; cases z)
      have ways : ∀ p ∈ WD.longer t m c, WM.Way t t.start p.1 p.2 := fun p hp => by
        obtain ⟨kk, hk, rfl⟩ := WD.mem_longer.1 hp
        exact Lm.1.snoc hk
      have xlen : xs.length = (WD.longer t m c).length := (paired_len hxs).symm
      refine ⟨r, rfl, ⟨_, SqL.of hr5⟩, for_list (K := K) (a := r) (xs := xs) (fun i σ H'' => ∃ (Qi : WD.Row) (Pi : Nat → Cl → Prop) (y z : Option V), σ = [some (.int (t.start : Int)), some (.ref la), some (.ref ds), some (.ref dw), some (.int (m : Int)), y, z] ∧ Mid K H H'' ds dw (S ++ [(m, c)]) Qi ∧ WD.Held t t.start (S ++ [(m, c)]) Qi Pi ∧
        (∀ b e, (WD.Behind t S b e ∨ (b, e) ∈ (WD.longer t m c).take i) → Pi b e) ∧ H'' r = some (.lst xs) ∧ Paired (WayAt K H'') (WD.longer t m c) xs)
        ⟨_, _, _, _, rfl, Md, h1, (fun b e z => by rcases z with z | z; exact z; simp at z), hr5, hxs⟩ (fun i σ H'' _ ⟨_, _, _, _, _, _, _, _, z, _⟩ => SqL.of z) ?_ ?_⟩
      · rintro i x' σ H6 hi ⟨Qi, Pi, y', z', rfl, Me, hi1, hP, hr6, hx6⟩
        obtain ⟨p, gp, wp⟩ := paired_get hx6 hi
        obtain ⟨pa, u, rfl, hT, hE⟩ := wp.open
        have hw' : WM.Way t t.start p.1 p.2 := ways p (List.mem_of_getElem? gp)
        have next : WD.Held t t.start (S ++ [(m, c)]) (WD.relax (S ++ [(m, c)]) Qi p) (fun b' e' => Pi b' e' ∨ (b' = p.1 ∧ e' = p.2)) := hi1.relaxed hw'
        have hP' : ∀ b e, (WD.Behind t S b e ∨ (b, e) ∈ (WD.longer t m c).take (i + 1)) → (Pi b e ∨ (b = p.1 ∧ e = p.2)) := fun b e q => by
          rcases q with q | q
          · exact .inl (hP b e (.inl q))
          · rw [take_snoc gp, List.mem_append] at q
            rcases q with q | q
            · exact .inl (hP b e (.inr q))
            · have := List.mem_singleton.1 q
              exact .inr ⟨congrArg Prod.fst this, congrArg Prod.snd this⟩
        refine ⟨pa, _, rfl, hT, rfl, _, _, rfl, _, _, rfl, rfl, ?_⟩
        obtain ⟨ks6, hs6, ps6⟩ := id Me.rs
        obtain ⟨kw6, hw6, pw6⟩ := id Me.rw_
        have fewi := hi1.few g g.start
        have lw6 : kw6.length = Qi.length := (paired_len pw6).symm
        -- what is left where nothing is stored
        have idle : WD.relax (S ++ [(m, c)]) Qi p = Qi → ∃ (Qi : WD.Row) (Pi : Nat → Cl → Prop) (y z : Option V), [some (.int (t.start : Int)), some (.ref la), some (.ref ds), some (.ref dw), some (.int (m : Int)), some (.int (p.1 : Int)), some u] = [some (.int (t.start : Int)), some (.ref la), some (.ref ds), some (.ref dw), some (.int (m : Int)), y, z] ∧ Mid K H H6 ds dw (S ++ [(m, c)]) Qi ∧ WD.Held t t.start (S ++ [(m, c)]) Qi Pi ∧
            (∀ b e, (WD.Behind t S b e ∨ (b, e) ∈ (WD.longer t m c).take (i + 1)) → Pi b e) ∧ H6 r = some (.lst xs) ∧ Paired (WayAt K H6) (WD.longer t m c) xs := fun q => by
          have next : WD.Held t t.start (S ++ [(m, c)]) Qi (fun b' e' => Pi b' e' ∨ (b' = p.1 ∧ e' = p.2)) := q ▸ next
          exact ⟨Qi, _, _, _, rfl, Me, next, hP', hr6, hx6⟩
        have stores : WD.relax (S ++ [(m, c)]) Qi p = WD.put Qi p.1 p.2 → ∃ (Qi : WD.Row) (Pi : Nat → Cl → Prop) (y z : Option V), [some (.int (t.start : Int)), some (.ref la), some (.ref ds), some (.ref dw), some (.int (m : Int)), some (.int (p.1 : Int)), some u] = [some (.int (t.start : Int)), some (.ref la), some (.ref ds), some (.ref dw), some (.int (m : Int)), y, z] ∧ Mid K H (upd H6 dw (.dK (putK kw6 (Sum.inl (p.1 : Int) : Key) u))) ds dw (S ++ [(m, c)]) Qi ∧ WD.Held t t.start (S ++ [(m, c)]) Qi Pi ∧
            (∀ b e, (WD.Behind t S b e ∨ (b, e) ∈ (WD.longer t m c).take (i + 1)) → Pi b e) ∧ upd H6 dw (.dK (putK kw6 (Sum.inl (p.1 : Int) : Key) u)) r = some (.lst xs) ∧ Paired (WayAt K (upd H6 dw (.dK (putK kw6 (Sum.inl (p.1 : Int) : Key) u)))) (WD.longer t m c) xs := fun q => by
          have next : WD.Held t t.start (S ++ [(m, c)]) (WD.put Qi p.1 p.2) (fun b' e' => Pi b' e' ∨ (b' = p.1 ∧ e' = p.2)) := q ▸ next
          refine ⟨_, _, _, _, rfl, Me.setW (ent_put (m := p.1) pw6 hE), next, hP', by rw [upd_ne nrw]; exact hr6, paired_map hx6 fun p v z => eWay.keep _ _ _ _ _ (sqT_but hw6 (fun _ z => by cases z) (fun _ _ z => by cases z) but_upd) z⟩
        -- if behind not in settled and (behind not in waiting or end < waiting[behind])
        cases gs : WD.get (S ++ [(m, c)]) p.1 with
        | some cs =>
          obtain ⟨vs, gvs, _⟩ := ent_some ps6 gs
          have dg : DGet H6 ds (.int (p.1 : Int)) (some vs) := by rw [← gvs]; exact DGet.k (k := Sum.inl (p.1 : Int)) hs6
          refine ⟨_, rfl, _, rfl, ds, some vs, rfl, dg, _, rfl, ?_⟩
          refine iteF (iteF (idle ?_))
          have : p.1 ∈ WD.keys (S ++ [(m, c)]) := WD.mem_keys.2 ⟨cs, WD.get_mem gs⟩
          unfold WD.relax
          rw [if_pos this]
        | none =>
          have nk : p.1 ∉ WD.keys (S ++ [(m, c)]) := WD.get_none.1 gs
          have dg : DGet H6 ds (.int (p.1 : Int)) none := by rw [← ent_none ps6 gs]; exact DGet.k (k := Sum.inl (p.1 : Int)) hs6
          refine ⟨_, rfl, _, rfl, ds, none, rfl, dg, _, rfl, ?_⟩
          refine iteT ?_
          cases gq : WD.get Qi p.1 with
          | none =>
            have dg : DGet H6 dw (.int (p.1 : Int)) none := by rw [← ent_none pw6 gq]; exact DGet.k (k := Sum.inl (p.1 : Int)) hw6
            refine ⟨_, rfl, _, rfl, dw, none, rfl, dg, _, rfl, ?_⟩
            refine iteT (iteT ⟨_, rfl, _, rfl, _, rfl, dw, _, rfl, DPut.k (k := Sum.inl (p.1 : Int)) hw6 (small1000 (by omega)), stores ?_⟩)
            unfold WD.relax
            rw [if_neg nk, gq]
          | some co =>
            obtain ⟨vo, gvo, eo⟩ := ent_some pw6 gq
            have dg : DGet H6 dw (.int (p.1 : Int)) (some vo) := by rw [← gvo]; exact DGet.k (k := Sum.inl (p.1 : Int)) hw6
            refine ⟨_, rfl, _, rfl, dw, some vo, rfl, dg, _, rfl, ?_⟩
            refine iteF ⟨_, rfl, _, rfl, _, rfl, dw, vo, rfl, dg, enc p.2, enc co, hE, eo, _, rfl, ?_⟩
            rw [lt_better]
            cases hb : Pn11.better p.2 co with
            | true =>
              refine iteT ⟨_, rfl, _, rfl, _, rfl, dw, _, rfl, DPut.k (k := Sum.inl (p.1 : Int)) hw6 (small1000 (by omega)), stores ?_⟩
              unfold WD.relax
              rw [if_neg nk, gq]
              dsimp only
              rw [if_pos hb]
            | false =>
              refine iteF (idle ?_)
              unfold WD.relax
              rw [if_neg nk, gq]
              dsimp only
              rw [if_neg (by rw [hb]; exact Bool.false_ne_true)]
      · rintro σ H6 ⟨Qi, Pi, y', z', rfl, Me, hi1, hP, hr6, hx6⟩
        rw [xlen, List.take_length] at hP
        have hi2 : WD.Held t t.start (S ++ [(m, c)]) Qi (WD.Behind t (S ++ [(m, c)])) := hi1.mono fun b e q => by
          obtain ⟨m', c', kk, h', hk, rfl, rfl⟩ := q
          refine hP _ _ ?_
          rcases List.mem_append.1 h' with q | q
          · exact .inl ⟨m', c', kk, q, hk, rfl, rfl⟩
          · have := List.mem_singleton.1 q
            injection this with e1 e2
            subst e1 e2
            exact .inr (WD.mem_longer.2 ⟨kk, hk, rfl⟩)
        have few2 := hi2.few g g.start
        refine ⟨64 - (S ++ [(m, c)]).length, ?_, _, _, _, _, _, rfl, rfl, Me, hi2⟩
        rw [List.length_append, List.length_singleton] at few2 ⊢
        omega
end WP

/-! The house: made, begun, its acts and worths told. -/
namespace WP
open PySem L2 WE
open Pn (Task)
open WM (Cl HGood)
variable {P : Program} {w : World} {K : PySem.W.Frag} {mg : Str → Option Value} {base : Heap} {CA CH : Addr}

def hF (facts start : Nat) (la lw : Addr) : List (Str × V) := [("fact_count", .int facts), ("first_state", .int start), ("acts", .ref la), ("worths", .ref lw)]
def WorAt (H : Hp) (lw : Addr) (ws : List (Nat × Nat)) : Prop := ∃ ps : List Addr, H lw = some (.lst (ps.map V.ref)) ∧ Paired (fun (p : Addr) (x : Nat × Nat) => H p = some (.tup [.int x.1, .int x.2])) ps ws
structure HouseAt (CA CH : Addr) (H : Hp) (p la lw : Addr) (h : Pn11.House) : Prop where
  ob : ∃ dx, H p = some (.ins CH dx (hF h.task.facts h.task.start la lw))
  acts : ActsAt CA H la h.task.acts
  wor : WorAt H lw h.worth
  ne : la ≠ lw
theorem HouseAt.same {H H' : Hp} {p la lw : Addr} {h : Pn11.House} (x : HouseAt CA CH H p la lw h) (s : Same H H') : HouseAt CA CH H' p la lw h := by
  obtain ⟨⟨dx, h1⟩, h2, ⟨ps, h3, h4⟩, h5⟩ := x
  exact ⟨⟨dx, s _ _ h1⟩, h2.same s, ⟨ps, s _ _ h3, paired_map h4 fun a b z => s _ _ z⟩, h5⟩
structure HouseT (K : PySem.W.Frag) (CH : Addr) : Prop where
  cl : Cls K CH
  n1 : NoAttr K CH "fact_count"
  n2 : NoAttr K CH "first_state"
  n3 : NoAttr K CH "acts"
  n4 : NoAttr K CH "worths"
/-- what a call answers, and what it leaves -/
def Ans (CA CH : Addr) (c : Pn11.Call) (H : Hp) (p : Addr) (Q : VK) : Prop := ∃ (la lw : Addr) (h : Pn11.House), HouseAt CA CH H p la lw h ∧ HGood h ∧
  ∀ (H' : Hp) (la' lw' r : Addr), HouseAt CA CH H' p la' lw' (Pn11.step h c).1 → (H la' = none ∨ la' = la) → (H lw' = none ∨ lw' = lw) → (∀ b o, H b = some o → b ≠ p → b ≠ la → b ≠ lw → H' b = some o) →
    H r = none → r ≠ la' → r ≠ lw' → H' r = some (.lst ((Pn11Neutral.out (Pn11.step h c).2).map V.int)) → Q (.ref r) H'

/-- a call that changes nothing -/
theorem ans_same {c : Pn11.Call} {H H' : Hp} {p la lw r : Addr} {h : Pn11.House} {Q : VK} {l : List V} (x : HouseAt CA CH H p la lw h) (e1 : (Pn11.step h c).1 = h) (e2 : (Pn11Neutral.out (Pn11.step h c).2).map V.int = l) (s : Same H H') (nr : H r = none) (hr : H' r = some (.lst l))
    (k : ∀ (H' : Hp) (la' lw' r : Addr), HouseAt CA CH H' p la' lw' (Pn11.step h c).1 → (H la' = none ∨ la' = la) → (H lw' = none ∨ lw' = lw) → (∀ b o, H b = some o → b ≠ p → b ≠ la → b ≠ lw → H' b = some o) →
      H r = none → r ≠ la' → r ≠ lw' → H' r = some (.lst ((Pn11Neutral.out (Pn11.step h c).2).map V.int)) → Q (.ref r) H') : Q (.ref r) H' := by
  have nla : r ≠ la := by obtain ⟨ps, z, _⟩ := x.acts; exact (ne_of_none z nr).symm
  have nlw : r ≠ lw := by obtain ⟨ps, z, _⟩ := x.wor; exact (ne_of_none z nr).symm
  refine k H' la lw r (by rw [e1]; exact x.same s) (.inr rfl) (.inr rfl) (fun b o e _ _ _ => s b o e) nr nla nlw (by rw [e2]; exact hr)

/-! ### __init__ -/
def spInit (CA CH : Addr) : Sp := fun vs H Q _ => ∃ (p dx : Addr), vs = [.ref p] ∧ H p = some (.ins CH dx []) ∧
  ∀ (H' : Hp) (la lw : Addr), HouseAt CA CH H' p la lw Pn11.init → H la = none → H lw = none → (∀ b o, H b = some o → b ≠ p → H' b = some o) → Q .non H'
theorem scInit : FnScope ["self"] ["self"] (defScope sInit) := ⟨rfl, rfl, rfl, by decide +kernel, rfl, by decide +kernel, by decide +kernel⟩
theorem upd_swap {H : Hp} {a b : Addr} {o u : HO} (h : a ≠ b) : upd (upd H a o) b u = upd (upd H b u) a o := by
  funext c
  unfold upd
  by_cases e1 : c = a
  · by_cases e2 : c = b
    · exact absurd (e1.symm.trans e2) h
    · rw [if_neg e2, if_pos e1, if_pos e1]
  · by_cases e2 : c = b
    · rw [if_pos e2, if_neg e1, if_pos e2]
    · rw [if_neg e2, if_neg e1, if_neg e1, if_neg e2]
theorem ok_init {f : Addr} {fd : FuncData} (F : Fun K "__init__" "House.__init__" sInit f fd) (T : HouseT K CH) : FnOk P w K mg base CX0 1 f fd ["self"] (spInit CA CH) := by
  refine F.ok scInit (fun vs H Q E h => ?_) (fun cdv A outer s H vs Q E hr h => ?_)
  · obtain ⟨p, dx, rfl, _⟩ := h
    rfl
  · obtain ⟨p, dx, rfl, hp, k⟩ := h
    refine ⟨_, pss_cons (ps_fld (pv 0) pe_int rfl) (pss_cons (ps_fld (pv 0) pe_int rfl) (pss_cons (ps_fld (pv 0) (pe_lst pa_nil) rfl) (pss_one (ps_fld (pv 0) (pe_lst pa_nil) rfl)))), ?_⟩
    refine ⟨_, rfl, p, CH, dx, [], rfl, hp, T.cl, T.n1, (by show 0 < 1000; decide), ?_⟩
    refine ⟨_, rfl, p, CH, dx, _, rfl, upd_same, T.cl, T.n2, (by show 1 < 1000; decide), ?_⟩
    rw [upd_upd]
    refine ⟨Nat.zero_le _, fun la nla => ?_⟩
    obtain ⟨lp, nla0⟩ := lock_none nla
    refine ⟨_, rfl, p, CH, dx, _, rfl, (by rw [upd_ne lp.symm]; exact upd_same), T.cl, T.n3, (by show 2 < 1000; decide), ?_⟩
    refine ⟨Nat.zero_le _, fun lw nlw => ?_⟩
    obtain ⟨wp, nlw1⟩ := lock_none nlw
    obtain ⟨wla, nlw2⟩ := lock_none nlw1
    obtain ⟨_, nlw0⟩ := lock_none nlw2
    refine ⟨_, rfl, p, CH, dx, _, rfl, (by rw [upd_ne wp.symm]; exact upd_same), T.cl, T.n4, (by show 3 < 1000; decide), ?_⟩
    refine k _ la lw ⟨⟨dx, upd_same⟩, ⟨[], ?_, .nil⟩, ⟨[], ?_, .nil⟩, wla.symm⟩ nla0 nlw0 fun b o e hb => ?_
    · rw [upd_ne lp, upd_ne wla.symm, upd_ne lp]; exact upd_same
    · rw [upd_ne wp]; exact upd_same
    · rw [upd_ne hb, upd_ne (ne_of_none e nlw0), upd_ne hb, upd_ne (ne_of_none e nla0), upd_ne hb]; exact e

/-! ### begins -/
def spBegins (CA CH : Addr) : Sp := fun vs H Q _ => ∃ (p : Addr) (n s : Nat), vs = [.ref p, .int n, .int s] ∧ Ans CA CH (.begins n s) H p Q
theorem scBegins : FnScope ["self", "facts", "so"] ["self", "facts", "so"] (defScope sBegins) := ⟨rfl, rfl, rfl, by decide +kernel, rfl, by decide +kernel, by decide +kernel⟩
theorem ok_begins {f : Addr} {fd : FuncData} {t1 t2 : Tok} (F : Fun K "begins" "House.begins" sBegins f fd) (T : HouseT K CH) (gW : mg "WRONG" = some (.int (-1) t1)) (gF : mg "MOST_FACTS" = some (.int 6 t2))
    (DT : Def P w K mg base "are_there" 1 ["fact_count", "facts"] spThere) : FnOk P w K mg base CX0 2 f fd ["self", "facts", "so"] (spBegins CA CH) := by
  refine F.ok scBegins (fun vs H Q E h => ?_) (fun cdv A outer s H vs Q E hr h => ?_)
  · obtain ⟨p, n, s, rfl, _⟩ := h
    rfl
  · obtain ⟨p, n, so, rfl, la, lw, h, hh, hg, k⟩ := h
    refine ⟨_, pss_cons (ps_if (PW.pt (pw_or (pt_cmpR op_lt (pv 1) pe_int (nomark _)) (pw_or (pt_cmpR op_gt (pv 1) (pe_glob (v := .int 6) rfl gF ⟨_, rfl⟩) (nomark _)) (pw_or1 (pt_not (pt_val (pe_def DT hr (by rfl) (pa_cons (pv 1) (pa_cons (pv 2) pa_nil)))))))))
        (pss_one (ps_ret (pe_lst (pa_cons (pe_glob (v := .int (-1)) rfl gW ⟨_, rfl⟩) pa_nil)))) pss_nil)
      (pss_cons (ps_fld (pv 0) (pv 1) rfl) (pss_cons (ps_fld (pv 0) (pv 2) rfl) (pss_cons (ps_fld (pv 0) (pe_lst pa_nil) rfl) (pss_cons (ps_fld (pv 0) (pe_lst pa_nil) rfl)
      (pss_one (ps_ret (pe_lst (pa_cons pe_int pa_nil)))))))), ?_⟩
    have bad : (n = 0 ∨ 6 < n ∨ 2 ^ n ≤ so) → [V.int (-1)].length ≤ sizeLine ∧ ∀ r, H r = none → Q (.ref r) (upd H r (.lst [.int (-1)])) := fun q => by
      have e : Pn11.step h (.begins n so) = (h, Pn11.ok (-1)) := by unfold Pn11.step; exact if_pos q
      exact ⟨by show 1 ≤ sizeLine; decide, fun r nr => ans_same hh (by rw [e]) (by rw [e]; rfl) (upd_new nr) nr upd_same k⟩
    refine ⟨_, rfl, _, _, rfl, rfl, _, rfl, ?_⟩
    by_cases q1 : (n : Int) < 1
    · show if decide ((n : Int) < 1) = true then _ else _
      rw [decide_eq_true q1]
      exact iteT (iteT (bad (.inl (by omega))))
    show if decide ((n : Int) < 1) = true then _ else _
    rw [decide_eq_false q1]
    refine iteF ⟨_, rfl, _, _, rfl, rfl, _, rfl, ?_⟩
    by_cases q2 : (6 : Int) < (n : Int)
    · show if decide ((6 : Int) < (n : Int)) = true then _ else _
      rw [decide_eq_true q2]
      exact iteT (iteT (bad (.inr (.inl (by omega)))))
    show if decide ((6 : Int) < (n : Int)) = true then _ else _
    rw [decide_eq_false q2]
    refine iteF ⟨_, rfl, _, rfl, n, so, rfl, by omega, _, rfl, ?_⟩
    by_cases q3 : so < 2 ^ n
    · rw [decide_eq_true q3]
      refine iteF ?_
      have e : Pn11.step h (.begins n so) = (⟨⟨n, [], so, 0⟩, []⟩, Pn11.ok 0) := by
        unfold Pn11.step
        exact if_neg (show ¬ (n = 0 ∨ 6 < n ∨ 2 ^ n ≤ so) by omega)
      obtain ⟨dx, hp⟩ := hh.ob
      refine ⟨_, rfl, _, rfl, p, CH, dx, _, rfl, hp, T.cl, T.n1, (by show 4 < 1000; decide), ?_⟩
      refine ⟨_, rfl, _, rfl, p, CH, dx, _, rfl, upd_same, T.cl, T.n2, (by show 4 < 1000; decide), ?_⟩
      rw [upd_upd]
      refine ⟨Nat.zero_le _, fun l1 nl1 => ?_⟩
      obtain ⟨l1p, nl10⟩ := lock_none nl1
      refine ⟨_, rfl, p, CH, dx, _, rfl, (by rw [upd_ne l1p.symm]; exact upd_same), T.cl, T.n3, (by show 4 < 1000; decide), ?_⟩
      refine ⟨Nat.zero_le _, fun l2 nl2 => ?_⟩
      obtain ⟨l2p, nl21⟩ := lock_none nl2
      obtain ⟨l21, nl22⟩ := lock_none nl21
      obtain ⟨_, nl20⟩ := lock_none nl22
      refine ⟨_, rfl, p, CH, dx, _, rfl, (by rw [upd_ne l2p.symm]; exact upd_same), T.cl, T.n4, (by show 4 < 1000; decide), ?_⟩
      refine ⟨(by show 1 ≤ sizeLine; decide), fun r nr => ?_⟩
      obtain ⟨r_p, nr1⟩ := lock_none nr
      obtain ⟨r_2, nr2⟩ := lock_none nr1
      obtain ⟨_, nr3⟩ := lock_none nr2
      obtain ⟨r_1, nr4⟩ := lock_none nr3
      obtain ⟨_, nr0⟩ := lock_none nr4
      refine k _ l1 l2 r ?_ (.inl nl10) (.inl nl20) (fun b o eb bp bla blw => ?_) nr0 r_1 r_2 (by rw [e]; exact upd_same)
      · rw [e]
        refine ⟨⟨dx, ?_⟩, ⟨[], ?_, .nil⟩, ⟨[], ?_, .nil⟩, l21.symm⟩
        · rw [upd_ne r_p.symm]; exact upd_same
        · rw [upd_ne r_1.symm, upd_ne l1p, upd_ne l21.symm, upd_ne l1p]; exact upd_same
        · rw [upd_ne r_2.symm, upd_ne l2p]; exact upd_same
      · rw [upd_ne (ne_of_none eb nr0), upd_ne bp, upd_ne (ne_of_none eb nl20), upd_ne bp, upd_ne (ne_of_none eb nl10), upd_ne bp]; exact eb
    · rw [decide_eq_false q3]
      exact iteT (bad (.inr (.inr (by omega))))
end WP

/-! The house: act, worth, start, worth_of. -/
namespace WP
open PySem L2 WE
open Pn (Task)
open WM (Cl HGood)
variable {P : Program} {w : World} {K : PySem.W.Frag} {mg : Str → Option Value} {base : Heap} {CA CH : Addr}

theorem nofields {C dx CA dy : Addr} {n s : Nat} {la lw : Addr} {a : Pn.Act} (z : some (HO.ins C dx (hF n s la lw)) = some (HO.ins CA dy (aF a))) : False := by
  have z := Option.some.inj z
  injection z with _ _ z
  have := congrArg List.length z
  exact absurd this (by show ¬ 4 = 5; decide)
/-! ### act -/
def spAct (K : PySem.W.Frag) (CA CH : Addr) : Sp := fun vs H Q _ => ∃ (p q : Addr) (l : List Nat), vs = [.ref p, .ref q] ∧ SqL K H q (nV l) ∧ Ans CA CH (.act l) H p Q
theorem scAct : FnScope ["self", "parts"] ["self", "parts"] (defScope sAct) := ⟨rfl, rfl, rfl, by decide +kernel, rfl, by decide +kernel, by decide +kernel⟩
theorem ok_act {f fI : Addr} {fd fdI : FuncData} {t1 t2 t3 : Tok} (F : Fun K "act" "House.act" sAct f fd) (T : HouseT K CH) (gW : mg "WRONG" = some (.int (-1) t1)) (gL : mg "FULL" = some (.int (-7) t2)) (gM : mg "MOST_ACTS" = some (.int 10 t3)) (zlen : mg "len" = none)
    (DP : Def P w K mg base "are_act_parts" 2 ["fact_count", "parts"] (spParts K)) (M : Mk K CA fI) (GI : FnOk P w K mg base CX0 1 fI fdI ["self", "parts"] (spActInit K CA)) (bI : Binds K fdI ["self", "parts"] []) (gA : mg "Act" = some (.ref CA)) :
    FnOk P w K mg base CX0 3 f fd ["self", "parts"] (spAct K CA CH) := by
  refine F.ok scAct (fun vs H Q E h => ?_) (fun cdv A outer s H vs Q E hr h => ?_)
  · obtain ⟨p, q, l, rfl, _⟩ := h
    rfl
  · obtain ⟨p, q, l, rfl, hq, la, lw, h, hh, hg, k⟩ := h
    refine ⟨_, pss_cons (ps_if (pt_cmpR op_ge (pe_callB call_len_seq (by rfl) zlen PySem.boot_len (pa_cons (pe_fld (pv 0) rfl) pa_nil)) (pe_glob (v := .int 10) rfl gM ⟨_, rfl⟩) (nomark _))
        (pss_one (ps_ret (pe_lst (pa_cons (pe_glob (v := .int (-7)) rfl gL ⟨_, rfl⟩) pa_nil)))) pss_nil)
      (pss_cons (ps_if (pt_not (pt_val (pe_def DP hr (by rfl) (pa_cons (pe_fld (pv 0) rfl) (pa_cons (pv 1) pa_nil))))) (pss_one (ps_ret (pe_lst (pa_cons (pe_glob (v := .int (-1)) rfl gW ⟨_, rfl⟩) pa_nil)))) pss_nil)
      (pss_cons (ps_expr (pe_bm PySem.F.plainAttrs_list PySem.F.slot_list_append PySem.F.type_list_append mt_append (pe_fld (pv 0) rfl) (pa_cons (pe_make M GI hr (by rfl) gA bI .nil pass0 (pa_cons (pv 1) pa_nil)) pa_nil)))
      (pss_one (ps_ret (pe_lst (pa_cons (pe_op op_sub (pe_callB call_len_seq (by rfl) zlen PySem.boot_len (pa_cons (pe_fld (pv 0) rfl) pa_nil)) pe_int) pa_nil)))))), ?_⟩
    obtain ⟨dx, hp⟩ := hh.ob
    obtain ⟨ps, hla, hps⟩ := id hh.acts
    have lp : ps.length = h.task.acts.length := paired_len hps
    have ll : (ps.map V.ref).length = h.task.acts.length := by rw [List.length_map, lp]
    refine ⟨_, rfl, p, CH, dx, _, _, rfl, hp, T.cl, T.n3, rfl, la, _, rfl, .inl (SqL.of hla), _, _, rfl, rfl, _, rfl, ?_⟩
    show if decide ((10 : Int) ≤ (((ps.map V.ref).length : Nat) : Int)) = true then _ else _
    rw [ll]
    by_cases q1 : h.task.acts.length = 10
    · rw [decide_eq_true (by omega)]
      have e : Pn11.step h (.act l) = (h, Pn11.ok (-7)) := by unfold Pn11.step; exact if_pos q1
      exact iteT ⟨by show 1 ≤ sizeLine; decide, fun r nr => ans_same hh (by rw [e]) (by rw [e]; rfl) (upd_new nr) nr upd_same k⟩
    · have := hg.acts
      rw [decide_eq_false (by omega)]
      refine iteF ⟨_, rfl, p, CH, dx, _, _, rfl, hp, T.cl, T.n1, rfl, _, rfl, h.task.facts, q, l, rfl, hg.f6, hq, fun H1 s1 => ⟨_, rfl, ?_⟩⟩
      cases ea : Pn.act? h.task.facts l with
      | none =>
        have e : Pn11.step h (.act l) = (h, Pn11.ok (-1)) := by
          unfold Pn11.step
          dsimp only
          rw [if_neg (show ¬ h.task.acts.length = Pn11.ACTS from q1), ea]
        refine iteT ⟨by show 1 ≤ sizeLine; decide, fun r nr => ?_⟩
        exact ans_same hh (by rw [e]) (by rw [e]; rfl) (s1.trans (upd_new nr)) (s1.free nr) upd_same k
      | some a =>
        refine iteF ?_
        obtain ⟨_, el⟩ := WM.act_some ea
        have e : Pn11.step h (.act l) = ({ h with task := { h.task with acts := h.task.acts ++ [a] } }, Pn11.ok (h.task.acts.length : Nat)) := by
          unfold Pn11.step
          dsimp only
          rw [if_neg (show ¬ h.task.acts.length = Pn11.ACTS from q1), ea]
        have h1 := hh.same s1
        refine ⟨_, rfl, p, CH, dx, _, _, rfl, s1 _ _ hp, T.cl, T.n3, rfl, .inl ⟨rfl, _, SqL.of (s1 _ _ hla)⟩, _, rfl, fun x dxa nx ndx nex => ?_⟩
        have s2 : Same H1 (upd (upd H1 dxa (.own x)) x (.ins CA dxa [])) := fun b o eb => by
          rw [upd_ne (ne_of_none eb nx), upd_ne (ne_of_none eb ndx)]; exact eb
        refine ⟨x, q, dxa, a, rfl, upd_same, (by rw [← el]; exact (s1.trans s2).seq hq), fun H3 hA keep => ⟨rfl, ?_⟩⟩
        have s3 : Same H1 H3 := fun b o eb => keep b o (s2 b o eb) (ne_of_none eb nx)
        have s03 := s1.trans s3
        refine ⟨la, _, _, rfl, rfl, s03 _ _ hla, small1000 (by rw [ll]; omega), ?_⟩
        let H4 : Hp := upd H3 la (.lst (ps.map V.ref ++ [.ref x]))
        have pla : p ≠ la := ne_of hp hla (by intro z; cases z)
        have hp4 : H4 p = some (.ins CH dx (hF h.task.facts h.task.start la lw)) := by
          show upd H3 la _ p = _
          rw [upd_ne pla]; exact s03 _ _ hp
        have l4 : H4 la = some (.lst (ps.map V.ref ++ [.ref x])) := upd_same
        refine ⟨_, rfl, p, CH, dx, _, _, rfl, hp4, T.cl, T.n3, rfl, la, _, rfl, .inl (SqL.of l4), _, _, rfl, rfl, (by show 1 ≤ sizeLine; decide), fun r nr => ?_⟩
        have nrla : r ≠ la := (ne_of_none l4 nr).symm
        have nr3 : H3 r = none := by
          have : upd H3 la (.lst (ps.map V.ref ++ [.ref x])) r = none := nr
          rw [upd_ne nrla] at this; exact this
        have nr0 : H r = none := s03.free nr3
        have s5 : Same H4 (upd H4 r (.lst [.int ((((ps.map V.ref ++ [V.ref x]).length : Nat) : Int) - 1)])) := upd_new nr
        obtain ⟨pw, hlw, hpw⟩ := id hh.wor
        have nrlw : r ≠ lw := (ne_of_none hlw nr0).symm
        have b4 : ∀ b o, H3 b = some o → b ≠ la → H4 b = some o := fun b o eb z => by show upd H3 la _ b = _; rw [upd_ne z]; exact eb
        refine k _ la lw r ?_ (.inr rfl) (.inr rfl) (fun b o eb bp bla blw => s5 _ _ (b4 _ _ (s03 _ _ eb) bla)) nr0 nrla nrlw ?_
        · rw [e]
          refine ⟨⟨dx, s5 _ _ hp4⟩, ⟨ps ++ [x], ?_, ?_⟩, ⟨pw, s5 _ _ (b4 _ _ (s03 _ _ hlw) hh.ne.symm), paired_map hpw fun a b z => s5 _ _ (b4 _ _ (s03 _ _ z) (ne_of z hla (by intro z; cases z)))⟩, hh.ne⟩
          · rw [List.map_append]; exact s5 _ _ l4
          · refine Paired.snoc (paired_map hps fun a b ⟨dy, z⟩ => ⟨dy, s5 _ _ (b4 _ _ (s03 _ _ z) (ne_of z hla (by intro z; cases z)))⟩) ?_
            obtain ⟨dy, z⟩ := hA
            exact ⟨dy, s5 _ _ (b4 _ _ z (fun w => by rw [w, s03 _ _ hla] at z; cases z))⟩
        · rw [e]
          have en : (((ps.map V.ref ++ [V.ref x]).length : Nat) : Int) - 1 = (h.task.acts.length : Int) := by
            rw [List.length_append, ll, List.length_singleton]; omega
          rw [← en]
          exact upd_same

/-! ### worth -/
def spWorth (CA CH : Addr) : Sp := fun vs H Q _ => ∃ (p : Addr) (s n : Nat), vs = [.ref p, .int s, .int n] ∧ Ans CA CH (.worth s n) H p Q
theorem scWorth : FnScope ["self", "facts", "much"] ["self", "facts", "much"] (defScope sWorth) := ⟨rfl, rfl, rfl, by decide +kernel, rfl, by decide +kernel, by decide +kernel⟩
theorem ok_worth {f : Addr} {fd : FuncData} {t1 t2 t3 : Tok} (F : Fun K "worth" "House.worth" sWorth f fd) (T : HouseT K CH) (gW : mg "WRONG" = some (.int (-1) t1)) (gL : mg "FULL" = some (.int (-7) t2)) (gM : mg "MOST_WORTHS" = some (.int 8 t3)) (zlen : mg "len" = none)
    (DT : Def P w K mg base "are_there" 1 ["fact_count", "facts"] spThere) (DP : Def P w K mg base "is_price" 1 ["number"] spPrice) : FnOk P w K mg base CX0 2 f fd ["self", "facts", "much"] (spWorth CA CH) := by
  refine F.ok scWorth (fun vs H Q E h => ?_) (fun cdv A outer s H vs Q E hr h => ?_)
  · obtain ⟨p, q, l, rfl, _⟩ := h
    rfl
  · obtain ⟨p, so, n, rfl, la, lw, h, hh, hg, k⟩ := h
    refine ⟨_, pss_cons (ps_if (pt_cmpR op_ge (pe_callB call_len_seq (by rfl) zlen PySem.boot_len (pa_cons (pe_fld (pv 0) rfl) pa_nil)) (pe_glob (v := .int 8) rfl gM ⟨_, rfl⟩) (nomark _))
        (pss_one (ps_ret (pe_lst (pa_cons (pe_glob (v := .int (-7)) rfl gL ⟨_, rfl⟩) pa_nil)))) pss_nil)
      (pss_cons (ps_if (PW.pt (pw_or (pt_not (pt_val (pe_def DT hr (by rfl) (pa_cons (pe_fld (pv 0) rfl) (pa_cons (pv 1) pa_nil))))) (pw_or1 (pt_not (pt_val (pe_def DP hr (by rfl) (pa_cons (pv 2) pa_nil))))))) (pss_one (ps_ret (pe_lst (pa_cons (pe_glob (v := .int (-1)) rfl gW ⟨_, rfl⟩) pa_nil)))) pss_nil)
      (pss_cons (ps_expr (pe_bm PySem.F.plainAttrs_list PySem.F.slot_list_append PySem.F.type_list_append mt_append (pe_fld (pv 0) rfl) (pa_cons (pe_tup (pa_cons (pv 1) (pa_cons (pv 2) pa_nil))) pa_nil)))
      (pss_one (ps_ret (pe_lst (pa_cons (pe_op op_sub (pe_callB call_len_seq (by rfl) zlen PySem.boot_len (pa_cons (pe_fld (pv 0) rfl) pa_nil)) pe_int) pa_nil)))))), ?_⟩
    obtain ⟨dx, hp⟩ := hh.ob
    obtain ⟨ps, hlw, hps⟩ := id hh.wor
    have lp : ps.length = h.worth.length := paired_len hps
    have ll : (ps.map V.ref).length = h.worth.length := by rw [List.length_map, lp]
    refine ⟨_, rfl, p, CH, dx, _, _, rfl, hp, T.cl, T.n4, rfl, lw, _, rfl, .inl (SqL.of hlw), _, _, rfl, rfl, _, rfl, ?_⟩
    show if decide ((8 : Int) ≤ (((ps.map V.ref).length : Nat) : Int)) = true then _ else _
    rw [ll]
    by_cases q1 : h.worth.length = 8
    · rw [decide_eq_true (by omega)]
      have e : Pn11.step h (.worth so n) = (h, Pn11.ok (-7)) := by unfold Pn11.step; exact if_pos q1
      exact iteT ⟨by show 1 ≤ sizeLine; decide, fun r nr => ans_same hh (by rw [e]) (by rw [e]; rfl) (upd_new nr) nr upd_same k⟩
    · have := hg.wors
      rw [decide_eq_false (by omega)]
      have bad : (2 ^ h.task.facts ≤ so ∨ n = 0 ∨ 1000 < n) → [V.int (-1)].length ≤ sizeLine ∧ ∀ r, H r = none → Q (.ref r) (upd H r (.lst [.int (-1)])) := fun q => by
        have e : Pn11.step h (.worth so n) = (h, Pn11.ok (-1)) := by
          unfold Pn11.step
          dsimp only
          rw [if_neg (show ¬ h.worth.length = Pn11.WORTHS from q1)]
          exact if_pos q
        exact ⟨by show 1 ≤ sizeLine; decide, fun r nr => ans_same hh (by rw [e]) (by rw [e]; rfl) (upd_new nr) nr upd_same k⟩
      refine iteF ⟨_, rfl, p, CH, dx, _, _, rfl, hp, T.cl, T.n1, rfl, _, rfl, h.task.facts, so, rfl, hg.f6, _, rfl, ?_⟩
      by_cases q2 : so < 2 ^ h.task.facts
      · rw [decide_eq_true q2]
        refine iteF ⟨_, rfl, n, rfl, _, rfl, ?_⟩
        by_cases q3 : 1 ≤ n ∧ n ≤ 1000
        · rw [decide_eq_true q3]
          refine iteF ?_
          have e : Pn11.step h (.worth so n) = ({ h with worth := h.worth ++ [(so, n)] }, Pn11.ok (h.worth.length : Nat)) := by
            unfold Pn11.step
            dsimp only
            rw [if_neg (show ¬ h.worth.length = Pn11.WORTHS from q1)]
            exact if_neg (show ¬ (2 ^ h.task.facts ≤ so ∨ n = 0 ∨ 1000 < n) by omega)
          refine ⟨_, rfl, p, CH, dx, _, _, rfl, hp, T.cl, T.n4, rfl, .inl ⟨rfl, _, SqL.of hlw⟩, _, rfl, _, rfl, (by show 2 ≤ sizeLine; decide), fun x nx => ?_⟩
          have s3 : Same H (upd H x (.tup [.int (so : Int), .int (n : Int)])) := upd_new nx
          let H3 : Hp := upd H x (.tup [.int (so : Int), .int (n : Int)])
          have s3 : Same H H3 := s3
          refine ⟨lw, _, _, rfl, rfl, s3 _ _ hlw, small1000 (by rw [ll]; omega), ?_⟩
          let H4 : Hp := upd H3 lw (.lst (ps.map V.ref ++ [.ref x]))
          have plw : p ≠ lw := ne_of hp hlw (by intro z; cases z)
          have b4 : ∀ b o, H3 b = some o → b ≠ lw → H4 b = some o := fun b o eb z => by show upd H3 lw _ b = _; rw [upd_ne z]; exact eb
          have hp4 : H4 p = some (.ins CH dx (hF h.task.facts h.task.start la lw)) := b4 _ _ (s3 _ _ hp) plw
          have l4 : H4 lw = some (.lst (ps.map V.ref ++ [.ref x])) := upd_same
          refine ⟨_, rfl, p, CH, dx, _, _, rfl, hp4, T.cl, T.n4, rfl, lw, _, rfl, .inl (SqL.of l4), _, _, rfl, rfl, (by show 1 ≤ sizeLine; decide), fun r nr => ?_⟩
          have nrlw : r ≠ lw := (ne_of_none l4 nr).symm
          have nr3 : H3 r = none := by
            have : upd H3 lw (.lst (ps.map V.ref ++ [.ref x])) r = none := nr
            rw [upd_ne nrlw] at this; exact this
          have nr0 : H r = none := s3.free nr3
          have s5 : Same H4 (upd H4 r (.lst [.int ((((ps.map V.ref ++ [V.ref x]).length : Nat) : Int) - 1)])) := upd_new nr
          obtain ⟨pa, hla, hpa⟩ := id hh.acts
          have nrla : r ≠ la := (ne_of_none hla nr0).symm
          refine k _ la lw r ?_ (.inr rfl) (.inr rfl) (fun b o eb bp bla blw => s5 _ _ (b4 _ _ (s3 _ _ eb) blw)) nr0 nrla nrlw ?_
          · rw [e]
            refine ⟨⟨dx, s5 _ _ hp4⟩, ⟨pa, s5 _ _ (b4 _ _ (s3 _ _ hla) hh.ne), paired_map hpa fun a b ⟨dy, z⟩ => ⟨dy, s5 _ _ (b4 _ _ (s3 _ _ z) (ne_of z hlw (by intro z; cases z)))⟩⟩, ⟨ps ++ [x], ?_, ?_⟩, hh.ne⟩
            · rw [List.map_append]; exact s5 _ _ l4
            · refine Paired.snoc (paired_map hps fun a b z => s5 _ _ (b4 _ _ (s3 _ _ z) (ne_of z hlw (by intro z; cases z)))) ?_
              refine s5 _ _ (b4 _ _ upd_same (ne_of_none hlw nx).symm)
          · rw [e]
            have en : (((ps.map V.ref ++ [V.ref x]).length : Nat) : Int) - 1 = (h.worth.length : Int) := by
              rw [List.length_append, ll, List.length_singleton]; omega
            rw [← en]
            exact upd_same
        · rw [decide_eq_false q3]
          exact iteT (bad (by omega))
      · rw [decide_eq_false q2]
        exact iteT (iteT (bad (.inl (by omega))))

/-! ### start -/
def spStart (CA CH : Addr) : Sp := fun vs H Q _ => ∃ (p : Addr) (s : Nat), vs = [.ref p, .int s] ∧ Ans CA CH (.start s) H p Q
theorem scStart : FnScope ["self", "so"] ["self", "so"] (defScope sStart) := ⟨rfl, rfl, rfl, by decide +kernel, rfl, by decide +kernel, by decide +kernel⟩
theorem ok_start {f : Addr} {fd : FuncData} {t1 : Tok} (F : Fun K "start" "House.start" sStart f fd) (T : HouseT K CH) (gW : mg "WRONG" = some (.int (-1) t1))
    (DT : Def P w K mg base "are_there" 1 ["fact_count", "facts"] spThere) : FnOk P w K mg base CX0 2 f fd ["self", "so"] (spStart CA CH) := by
  refine F.ok scStart (fun vs H Q E h => ?_) (fun cdv A outer s H vs Q E hr h => ?_)
  · obtain ⟨p, q, rfl, _⟩ := h
    rfl
  · obtain ⟨p, so, rfl, la, lw, h, hh, hg, k⟩ := h
    refine ⟨_, pss_cons (ps_if (pt_not (pt_val (pe_def DT hr (by rfl) (pa_cons (pe_fld (pv 0) rfl) (pa_cons (pv 1) pa_nil))))) (pss_one (ps_ret (pe_lst (pa_cons (pe_glob (v := .int (-1)) rfl gW ⟨_, rfl⟩) pa_nil)))) pss_nil)
      (pss_cons (ps_fld (pv 0) (pv 1) rfl) (pss_one (ps_ret (pe_lst (pa_cons pe_int pa_nil))))), ?_⟩
    obtain ⟨dx, hp⟩ := hh.ob
    refine ⟨_, rfl, p, CH, dx, _, _, rfl, hp, T.cl, T.n1, rfl, _, rfl, h.task.facts, so, rfl, hg.f6, _, rfl, ?_⟩
    by_cases q2 : so < 2 ^ h.task.facts
    · rw [decide_eq_true q2]
      have e : Pn11.step h (.start so) = ({ h with task := { h.task with start := so } }, Pn11.ok 0) := by
        unfold Pn11.step
        exact if_neg (show ¬ (2 ^ h.task.facts ≤ so) by omega)
      refine iteF ⟨_, rfl, _, rfl, p, CH, dx, _, rfl, hp, T.cl, T.n2, (by show 4 < 1000; decide), (by show 1 ≤ sizeLine; decide), fun r nr => ?_⟩
      obtain ⟨r_p, nr0⟩ := lock_none nr
      obtain ⟨ps, hlw, hps⟩ := id hh.wor
      obtain ⟨pa, hla, hpa⟩ := id hh.acts
      let H3 : Hp := upd H p (.ins CH dx (putF "first_state" (.int (so : Int)) (hF h.task.facts h.task.start la lw)))
      have b3 : ∀ b o, H b = some o → b ≠ p → H3 b = some o := fun b o eb z => by show upd H p _ b = _; rw [upd_ne z]; exact eb
      have s5 : Same H3 (upd H3 r (.lst [.int 0])) := upd_new nr
      refine k _ la lw r ?_ (.inr rfl) (.inr rfl) (fun b o eb bp bla blw => s5 _ _ (b3 _ _ eb bp)) nr0 (ne_of_none hla nr0).symm (ne_of_none hlw nr0).symm (by rw [e]; exact upd_same)
      rw [e]
      exact ⟨⟨dx, s5 _ _ upd_same⟩, ⟨pa, s5 _ _ (b3 _ _ hla (ne_of hla hp (by intro z; cases z))), paired_map hpa fun a b ⟨dy, z⟩ => ⟨dy, s5 _ _ (b3 _ _ z (fun w => by rw [w, hp] at z; exact nofields z))⟩⟩,
        ⟨ps, s5 _ _ (b3 _ _ hlw (ne_of hlw hp (by intro z; cases z))), paired_map hps fun a b z => s5 _ _ (b3 _ _ z (ne_of z hp (by intro z; cases z)))⟩, hh.ne⟩
    · rw [decide_eq_false q2]
      have e : Pn11.step h (.start so) = (h, Pn11.ok (-1)) := by
        unfold Pn11.step
        exact if_pos (show (2 ^ h.task.facts ≤ so) by omega)
      exact iteT ⟨by show 1 ≤ sizeLine; decide, fun r nr => ans_same hh (by rw [e]) (by rw [e]; rfl) (upd_new nr) nr upd_same k⟩
end WP

/-! worth_of. -/
namespace WP
open PySem L2 WE
open Pn (Task)
open WM (Cl HGood)
variable {P : Program} {w : World} {K : PySem.W.Frag} {mg : Str → Option Value} {base : Heap} {CA CH : Addr}

theorem sum_from : ∀ (l : List Nat) (a : Nat), l.foldl (fun a b => a + b) a = a + l.foldl (fun a b => a + b) 0
  | [], a => rfl
  | x :: l, a => by
    rw [List.foldl_cons, List.foldl_cons, sum_from l (a + x), sum_from l (0 + x)]
    omega
theorem worth_nil (s : Nat) : Pn11.worth [] s = 0 := rfl
theorem worth_snoc (ws : List (Nat × Nat)) (x : Nat × Nat) (s : Nat) : Pn11.worth (ws ++ [x]) s = Pn11.worth ws s + (if Pn.within x.1 s = true then x.2 else 0) := by
  unfold Pn11.worth Pn.sum
  rw [List.map_append, List.foldl_append, List.map_cons, List.map_nil, List.foldl_cons, List.foldl_nil]

def spWorthOf (CA CH : Addr) : Sp := fun vs H Q _ => ∃ (p la lw : Addr) (s : Nat) (h : Pn11.House), vs = [.ref p, .int s] ∧ HouseAt CA CH H p la lw h ∧ h.worth.length ≤ 8 ∧ ∀ H', Same H H' → Q (.int ((Pn11.worth h.worth s : Nat) : Int)) H'
theorem scWorthOf : FnScope ["self", "state", "facts", "much"] ["self", "state"] (defScope sWorthOf) := ⟨rfl, rfl, rfl, by decide +kernel, rfl, by decide +kernel, by decide +kernel⟩
theorem ok_worthOf {f : Addr} {fd : FuncData} (F : Fun K "worth_of" "House.worth_of" sWorthOf f fd) (T : HouseT K CH) (zsum : mg "sum" = none) (DH : Def P w K mg base "has_all" 1 ["state", "facts"] spHas) :
    FnOk P w K mg base CX0 2 f fd ["self", "state"] (spWorthOf CA CH) := by
  refine F.ok scWorthOf (fun vs H Q E h => ?_) (fun cdv A outer s H vs Q E hr h => ?_)
  · obtain ⟨p, la, lw, s, h, rfl, _⟩ := h
    rfl
  · obtain ⟨p, la, lw, st, h, rfl, hh, h8, k⟩ := h
    refine ⟨_, pss_one (ps_ret (pe_callB (cr_sum rfl) (by rfl) zsum (by decide +kernel) (pa_cons (pe_lc (own := [("facts", 2), ("much", 3)]) (g := gTup K 2 (gCons (gName 2) (gCons (gName 3) gNil))) (tt := tB (tCall spHas [] E0 (tCons (tVar 1) (tCons (tVar 2) tNil)))) rfl scWorthOf.nd (pi_list (pe_fld (pv 0) rfl))
      (blkOk_by (own := [("facts", 2), ("much", 3)]) (N := ["self", "state", "facts", "much"]) (sc := defScope sWorthOf) (by decide +kernel))
      (fun _ _ _ _ _ => pg_tup rfl (pgs_cons (pg_name (i := 2) scWorthOf.nd rfl (Or.inl rfl)) (pgs_cons (pg_name (i := 3) scWorthOf.nd rfl (Or.inl rfl)) pgs_nil)))
      (fun _ _ _ _ _ => pts_one (pt_val (pe_def DH hr (by rfl) (pa_cons (pv 1) (pa_cons (pv 2) pa_nil)))))
      (fun _ _ _ _ _ => pv 3)) pa_nil))), ?_⟩
    obtain ⟨dx, hp⟩ := hh.ob
    obtain ⟨ps, hlw, hps⟩ := id hh.wor
    have lp : ps.length = h.worth.length := paired_len hps
    refine ⟨_, rfl, p, CH, dx, _, _, rfl, hp, T.cl, T.n4, rfl, lw, rfl, ⟨_, SqL.of hlw⟩, fun D nD => lc_list (K := K) (a := lw) (xs := ps.map V.ref) (fun i H' => ∃ ns : List Int, Same H H' ∧ H' D = some (.lst (ns.map V.int)) ∧ ns.length ≤ i ∧ ns.sum = ((Pn11.worth (h.worth.take i) st : Nat) : Int)) ⟨[], upd_new nD, upd_same, Nat.le_refl _, rfl⟩ (fun i H' _ ⟨_, s1, _⟩ => SqL.of (s1 _ _ hlw)) ?_ ?_⟩
    · rintro i x H1 hi ⟨ns, s1, hD, hl, hs⟩
      have hil : i < ps.length := by simpa using (List.getElem?_eq_some_iff.mp hi).1
      obtain ⟨q, gq, rfl⟩ : ∃ q, ps[i]? = some q ∧ x = .ref q := by
        rw [List.getElem?_map, List.getElem?_eq_getElem hil] at hi
        exact ⟨ps[i], List.getElem?_eq_getElem hil, (Option.some.inj hi).symm⟩
      obtain ⟨y, gy, hy⟩ := paired_got hps gq
      refine ⟨q, _, rfl, SqT.of (s1 _ _ hy), rfl, _, _, rfl, _, _, rfl, rfl, rfl, ?_⟩
      refine ⟨_, rfl, _, rfl, st, y.1, rfl, _, rfl, ?_⟩
      have tk : h.worth.take (i + 1) = h.worth.take i ++ [y] := take_snoc gy
      cases e : Pn.within y.1 st with
      | true =>
        refine iteT ⟨_, rfl, _, hD, small1000 (by rw [List.length_map]; omega), ns ++ [(y.2 : Int)], fun b o eb => ?_, ?_, ?_, ?_⟩
        · rw [upd_ne (ne_of_none eb nD)]; exact s1 _ _ eb
        · rw [List.map_append]; exact upd_same
        · rw [List.length_append, List.length_singleton]; omega
        · rw [tk, worth_snoc, if_pos e, List.sum_append, hs]
          simp
      | false =>
        refine iteF ⟨ns, s1, hD, by omega, ?_⟩
        rw [tk, worth_snoc, if_neg (by rw [e]; exact Bool.false_ne_true), hs]
        simp
    · rintro H1 ⟨ns, s1, hD, hl, hs⟩
      rw [List.length_map, lp, List.take_length] at hs
      refine ⟨D, ns, rfl, SqL.of hD, ?_⟩
      rw [hs]
      exact k _ s1
end WP

/-! valued_ends. -/
namespace WP
open PySem L2 WE
open Pn (Task)
open WM (Cl HGood)
variable {P : Program} {w : World} {K : PySem.W.Frag} {mg : Str → Option Value} {base : Heap} {CA CH : Addr}

/-- (worth, way) of each state -/
def valued (ws : Pn11.Worth) (L : WD.Row) : WD.Row := L.map fun p => (Pn11.worth ws p.1, p.2)

def spValued (K : PySem.W.Frag) (CA CH : Addr) : Sp := fun vs H Q _ => ∃ (p la lw : Addr) (h : Pn11.House), vs = [.ref p] ∧ HouseAt CA CH H p la lw h ∧ HGood h ∧
  ∀ (H' : Hp) (r : Addr) (xs : List V) (L : WD.Row), Same H H' → H r = none → H' r = some (.lst xs) → L.length ≤ 64 → (∀ m c, (m, c) ∈ L ↔ WM.Least h.task h.task.start m c) → Paired (WayAt K H') (valued h.worth L) xs → Q (.ref r) H'
theorem scValued : FnScope ["self", "ends", "state", "end"] ["self"] (defScope sValued) := ⟨rfl, rfl, rfl, by decide +kernel, rfl, by decide +kernel, by decide +kernel⟩
theorem ok_valued {f f1 : Addr} {fd fd1 : FuncData} (F : Fun K "valued_ends" "House.valued_ends" sValued f fd) (T : HouseT K CH) (DC : Def P w K mg base "cheapest_ends" 4 ["first_state", "acts"] (spCheapest K CA))
    (G1 : FnOk P w K mg base CX0 2 f1 fd1 ["self", "state"] (spWorthOf CA CH)) (b1 : Binds K fd1 ["self", "state"] []) (m1 : Meth K CH "worth_of" f1) : FnOk P w K mg base CX0 5 f fd ["self"] (spValued K CA CH) := by
  refine F.ok scValued (fun vs H Q E h => ?_) (fun cdv A outer s H vs Q E hr h => ?_)
  · obtain ⟨p, la, lw, h, rfl, _⟩ := h
    rfl
  · obtain ⟨p, la, lw, h, rfl, hh, hg, k⟩ := h
    have hr2 : Room 2 _ := hr.mono (by decide)
    refine ⟨_, pss_cons (ps_set (i := 1) scValued.nd rfl (.inl rfl) (pe_def DC hr (by rfl) (pa_cons (pe_fld (pv 0) rfl) (pa_cons (pe_fld (pv 0) rfl) pa_nil))))
      (pss_one (ps_lock (ps_ret (pe_lc (own := [("state", 2), ("end", 3)]) (g := gTup K 2 (gCons (gName 2) (gCons (gName 3) gNil))) (tt := tYes) (te := tTup (tCons (tMeth CH "worth_of" (spWorthOf CA CH) [] E0 (tVar 0) (tCons (tVar 2) tNil)) (tCons (tVar 3) tNil))) rfl scValued.nd (pi_items (pv 1))
        (blkOk_by (own := [("state", 2), ("end", 3)]) (N := ["self", "ends", "state", "end"]) (sc := defScope sValued) (by decide +kernel))
        (fun _ _ _ _ _ => pg_tup rfl (pgs_cons (pg_name (i := 2) scValued.nd rfl (Or.inl rfl)) (pgs_cons (pg_name (i := 3) scValued.nd rfl (Or.inl rfl)) pgs_nil))) (fun _ _ _ _ _ => pts_nil)
        (fun _ _ _ _ _ => pe_tup (pa_cons (pe_meth (pv 0) T.cl m1 G1 hr2 b1 .nil pass0 (pa_cons (pv 2) pa_nil)) (pa_cons (pv 3) pa_nil))))))), ?_⟩
    obtain ⟨dx, hp⟩ := hh.ob
    refine ⟨_, rfl, p, CH, dx, _, _, rfl, hp, T.cl, T.n2, rfl, _, rfl, p, CH, dx, _, _, rfl, hp, T.cl, T.n3, rfl, la, h.task, rfl, hh.acts, hg.acts, hg.f6, hg.good, fun H1 d L s1 nd hL l64 hl => ?_⟩
    obtain ⟨kvs, hd, hkv⟩ := hL
    have len : kvs.length = L.length := (paired_len hkv).symm
    refine ⟨d, _, hd, trivial, fun od => ?_⟩
    let H2 : Hp := upd H1 d (.frz od (.dK kvs))
    have s2 : Same H H2 := fun b o e => by show upd H1 d _ b = _; rw [upd_ne (ne_of_none e nd)]; exact s1 b o e
    have t2 : ∀ b ys, SqT K H1 b ys → SqT K H2 b ys := sqT_but hd (fun _ z => by cases z) (fun _ _ z => by cases z) but_upd
    refine ⟨_, rfl, d, od, kvs, rfl, upd_same, fun D nD => ?_⟩
    obtain ⟨nDd, nD1⟩ := lock_none nD
    have sD : Same H2 (upd H2 D (.lst [])) := upd_new nD
    refine lc_it (walk_items (d := d) (o := od) (kvs := kvs)) (fun i H' => ∃ xs, Same H2 H' ∧ H' D = some (.lst xs) ∧ Paired (WayAt K H') (valued h.worth (L.take i)) xs) ⟨[], sD, upd_same, .nil⟩
      (fun i H' _ ⟨xs, s3, _⟩ => s3 _ _ upd_same) ?_ ?_
    · rintro i x H3 H4 hi ⟨xs, s3, hD, hxs⟩ ⟨T0, u1, u2, rfl, nT, rfl, hu1, hu2⟩
      have gk : kvs[i]? = some kvs[i] := List.getElem?_eq_getElem hi
      obtain ⟨q, gq, eq1, eq2⟩ := paired_get hkv gk
      have hu1 : u1 = .int (q.1 : Int) := by
        have : (kvs[i]?.map fun kv => kV kv.1) = some u1 := hu1
        rw [gk] at this
        have : u1 = kV kvs[i].1 := (Option.some.inj this).symm
        rw [this, eq1]; rfl
      have hu2 : u2 = kvs[i].2 := by
        have : (kvs[i]?.map Prod.snd) = some u2 := hu2
        rw [gk] at this
        exact (Option.some.inj this).symm
      subst hu1 hu2
      have sT : Same H3 (upd H3 T0 (.tup [.int (q.1 : Int), kvs[i].2])) := upd_new nT
      refine ⟨T0, _, rfl, SqT.of upd_same, rfl, _, _, rfl, _, _, rfl, rfl, rfl, ?_⟩
      have s4 : Same H (upd H3 T0 (.tup [.int (q.1 : Int), kvs[i].2])) := (s2.trans s3).trans sT
      refine ⟨_, rfl, p, dx, _, rfl, s4 _ _ hp, rfl, _, rfl, p, la, lw, q.1, h, rfl, hh.same s4, hg.wors, fun H5 s5 => ?_⟩
      have s35 : Same H3 H5 := sT.trans s5
      refine ⟨_, rfl, (by show 2 ≤ sizeLine; decide), fun r nr => ?_⟩
      let H6 : Hp := upd H5 r (.tup [.int ((Pn11.worth h.worth q.1 : Nat) : Int), kvs[i].2])
      have s56 : Same H5 H6 := upd_new nr
      have s36 : Same H3 H6 := s35.trans s56
      have hD6 : H6 D = some (.lst xs) := s36 _ _ hD
      have xl : xs.length ≤ i := by rw [← paired_len hxs]; unfold valued; simp; omega
      refine ⟨xs, hD6, small1000 (by omega), ?_⟩
      have bt : ∀ b ys, SqT K H6 b ys → SqT K (upd H6 D (.lst (xs ++ [.ref r]))) b ys := sqT_but hD6 (fun _ z => by cases z) (fun _ _ z => by cases z) but_upd
      refine ⟨xs ++ [.ref r], fun b o e => ?_, upd_same, ?_⟩
      · rw [upd_ne (ne_of_none e nD)]
        exact s36 _ _ (s3 _ _ e)
      · rw [take_snoc gq]
        unfold valued
        rw [List.map_append]
        refine Paired.snoc (paired_map hxs fun p v z => eWay.keep _ _ _ _ _ bt (z.same s36)) ?_
        refine eWay.keep _ _ _ _ _ bt (WayAt.mk (SqT.of upd_same) ?_)
        exact eEnd.keep _ _ _ _ _ (fun b ys z => sqT_same (s3.trans s36) _ _ (t2 _ _ z)) eq2
    · rintro H3 ⟨xs, s3, hD, hxs⟩
      rw [len, List.take_length] at hxs
      refine ⟨s3 _ _ upd_same, ?_⟩
      have bt : ∀ b ys, SqT K H3 b ys → SqT K (upd H3 d (.dK kvs)) b ys := sqT_but (s3 _ _ upd_same) (fun _ z => by cases z) (fun _ _ z => by cases z) but_upd
      refine k _ D xs L (fun b o e => ?_) (s1.free nD1) (by rw [upd_ne nDd]; exact hD) l64 hl (paired_map hxs fun p v z => eWay.keep _ _ _ _ _ bt z)
      rw [upd_ne (ne_of_none e nd)]
      exact s3 _ _ (s2 _ _ e)
end WP

/-! best. -/
namespace WP
open PySem L2 WE
open Pn (Task)
open WM (Cl HGood)
variable {P : Program} {w : World} {K : PySem.W.Frag} {mg : Str → Option Value} {base : Heap} {CA CH : Addr}

theorem mem_valued {ws : Pn11.Worth} {L : WD.Row} {p : Nat × Cl} : p ∈ valued ws L ↔ ∃ m c, (m, c) ∈ L ∧ p = (Pn11.worth ws m, c) := by
  unfold valued
  rw [List.mem_map]
  constructor
  · rintro ⟨⟨m, c⟩, h, rfl⟩
    exact ⟨m, c, h, rfl⟩
  · rintro ⟨m, c, h, rfl⟩
    exact ⟨(m, c), h, rfl⟩
theorem valued_len {ws : Pn11.Worth} {L : WD.Row} : (valued ws L).length = L.length := by unfold valued; simp
/-- what the search has found -/
def Found (t : Task) (L : WD.Row) : Prop := ∀ m c, (m, c) ∈ L ↔ WM.Least t t.start m c
def cheap (b : Nat) (p : Nat × Cl) : Bool := decide (p.2.1 ≤ b)
def rk1 (p : Nat × Cl) : Int × (Int × Int × List Int) := (-(p.1 : Int), enc p.2)
def toEnd (p : Nat × Cl) : Pn11.End := ⟨p.1, p.2.1, p.2.2⟩

theorem best_min {t : Task} {ws : Pn11.Worth} {L : WD.Row} {b : Nat} {p : Nat × Cl} (g : WM.Good t) (hl : Found t L) (hp : p ∈ (valued ws L).filter (cheap b))
    (hm : ∀ q ∈ (valued ws L).filter (cheap b), eWay.lt (rk1 q) (rk1 p) = false) : Pn11.best t ws b = some (toEnd p) := by
  obtain ⟨hp, hb⟩ := List.mem_filter.1 hp
  obtain ⟨m, c, hc, rfl⟩ := mem_valued.1 hp
  refine WM.best_is g ((hl m c).1 hc) (of_decide_eq_true hb) fun m' c' h' hb' => ?_
  have z := hm (Pn11.worth ws m', c') (List.mem_filter.2 ⟨mem_valued.2 ⟨m', c', (hl m' c').2 h', rfl⟩, decide_eq_true hb'⟩)
  have z : (if (-(Pn11.worth ws m' : Int)) = -(Pn11.worth ws m : Int) then eEnd.lt (enc c') (enc c) else decide (-(Pn11.worth ws m' : Int) < -(Pn11.worth ws m : Int))) = false := z
  rw [WM.over_false]
  show Pn11.worth ws m' ≤ Pn11.worth ws m ∧ (Pn11.worth ws m' = Pn11.worth ws m → Pn11.better c' c = false)
  by_cases e : (Pn11.worth ws m' : Int) = Pn11.worth ws m
  · rw [if_pos (by omega), lt_better] at z
    exact ⟨by omega, fun _ => z⟩
  · rw [if_neg (by omega)] at z
    have z := of_decide_eq_false z
    exact ⟨by omega, fun q => absurd (by omega) e⟩

theorem filter_snoc {T : Type} {l : List T} {i : Nat} {x : T} {f : T → Bool} (h : l[i]? = some x) : (l.take (i + 1)).filter f = (l.take i).filter f ++ (if f x = true then [x] else []) := by
  rw [take_snoc h, List.filter_append]
  congr 1
  cases e : f x <;> simp [e]

def spBest (CA CH : Addr) : Sp := fun vs H Q _ => ∃ (p : Addr) (b : Nat), vs = [.ref p, .int b] ∧ Ans CA CH (.best b) H p Q
theorem scBest : FnScope ["self", "spent", "ranked", "chosen", "end", "much"] ["self", "spent"] (defScope sBest) := ⟨rfl, rfl, rfl, by decide +kernel, rfl, by decide +kernel, by decide +kernel⟩
theorem ok_best {f f1 : Addr} {fd fd1 : FuncData} (F : Fun K "best" "House.best" sBest f fd) (T : HouseT K CH) (zmin : mg "min" = none) (zlist : mg "list" = none)
    (G1 : FnOk P w K mg base CX0 5 f1 fd1 ["self"] (spValued K CA CH)) (b1 : Binds K fd1 ["self"] []) (m1 : Meth K CH "valued_ends" f1) : FnOk P w K mg base CX0 6 f fd ["self", "spent"] (spBest CA CH) := by
  refine F.ok scBest (fun vs H Q E h => ?_) (fun cdv A outer s H vs Q E hr h => ?_)
  · obtain ⟨p, b, rfl, _⟩ := h
    rfl
  · obtain ⟨p, b, rfl, la, lw, h, hh, hg, k⟩ := h
    refine ⟨_, pss_cons (ps_setLc (i := 2) (own := [("much", 5), ("end", 4)]) (g := gTup K 2 (gCons (gName 5) (gCons (gName 4) gNil))) (tt := tTest (tOp (rI0 fun i j => .bl (decide (i ≤ j))) (tOp (rIxT K) (tVar 4) (tC (.int 0))) (tVar 1)))
        (te := tTup (tCons (tUn (rU fun i => .int (-i)) (tVar 5)) (tCons (tVar 4) tNil))) rfl scBest.nd rfl rfl (sw_true rfl rfl rfl (by decide +kernel)) (pi_list (pe_meth0 (pv 0) T.cl m1 G1 hr b1 .nil pass0))
        (blkOk_by (own := [("much", 5), ("end", 4)]) (N := ["self", "spent", "ranked", "chosen", "end", "much"]) (sc := defScope sBest) (by decide +kernel))
        (fun _ _ _ _ _ => pg_tup rfl (pgs_cons (pg_name (i := 5) scBest.nd rfl (Or.inl rfl)) (pgs_cons (pg_name (i := 4) scBest.nd rfl (Or.inl rfl)) pgs_nil)))
        (fun _ _ _ _ _ => pts_one (pt_cmpR op_le (pe_ix ix_tup (pv 4) pe_int (fun _ _ => rfl)) (pv 1) (nomark _)))
        (fun _ _ _ _ _ => pe_tup (pa_cons (pe_un un_neg (pv 5)) (pa_cons (pv 4) pa_nil))))
      (pss_cons (ps_set (i := 3) scBest.nd rfl (.inl rfl) (pe_callB (cr_minE eWay rfl (hu4 hr)) (by rfl) zmin (by decide +kernel) (pa_cons (pv 2) pa_nil)))
      (pss_cons (ps_set (i := 4) scBest.nd rfl (.inl rfl) (pe_ix ix_tup (pv 3) pe_int (fun _ _ => rfl)))
      (pss_one (ps_ret (pe_op op_cat (pe_lst (pa_cons (pe_un un_neg (pe_ix ix_tup (pv 3) pe_int (fun _ _ => rfl))) (pa_cons (pe_ix ix_tup (pv 4) pe_int (fun _ _ => rfl)) pa_nil)))
        (pe_callTy call_list_of (by rfl) zlist (by decide +kernel) (pa_cons (pe_ix ix_tup (pv 4) pe_int (fun _ _ => rfl)) pa_nil))))))), ?_⟩
    obtain ⟨dx, hp⟩ := hh.ob
    refine ⟨_, rfl, p, dx, _, rfl, hp, rfl, p, la, lw, h, rfl, hh, hg, fun H1 r xs L s1 nr hr1 l64 hl hxs => ?_⟩
    have vl : (valued h.worth L).length ≤ 64 := by rw [valued_len]; exact l64
    have xl : xs.length = (valued h.worth L).length := (paired_len hxs).symm
    refine ⟨r, rfl, ⟨_, SqL.of hr1⟩, fun D nD => lc_list (K := K) (a := r) (xs := xs) (fun i H' => ∃ ys, Same H1 H' ∧ H' D = some (.lst ys) ∧ Paired (eWay.At K H') ((((valued h.worth L).take i).filter (cheap b)).map rk1) ys) ⟨[], upd_new nD, upd_same, .nil⟩
      (fun i H' _ ⟨_, s2, _⟩ => SqL.of (s2 _ _ hr1)) ?_ ?_⟩
    · rintro i x H2 hi ⟨ys, s2, hD, hys⟩
      obtain ⟨q, gq, wq⟩ := paired_get hxs hi
      obtain ⟨a, u, rfl, hT, hE⟩ := wq.open
      obtain ⟨pe, qe, rfl, e1, e2⟩ := hE.open
      refine ⟨a, _, rfl, sqT_same s2 _ _ hT, rfl, _, _, rfl, _, _, rfl, rfl, rfl, ?_⟩
      refine ⟨_, rfl, pe, _, _, _, rfl, rfl, sqT_same s2 _ _ e1, atI_nat (j := 0) rfl, _, rfl, _, _, rfl, rfl, _, rfl, ?_⟩
      have ec : decide ((q.2.1 : Int) ≤ (b : Int)) = cheap b q := decide_eq_decide.mpr (by omega)
      show if decide ((q.2.1 : Int) ≤ (b : Int)) = true then _ else _
      rw [ec]
      have il : i < 64 := by have := (List.getElem?_eq_some_iff.mp hi).1; omega
      have yl : ys.length ≤ i := by
        rw [← paired_len hys, List.length_map]
        exact Nat.le_trans (List.length_filter_le _ _) (by simp; omega)
      cases hc : cheap b q with
      | false =>
        refine iteF ⟨ys, s2, hD, ?_⟩
        rw [filter_snoc gq, hc]
        simpa using hys
      | true =>
        refine iteT ⟨_, rfl, _, rfl, _, rfl, (by show 2 ≤ sizeLine; decide), fun t nt => ?_⟩
        let H3 : Hp := upd H2 t (.tup [.int (-(q.1 : Int)), .ref pe])
        have s3 : Same H2 H3 := upd_new nt
        have hD3 : H3 D = some (.lst ys) := s3 _ _ hD
        refine ⟨ys, hD3, small1000 (by omega), ?_⟩
        have bt : ∀ b zs, SqT K H3 b zs → SqT K (upd H3 D (.lst (ys ++ [.ref t]))) b zs := sqT_but hD3 (fun _ z => by cases z) (fun _ _ z => by cases z) but_upd
        refine ⟨ys ++ [.ref t], fun b o e => ?_, upd_same, ?_⟩
        · rw [upd_ne (ne_of_none e nD)]
          exact s3 _ _ (s2 _ _ e)
        · rw [filter_snoc gq, hc, if_pos rfl, List.map_append]
          refine Paired.snoc (paired_map hys fun p v z => eWay.keep _ _ _ _ _ bt (eWay.keep _ _ _ _ _ (sqT_same s3) z)) ?_
          refine eWay.keep _ _ _ _ _ bt ⟨t, _, _, rfl, SqT.of upd_same, rfl, ?_⟩
          exact eEnd.keep _ _ _ _ _ (sqT_same (s2.trans s3)) hE
    · rintro H2 ⟨ys, s2, hD, hys⟩
      rw [xl, List.take_length] at hys
      have g := hg.good
      have ne : (((valued h.worth L).filter (cheap b)).map rk1) ≠ [] := by
        have m0 : (Pn11.worth h.worth h.task.start, ((0, []) : Cl)) ∈ (valued h.worth L).filter (cheap b) := List.mem_filter.2 ⟨mem_valued.2 ⟨_, _, (hl _ _).2 WM.nil_least, rfl⟩, decide_eq_true (Nat.zero_le _)⟩
        intro z
        rw [List.map_eq_nil_iff] at z
        rw [z] at m0
        cases m0
      refine ⟨_, rfl, D, ys, _, rfl, SqL.of hD, hys, ne, fun i m y gm gy hm => ?_⟩
      obtain ⟨m', gm', am⟩ := paired_get hys gy
      rw [gm] at gm'; cases gm'
      rw [List.getElem?_map] at gm
      cases gL : ((valued h.worth L).filter (cheap b))[i]? with
      | none => rw [gL] at gm; cases gm
      | some q =>
        rw [gL] at gm
        cases gm
        have hq := List.mem_of_getElem? gL
        have hb := best_min g hl hq fun q' hq' => hm _ (List.mem_map_of_mem hq')
        obtain ⟨m, c, hc, eq⟩ := mem_valued.1 (List.mem_filter.1 hq).1
        obtain ⟨t, u, z, rfl, h1, h2, h3⟩ := am
        have h2 : u = .int (-(q.1 : Int)) := h2
        subst h2
        have h3 : EndAt K H2 q.2 z := h3
        obtain ⟨pe, qe, rfl, e1, e2⟩ := h3.open
        have cl : q.2.2.length < 64 := by
          rw [eq]
          exact Nat.lt_of_lt_of_le (WM.Least.short g g.start _ m c rfl ((hl m c).1 hc)) (pow6 hg.f6)
        refine ⟨_, rfl, t, _, _, _, rfl, rfl, h1, atI_nat (j := 1) rfl, ?_⟩
        refine ⟨_, rfl, t, _, _, _, rfl, rfl, h1, atI_nat (j := 0) rfl, _, rfl, _, rfl, pe, _, _, _, rfl, rfl, e1, atI_nat (j := 0) rfl, (by show 2 ≤ sizeLine; decide), fun l1 nl1 => ?_⟩
        have t1 : Same H2 (upd H2 l1 (.lst [.int (-(-(q.1 : Int))), .int (q.2.1 : Int)])) := upd_new nl1
        refine ⟨_, rfl, pe, _, _, _, rfl, rfl, sqT_same t1 _ _ e1, atI_nat (j := 2) rfl, qe, _, rfl, .inr (sqT_same t1 _ _ e2), fun l2 nl2 => ?_⟩
        have t2 : Same (upd H2 l1 (.lst [.int (-(-(q.1 : Int))), .int (q.2.1 : Int)])) (upd (upd H2 l1 (.lst [.int (-(-(q.1 : Int))), .int (q.2.1 : Int)])) l2 (.lst (nV q.2.2))) := upd_new nl2
        refine ⟨l1, l2, _, _, rfl, rfl, t2 _ _ upd_same, upd_same, (by rw [nV_len]; show 2 + q.2.2.length ≤ sizeLine; exact Nat.le_of_lt (small1000 (by omega))), fun l3 nl3 => ?_⟩
        have sA := ((s1.trans s2).trans t1).trans t2
        refine ans_same hh rfl ?_ (sA.trans (upd_new nl3)) (sA.free nl3) upd_same k
        show ((Pn11Neutral.out (match Pn11.best h.task h.worth b with | none => Pn11.ok (-6) | some e => ⟨(e.w : Nat), e.c :: e.l⟩)).map V.int) = _
        rw [hb]
        show V.int (q.1 : Int) :: V.int (q.2.1 : Int) :: ((q.2.2.map fun (n : Nat) => (n : Int)).map V.int) = _
        rw [Int.neg_neg, List.map_map]
        rfl
end WP

/-! least, net. -/
namespace WP
open PySem L2 WE
open Pn (Task)
open WM (Cl HGood)
variable {P : Program} {w : World} {K : PySem.W.Frag} {mg : Str → Option Value} {base : Heap} {CA CH : Addr}

def rich (n : Nat) (p : Nat × Cl) : Bool := decide (n ≤ p.1)
theorem least_min {t : Task} {ws : Pn11.Worth} {L : WD.Row} {n : Nat} {p : Nat × Cl} (g : WM.Good t) (hl : Found t L) (hp : p ∈ (valued ws L).filter (rich n))
    (hm : ∀ q ∈ (valued ws L).filter (rich n), eLow.lt (low q) (low p) = false) : Pn11.least t ws n = some (toEnd p) := by
  obtain ⟨hp, hb⟩ := List.mem_filter.1 hp
  obtain ⟨m, c, hc, rfl⟩ := mem_valued.1 hp
  refine WM.least_is g ((hl m c).1 hc) (of_decide_eq_true hb) fun m' c' h' hb' => ?_
  exact low_le (hm (Pn11.worth ws m', c') (List.mem_filter.2 ⟨mem_valued.2 ⟨m', c', (hl m' c').2 h', rfl⟩, decide_eq_true hb'⟩))
theorem least_no {t : Task} {ws : Pn11.Worth} {L : WD.Row} {n : Nat} (g : WM.Good t) (hl : Found t L) (e : (valued ws L).filter (rich n) = []) : Pn11.least t ws n = none := by
  refine WM.least_none g fun m c h z => ?_
  have : (Pn11.worth ws m, c) ∈ (valued ws L).filter (rich n) := List.mem_filter.2 ⟨mem_valued.2 ⟨m, c, (hl m c).2 h, rfl⟩, decide_eq_true z⟩
  rw [e] at this
  cases this

/-- (what is left, below 0; the way; its worth) -/
def eNet : Enc (Int × (Int × Int × List Int) × Int) := eTri eInt eEnd eInt
def rk3 (p : Nat × Cl) : Int × (Int × Int × List Int) × Int := ((p.2.1 : Int) - (p.1 : Int), enc p.2, (p.1 : Int))
theorem net_min {t : Task} {ws : Pn11.Worth} {L : WD.Row} {p : Nat × Cl} (g : WM.Good t) (hl : Found t L) (hp : p ∈ valued ws L)
    (hm : ∀ q ∈ valued ws L, eNet.lt (rk3 q) (rk3 p) = false) : Pn11.net t ws = some (toEnd p) := by
  obtain ⟨m, c, hc, rfl⟩ := mem_valued.1 hp
  refine WM.net_is g ((hl m c).1 hc) fun m' c' h' => ?_
  have z := hm (Pn11.worth ws m', c') (mem_valued.2 ⟨m', c', (hl m' c').2 h', rfl⟩)
  have z : (if (c'.1 : Int) - (Pn11.worth ws m' : Int) = (c.1 : Int) - (Pn11.worth ws m : Int) then (if enc c' = enc c then decide ((Pn11.worth ws m' : Int) < (Pn11.worth ws m : Int)) else eEnd.lt (enc c') (enc c))
    else decide ((c'.1 : Int) - (Pn11.worth ws m' : Int) < (c.1 : Int) - (Pn11.worth ws m : Int))) = false := z
  rw [WM.left_false]
  show (Pn11.worth ws m' : Int) - (c'.1 : Int) ≤ (Pn11.worth ws m : Int) - (c.1 : Int) ∧ ((Pn11.worth ws m' : Int) - (c'.1 : Int) = (Pn11.worth ws m : Int) - (c.1 : Int) → Pn11.better c' c = false)
  by_cases e : (c'.1 : Int) - (Pn11.worth ws m' : Int) = (c.1 : Int) - (Pn11.worth ws m : Int)
  · rw [if_pos e] at z
    refine ⟨by omega, fun _ => ?_⟩
    by_cases e2 : enc c' = enc c
    · rw [enc_inj e2]; exact WM.better_irrefl c
    · rw [if_neg e2, lt_better] at z
      exact z
  · rw [if_neg e] at z
    have z := of_decide_eq_false z
    exact ⟨by omega, fun q => absurd (by omega) e⟩

def spLeast (CA CH : Addr) : Sp := fun vs H Q _ => ∃ (p : Addr) (b : Nat), vs = [.ref p, .int b] ∧ Ans CA CH (.least b) H p Q
theorem scLeast : FnScope ["self", "much", "ranked", "chosen", "end", "had"] ["self", "much"] (defScope sLeast) := ⟨rfl, rfl, rfl, by decide +kernel, rfl, by decide +kernel, by decide +kernel⟩
theorem ok_least {f f1 : Addr} {fd fd1 : FuncData} {t1 : Tok} (F : Fun K "least" "House.least" sLeast f fd) (T : HouseT K CH) (zlen : mg "len" = none) (zmin : mg "min" = none) (zlist : mg "list" = none) (gN : mg "NEVER_SO_MUCH" = some (.int (-6) t1))
    (G1 : FnOk P w K mg base CX0 5 f1 fd1 ["self"] (spValued K CA CH)) (b1 : Binds K fd1 ["self"] []) (m1 : Meth K CH "valued_ends" f1) : FnOk P w K mg base CX0 6 f fd ["self", "much"] (spLeast CA CH) := by
  refine F.ok scLeast (fun vs H Q E h => ?_) (fun cdv A outer s H vs Q E hr h => ?_)
  · obtain ⟨p, b, rfl, _⟩ := h
    rfl
  · obtain ⟨p, b, rfl, la, lw, h, hh, hg, k⟩ := h
    refine ⟨_, pss_cons (ps_setLc (i := 2) (own := [("had", 5), ("end", 4)]) (g := gTup K 2 (gCons (gName 5) (gCons (gName 4) gNil))) (tt := tTest (tOp (rI0 fun i j => .bl (decide (j ≤ i))) (tVar 5) (tVar 1)))
        (te := tTup (tCons (tVar 4) (tCons (tVar 5) tNil))) rfl scLeast.nd rfl rfl (sw_true rfl rfl rfl (by decide +kernel)) (pi_list (pe_meth0 (pv 0) T.cl m1 G1 hr b1 .nil pass0))
        (blkOk_by (own := [("had", 5), ("end", 4)]) (N := ["self", "much", "ranked", "chosen", "end", "had"]) (sc := defScope sLeast) (by decide +kernel))
        (fun _ _ _ _ _ => pg_tup rfl (pgs_cons (pg_name (i := 5) scLeast.nd rfl (Or.inl rfl)) (pgs_cons (pg_name (i := 4) scLeast.nd rfl (Or.inl rfl)) pgs_nil)))
        (fun _ _ _ _ _ => pts_one (pt_cmpR op_ge (pv 5) (pv 1) (nomark _)))
        (fun _ _ _ _ _ => pe_tup (pa_cons (pv 4) (pa_cons (pv 5) pa_nil))))
      (pss_cons (ps_if (pt_cmpR op_eq (pe_callB call_len_seq (by rfl) zlen PySem.boot_len (pa_cons (pv 2) pa_nil)) pe_int (nomark _)) (pss_one (ps_ret (pe_lst (pa_cons (pe_glob (v := .int (-6)) rfl gN ⟨_, rfl⟩) pa_nil)))) pss_nil)
      (pss_cons (ps_set (i := 3) scLeast.nd rfl (.inl rfl) (pe_callB (cr_minE eLow rfl (hu4 hr)) (by rfl) zmin (by decide +kernel) (pa_cons (pv 2) pa_nil)))
      (pss_cons (ps_set (i := 4) scLeast.nd rfl (.inl rfl) (pe_ix ix_tup (pv 3) pe_int (fun _ _ => rfl)))
      (pss_one (ps_ret (pe_op op_cat (pe_lst (pa_cons (pe_ix ix_tup (pv 4) pe_int (fun _ _ => rfl)) (pa_cons (pe_ix ix_tup (pv 3) pe_int (fun _ _ => rfl)) pa_nil)))
        (pe_callTy call_list_of (by rfl) zlist (by decide +kernel) (pa_cons (pe_ix ix_tup (pv 4) pe_int (fun _ _ => rfl)) pa_nil)))))))), ?_⟩
    obtain ⟨dx, hp⟩ := hh.ob
    refine ⟨_, rfl, p, dx, _, rfl, hp, rfl, p, la, lw, h, rfl, hh, hg, fun H1 r xs L s1 nr hr1 l64 hl hxs => ?_⟩
    have vl : (valued h.worth L).length ≤ 64 := by rw [valued_len]; exact l64
    have xl : xs.length = (valued h.worth L).length := (paired_len hxs).symm
    refine ⟨r, rfl, ⟨_, SqL.of hr1⟩, fun D nD => lc_list (K := K) (a := r) (xs := xs) (fun i H' => ∃ ys, Same H1 H' ∧ H' D = some (.lst ys) ∧ Paired (eLow.At K H') ((((valued h.worth L).take i).filter (rich b)).map low) ys) ⟨[], upd_new nD, upd_same, .nil⟩
      (fun i H' _ ⟨_, s2, _⟩ => SqL.of (s2 _ _ hr1)) ?_ ?_⟩
    · rintro i x H2 hi ⟨ys, s2, hD, hys⟩
      obtain ⟨q, gq, wq⟩ := paired_get hxs hi
      obtain ⟨a, u, rfl, hT, hE⟩ := wq.open
      obtain ⟨pe, qe, rfl, e1, e2⟩ := hE.open
      refine ⟨a, _, rfl, sqT_same s2 _ _ hT, rfl, _, _, rfl, _, _, rfl, rfl, rfl, ?_⟩
      refine ⟨_, rfl, _, rfl, _, _, rfl, rfl, _, rfl, ?_⟩
      have ec : decide ((b : Int) ≤ (q.1 : Int)) = rich b q := decide_eq_decide.mpr (by omega)
      show if decide ((b : Int) ≤ (q.1 : Int)) = true then _ else _
      rw [ec]
      have il : i < 64 := by have := (List.getElem?_eq_some_iff.mp hi).1; omega
      have yl : ys.length ≤ i := by
        rw [← paired_len hys, List.length_map]
        exact Nat.le_trans (List.length_filter_le _ _) (by simp; omega)
      cases hc : rich b q with
      | false =>
        refine iteF ⟨ys, s2, hD, ?_⟩
        rw [filter_snoc gq, hc]
        simpa using hys
      | true =>
        refine iteT ⟨_, rfl, _, rfl, (by show 2 ≤ sizeLine; decide), fun t nt => ?_⟩
        let H3 : Hp := upd H2 t (.tup [.ref pe, .int (q.1 : Int)])
        have s3 : Same H2 H3 := upd_new nt
        have hD3 : H3 D = some (.lst ys) := s3 _ _ hD
        refine ⟨ys, hD3, small1000 (by omega), ?_⟩
        have bt : ∀ b zs, SqT K H3 b zs → SqT K (upd H3 D (.lst (ys ++ [.ref t]))) b zs := sqT_but hD3 (fun _ z => by cases z) (fun _ _ z => by cases z) but_upd
        refine ⟨ys ++ [.ref t], fun b o e => ?_, upd_same, ?_⟩
        · rw [upd_ne (ne_of_none e nD)]
          exact s3 _ _ (s2 _ _ e)
        · rw [filter_snoc gq, hc, if_pos rfl, List.map_append]
          refine Paired.snoc (paired_map hys fun p v z => eLow.keep _ _ _ _ _ bt (eLow.keep _ _ _ _ _ (sqT_same s3) z)) ?_
          refine eLow.keep _ _ _ _ _ bt ⟨t, _, _, rfl, SqT.of upd_same, ?_, rfl⟩
          exact eEnd.keep _ _ _ _ _ (sqT_same (s2.trans s3)) hE
    · rintro H2 ⟨ys, s2, hD, hys⟩
      rw [xl, List.take_length] at hys
      have g := hg.good
      have yl : ys.length = ((valued h.worth L).filter (rich b)).length := by rw [← paired_len hys, List.length_map]
      refine ⟨_, rfl, D, ys, rfl, .inl (SqL.of hD), rfl, _, rfl, ?_⟩
      show if decide (V.int (ys.length : Int) = V.int 0) = true then _ else _
      by_cases e0 : (valued h.worth L).filter (rich b) = []
      · rw [decide_eq_true (by rw [yl, e0]; rfl)]
        refine iteT ⟨by show 1 ≤ sizeLine; decide, fun l nl => ?_⟩
        refine ans_same hh rfl ?_ ((s1.trans s2).trans (upd_new nl)) ((s1.trans s2).free nl) upd_same k
        show ((Pn11Neutral.out (match Pn11.least h.task h.worth b with | none => Pn11.ok (-6) | some e => ⟨(e.c : Nat), e.w :: e.l⟩)).map V.int) = _
        rw [least_no g hl e0]
        rfl
      have ne : (((valued h.worth L).filter (rich b)).map low) ≠ [] := fun z => e0 (List.map_eq_nil_iff.1 z)
      rw [decide_eq_false (by intro z; injection z with z; exact e0 (List.eq_nil_of_length_eq_zero (by omega)))]
      refine iteF ⟨_, rfl, D, ys, _, rfl, SqL.of hD, hys, ne, fun i m y gm gy hm => ?_⟩
      obtain ⟨m', gm', am⟩ := paired_get hys gy
      rw [gm] at gm'; cases gm'
      rw [List.getElem?_map] at gm
      cases gL : ((valued h.worth L).filter (rich b))[i]? with
      | none => rw [gL] at gm; cases gm
      | some q =>
        rw [gL] at gm
        cases gm
        have hq := List.mem_of_getElem? gL
        have hb := least_min g hl hq fun q' hq' => hm _ (List.mem_map_of_mem hq')
        obtain ⟨m, c, hc, eq⟩ := mem_valued.1 (List.mem_filter.1 hq).1
        obtain ⟨t, u, z, rfl, h1, h2, h3⟩ := am
        have h3 : z = .int (q.1 : Int) := h3
        subst h3
        have h2 : EndAt K H2 q.2 u := h2
        obtain ⟨pe, qe, rfl, e1, e2⟩ := h2.open
        have cl : q.2.2.length < 64 := by
          rw [eq]
          exact Nat.lt_of_lt_of_le (WM.Least.short g g.start _ m c rfl ((hl m c).1 hc)) (pow6 hg.f6)
        refine ⟨_, rfl, t, _, _, _, rfl, rfl, h1, atI_nat (j := 0) rfl, ?_⟩
        refine ⟨_, rfl, pe, _, _, _, rfl, rfl, e1, atI_nat (j := 0) rfl, _, rfl, t, _, _, _, rfl, rfl, h1, atI_nat (j := 1) rfl, (by show 2 ≤ sizeLine; decide), fun l1 nl1 => ?_⟩
        have t1 : Same H2 (upd H2 l1 (.lst [.int (q.2.1 : Int), .int (q.1 : Int)])) := upd_new nl1
        refine ⟨_, rfl, pe, _, _, _, rfl, rfl, sqT_same t1 _ _ e1, atI_nat (j := 2) rfl, qe, _, rfl, .inr (sqT_same t1 _ _ e2), fun l2 nl2 => ?_⟩
        have t2 : Same (upd H2 l1 (.lst [.int (q.2.1 : Int), .int (q.1 : Int)])) (upd (upd H2 l1 (.lst [.int (q.2.1 : Int), .int (q.1 : Int)])) l2 (.lst (nV q.2.2))) := upd_new nl2
        refine ⟨l1, l2, _, _, rfl, rfl, t2 _ _ upd_same, upd_same, (by rw [nV_len]; show 2 + q.2.2.length ≤ sizeLine; exact Nat.le_of_lt (small1000 (by omega))), fun l3 nl3 => ?_⟩
        have sA := ((s1.trans s2).trans t1).trans t2
        refine ans_same hh rfl ?_ (sA.trans (upd_new nl3)) (sA.free nl3) upd_same k
        show ((Pn11Neutral.out (match Pn11.least h.task h.worth b with | none => Pn11.ok (-6) | some e => ⟨(e.c : Nat), e.w :: e.l⟩)).map V.int) = _
        rw [hb]
        show V.int (q.2.1 : Int) :: V.int (q.1 : Int) :: ((q.2.2.map fun (n : Nat) => (n : Int)).map V.int) = _
        rw [List.map_map]
        rfl
end WP

/-! net. -/
namespace WP
open PySem L2 WE
open Pn (Task)
open WM (Cl HGood)
variable {P : Program} {w : World} {K : PySem.W.Frag} {mg : Str → Option Value} {base : Heap} {CA CH : Addr}

def spNet (CA CH : Addr) : Sp := fun vs H Q _ => ∃ (p : Addr), vs = [.ref p] ∧ Ans CA CH .net H p Q
theorem scNet : FnScope ["self", "ranked", "chosen", "end", "much"] ["self"] (defScope sNet) := ⟨rfl, rfl, rfl, by decide +kernel, rfl, by decide +kernel, by decide +kernel⟩
theorem ok_net {f f1 : Addr} {fd fd1 : FuncData} (F : Fun K "net" "House.net" sNet f fd) (T : HouseT K CH) (zmin : mg "min" = none) (zlist : mg "list" = none)
    (G1 : FnOk P w K mg base CX0 5 f1 fd1 ["self"] (spValued K CA CH)) (b1 : Binds K fd1 ["self"] []) (m1 : Meth K CH "valued_ends" f1) : FnOk P w K mg base CX0 6 f fd ["self"] (spNet CA CH) := by
  refine F.ok scNet (fun vs H Q E h => ?_) (fun cdv A outer s H vs Q E hr h => ?_)
  · obtain ⟨p, rfl, _⟩ := h
    rfl
  · obtain ⟨p, rfl, la, lw, h, hh, hg, k⟩ := h
    refine ⟨_, pss_cons (ps_setLc (i := 1) (own := [("much", 4), ("end", 3)]) (g := gTup K 2 (gCons (gName 4) (gCons (gName 3) gNil))) (tt := tYes)
        (te := tTup (tCons (tOp (rI0 fun i j => .int (i - j)) (tOp (rIxT K) (tVar 3) (tC (.int 0))) (tVar 4)) (tCons (tVar 3) (tCons (tVar 4) tNil)))) rfl scNet.nd rfl rfl (sw_true rfl rfl rfl (by decide +kernel)) (pi_list (pe_meth0 (pv 0) T.cl m1 G1 hr b1 .nil pass0))
        (blkOk_by (own := [("much", 4), ("end", 3)]) (N := ["self", "ranked", "chosen", "end", "much"]) (sc := defScope sNet) (by decide +kernel))
        (fun _ _ _ _ _ => pg_tup rfl (pgs_cons (pg_name (i := 4) scNet.nd rfl (Or.inl rfl)) (pgs_cons (pg_name (i := 3) scNet.nd rfl (Or.inl rfl)) pgs_nil)))
        (fun _ _ _ _ _ => pts_nil)
        (fun _ _ _ _ _ => pe_tup (pa_cons (pe_op op_sub (pe_ix ix_tup (pv 3) pe_int (fun _ _ => rfl)) (pv 4)) (pa_cons (pv 3) (pa_cons (pv 4) pa_nil)))))
      (pss_cons (ps_set (i := 2) scNet.nd rfl (.inl rfl) (pe_callB (cr_minE eNet rfl (hu4 hr)) (by rfl) zmin (by decide +kernel) (pa_cons (pv 1) pa_nil)))
      (pss_cons (ps_set (i := 3) scNet.nd rfl (.inl rfl) (pe_ix ix_tup (pv 2) pe_int (fun _ _ => rfl)))
      (pss_one (ps_ret (pe_op op_cat (pe_lst (pa_cons pe_int (pa_cons (pe_ix ix_tup (pv 2) pe_int (fun _ _ => rfl)) (pa_cons (pe_ix ix_tup (pv 3) pe_int (fun _ _ => rfl)) pa_nil))))
        (pe_callTy call_list_of (by rfl) zlist (by decide +kernel) (pa_cons (pe_ix ix_tup (pv 3) pe_int (fun _ _ => rfl)) pa_nil))))))), ?_⟩
    obtain ⟨dx, hp⟩ := hh.ob
    refine ⟨_, rfl, p, dx, _, rfl, hp, rfl, p, la, lw, h, rfl, hh, hg, fun H1 r xs L s1 nr hr1 l64 hl hxs => ?_⟩
    have vl : (valued h.worth L).length ≤ 64 := by rw [valued_len]; exact l64
    have xl : xs.length = (valued h.worth L).length := (paired_len hxs).symm
    refine ⟨r, rfl, ⟨_, SqL.of hr1⟩, fun D nD => lc_list (K := K) (a := r) (xs := xs) (fun i H' => ∃ ys, Same H1 H' ∧ H' D = some (.lst ys) ∧ Paired (eNet.At K H') (((valued h.worth L).take i).map rk3) ys) ⟨[], upd_new nD, upd_same, .nil⟩
      (fun i H' _ ⟨_, s2, _⟩ => SqL.of (s2 _ _ hr1)) ?_ ?_⟩
    · rintro i x H2 hi ⟨ys, s2, hD, hys⟩
      obtain ⟨q, gq, wq⟩ := paired_get hxs hi
      obtain ⟨a, u, rfl, hT, hE⟩ := wq.open
      obtain ⟨pe, qe, rfl, e1, e2⟩ := hE.open
      refine ⟨a, _, rfl, sqT_same s2 _ _ hT, rfl, _, _, rfl, _, _, rfl, rfl, rfl, ?_⟩
      have il : i < 64 := by have := (List.getElem?_eq_some_iff.mp hi).1; omega
      have yl : ys.length ≤ i := by
        rw [← paired_len hys, List.length_map]
        simp; omega
      refine ⟨_, rfl, pe, _, _, _, rfl, rfl, sqT_same s2 _ _ e1, atI_nat (j := 0) rfl, _, rfl, _, _, rfl, rfl, _, rfl, _, rfl, (by show 3 ≤ sizeLine; decide), fun t nt => ?_⟩
      let H3 : Hp := upd H2 t (.tup [.int ((q.2.1 : Int) - (q.1 : Int)), .ref pe, .int (q.1 : Int)])
      have s3 : Same H2 H3 := upd_new nt
      have hD3 : H3 D = some (.lst ys) := s3 _ _ hD
      refine ⟨ys, hD3, small1000 (by omega), ?_⟩
      have bt : ∀ b zs, SqT K H3 b zs → SqT K (upd H3 D (.lst (ys ++ [.ref t]))) b zs := sqT_but hD3 (fun _ z => by cases z) (fun _ _ z => by cases z) but_upd
      refine ⟨ys ++ [.ref t], fun b o e => ?_, upd_same, ?_⟩
      · rw [upd_ne (ne_of_none e nD)]
        exact s3 _ _ (s2 _ _ e)
      · rw [take_snoc gq, List.map_append]
        refine Paired.snoc (paired_map hys fun p v z => eNet.keep _ _ _ _ _ bt (eNet.keep _ _ _ _ _ (sqT_same s3) z)) ?_
        refine eNet.keep _ _ _ _ _ bt ⟨t, _, _, _, rfl, SqT.of upd_same, rfl, ?_, rfl⟩
        exact eEnd.keep _ _ _ _ _ (sqT_same (s2.trans s3)) hE
    · rintro H2 ⟨ys, s2, hD, hys⟩
      rw [xl, List.take_length] at hys
      have g := hg.good
      have ne : (valued h.worth L).map rk3 ≠ [] := by
        have m0 : (Pn11.worth h.worth h.task.start, ((0, []) : Cl)) ∈ valued h.worth L := mem_valued.2 ⟨_, _, (hl _ _).2 WM.nil_least, rfl⟩
        intro z
        rw [List.map_eq_nil_iff] at z
        rw [z] at m0
        cases m0
      refine ⟨_, rfl, D, ys, _, rfl, SqL.of hD, hys, ne, fun i m y gm gy hm => ?_⟩
      obtain ⟨m', gm', am⟩ := paired_get hys gy
      rw [gm] at gm'; cases gm'
      rw [List.getElem?_map] at gm
      cases gL : (valued h.worth L)[i]? with
      | none => rw [gL] at gm; cases gm
      | some q =>
        rw [gL] at gm
        cases gm
        have hq := List.mem_of_getElem? gL
        have hb := net_min g hl hq fun q' hq' => hm _ (List.mem_map_of_mem hq')
        obtain ⟨m, c, hc, eq⟩ := mem_valued.1 hq
        obtain ⟨t, u, z, o, rfl, h1, h2, h3, h4⟩ := am
        have h4 : o = .int (q.1 : Int) := h4
        subst h4
        have h3 : EndAt K H2 q.2 z := h3
        obtain ⟨pe, qe, rfl, e1, e2⟩ := h3.open
        have cl : q.2.2.length < 64 := by
          rw [eq]
          exact Nat.lt_of_lt_of_le (WM.Least.short g g.start _ m c rfl ((hl m c).1 hc)) (pow6 hg.f6)
        refine ⟨_, rfl, t, _, _, _, rfl, rfl, h1, atI_nat (j := 1) rfl, ?_⟩
        refine ⟨_, rfl, t, _, _, _, rfl, rfl, h1, atI_nat (j := 2) rfl, _, rfl, pe, _, _, _, rfl, rfl, e1, atI_nat (j := 0) rfl, (by show 3 ≤ sizeLine; decide), fun l1 nl1 => ?_⟩
        have t1 : Same H2 (upd H2 l1 (.lst [.int 0, .int (q.1 : Int), .int (q.2.1 : Int)])) := upd_new nl1
        refine ⟨_, rfl, pe, _, _, _, rfl, rfl, sqT_same t1 _ _ e1, atI_nat (j := 2) rfl, qe, _, rfl, .inr (sqT_same t1 _ _ e2), fun l2 nl2 => ?_⟩
        have t2 : Same (upd H2 l1 (.lst [.int 0, .int (q.1 : Int), .int (q.2.1 : Int)])) (upd (upd H2 l1 (.lst [.int 0, .int (q.1 : Int), .int (q.2.1 : Int)])) l2 (.lst (nV q.2.2))) := upd_new nl2
        refine ⟨l1, l2, _, _, rfl, rfl, t2 _ _ upd_same, upd_same, (by rw [nV_len]; show 3 + q.2.2.length ≤ sizeLine; exact Nat.le_of_lt (small1000 (by omega))), fun l3 nl3 => ?_⟩
        have sA := ((s1.trans s2).trans t1).trans t2
        refine ans_same hh rfl ?_ (sA.trans (upd_new nl3)) (sA.free nl3) upd_same k
        show ((Pn11Neutral.out (match Pn11.net h.task h.worth with | none => Pn11.ok (-6) | some e => ⟨0, e.w :: e.c :: e.l⟩)).map V.int) = _
        rw [hb]
        show V.int 0 :: V.int (q.1 : Int) :: V.int (q.2.1 : Int) :: ((q.2.2.map fun (n : Nat) => (n : Int)).map V.int) = _
        rw [List.map_map]
        rfl
end WP

/-! front_of. -/
namespace WP
open PySem L2 WE LamX
open Pn (Task)
open WM (Cl HGood)
open WS (PrAt tSortKey)
open WN (iP FInv)
variable {P : Program} {w : World} {K : PySem.W.Frag} {mg : Str → Option Value} {base : Heap} {CA CH : Addr}

/-- the name of the lambda's code -/
abbrev lamName : Str := ("front_of" : Str) ++ ".<locals>." ++ "<lambda>"
/-- none of what is tracked, tables aside -/
def Fresh (H : Hp) (r : Addr) : Prop := ∀ b o, H b = some o → (∀ ps, o ≠ .tbl ps) → b ≠ r
theorem fresh_none {H : Hp} {r : Addr} (h : H r = none) : Fresh H r := fun b o e _ => ne_of_none e h
theorem Fresh.ext {H H' : Hp} {r : Addr} (e : ExtN H H') (h : Fresh H' r) : Fresh H r := fun b o q n => h b o (e b o q n) n
theorem ext_same {H H' : Hp} (s : Same H H') : ExtN H H' := fun b o e _ => s b o e
theorem prAt_ext {H H' : Hp} (e : ∀ b ys, SqT K H b ys → SqT K H' b ys) {p : Int × Int} {x : V} (h : PrAt K H p x) : PrAt K H' p x := by
  obtain ⟨b, e1, e2⟩ := h
  exact ⟨b, e1, e b _ e2⟩

def spFrontOf (K : PySem.W.Frag) (TA : Addr) : Sp := fun vs H Q _ => ∃ (a : Addr) (ps : List (Nat × Nat)) (xs : List V), vs = [.ref a] ∧ SqL K H a xs ∧ Paired (PrAt K H) (ps.map iP) xs ∧ ps.length ≤ 64 ∧ TabS H TA lamName ∧
  ∀ (H' : Hp) (r : Addr) (zs : List V) (l : List (Nat × Nat)), ExtN H H' → Fresh H r → TabS H' TA lamName → H' r = some (.lst zs) → Paired (PrAt K H') (l.map iP) zs → l.length ≤ 64 → WM.rising l → (∀ p, p ∈ l ↔ p ∈ ps ∧ ∀ q ∈ ps, ¬ WM.beats q p) → Q (.ref r) H'
theorem scFrontOf : FnScope ["pairs", "kept", "cost", "much"] ["pairs"] (defScope sFrontOf) := ⟨rfl, rfl, rfl, by decide +kernel, rfl, by decide +kernel, by decide +kernel⟩
theorem ok_frontOf {f c TA : Addr} {oc : Value} {od an : Option Addr} {osl : Array (Option Value)} {kV doc pm ct : Value} (lk : K.lookup f = some ⟨oc, od, .func (PySem.W.fnOf "front_of" "front_of" (defArgs sFrontOf) (defBody sFrontOf) (defScope sFrontOf) .none kV doc pm an (.ref c) ct), osl⟩)
    (hcd : PySem.W.codeIn K (.ref c) "front_of" = true) (TB : TabB base mg c TA) (zlen : mg "len" = none) (zsort : mg "sorted" = none) :
    FnOk P w K mg base CX0 2 f (PySem.W.fnOf "front_of" "front_of" (defArgs sFrontOf) (defBody sFrontOf) (defScope sFrontOf) .none kV doc pm an (.ref c) ct) ["pairs"] (spFrontOf K TA) := by
  refine fn_of lk hcd scFrontOf (fun vs H Q E h => ?_) (fun A outer s H vs Q E hr h => ?_)
  · obtain ⟨a, ps, xs, rfl, _⟩ := h
    rfl
  · obtain ⟨a, ps, xs, rfl, ha, hps, h64, hT, k⟩ := h
    suffices z : ∃ t, PSs (cxOf CX0 P w K mg base ["pairs", "kept", "cost", "much"] "front_of" (defScope sFrontOf) f (.ref c) A outer s H E).nox (defBody sFrontOf) t ∧ t { nx := fun _ H' => Q .non H', rt := Q } (start ["pairs", "kept", "cost", "much"] [.ref a]) H by
      obtain ⟨t, h, q⟩ := z
      exact ⟨t, h.nox, q⟩
    refine ⟨_, pss_cons (ps_set (i := 1) scFrontOf.nd rfl (.inl rfl) (pe_lst pa_nil))
      (pss_cons (ps_for PassesOwn.never rfl (pi_list (WS.pe_sortKey hr TB rfl (by rfl) zsort (pv 0) (by decide +kernel))) (pg_tup rfl (pgs_cons (pg_name (i := 2) scFrontOf.nd rfl (.inl rfl)) (pgs_cons (pg_name (i := 3) scFrontOf.nd rfl (.inl rfl)) pgs_nil)))
        (pss_one (ps_if (PW.pt (pw_or (pt_cmpR op_eq (pe_callB call_len_seq (by rfl) zlen PySem.boot_len (pa_cons (pv 1) pa_nil)) pe_int (nomark _)) (pw_or1 (pt_cmpR op_gt (pv 3) (pe_ix ix_tup (pe_ix ix_list (pv 1) (pe_un un_neg pe_int) (fun _ _ => rfl)) pe_int (fun _ _ => rfl)) (nomark _)))))
          (pss_one (ps_expr (pe_bm PySem.F.plainAttrs_list PySem.F.slot_list_append PySem.F.type_list_append mt_append (pv 1) (pa_cons (pe_tup (pa_cons (pv 2) (pa_cons (pv 3) pa_nil))) pa_nil)))) pss_nil)))
      (pss_one (ps_ret (pv 1)))), ?_⟩
    refine ⟨Nat.zero_le _, fun r nr => ?_⟩
    have s0 : Same H (upd H r (.lst [])) := upd_new nr
    refine ⟨_, rfl, a, ps.map iP, xs, rfl, s0.seq ha, paired_map hps fun p x z => prAt_ext (sqT_same s0) z, hT.ext s0, fun H2 d ys eN hT2 nd hys => ?_⟩
    obtain ⟨S, eS, mS, pS, lS⟩ := WN.sorted_nat ps
    rw [eS] at hys
    let H3 : Hp := upd H2 d (.lst ys)
    have s3 : Same H2 H3 := upd_new nd
    have hr2 : H2 r = some (.lst []) := eN _ _ upd_same (fun _ z => by cases z)
    have rd : r ≠ d := ne_of_none hr2 nd
    have yl : ys.length = S.length := by rw [← paired_len hys, List.length_map]
    refine ⟨d, rfl, ⟨_, SqL.of upd_same⟩, for_list (K := K) (a := d) (xs := ys) (fun i σ H' => ∃ (x y : Option V) (zs : List V) (kept : List (Nat × Nat)), σ = [some (.ref a), some (.ref r), x, y] ∧ But r H3 H' ∧ H' r = some (.lst zs) ∧ Paired (PrAt K H') (kept.map iP) zs ∧ FInv (S.take i) kept ∧ kept.length ≤ i)
      ⟨none, none, [], [], rfl, fun b o e _ => e, s3 _ _ hr2, .nil, FInv.nil, Nat.le_refl _⟩ (fun i σ H' _ ⟨_, _, _, _, _, b, _⟩ => SqL.of (b _ _ upd_same rd.symm)) ?_ ?_⟩
    · rintro i x σ H4 hi ⟨x0, y0, zs, kept, rfl, b4, hr4, hz, hF, hk⟩
      have t4 : ∀ b ws, SqT K H3 b ws → SqT K H4 b ws := sqT_but (s3 _ _ hr2) (fun _ z => by cases z) (fun _ _ z => by cases z) b4
      obtain ⟨pi, gp, b, rfl, hb⟩ := paired_get hys hi
      rw [List.getElem?_map] at gp
      cases gS : S[i]? with
      | none => rw [gS] at gp; cases gp
      | some p =>
        rw [gS] at gp
        cases gp
        have il : i < 64 := by have := (List.getElem?_eq_some_iff.mp gS).1; omega
        have hbf := WN.before_at pS gS
        have hb4 := t4 _ _ (sqT_same s3 _ _ hb)
        refine ⟨b, _, rfl, hb4, rfl, _, _, rfl, _, _, rfl, rfl, ?_⟩
        refine ⟨_, rfl, r, _, rfl, .inl (SqL.of hr4), rfl, _, rfl, ?_⟩
        have zl : zs.length = kept.length := by rw [← paired_len hz, List.length_map]
        show if decide (V.int (zs.length : Int) = V.int 0) = true then _ else _
        -- the pair is kept
        have keep : (∀ q ∈ S.take i, q.2 < p.2) → ∀ (t : Addr), H4 t = none → ∃ l ws y, V.ref r = .ref l ∧ [V.ref t] = [y] ∧ upd H4 t (.tup [.int (p.1 : Int), .int (p.2 : Int)]) l = some (.lst ws) ∧ ws.length < sizeLine ∧
            ∃ (x y' : Option V) (zs : List V) (kept : List (Nat × Nat)), [some (V.ref a), some (V.ref r), some (V.int (p.1 : Int)), some (V.int (p.2 : Int))] = [some (.ref a), some (.ref r), x, y'] ∧ But r H3 (upd (upd H4 t (.tup [.int (p.1 : Int), .int (p.2 : Int)])) l (.lst (ws ++ [y]))) ∧
              upd (upd H4 t (.tup [.int (p.1 : Int), .int (p.2 : Int)])) l (.lst (ws ++ [y])) r = some (.lst zs) ∧ Paired (PrAt K (upd (upd H4 t (.tup [.int (p.1 : Int), .int (p.2 : Int)])) l (.lst (ws ++ [y])))) (kept.map iP) zs ∧ FInv (S.take (i + 1)) kept ∧ kept.length ≤ i + 1 := fun hbig t nt => by
          let H5 : Hp := upd H4 t (.tup [.int (p.1 : Int), .int (p.2 : Int)])
          have s5 : Same H4 H5 := upd_new nt
          have hr5 : H5 r = some (.lst zs) := s5 _ _ hr4
          have bt : ∀ b ws, SqT K H5 b ws → SqT K (upd H5 r (.lst (zs ++ [.ref t]))) b ws := sqT_but hr5 (fun _ z => by cases z) (fun _ _ z => by cases z) but_upd
          refine ⟨r, zs, .ref t, rfl, rfl, hr5, small1000 (by omega), _, _, zs ++ [.ref t], kept ++ [p], rfl, fun b o e n => ?_, upd_same, ?_, ?_, ?_⟩
          · rw [upd_ne n]
            exact s5 _ _ (b4 _ _ e n)
          · rw [List.map_append]
            refine Paired.snoc (paired_map hz fun p x z => prAt_ext bt (prAt_ext (sqT_same s5) z)) ?_
            exact prAt_ext bt ⟨t, rfl, SqT.of upd_same⟩
          · rw [take_snoc gS]
            exact hF.yes hbf hbig
          · rw [List.length_append, List.length_singleton]; omega
        rcases hF.top with ⟨rfl, e0⟩ | ⟨ks, l, rfl, top⟩
        · rw [decide_eq_true (by rw [zl]; rfl)]
          refine iteT (iteT ⟨_, rfl, .inl ⟨rfl, _, SqL.of hr4⟩, _, rfl, _, rfl, (by show 2 ≤ sizeLine; decide), fun t nt => ?_⟩)
          exact keep (fun q hq => by rw [e0] at hq; cases hq) t nt
        · rw [decide_eq_false (by rw [zl, List.length_append, List.length_singleton]; intro z; injection z with z; omega)]
          -- the last one's worth
          obtain ⟨zs', zl', rfl, b', rfl, hl'⟩ : ∃ zs' zl', zs = zs' ++ [zl'] ∧ PrAt K H4 (iP l) zl' := by
            rw [List.map_append] at hz
            have hne : zs ≠ [] := fun z => by rw [z] at zl; simp at zl
            have e := (List.dropLast_concat_getLast hne).symm
            refine ⟨zs.dropLast, zs.getLast hne, e, ?_⟩
            have g1 : zs[ks.length]? = some (zs.getLast hne) := by
              have : zs.length = ks.length + 1 := by rw [zl]; simp
              rw [List.getLast_eq_getElem, List.getElem?_eq_getElem (by omega)]
              congr 2
              omega
            obtain ⟨m, gm, hm⟩ := paired_get hz g1
            have : m = iP l := by
              rw [List.getElem?_append_right (by simp)] at gm
              simp at gm
              exact gm.symm
            rw [← this]
            exact hm
          refine iteF ⟨_, rfl, _, rfl, _, rfl, r, _, _, _, rfl, rfl, SqL.of hr4, atI_last _ _, b', _, _, _, rfl, rfl, hl', atI_nat (j := 1) rfl, _, _, rfl, rfl, _, rfl, ?_⟩
          show if decide ((l.2 : Int) < (p.2 : Int)) = true then _ else _
          by_cases c : l.2 < p.2
          · rw [decide_eq_true (by omega)]
            refine iteT ⟨_, rfl, .inl ⟨rfl, _, SqL.of hr4⟩, _, rfl, _, rfl, (by show 2 ≤ sizeLine; decide), fun t nt => ?_⟩
            exact keep (fun q hq => Nat.lt_of_le_of_lt (top q hq) c) t nt
          · rw [decide_eq_false (by omega)]
            refine iteF ⟨_, _, _, ks ++ [l], rfl, b4, hr4, hz, ?_, by omega⟩
            rw [take_snoc gS]
            exact hF.no hbf (by omega)
    · rintro σ H4 ⟨x0, y0, zs, kept, rfl, b4, hr4, hz, hF, hk⟩
      rw [yl, List.take_length] at hF
      obtain ⟨up, hm⟩ := hF.done mS
      have e34 : ExtN H H4 := fun b o e n => b4 b o (s3 _ _ (eN _ _ (s0 _ _ e) n)) (ne_of_none e nr)
      refine ⟨_, rfl, k H4 r zs kept e34 (fresh_none nr) ?_ hr4 hz (by omega) up hm⟩
      obtain ⟨qs, q1, q2, q3⟩ := hT2
      have n1 : TA ≠ r := ne_of q1 hr2 (by intro z; cases z)
      refine ⟨qs, b4 _ _ (s3 _ _ q1) n1, q2, fun pos cv hc => ?_⟩
      obtain ⟨cc, z1, z2⟩ := q3 pos cv hc
      exact ⟨cc, z1, b4 _ _ (s3 _ _ z2) (ne_of z2 hr2 (by unfold CodeO; intro z; cases z))⟩
end WP

/-! front. -/
namespace WP
open PySem L2 WE LamX
open Pn (Task)
open WM (Cl HGood)
open WS (PrAt)
open WN (iP)
variable {P : Program} {w : World} {K : PySem.W.Frag} {mg : Str → Option Value} {base : Heap} {CA CH : Addr}

theorem tab_but {H H' : Hp} {TA r : Addr} {q : Str} {zs : List V} (h : TabS H TA q) (hr : H r = some (.lst zs)) (b : But r H H') : TabS H' TA q := by
  obtain ⟨qs, q1, q2, q3⟩ := h
  refine ⟨qs, b _ _ q1 (ne_of q1 hr (by intro z; cases z)), q2, fun pos cv hc => ?_⟩
  obtain ⟨cc, z1, z2⟩ := q3 pos cv hc
  exact ⟨cc, z1, b _ _ z2 (ne_of z2 hr (by unfold CodeO; intro z; cases z))⟩
theorem HouseAt.ext {H H' : Hp} {p la lw : Addr} {h : Pn11.House} (x : HouseAt CA CH H p la lw h) (s : ExtN H H') : HouseAt CA CH H' p la lw h := by
  obtain ⟨⟨dx, h1⟩, ⟨pa, h2, h3⟩, ⟨ps, h4, h5⟩, h6⟩ := x
  have k : ∀ b o, H b = some o → (∀ ps, o ≠ .tbl ps) → H' b = some o := s
  exact ⟨⟨dx, k _ _ h1 (fun _ z => by cases z)⟩, ⟨pa, k _ _ h2 (fun _ z => by cases z), paired_map h3 fun a b ⟨dy, z⟩ => ⟨dy, k _ _ z (fun _ z => by cases z)⟩⟩, ⟨ps, k _ _ h4 (fun _ z => by cases z), paired_map h5 fun a b z => k _ _ z (fun _ z => by cases z)⟩, h6⟩

/-- what front answers: the house stays -/
def AnsT (CA CH TA : Addr) (H : Hp) (p : Addr) (Q : VK) : Prop := ∃ (la lw : Addr) (h : Pn11.House), HouseAt CA CH H p la lw h ∧ HGood h ∧ TabS H TA lamName ∧
  ∀ (H' : Hp) (r : Addr), HouseAt CA CH H' p la lw h → ExtN H H' → TabS H' TA lamName → Fresh H r → H' r = some (.lst ((Pn11Neutral.out (Pn11.step h .front).2).map V.int)) → Q (.ref r) H'

/-- (cost, worth) -/
def cw (q : Nat × Cl) : Nat × Nat := (q.2.1, q.1)
def flatV (l : List (Nat × Nat)) : List V := l.flatMap fun p => [V.int (p.1 : Int), V.int (p.2 : Int)]
theorem flat_len (l : List (Nat × Nat)) : (flatV l).length = 2 * l.length := by
  induction l with
  | nil => rfl
  | cons x l ih =>
    unfold flatV at *
    rw [List.flatMap_cons, List.length_append, ih, List.length_cons]
    simp
    omega
theorem front_out {h : Pn11.House} {l : List (Nat × Nat)} (e : Pn11.front h.task h.worth = l) : (Pn11Neutral.out (Pn11.step h .front).2).map V.int = V.int (l.length : Int) :: flatV l := by
  show ((Pn11Neutral.out ⟨((Pn11.front h.task h.worth).length : Nat), (Pn11.front h.task h.worth).flatMap fun x => [x.1, x.2]⟩).map V.int) = _
  rw [e]
  show V.int (l.length : Int) :: (((l.flatMap fun x => [x.1, x.2]).map fun (n : Nat) => (n : Int)).map V.int) = _
  congr 1
  unfold flatV
  rw [List.map_map, List.map_flatMap]
  rfl
theorem front_eq {t : Task} {ws : Pn11.Worth} {L : WD.Row} {l : List (Nat × Nat)} (g : WM.Good t) (hl : Found t L) (up : WM.rising l)
    (hm : ∀ p, p ∈ l ↔ p ∈ (valued ws L).map cw ∧ ∀ q ∈ (valued ws L).map cw, ¬ WM.beats q p) : Pn11.front t ws = l := by
  have ip : ∀ p, p ∈ (valued ws L).map cw ↔ WM.IsPair t ws p := fun p => by
    rw [List.mem_map]
    constructor
    · rintro ⟨q, hq, rfl⟩
      obtain ⟨m, c, hc, rfl⟩ := mem_valued.1 hq
      exact ⟨m, c, (hl m c).1 hc, rfl⟩
    · rintro ⟨m, c, hc, rfl⟩
      exact ⟨_, mem_valued.2 ⟨m, c, (hl m c).2 hc, rfl⟩, rfl⟩
  refine WM.front_is g up fun p => ?_
  rw [hm, ip]
  unfold WM.IsFront
  constructor
  · rintro ⟨h1, h2⟩
    exact ⟨h1, fun q hq => h2 q ((ip q).2 hq)⟩
  · rintro ⟨h1, h2⟩
    exact ⟨h1, fun q hq => h2 q ((ip q).1 hq)⟩

def spFront (CA CH TA : Addr) : Sp := fun vs H Q _ => ∃ (p : Addr), vs = [.ref p] ∧ AnsT CA CH TA H p Q
theorem scFront : FnScope ["self", "pairs", "answer", "cost", "much", "end"] ["self"] (defScope sFront) := ⟨rfl, rfl, rfl, by decide +kernel, rfl, by decide +kernel, by decide +kernel⟩
theorem ok_front {f f1 TA : Addr} {fd fd1 : FuncData} (F : Fun K "front" "House.front" sFront f fd) (T : HouseT K CH) (zlen : mg "len" = none) (DF : Def P w K mg base "front_of" 2 ["pairs"] (spFrontOf K TA))
    (G1 : FnOk P w K mg base CX0 5 f1 fd1 ["self"] (spValued K CA CH)) (b1 : Binds K fd1 ["self"] []) (m1 : Meth K CH "valued_ends" f1) : FnOk P w K mg base CX0 6 f fd ["self"] (spFront CA CH TA) := by
  refine F.ok scFront (fun vs H Q E h => ?_) (fun cdv A outer s H vs Q E hr h => ?_)
  · obtain ⟨p, rfl, _⟩ := h
    rfl
  · obtain ⟨p, rfl, la, lw, h, hh, hg, hT, k⟩ := h
    have hr2 : Room 2 _ := hr.mono (by decide)
    refine ⟨_, pss_cons (ps_set (i := 1) scFront.nd rfl (.inl rfl) (pe_def DF hr2 (by rfl) (pa_cons (pe_lc (own := [("much", 4), ("end", 5)]) (g := gTup K 2 (gCons (gName 4) (gCons (gName 5) gNil))) (tt := tYes)
        (te := tTup (tCons (tOp (rIxT K) (tVar 5) (tC (.int 0))) (tCons (tVar 4) tNil))) rfl scFront.nd (pi_list (pe_meth0 (pv 0) T.cl m1 G1 hr b1 .nil pass0))
        (blkOk_by (own := [("much", 4), ("end", 5)]) (N := ["self", "pairs", "answer", "cost", "much", "end"]) (sc := defScope sFront) (by decide +kernel))
        (fun _ _ _ _ _ => pg_tup rfl (pgs_cons (pg_name (i := 4) scFront.nd rfl (Or.inl rfl)) (pgs_cons (pg_name (i := 5) scFront.nd rfl (Or.inl rfl)) pgs_nil)))
        (fun _ _ _ _ _ => pts_nil)
        (fun _ _ _ _ _ => pe_tup (pa_cons (pe_ix ix_tup (pv 5) pe_int (fun _ _ => rfl)) (pa_cons (pv 4) pa_nil)))) pa_nil)))
      (pss_cons (ps_set (i := 2) scFront.nd rfl (.inl rfl) (pe_lst (pa_cons (pe_callB call_len_seq (by rfl) zlen PySem.boot_len (pa_cons (pv 1) pa_nil)) pa_nil)))
      (pss_cons (ps_for PassesOwn.never rfl (pi_list (pv 1)) (pg_tup rfl (pgs_cons (pg_name (i := 3) scFront.nd rfl (.inl rfl)) (pgs_cons (pg_name (i := 4) scFront.nd rfl (.inl rfl)) pgs_nil)))
        (pss_cons (ps_expr (pe_bm PySem.F.plainAttrs_list PySem.F.slot_list_append PySem.F.type_list_append mt_append (pv 2) (pa_cons (pv 3) pa_nil)))
          (pss_one (ps_expr (pe_bm PySem.F.plainAttrs_list PySem.F.slot_list_append PySem.F.type_list_append mt_append (pv 2) (pa_cons (pv 4) pa_nil))))))
      (pss_one (ps_ret (pv 2))))), ?_⟩
    obtain ⟨dx, hp⟩ := hh.ob
    refine ⟨_, rfl, p, dx, _, rfl, hp, rfl, p, la, lw, h, rfl, hh, hg, fun H1 r xs L s1 nr hr1 l64 hl hxs => ?_⟩
    have vl : (valued h.worth L).length ≤ 64 := by rw [valued_len]; exact l64
    have xl : xs.length = (valued h.worth L).length := (paired_len hxs).symm
    refine ⟨r, rfl, ⟨_, SqL.of hr1⟩, fun D nD => lc_list (K := K) (a := r) (xs := xs) (fun i H' => ∃ ys, Same H1 H' ∧ H' D = some (.lst ys) ∧ Paired (PrAt K H') ((((valued h.worth L).take i).map cw).map iP) ys) ⟨[], upd_new nD, upd_same, .nil⟩
      (fun i H' _ ⟨_, s2, _⟩ => SqL.of (s2 _ _ hr1)) ?_ ?_⟩
    · rintro i x H2 hi ⟨ys, s2, hD, hys⟩
      obtain ⟨q, gq, wq⟩ := paired_get hxs hi
      obtain ⟨a, u, rfl, hTu, hE⟩ := wq.open
      obtain ⟨pe, qe, rfl, e1, e2⟩ := hE.open
      refine ⟨a, _, rfl, sqT_same s2 _ _ hTu, rfl, _, _, rfl, _, _, rfl, rfl, rfl, ?_⟩
      have il : i < 64 := by have := (List.getElem?_eq_some_iff.mp hi).1; omega
      have yl : ys.length ≤ i := by
        rw [← paired_len hys, List.length_map, List.length_map]
        simp; omega
      refine ⟨_, rfl, pe, _, _, _, rfl, rfl, sqT_same s2 _ _ e1, atI_nat (j := 0) rfl, _, rfl, (by show 2 ≤ sizeLine; decide), fun t nt => ?_⟩
      let H3 : Hp := upd H2 t (.tup [.int (q.2.1 : Int), .int (q.1 : Int)])
      have s3 : Same H2 H3 := upd_new nt
      have hD3 : H3 D = some (.lst ys) := s3 _ _ hD
      refine ⟨ys, hD3, small1000 (by omega), ?_⟩
      have bt : ∀ b zs, SqT K H3 b zs → SqT K (upd H3 D (.lst (ys ++ [.ref t]))) b zs := sqT_but hD3 (fun _ z => by cases z) (fun _ _ z => by cases z) but_upd
      refine ⟨ys ++ [.ref t], fun b o e => ?_, upd_same, ?_⟩
      · rw [upd_ne (ne_of_none e nD)]
        exact s3 _ _ (s2 _ _ e)
      · rw [take_snoc gq, List.map_append, List.map_append]
        refine Paired.snoc (paired_map hys fun p v z => prAt_ext bt (prAt_ext (sqT_same s3) z)) ?_
        exact prAt_ext bt ⟨t, rfl, SqT.of upd_same⟩
    · rintro H2 ⟨ys, s2, hD, hys⟩
      rw [xl, List.take_length] at hys
      have s12 := s1.trans s2
      refine ⟨D, (valued h.worth L).map cw, ys, rfl, SqL.of hD, hys, by rw [List.length_map]; exact vl, hT.ext s12, fun H3 r3 zs l eN fr3 hT3 hr3 hz ll up hm => ?_⟩
      have hf := front_eq hg.good hl up hm
      have zl : zs.length = l.length := by rw [← paired_len hz, List.length_map]
      have e13 : ExtN H H3 := (ext_same s12).trans eN
      refine ⟨_, rfl, r3, zs, rfl, .inl (SqL.of hr3), (by show 1 ≤ sizeLine; decide), fun an nan => ?_⟩
      let H4 : Hp := upd H3 an (.lst [.int (zs.length : Int)])
      have s4 : Same H3 H4 := upd_new nan
      have r3an : r3 ≠ an := ne_of_none hr3 nan
      refine ⟨_, rfl, r3, rfl, ⟨_, SqL.of (s4 _ _ hr3)⟩, for_list (K := K) (a := r3) (xs := zs) (fun i σ H' => ∃ (x y : Option V), σ = [some (.ref p), some (.ref r3), some (.ref an), x, y, none] ∧ But an H4 H' ∧ H' an = some (.lst (.int (zs.length : Int) :: flatV (l.take i))))
        ⟨none, none, rfl, fun b o e _ => e, upd_same⟩ (fun i σ H' _ ⟨_, _, _, b, _⟩ => SqL.of (b _ _ (s4 _ _ hr3) r3an)) ?_ ?_⟩
      · rintro i x σ H5 hi ⟨x0, y0, rfl, b5, han⟩
        obtain ⟨pi, gp, b, rfl, hb⟩ := paired_get hz hi
        rw [List.getElem?_map] at gp
        cases gl : l[i]? with
        | none => rw [gl] at gp; cases gp
        | some q =>
          rw [gl] at gp
          cases gp
          have il : i < 64 := by have := (List.getElem?_eq_some_iff.mp gl).1; omega
          have fl : (flatV (l.take i)).length ≤ 128 := by rw [flat_len, List.length_take]; omega
          have t5 : ∀ b ws, SqT K H4 b ws → SqT K H5 b ws := sqT_but upd_same (fun _ z => by cases z) (fun _ _ z => by cases z) b5
          refine ⟨b, _, rfl, t5 _ _ (sqT_same s4 _ _ hb), rfl, _, _, rfl, _, _, rfl, rfl, ?_⟩
          refine ⟨_, rfl, .inl ⟨rfl, _, SqL.of han⟩, _, rfl, an, _, _, rfl, rfl, han, small1000 (by rw [List.length_cons]; omega), ?_⟩
          refine ⟨_, rfl, .inl ⟨rfl, _, SqL.of upd_same⟩, _, rfl, an, _, _, rfl, rfl, upd_same, small1000 (by rw [List.length_append, List.length_cons, List.length_singleton]; omega), ?_⟩
          rw [upd_upd]
          refine ⟨_, _, rfl, fun b o e n => by rw [upd_ne n]; exact b5 _ _ e n, ?_⟩
          have ef : flatV (l.take (i + 1)) = flatV (l.take i) ++ [V.int (q.1 : Int), V.int (q.2 : Int)] := by
            rw [take_snoc gl]
            unfold flatV
            rw [List.flatMap_append]
            rfl
          rw [ef, upd_same]
          show some (HO.lst ((V.int (zs.length : Int) :: flatV (l.take i)) ++ [V.int (q.1 : Int)] ++ [V.int (q.2 : Int)])) = _
          rw [List.append_assoc]
          rfl
      · rintro σ H5 ⟨x0, y0, rfl, b5, han⟩
        rw [zl, List.take_length] at han
        have e5 : ExtN H H5 := fun b o e n => b5 _ _ (s4 _ _ (e13 _ _ e n)) (ne_of_none (e13 _ _ e n) nan)
        refine ⟨_, rfl, k H5 an (hh.ext e5) e5 (tab_but (hT3.ext s4) upd_same b5) (Fresh.ext e13 (fresh_none nan)) ?_⟩
        rw [front_out hf]
        exact han
end WP

/-! drop. -/
namespace WP
open PySem L2 WE LamX
open Pn (Task)
open WM (Cl HGood)
variable {P : Program} {w : World} {K : PySem.W.Frag} {mg : Str → Option Value} {base : Heap} {CA CH : Addr}

theorem paired_erase {A B : Type} {F : A → B → Prop} : ∀ {as : List A} {bs : List B} (i : Nat), Paired F as bs → Paired F (as.eraseIdx i) (bs.eraseIdx i)
  | _, _, _, .nil => .nil
  | _, _, 0, .cons _ t => t
  | _, _, i + 1, .cons r t => .cons r (paired_erase i t)
theorem erase_map {A B : Type} (g : A → B) : ∀ (as : List A) (i : Nat), (as.map g).eraseIdx i = (as.eraseIdx i).map g
  | [], _ => rfl
  | _ :: _, 0 => rfl
  | a :: as, i + 1 => congrArg (g a :: ·) (erase_map g as i)

def spDrop (CA CH : Addr) : Sp := fun vs H Q _ => ∃ (p : Addr) (i : Nat), vs = [.ref p, .int i] ∧ Ans CA CH (.drop i) H p Q
theorem scDrop : FnScope ["self", "which"] ["self", "which"] (defScope sDrop) := ⟨rfl, rfl, rfl, by decide +kernel, rfl, by decide +kernel, by decide +kernel⟩
theorem ok_drop {f : Addr} {fd : FuncData} {t1 : Tok} (F : Fun K "drop" "House.drop" sDrop f fd) (T : HouseT K CH) (gN : mg "NOT_THERE" = some (.int (-2) t1)) (zlen : mg "len" = none) : FnOk P w K mg base CX0 1 f fd ["self", "which"] (spDrop CA CH) := by
  refine F.ok scDrop (fun vs H Q E h => ?_) (fun cdv A outer s H vs Q E hr h => ?_)
  · obtain ⟨p, i, rfl, _⟩ := h
    rfl
  · obtain ⟨p, i, rfl, la, lw, h, hh, hg, k⟩ := h
    refine ⟨_, pss_cons (ps_if (pt_cmpR op_ge (pv 1) (pe_callB call_len_seq (by rfl) zlen PySem.boot_len (pa_cons (pe_fld (pv 0) rfl) pa_nil)) (nomark _))
        (pss_one (ps_ret (pe_lst (pa_cons (pe_glob (v := .int (-2)) rfl gN ⟨_, rfl⟩) pa_nil)))) pss_nil)
      (pss_cons (ps_expr (pe_bm PySem.F.plainAttrs_list PySem.F.slot_list_pop PySem.F.type_list_pop mt_popAt (pe_fld (pv 0) rfl) (pa_cons (pv 1) pa_nil)))
      (pss_one (ps_ret (pe_lst (pa_cons (pe_callB call_len_seq (by rfl) zlen PySem.boot_len (pa_cons (pe_fld (pv 0) rfl) pa_nil)) pa_nil))))), ?_⟩
    obtain ⟨dx, hp⟩ := hh.ob
    obtain ⟨ps, hlw, hps⟩ := id hh.wor
    have lp : ps.length = h.worth.length := paired_len hps
    have ll : (ps.map V.ref).length = h.worth.length := by rw [List.length_map, lp]
    refine ⟨_, rfl, _, rfl, p, CH, dx, _, _, rfl, hp, T.cl, T.n4, rfl, lw, _, rfl, .inl (SqL.of hlw), _, _, rfl, rfl, _, rfl, ?_⟩
    show if decide ((((ps.map V.ref).length : Nat) : Int) ≤ (i : Int)) = true then _ else _
    rw [ll]
    by_cases q1 : h.worth.length ≤ i
    · rw [decide_eq_true (by omega)]
      have e : Pn11.step h (.drop i) = (h, Pn11.ok (-2)) := by unfold Pn11.step; exact if_pos q1
      exact iteT ⟨by show 1 ≤ sizeLine; decide, fun r nr => ans_same hh (by rw [e]) (by rw [e]; rfl) (upd_new nr) nr upd_same k⟩
    · have w8 := hg.wors
      rw [decide_eq_false (by omega)]
      have e : Pn11.step h (.drop i) = ({ h with worth := h.worth.take i ++ h.worth.drop (i + 1) }, Pn11.ok (h.worth.length - 1 : Nat)) := by unfold Pn11.step; exact if_neg q1
      have hi : i < ps.length := by omega
      have gi : (ps.map V.ref)[i]? = some (.ref ps[i]) := by rw [List.getElem?_map, List.getElem?_eq_getElem hi]; rfl
      refine iteF ⟨_, rfl, p, CH, dx, _, _, rfl, hp, T.cl, T.n4, rfl, .inl ⟨rfl, _, SqL.of hlw⟩, _, rfl, lw, _, (i : Int), i, _, rfl, rfl, hlw, by omega, by omega, ?_, gi, ?_⟩
      · have := seqIndex_of (k := (i : Int)) (n := (ps.map V.ref).length) (by omega) (by rw [ll]; omega)
        rw [this]
        simp
      let H4 : Hp := upd H lw (.lst ((ps.map V.ref).eraseIdx i))
      have plw : p ≠ lw := ne_of hp hlw (by intro z; cases z)
      have b4 : ∀ b o, H b = some o → b ≠ lw → H4 b = some o := fun b o eb z => by show upd H lw _ b = _; rw [upd_ne z]; exact eb
      have hp4 : H4 p = some (.ins CH dx (hF h.task.facts h.task.start la lw)) := b4 _ _ hp plw
      have l4 : H4 lw = some (.lst ((ps.map V.ref).eraseIdx i)) := upd_same
      refine ⟨_, rfl, p, CH, dx, _, _, rfl, hp4, T.cl, T.n4, rfl, lw, _, rfl, .inl (SqL.of l4), (by show 1 ≤ sizeLine; decide), fun r nr => ?_⟩
      have nrlw : r ≠ lw := (ne_of_none l4 nr).symm
      have nr0 : H r = none := by
        have : upd H lw (.lst ((ps.map V.ref).eraseIdx i)) r = none := nr
        rw [upd_ne nrlw] at this; exact this
      have s5 : Same H4 (upd H4 r (.lst [.int ((((ps.map V.ref).eraseIdx i).length : Nat) : Int)])) := upd_new nr
      obtain ⟨pa, hla, hpa⟩ := id hh.acts
      have nrla : r ≠ la := (ne_of_none hla nr0).symm
      refine k _ la lw r ?_ (.inr rfl) (.inr rfl) (fun b o eb bp bla blw => s5 _ _ (b4 _ _ eb blw)) nr0 nrla nrlw ?_
      · rw [e]
        refine ⟨⟨dx, s5 _ _ hp4⟩, ⟨pa, s5 _ _ (b4 _ _ hla hh.ne), paired_map hpa fun a b ⟨dy, z⟩ => ⟨dy, s5 _ _ (b4 _ _ z (ne_of z hlw (by intro z; cases z)))⟩⟩, ⟨ps.eraseIdx i, ?_, ?_⟩, hh.ne⟩
        · rw [← erase_map]; exact s5 _ _ l4
        · show Paired _ _ (h.worth.take i ++ h.worth.drop (i + 1))
          rw [← List.eraseIdx_eq_take_drop_succ]
          exact paired_erase i (paired_map hps fun a b z => s5 _ _ (b4 _ _ z (ne_of z hlw (by intro z; cases z))))
      · rw [e]
        have en : ((((ps.map V.ref).eraseIdx i).length : Nat) : Int) = ((h.worth.length - 1 : Nat) : Int) := by
          rw [List.length_eraseIdx, ll, if_pos (by omega)]
        rw [en]
        exact upd_same
end WP

/-! call_length, answer_of. -/
namespace WP
open PySem L2 WE LamX
open WM (HGood)
open WF (Item)
variable {P : Program} {w : World} {K : PySem.W.Frag} {mg : Str → Option Value} {base : Heap} {CA CH : Addr}

theorem isYes {a b : Int} {A B : Prop} (h : a = b) (q : A) : if decide (V.int a = V.int b) = true then A else B := by
  rw [decide_eq_true (by rw [h])]
  exact iteT q
theorem isNo {a b : Int} {A B : Prop} (h : a ≠ b) (q : B) : if decide (V.int a = V.int b) = true then A else B := by
  rw [decide_eq_false (by intro z; injection z with z; exact h z)]
  exact iteF q
theorem at_drop {ns l : List Int} {i j : Nat} {v : Int} (h : ns.drop i = l) (g : l[j]? = some v) : (ns.map V.int)[i + j]? = some (.int v) := by
  rw [← h, List.getElem?_drop] at g
  rw [List.getElem?_map, g]
  rfl

/-! ### call_length -/
def spLength (K : PySem.W.Frag) : Sp := fun vs H Q _ => ∃ (a : Addr) (i : Nat) (ns f t : List Int) (x : Pn11.Call) (c : List (List Int)), vs = [.ref a, .int (i : Int)] ∧ SqL K H a (ns.map V.int) ∧ ns.drop i = f ++ t ∧ Item f x c ∧ Q (.int (f.length : Int)) H
theorem scLength : FnScope ["calls", "place", "kind"] ["calls", "place"] (defScope sLength) := ⟨rfl, rfl, rfl, by decide +kernel, rfl, by decide +kernel, by decide +kernel⟩
theorem ok_length {f : Addr} {fd : FuncData} {t1 t2 t3 t4 t5 : Tok} (F : Fun K "call_length" "call_length" sLength f fd) (gA : mg "ACT" = some (.int 1 t1)) (gB : mg "BEGINS" = some (.int 0 t2)) (gW : mg "WORTH" = some (.int 2 t3)) (gN : mg "NET" = some (.int 6 t4)) (gF : mg "FRONT" = some (.int 7 t5)) :
    FnOk P w K mg base CX0 1 f fd ["calls", "place"] (spLength K) := by
  refine F.ok scLength (fun vs H Q E h => ?_) (fun cdv A outer s H vs Q E hr h => ?_)
  · obtain ⟨a, i, ns, f, t, x, c, rfl, _⟩ := h
    rfl
  · obtain ⟨a, i, ns, f, t, x, c, rfl, hs, hd, it, k⟩ := h
    refine ⟨_, pss_cons (ps_set (i := 2) scLength.nd rfl (.inl rfl) (pe_ix ix_list (pv 0) (pv 1) (fun _ _ => rfl)))
      (pss_cons (ps_if (pt_cmpR op_eq (pv 2) (pe_glob (v := .int 1) rfl gA ⟨_, rfl⟩) (nomark _)) (pss_one (ps_ret (pe_op op_add pe_int (pe_ix ix_list (pv 0) (pe_op op_add (pv 1) pe_int) (fun _ _ => rfl))))) pss_nil)
      (pss_cons (ps_if (PW.pt (pw_or (pt_cmpR op_eq (pv 2) (pe_glob (v := .int 0) rfl gB ⟨_, rfl⟩) (nomark _)) (pw_or1 (pt_cmpR op_eq (pv 2) (pe_glob (v := .int 2) rfl gW ⟨_, rfl⟩) (nomark _))))) (pss_one (ps_ret pe_int)) pss_nil)
      (pss_cons (ps_if (PW.pt (pw_or (pt_cmpR op_eq (pv 2) (pe_glob (v := .int 6) rfl gN ⟨_, rfl⟩) (nomark _)) (pw_or1 (pt_cmpR op_eq (pv 2) (pe_glob (v := .int 7) rfl gF ⟨_, rfl⟩) (nomark _))))) (pss_one (ps_ret pe_int)) pss_nil)
      (pss_one (ps_ret pe_int))))), ?_⟩
    have g0 : ∀ v, (f ++ t)[0]? = some v → atI (ns.map V.int) (i : Int) = some (.int v) := fun v g => atI_nat (j := i) (at_drop (j := 0) hd g)
    cases it with
    | act r =>
      have g1 : atI (ns.map V.int) ((i : Int) + 1) = some (.int (r.length : Int)) := by
        have := atI_nat (j := i + 1) (at_drop (j := 1) hd (v := (r.length : Int)) rfl)
        exact this
      refine ⟨_, rfl, _, rfl, a, _, _, _, rfl, rfl, hs, g0 1 rfl, ?_⟩
      refine ⟨_, rfl, rfl, _, rfl, isYes rfl ?_⟩
      refine ⟨_, rfl, _, rfl, _, _, rfl, rfl, a, _, _, _, rfl, rfl, hs, g1, _, _, rfl, rfl, ?_⟩
      have e : ((1 :: (r.length : Int) :: WF.up r).length : Int) = 2 + (r.length : Int) := by
        unfold WF.up
        simp only [List.length_cons, List.length_map]
        omega
      rw [e] at k
      exact k
    | begins x y =>
      exact ⟨_, rfl, _, rfl, a, _, _, _, rfl, rfl, hs, g0 0 rfl, _, rfl, rfl, _, rfl, isNo (by decide) ⟨_, rfl, rfl, _, rfl, isYes rfl (iteT k)⟩⟩
    | worth x y =>
      exact ⟨_, rfl, _, rfl, a, _, _, _, rfl, rfl, hs, g0 2 rfl, _, rfl, rfl, _, rfl, isNo (by decide) ⟨_, rfl, rfl, _, rfl, isNo (by decide) ⟨_, rfl, rfl, _, rfl, isYes rfl k⟩⟩⟩
    | start x =>
      exact ⟨_, rfl, _, rfl, a, _, _, _, rfl, rfl, hs, g0 3 rfl, _, rfl, rfl, _, rfl, isNo (by decide) ⟨_, rfl, rfl, _, rfl, isNo (by decide) ⟨_, rfl, rfl, _, rfl, isNo (by decide) ⟨_, rfl, rfl, _, rfl, isNo (by decide) ⟨_, rfl, rfl, _, rfl, isNo (by decide) k⟩⟩⟩⟩⟩
    | best x =>
      exact ⟨_, rfl, _, rfl, a, _, _, _, rfl, rfl, hs, g0 4 rfl, _, rfl, rfl, _, rfl, isNo (by decide) ⟨_, rfl, rfl, _, rfl, isNo (by decide) ⟨_, rfl, rfl, _, rfl, isNo (by decide) ⟨_, rfl, rfl, _, rfl, isNo (by decide) ⟨_, rfl, rfl, _, rfl, isNo (by decide) k⟩⟩⟩⟩⟩
    | least x =>
      exact ⟨_, rfl, _, rfl, a, _, _, _, rfl, rfl, hs, g0 5 rfl, _, rfl, rfl, _, rfl, isNo (by decide) ⟨_, rfl, rfl, _, rfl, isNo (by decide) ⟨_, rfl, rfl, _, rfl, isNo (by decide) ⟨_, rfl, rfl, _, rfl, isNo (by decide) ⟨_, rfl, rfl, _, rfl, isNo (by decide) k⟩⟩⟩⟩⟩
    | net =>
      exact ⟨_, rfl, _, rfl, a, _, _, _, rfl, rfl, hs, g0 6 rfl, _, rfl, rfl, _, rfl, isNo (by decide) ⟨_, rfl, rfl, _, rfl, isNo (by decide) ⟨_, rfl, rfl, _, rfl, isNo (by decide) ⟨_, rfl, rfl, _, rfl, isYes rfl (iteT k)⟩⟩⟩⟩
    | front =>
      exact ⟨_, rfl, _, rfl, a, _, _, _, rfl, rfl, hs, g0 7 rfl, _, rfl, rfl, _, rfl, isNo (by decide) ⟨_, rfl, rfl, _, rfl, isNo (by decide) ⟨_, rfl, rfl, _, rfl, isNo (by decide) ⟨_, rfl, rfl, _, rfl, isNo (by decide) ⟨_, rfl, rfl, _, rfl, isYes rfl k⟩⟩⟩⟩⟩
    | drop x =>
      exact ⟨_, rfl, _, rfl, a, _, _, _, rfl, rfl, hs, g0 8 rfl, _, rfl, rfl, _, rfl, isNo (by decide) ⟨_, rfl, rfl, _, rfl, isNo (by decide) ⟨_, rfl, rfl, _, rfl, isNo (by decide) ⟨_, rfl, rfl, _, rfl, isNo (by decide) ⟨_, rfl, rfl, _, rfl, isNo (by decide) k⟩⟩⟩⟩⟩

/-! ### answer_of -/
/-- what any call answers, and what it leaves -/
def AnsG (CA CH TA : Addr) (c : Pn11.Call) (H : Hp) (p : Addr) (Q : VK) : Prop := ∃ (la lw : Addr) (h : Pn11.House), HouseAt CA CH H p la lw h ∧ HGood h ∧ TabS H TA lamName ∧
  ∀ (H' : Hp) (la' lw' r : Addr), HouseAt CA CH H' p la' lw' (Pn11.step h c).1 → TabS H' TA lamName → (Fresh H la' ∨ la' = la) → (Fresh H lw' ∨ lw' = lw) → (∀ b o, H b = some o → (∀ ps, o ≠ .tbl ps) → b ≠ p → b ≠ la → b ≠ lw → H' b = some o) →
    Fresh H r → r ≠ la' → r ≠ lw' → H' r = some (.lst ((Pn11Neutral.out (Pn11.step h c).2).map V.int)) → Q (.ref r) H'

theorem fresh_same {H H2 : Hp} {r : Addr} (s : Same H H2) (h : H2 r = none) : Fresh H r := fun b o e _ => ne_of_none (s b o e) h
theorem ansG_ans {TA : Addr} {c : Pn11.Call} {H H2 : Hp} {p : Addr} {Q : VK} (s : Same H H2) (x : AnsG CA CH TA c H p Q) : Ans CA CH c H2 p Q := by
  obtain ⟨la, lw, h, hh, hg, hT, k⟩ := x
  refine ⟨la, lw, h, hh.same s, hg, fun H' la' lw' r x1 x2 x3 x4 x5 x6 x7 x8 => ?_⟩
  obtain ⟨dx, hp⟩ := (hh.same s).ob
  obtain ⟨pa, ha, _⟩ := (hh.same s).acts
  obtain ⟨pw, hw, _⟩ := (hh.same s).wor
  refine k H' la' lw' r x1 ?_ (x2.imp (fresh_same s) id) (x3.imp (fresh_same s) id) (fun b o e _ b1 b2 b3 => x4 b o (s b o e) b1 b2 b3) (fresh_same s x5) x6 x7 x8
  obtain ⟨qs, q1, q2, q3⟩ := hT.ext s
  refine ⟨qs, x4 _ _ q1 (ne_of q1 hp (by intro z; cases z)) (ne_of q1 ha (by intro z; cases z)) (ne_of q1 hw (by intro z; cases z)), q2, fun pos cv hc => ?_⟩
  obtain ⟨cc, z1, z2⟩ := q3 pos cv hc
  exact ⟨cc, z1, x4 _ _ z2 (ne_of z2 hp (by unfold CodeO; intro z; cases z)) (ne_of z2 ha (by unfold CodeO; intro z; cases z)) (ne_of z2 hw (by unfold CodeO; intro z; cases z))⟩
theorem ansG_T {TA : Addr} {H : Hp} {p : Addr} {Q : VK} (x : AnsG CA CH TA .front H p Q) : AnsT CA CH TA H p Q := by
  obtain ⟨la, lw, h, hh, hg, hT, k⟩ := x
  obtain ⟨pa, ha, _⟩ := hh.acts
  obtain ⟨pw, hw, _⟩ := hh.wor
  exact ⟨la, lw, h, hh, hg, hT, fun H' r x1 x2 x3 x4 x5 => k H' la lw r x1 x3 (.inr rfl) (.inr rfl) (fun b o e n _ _ _ => x2 b o e n) x4 (x4 _ _ ha (fun _ z => by cases z)).symm (x4 _ _ hw (fun _ z => by cases z)).symm x5⟩

/-- a method of the house -/
structure Met1 (P : Program) (w : World) (K : PySem.W.Frag) (mg : Str → Option Value) (base : Heap) (CH : Addr) (m : Str) (k : Nat) (ps : List Str) (sp : Sp) : Prop where
  ex : ∃ f fd, Meth K CH m f ∧ Binds K fd ps [] ∧ FnOk P w K mg base CX0 k f fd ps sp

def spAnswer (K : PySem.W.Frag) (CA CH TA : Addr) : Sp := fun vs H Q _ => ∃ (p q : Addr) (f : List Int) (x : Pn11.Call) (c : List (List Int)), vs = [.ref p, .ref q] ∧ SqL K H q (f.map V.int) ∧ Item f x c ∧ AnsG CA CH TA x H p Q
theorem scAnswer : FnScope ["house", "call", "kind"] ["house", "call"] (defScope sAnswer) := ⟨rfl, rfl, rfl, by decide +kernel, rfl, by decide +kernel, by decide +kernel⟩
theorem cut2 (a b : Int) (l : List V) : cutV (.int a :: .int b :: l) (some 2) none = l := by
  unfold cutV
  rw [HT.sIx_none, show (2 : Int) = ((2 : Nat) : Int) from rfl, HT.sIx_nat]
  have : min 2 (V.int a :: V.int b :: l).length = 2 := by simp only [List.length_cons]; omega
  rw [this]
  show l.take ((V.int a :: V.int b :: l).length - 2) = l
  rw [List.take_of_length_le (by simp)]
theorem up_nV (r : List Nat) : (WF.up r).map V.int = nV r := by
  unfold WF.up nV
  rw [List.map_map]
  rfl
theorem ok_answer {f TA : Addr} {fd : FuncData} {t0 t1 t2 t3 t4 t5 t6 t7 : Tok} (F : Fun K "answer_of" "answer_of" sAnswer f fd) (T : HouseT K CH)
    (g0 : mg "BEGINS" = some (.int 0 t0)) (g1 : mg "ACT" = some (.int 1 t1)) (g2 : mg "WORTH" = some (.int 2 t2)) (g3 : mg "START" = some (.int 3 t3)) (g4 : mg "BEST" = some (.int 4 t4)) (g5 : mg "LEAST" = some (.int 5 t5)) (g6 : mg "NET" = some (.int 6 t6)) (g7 : mg "FRONT" = some (.int 7 t7))
    (M0 : Met1 P w K mg base CH "begins" 6 ["self", "facts", "so"] (spBegins CA CH)) (M1 : Met1 P w K mg base CH "act" 6 ["self", "parts"] (spAct K CA CH)) (M2 : Met1 P w K mg base CH "worth" 6 ["self", "facts", "much"] (spWorth CA CH)) (M3 : Met1 P w K mg base CH "start" 6 ["self", "so"] (spStart CA CH))
    (M4 : Met1 P w K mg base CH "best" 6 ["self", "spent"] (spBest CA CH)) (M5 : Met1 P w K mg base CH "least" 6 ["self", "much"] (spLeast CA CH)) (M6 : Met1 P w K mg base CH "net" 6 ["self"] (spNet CA CH)) (M7 : Met1 P w K mg base CH "front" 6 ["self"] (spFront CA CH TA)) (M8 : Met1 P w K mg base CH "drop" 6 ["self", "which"] (spDrop CA CH)) :
    FnOk P w K mg base CX0 7 f fd ["house", "call"] (spAnswer K CA CH TA) := by
  obtain ⟨f0, d0, m0, b0, k0⟩ := M0.ex
  obtain ⟨f1, d1, m1, b1, k1⟩ := M1.ex
  obtain ⟨f2, d2, m2, b2, k2⟩ := M2.ex
  obtain ⟨f3, d3, m3, b3, k3⟩ := M3.ex
  obtain ⟨f4, d4, m4, b4, k4⟩ := M4.ex
  obtain ⟨f5, d5, m5, b5, k5⟩ := M5.ex
  obtain ⟨f6, d6, m6, b6, k6⟩ := M6.ex
  obtain ⟨f7, d7, m7, b7, k7⟩ := M7.ex
  obtain ⟨f8, d8, m8, b8, k8⟩ := M8.ex
  refine F.ok scAnswer (fun vs H Q E h => ?_) (fun cdv A outer s H vs Q E hr h => ?_)
  · obtain ⟨p, q, f, x, c, rfl, _⟩ := h
    rfl
  · obtain ⟨p, q, f, x, c, rfl, hs, it, k⟩ := h
    refine ⟨_, pss_cons (ps_set (i := 2) scAnswer.nd rfl (.inl rfl) (pe_ix ix_list (pv 1) pe_int (fun _ _ => rfl)))
      (pss_cons (ps_if (pt_cmpR op_eq (pv 2) (pe_glob (v := .int 0) rfl g0 ⟨_, rfl⟩) (nomark _)) (pss_one (ps_ret (pe_meth (pv 0) T.cl m0 k0 hr b0 .nil pass0 (pa_cons (pe_ix ix_list (pv 1) pe_int (fun _ _ => rfl)) (pa_cons (pe_ix ix_list (pv 1) pe_int (fun _ _ => rfl)) pa_nil))))) pss_nil)
      (pss_cons (ps_if (pt_cmpR op_eq (pv 2) (pe_glob (v := .int 1) rfl g1 ⟨_, rfl⟩) (nomark _)) (pss_one (ps_ret (pe_meth (pv 0) T.cl m1 k1 hr b1 .nil pass0 (pa_cons (pe_slice sl_list (pv 1) (po_some pe_int) po_none) pa_nil)))) pss_nil)
      (pss_cons (ps_if (pt_cmpR op_eq (pv 2) (pe_glob (v := .int 2) rfl g2 ⟨_, rfl⟩) (nomark _)) (pss_one (ps_ret (pe_meth (pv 0) T.cl m2 k2 hr b2 .nil pass0 (pa_cons (pe_ix ix_list (pv 1) pe_int (fun _ _ => rfl)) (pa_cons (pe_ix ix_list (pv 1) pe_int (fun _ _ => rfl)) pa_nil))))) pss_nil)
      (pss_cons (ps_if (pt_cmpR op_eq (pv 2) (pe_glob (v := .int 3) rfl g3 ⟨_, rfl⟩) (nomark _)) (pss_one (ps_ret (pe_meth (pv 0) T.cl m3 k3 hr b3 .nil pass0 (pa_cons (pe_ix ix_list (pv 1) pe_int (fun _ _ => rfl)) pa_nil)))) pss_nil)
      (pss_cons (ps_if (pt_cmpR op_eq (pv 2) (pe_glob (v := .int 4) rfl g4 ⟨_, rfl⟩) (nomark _)) (pss_one (ps_ret (pe_meth (pv 0) T.cl m4 k4 hr b4 .nil pass0 (pa_cons (pe_ix ix_list (pv 1) pe_int (fun _ _ => rfl)) pa_nil)))) pss_nil)
      (pss_cons (ps_if (pt_cmpR op_eq (pv 2) (pe_glob (v := .int 5) rfl g5 ⟨_, rfl⟩) (nomark _)) (pss_one (ps_ret (pe_meth (pv 0) T.cl m5 k5 hr b5 .nil pass0 (pa_cons (pe_ix ix_list (pv 1) pe_int (fun _ _ => rfl)) pa_nil)))) pss_nil)
      (pss_cons (ps_if (pt_cmpR op_eq (pv 2) (pe_glob (v := .int 6) rfl g6 ⟨_, rfl⟩) (nomark _)) (pss_one (ps_ret (pe_meth0 (pv 0) T.cl m6 k6 hr b6 .nil pass0))) pss_nil)
      (pss_cons (ps_if (pt_cmpR op_eq (pv 2) (pe_glob (v := .int 7) rfl g7 ⟨_, rfl⟩) (nomark _)) (pss_one (ps_ret (pe_meth0 (pv 0) T.cl m7 k7 hr b7 .nil pass0))) pss_nil)
      (pss_one (ps_ret (pe_meth (pv 0) T.cl m8 k8 hr b8 .nil pass0 (pa_cons (pe_ix ix_list (pv 1) pe_int (fun _ _ => rfl)) pa_nil)))))))))))), ?_⟩
    have hp : ∃ (dx la lw : Addr) (h : Pn11.House), H p = some (.ins CH dx (hF h.task.facts h.task.start la lw)) := by
      obtain ⟨la, lw, h, hh, _⟩ := id k
      obtain ⟨dx, hp⟩ := hh.ob
      exact ⟨dx, la, lw, h, hp⟩
    obtain ⟨dx, la, lw, h, hp⟩ := hp
    have kk : ∀ {c : Pn11.Call} {p : Addr} {Q : VK}, AnsG CA CH TA c H p Q → Ans CA CH c H p Q := ansG_ans (Same.refl H)
    cases it with
    | begins x y =>
      refine ⟨_, rfl, q, _, _, _, rfl, rfl, hs, atI_nat (j := 0) rfl, _, rfl, rfl, _, rfl, isYes rfl ?_⟩
      exact ⟨_, rfl, p, dx, _, rfl, hp, rfl, _, rfl, q, _, _, _, rfl, rfl, hs, atI_nat (j := 1) rfl, _, rfl, q, _, _, _, rfl, rfl, hs, atI_nat (j := 2) rfl, p, x, y, rfl, kk k⟩
    | act r =>
      refine ⟨_, rfl, q, _, _, _, rfl, rfl, hs, atI_nat (j := 0) rfl, _, rfl, rfl, _, rfl, isNo (by decide) ⟨_, rfl, rfl, _, rfl, isYes rfl ?_⟩⟩
      refine ⟨_, rfl, p, dx, _, rfl, hp, rfl, _, rfl, _, rfl, q, _, rfl, hs, fun q2 n2 => ?_⟩
      have ec : cutV ((1 :: (r.length : Int) :: WF.up r).map V.int) (some 2) none = nV r := by
        rw [List.map_cons, List.map_cons, cut2, up_nV]
      rw [ec]
      exact ⟨p, q2, r, rfl, SqL.of upd_same, ansG_ans (upd_new n2) k⟩
    | worth x y =>
      refine ⟨_, rfl, q, _, _, _, rfl, rfl, hs, atI_nat (j := 0) rfl, _, rfl, rfl, _, rfl, isNo (by decide) ⟨_, rfl, rfl, _, rfl, isNo (by decide) ⟨_, rfl, rfl, _, rfl, isYes rfl ?_⟩⟩⟩
      exact ⟨_, rfl, p, dx, _, rfl, hp, rfl, _, rfl, q, _, _, _, rfl, rfl, hs, atI_nat (j := 1) rfl, _, rfl, q, _, _, _, rfl, rfl, hs, atI_nat (j := 2) rfl, p, x, y, rfl, kk k⟩
    | start x =>
      refine ⟨_, rfl, q, _, _, _, rfl, rfl, hs, atI_nat (j := 0) rfl, _, rfl, rfl, _, rfl, isNo (by decide) ⟨_, rfl, rfl, _, rfl, isNo (by decide) ⟨_, rfl, rfl, _, rfl, isNo (by decide) ⟨_, rfl, rfl, _, rfl, isYes rfl ?_⟩⟩⟩⟩
      exact ⟨_, rfl, p, dx, _, rfl, hp, rfl, _, rfl, q, _, _, _, rfl, rfl, hs, atI_nat (j := 1) rfl, p, x, rfl, kk k⟩
    | best x =>
      refine ⟨_, rfl, q, _, _, _, rfl, rfl, hs, atI_nat (j := 0) rfl, _, rfl, rfl, _, rfl, isNo (by decide) ⟨_, rfl, rfl, _, rfl, isNo (by decide) ⟨_, rfl, rfl, _, rfl, isNo (by decide) ⟨_, rfl, rfl, _, rfl, isNo (by decide) ⟨_, rfl, rfl, _, rfl, isYes rfl ?_⟩⟩⟩⟩⟩
      exact ⟨_, rfl, p, dx, _, rfl, hp, rfl, _, rfl, q, _, _, _, rfl, rfl, hs, atI_nat (j := 1) rfl, p, x, rfl, kk k⟩
    | least x =>
      refine ⟨_, rfl, q, _, _, _, rfl, rfl, hs, atI_nat (j := 0) rfl, _, rfl, rfl, _, rfl, isNo (by decide) ⟨_, rfl, rfl, _, rfl, isNo (by decide) ⟨_, rfl, rfl, _, rfl, isNo (by decide) ⟨_, rfl, rfl, _, rfl, isNo (by decide) ⟨_, rfl, rfl, _, rfl, isNo (by decide) ⟨_, rfl, rfl, _, rfl, isYes rfl ?_⟩⟩⟩⟩⟩⟩
      exact ⟨_, rfl, p, dx, _, rfl, hp, rfl, _, rfl, q, _, _, _, rfl, rfl, hs, atI_nat (j := 1) rfl, p, x, rfl, kk k⟩
    | net =>
      refine ⟨_, rfl, q, _, _, _, rfl, rfl, hs, atI_nat (j := 0) rfl, _, rfl, rfl, _, rfl, isNo (by decide) ⟨_, rfl, rfl, _, rfl, isNo (by decide) ⟨_, rfl, rfl, _, rfl, isNo (by decide) ⟨_, rfl, rfl, _, rfl, isNo (by decide) ⟨_, rfl, rfl, _, rfl, isNo (by decide) ⟨_, rfl, rfl, _, rfl, isNo (by decide) ⟨_, rfl, rfl, _, rfl, isYes rfl ?_⟩⟩⟩⟩⟩⟩⟩
      exact ⟨_, rfl, p, dx, _, rfl, hp, rfl, p, rfl, kk k⟩
    | front =>
      refine ⟨_, rfl, q, _, _, _, rfl, rfl, hs, atI_nat (j := 0) rfl, _, rfl, rfl, _, rfl, isNo (by decide) ⟨_, rfl, rfl, _, rfl, isNo (by decide) ⟨_, rfl, rfl, _, rfl, isNo (by decide) ⟨_, rfl, rfl, _, rfl, isNo (by decide) ⟨_, rfl, rfl, _, rfl, isNo (by decide) ⟨_, rfl, rfl, _, rfl, isNo (by decide) ⟨_, rfl, rfl, _, rfl, isNo (by decide) ⟨_, rfl, rfl, _, rfl, isYes rfl ?_⟩⟩⟩⟩⟩⟩⟩⟩
      exact ⟨_, rfl, p, dx, _, rfl, hp, rfl, p, rfl, ansG_T k⟩
    | drop x =>
      refine ⟨_, rfl, q, _, _, _, rfl, rfl, hs, atI_nat (j := 0) rfl, _, rfl, rfl, _, rfl, isNo (by decide) ⟨_, rfl, rfl, _, rfl, isNo (by decide) ⟨_, rfl, rfl, _, rfl, isNo (by decide) ⟨_, rfl, rfl, _, rfl, isNo (by decide) ⟨_, rfl, rfl, _, rfl, isNo (by decide) ⟨_, rfl, rfl, _, rfl, isNo (by decide) ⟨_, rfl, rfl, _, rfl, isNo (by decide) ⟨_, rfl, rfl, _, rfl, isNo (by decide) ?_⟩⟩⟩⟩⟩⟩⟩⟩
      exact ⟨_, rfl, p, dx, _, rfl, hp, rfl, _, rfl, q, _, _, _, rfl, rfl, hs, atI_nat (j := 1) rfl, p, x, rfl, kk k⟩
end WP

/-! answers. -/
namespace WP
open PySem L2 WE LamX
open WM (HGood)
open WF (Item Flat due)
variable {P : Program} {w : World} {K : PySem.W.Frag} {mg : Str → Option Value} {base : Heap} {CA CH : Addr}

def spAnswers (K : PySem.W.Frag) (TA : Addr) : Sp := fun vs H Q _ => ∃ (a : Addr) (ns : List Int) (xs : List Pn11.Call), vs = [.ref a] ∧ SqL K H a (ns.map V.int) ∧ Flat ns xs ∧ (due Pn11.init xs).length ≤ 10000000 ∧ TabS H TA lamName ∧
  ∀ (H' : Hp) (r : Addr), H' r = some (.lst ((due Pn11.init xs).map V.int)) → Q (.ref r) H'
theorem scAnswers : FnScope ["calls", "house", "given", "place", "length", "answer"] ["calls"] (defScope sAnswers) := ⟨rfl, rfl, rfl, by decide +kernel, rfl, by decide +kernel, by decide +kernel⟩

theorem item_pos {f : List Int} {x : Pn11.Call} {c : List (List Int)} (h : Item f x c) : 0 < f.length := by
  cases h <;> simp
theorem flat_more {l : List Int} {xs : List Pn11.Call} (h : Flat l xs) : (l = [] ∧ xs = []) ∨ ∃ f x c t ys, l = f ++ t ∧ xs = x :: ys ∧ Item f x c ∧ Flat t ys := by
  cases h with
  | nil => exact .inl ⟨rfl, rfl⟩
  | cons it t => exact .inr ⟨_, _, _, _, _, rfl, rfl, it, t⟩
theorem cutF {ns f t : List Int} {i : Nat} (h : ns.drop i = f ++ t) (hi : i ≤ ns.length) : cutV (ns.map V.int) (some (i : Int)) (some ((i : Int) + (f.length : Int))) = f.map V.int := by
  have ln : ns.length = i + (f.length + t.length) := by
    have := congrArg List.length h
    rw [List.length_drop, List.length_append] at this
    omega
  have e : ((i : Int) + (f.length : Int)) = ((i + f.length : Nat) : Int) := by push_cast; rfl
  unfold cutV
  rw [e, HT.sIx_nat, HT.sIx_nat, List.length_map]
  have e1 : min i ns.length = i := by omega
  have e2 : min (i + f.length) ns.length = i + f.length := by omega
  rw [e1, e2, ← List.map_drop, h, ← List.map_take]
  congr 1
  rw [show i + f.length - i = f.length by omega, List.take_left]

/-- between two calls -/
structure Loop (CA CH TA : Addr) (H H' : Hp) (p g la lw : Addr) (h : Pn11.House) (out : List Int) : Prop where
  good : HGood h
  at_ : HouseAt CA CH H' p la lw h
  tab : TabS H' TA lamName
  ext : ExtN H H'
  giv : H' g = some (.lst (out.map V.int))
  fp : Fresh H p
  fa : Fresh H la
  fw : Fresh H lw
  fg : Fresh H g
  ga : g ≠ la
  gw : g ≠ lw

theorem ok_answers {f fI TA : Addr} {fd fdI : FuncData} (F : Fun K "answers" "answers" sAnswers f fd) (zlen : mg "len" = none) (M : Mk K CH fI) (GI : FnOk P w K mg base CX0 1 fI fdI ["self"] (spInit CA CH)) (bI : Binds K fdI ["self"] []) (gH : mg "House" = some (.ref CH))
    (DL : Def P w K mg base "call_length" 1 ["calls", "place"] (spLength K)) (DA : Def P w K mg base "answer_of" 7 ["house", "call"] (spAnswer K CA CH TA)) :
    FnOk P w K mg base CX0 8 f fd ["calls"] (spAnswers K TA) := by
  refine F.ok scAnswers (fun vs H Q E h => ?_) (fun cdv A outer s H vs Q E hr h => ?_)
  · obtain ⟨a, ns, xs, rfl, _⟩ := h
    rfl
  · obtain ⟨a, ns, xs, rfl, hs, hfl, hlen, hT, k⟩ := h
    have hr1 : Room 1 _ := hr.mono (by decide)
    have hr2 : Room 2 _ := hr.mono (by decide)
    refine ⟨_, pss_cons (ps_set (i := 1) scAnswers.nd rfl (.inl rfl) (pe_make0 M GI hr2 (by rfl) gH bI .nil pass0))
      (pss_cons (ps_set (i := 2) scAnswers.nd rfl (.inl rfl) (pe_lst pa_nil))
      (pss_cons (ps_set (i := 3) scAnswers.nd rfl (.inl rfl) pe_int)
      (pss_cons (ps_while PassesOwn.never (pt_cmpR op_lt (pv 3) (pe_callB call_len_seq (by rfl) zlen PySem.boot_len (pa_cons (pv 0) pa_nil)) (nomark _))
        (pss_cons (ps_set (i := 4) scAnswers.nd rfl (.inl rfl) (pe_def DL hr1 (by rfl) (pa_cons (pv 0) (pa_cons (pv 3) pa_nil))))
        (pss_cons (ps_set (i := 5) scAnswers.nd rfl (.inl rfl) (pe_def DA hr (by rfl) (pa_cons (pv 1) (pa_cons (pe_slice sl_list (pv 0) (po_some (pv 3)) (po_some (pe_op op_add (pv 3) (pv 4)))) pa_nil))))
        (pss_cons (ps_expr (pe_bm PySem.F.plainAttrs_list PySem.F.slot_list_append PySem.F.type_list_append mt_append (pv 2) (pa_cons (pe_callB call_len_seq (by rfl) zlen PySem.boot_len (pa_cons (pv 5) pa_nil)) pa_nil)))
        (pss_cons (ps_expr (pe_bm PySem.F.plainAttrs_list PySem.F.slot_list_extend PySem.F.type_list_extend mt_extend (pv 2) (pa_cons (pv 5) pa_nil)))
        (pss_one (ps_set (i := 3) scAnswers.nd rfl (.inl rfl) (pe_op op_add (pv 3) (pv 4)))))))))
      (pss_one (ps_ret (pv 2)))))), ?_⟩
    -- house = House()
    refine fun p dx np ndx nex => ⟨p, dx, rfl, upd_same, fun H1 la lw hh nla nlw keep => ⟨rfl, ?_⟩⟩
    have s0 : Same H (upd (upd H dx (.own p)) p (.ins CH dx [])) := fun b o e => by rw [upd_ne (ne_of_none e np), upd_ne (ne_of_none e ndx)]; exact e
    have s1 : Same H H1 := fun b o e => keep b o (s0 b o e) (ne_of_none e np)
    -- given = []
    refine ⟨Nat.zero_le _, fun g ng => ?_⟩
    have s2 : Same H1 (upd H1 g (.lst [])) := upd_new ng
    have s02 := s1.trans s2
    obtain ⟨pa, hla, _⟩ := id hh.acts
    obtain ⟨pw, hlw, _⟩ := id hh.wor
    have L0 : Loop CA CH TA H (upd H1 g (.lst [])) p g la lw Pn11.init [] := ⟨WM.hgood_init, hh.same s2, hT.ext s02, ext_same s02, upd_same, fresh_none np, fresh_same s0 nla, fresh_same s0 nlw, fresh_same s1 ng, (ne_of_none hla ng).symm, (ne_of_none hlw ng).symm⟩
    -- while place < len(calls)
    refine ⟨fun m σ H' => ∃ (i : Nat) (ys : List Pn11.Call) (la lw : Addr) (h : Pn11.House) (out : List Int) (x y : Option V), σ = [some (.ref a), some (.ref p), some (.ref g), some (.int (i : Int)), x, y] ∧ m = ys.length ∧ Flat (ns.drop i) ys ∧ i ≤ ns.length ∧ due Pn11.init xs = out ++ due h ys ∧ Loop CA CH TA H H' p g la lw h out,
      ⟨_, 0, xs, la, lw, Pn11.init, [], none, none, rfl, rfl, hfl, Nat.zero_le _, rfl, L0⟩, ?_⟩
    rintro m σ H2 ⟨i, ys, la, lw, h, out, x, y, rfl, rfl, hf, hi, hd, L⟩
    have hs2 := WS.sqL_ext L.ext hs
    refine ⟨_, rfl, _, rfl, a, _, rfl, .inl hs2, _, _, rfl, rfl, _, rfl, ?_⟩
    show if decide ((i : Int) < (((ns.map V.int).length : Nat) : Int)) = true then _ else _
    rw [List.length_map]
    rcases flat_more hf with ⟨e0, rfl⟩ | ⟨f, c, rw_, t, zs, ef, rfl, it, ht⟩
    · have : ns.length ≤ i := List.drop_eq_nil_iff.1 e0
      rw [decide_eq_false (by omega)]
      refine iteF ⟨_, rfl, k H2 g ?_⟩
      rw [hd]
      show H2 g = some (.lst ((out ++ []).map V.int))
      rw [List.append_nil]
      exact L.giv
    · have fpos := item_pos it
      have ln : ns.length = i + (f.length + t.length) := by
        have := congrArg List.length ef
        rw [List.length_drop, List.length_append] at this
        omega
      rw [decide_eq_true (by omega)]
      refine iteT ⟨fun σ' H'' => ∃ m', m' < (c :: zs).length ∧ ∃ (i : Nat) (ys : List Pn11.Call) (la lw : Addr) (h : Pn11.House) (out : List Int) (x y : Option V), σ' = [some (.ref a), some (.ref p), some (.ref g), some (.int (i : Int)), x, y] ∧ m' = ys.length ∧ Flat (ns.drop i) ys ∧ i ≤ ns.length ∧ due Pn11.init xs = out ++ due h ys ∧ Loop CA CH TA H H'' p g la lw h out, fun _ _ h => h, ?_⟩
      -- length = call_length(calls, place)
      refine ⟨_, rfl, _, rfl, a, i, ns, f, t, c, rw_, rfl, hs2, ef, it, ?_⟩
      -- answer = answer_of(house, calls[place:place + length])
      refine ⟨_, rfl, _, rfl, _, rfl, _, rfl, _, rfl, _, rfl, _, _, rfl, rfl, _, rfl, a, _, rfl, hs2, fun q nq => ?_⟩
      rw [cutF ef hi]
      have s3 : Same H2 (upd H2 q (.lst (f.map V.int))) := upd_new nq
      refine ⟨p, q, f, c, rw_, rfl, SqL.of upd_same, it, la, lw, h, L.at_.same s3, L.good, L.tab.ext s3, fun H4 la' lw' r hh4 hT4 nla' nlw' keep4 fr ra rw4 hr4 => ?_⟩
      obtain ⟨dx4, hp2⟩ := L.at_.ob
      have g3 := s3 _ _ L.giv
      have e4 : ExtN H H4 := fun b o e n => keep4 b o (s3 _ _ (L.ext b o e n)) n (L.fp b o e n) (L.fa b o e n) (L.fw b o e n)
      have gp : g ≠ p := ne_of L.giv hp2 (by intro z; cases z)
      have g4 : H4 g = some (.lst (out.map V.int)) := keep4 _ _ g3 (fun _ z => by cases z) gp L.ga L.gw
      have gr : g ≠ r := fr _ _ g3 (fun _ z => by cases z)
      have ga' : g ≠ la' := by
        rcases nla' with z | z
        · exact z _ _ g3 (fun _ z => by cases z)
        · rw [z]; exact L.ga
      have gw' : g ≠ lw' := by
        rcases nlw' with z | z
        · exact z _ _ g3 (fun _ z => by cases z)
        · rw [z]; exact L.gw
      have fa' : Fresh H la' := by
        rcases nla' with z | z
        · exact Fresh.ext (L.ext.trans (ext_same s3)) z
        · rw [z]; exact L.fa
      have fw' : Fresh H lw' := by
        rcases nlw' with z | z
        · exact Fresh.ext (L.ext.trans (ext_same s3)) z
        · rw [z]; exact L.fw
      have hd' : due h (c :: zs) = ((Pn11Neutral.out (Pn11.step h c).2).length : Int) :: (Pn11Neutral.out (Pn11.step h c).2 ++ due (Pn11.step h c).1 zs) := rfl
      generalize Pn11Neutral.out (Pn11.step h c).2 = an at hr4 hd'
      have big : out.length + (an.length + 1) ≤ 10000000 := by
        have := hlen
        rw [hd, hd', List.length_append, List.length_cons, List.length_append] at this
        omega
      have lim : 10000000 < sizeLine := by decide
      -- given.append(len(answer))
      refine ⟨_, rfl, .inl ⟨rfl, _, SqL.of g4⟩, _, rfl, r, _, rfl, .inl (SqL.of hr4), g, _, _, rfl, rfl, g4, (by rw [List.length_map]; omega), ?_⟩
      let H5 : Hp := upd H4 g (.lst (out.map V.int ++ [.int (((an.map V.int).length : Nat) : Int)]))
      have hr5 : H5 r = some (.lst (an.map V.int)) := by show upd H4 g _ r = _; rw [upd_ne gr.symm]; exact hr4
      -- given.extend(answer)
      refine ⟨_, rfl, .inl ⟨rfl, _, SqL.of upd_same⟩, _, rfl, g, r, _, _, rfl, rfl, upd_same, hr5, (by rw [List.length_append, List.length_map, List.length_map, List.length_singleton]; omega), ?_⟩
      have eb : upd H5 g (.lst ((out.map V.int ++ [.int (((an.map V.int).length : Nat) : Int)]) ++ an.map V.int)) = upd H4 g (.lst ((out ++ ((an.length : Int) :: an)).map V.int)) := by
        show upd (upd H4 g _) g _ = _
        rw [upd_upd]
        congr 2
        rw [List.map_append, List.map_cons, List.length_map, List.append_assoc]
        rfl
      -- place = place + length
      refine ⟨_, rfl, _, rfl, _, _, rfl, rfl, ?_⟩
      refine ⟨zs.length, by rw [List.length_cons]; omega, i + f.length, zs, la', lw', (Pn11.step h c).1, out ++ ((an.length : Int) :: an), _, _, rfl, rfl, ?_, by omega, ?_, ?_⟩
      · have : ns.drop (i + f.length) = t := by
          rw [← List.drop_drop, ef, List.drop_left]
        rw [this]
        exact ht
      · rw [hd, hd', List.append_assoc]
        rfl
      · rw [eb]
        have bt : But g H4 (upd H4 g (.lst ((out ++ ((an.length : Int) :: an)).map V.int))) := but_upd
        obtain ⟨⟨dx5, o1⟩, ⟨pa5, o2, o3⟩, ⟨pw5, o4, o5⟩, o6⟩ := hh4
        refine ⟨L.good.step c, ⟨⟨dx5, bt _ _ o1 (ne_of o1 g4 (by intro z; cases z))⟩, ⟨pa5, bt _ _ o2 ga'.symm, paired_map o3 fun a b ⟨dy, z⟩ => ⟨dy, bt _ _ z (ne_of z g4 (by intro z; cases z))⟩⟩, ⟨pw5, bt _ _ o4 gw'.symm, paired_map o5 fun a b z => bt _ _ z (ne_of z g4 (by intro z; cases z))⟩, o6⟩,
          tab_but hT4 g4 bt, fun b o e n => bt _ _ (e4 b o e n) (L.fg b o e n), upd_same, L.fp, fa', fw', L.fg, ga', gw'⟩
end WP

/-! All defs together. -/
namespace WP
open PySem L2 WE LamX
variable {P : Program} {w : World} {K : PySem.W.Frag} {mg : Str → Option Value}

/-- a def of the top -/
structure TopF (K : PySem.W.Frag) (x : Str) (st : Stmt) : Prop where
  ex : ∃ f fd, PySem.W.nsIn K mainGlobals x = some (some (.ref f)) ∧ Fun K x x st f fd
theorem topF {x : Str} {st : Stmt} {f : Addr} {oc : Value} {od an : Option Addr} {osl : Array (Option Value)} {kV doc pm cdv ct : Value} (a : PySem.W.nsIn K mainGlobals x = some (some (.ref f)))
    (l : K.lookup f = some ⟨oc, od, .func (PySem.W.fnOf x x (defArgs st) (defBody st) (defScope st) .none kV doc pm an cdv ct), osl⟩) (c : PySem.W.codeIn K cdv x = true) (k : PySem.W.keepIn K (.ref f) = true) : TopF K x st := ⟨_, _, a, fun_mk l c k⟩
/-- a method -/
structure MetF (K : PySem.W.Frag) (C : Addr) (m qual : Str) (st : Stmt) : Prop where
  ex : ∃ f fd, PySem.W.findIn K (.ref C) m = some (some (.ref f)) ∧ PySem.W.isFn K (.ref f) = true ∧ Fun K m qual st f fd
theorem metF {C f : Addr} {m qual : Str} {st : Stmt} {oc : Value} {od an : Option Addr} {osl : Array (Option Value)} {kV doc pm cdv ct : Value} (a : PySem.W.findIn K (.ref C) m = some (some (.ref f))) (i : PySem.W.isFn K (.ref f) = true)
    (l : K.lookup f = some ⟨oc, od, .func (PySem.W.fnOf m qual (defArgs st) (defBody st) (defScope st) .none kV doc pm an cdv ct), osl⟩) (c : PySem.W.codeIn K cdv qual = true) (k : PySem.W.keepIn K (.ref f) = true) : MetF K C m qual st := ⟨_, _, a, i, fun_mk l c k⟩
/-- the def that makes the lambda: its code object is known -/
structure LamF (K : PySem.W.Frag) (c : Addr) : Prop where
  ex : ∃ (f : Addr) (oc : Value) (od an : Option Addr) (osl : Array (Option Value)) (kV doc pm ct : Value), PySem.W.nsIn K mainGlobals "front_of" = some (some (.ref f)) ∧
    K.lookup f = some ⟨oc, od, .func (PySem.W.fnOf "front_of" "front_of" (defArgs sFrontOf) (defBody sFrontOf) (defScope sFrontOf) .none kV doc pm an (.ref c) ct), osl⟩ ∧ PySem.W.codeIn K (.ref c) "front_of" = true ∧ PySem.W.keepIn K (.ref f) = true
theorem lamF {c f : Addr} {oc : Value} {od an : Option Addr} {osl : Array (Option Value)} {kV doc pm ct : Value} (a : PySem.W.nsIn K mainGlobals "front_of" = some (some (.ref f)))
    (l : K.lookup f = some ⟨oc, od, .func (PySem.W.fnOf "front_of" "front_of" (defArgs sFrontOf) (defBody sFrontOf) (defScope sFrontOf) .none kV doc pm an (.ref c) ct), osl⟩) (d : PySem.W.codeIn K (.ref c) "front_of" = true) (k : PySem.W.keepIn K (.ref f) = true) : LamF K c := ⟨f, oc, od, an, osl, kV, doc, pm, ct, a, l, d, k⟩
/-- a class -/
structure ClsF (K : PySem.W.Frag) (x : Str) (C : Addr) : Prop where
  at_ : PySem.W.nsIn K mainGlobals x = some (some (.ref C))
  plain : Cls K C
  mks : PySem.W.makesIn K C = true
  kc : PySem.W.keepIn K (.ref C) = true
/-- a number of the top -/
def IntG (K : PySem.W.Frag) (x : Str) (v : Int) : Prop := ∃ t, PySem.W.nsIn K mainGlobals x = some (some (.int v t))
theorem intG {x : Str} {v : Int} {t : Tok} (h : PySem.W.nsIn K mainGlobals x = some (some (.int v t))) : IntG K x v := ⟨t, h⟩
/-- a name that the top doesn't bind -/
def NoG (K : PySem.W.Frag) (x : Str) : Prop := PySem.W.nsIn K mainGlobals x = some none
theorem noG {x : Str} (h : PySem.W.nsIn K mainGlobals x = some none) : NoG K x := h
theorem noA {C : Addr} {x : Str} (h : PySem.W.findIn K (.ref C) x = some none) : NoAttr K C x := h

theorem all_ok {h : Heap} {fa CA CH c TA : Addr} (X : K.In h) (G : h.Ns mainGlobals mg) (hfa : mg "answers" = some (.ref fa)) (cA : ClsF K "Act" CA) (cH : ClsF K "House" CH)
    (nA_needs : NoAttr K CA "needs")
    (nA_bars : NoAttr K CA "bars")
    (nA_brings : NoAttr K CA "brings")
    (nA_takes : NoAttr K CA "takes")
    (nA_cost : NoAttr K CA "cost")
    (nH_fact_count : NoAttr K CH "fact_count")
    (nH_first_state : NoAttr K CH "first_state")
    (nH_acts : NoAttr K CH "acts")
    (nH_worths : NoAttr K CH "worths")
    (g_BEGINS : IntG K "BEGINS" 0)
    (g_ACT : IntG K "ACT" 1)
    (g_WORTH : IntG K "WORTH" 2)
    (g_START : IntG K "START" 3)
    (g_BEST : IntG K "BEST" 4)
    (g_LEAST : IntG K "LEAST" 5)
    (g_NET : IntG K "NET" 6)
    (g_FRONT : IntG K "FRONT" 7)
    (g_WRONG : IntG K "WRONG" (-1))
    (g_NOT_THERE : IntG K "NOT_THERE" (-2))
    (g_NEVER_SO_MUCH : IntG K "NEVER_SO_MUCH" (-6))
    (g_FULL : IntG K "FULL" (-7))
    (g_MOST_FACTS : IntG K "MOST_FACTS" 6)
    (g_MOST_ACTS : IntG K "MOST_ACTS" 10)
    (g_MOST_WORTHS : IntG K "MOST_WORTHS" 8)
    (g_MOST_PRICE : IntG K "MOST_PRICE" 1000)
    (z_len : NoG K "len")
    (z_enumerate : NoG K "enumerate")
    (z_min : NoG K "min")
    (z_sum : NoG K "sum")
    (z_sorted : NoG K "sorted")
    (z_list : NoG K "list")
    (FH : TopF K "has_all" sHas)
    (FT : TopF K "are_there" sThere)
    (FP : TopF K "is_price" sPrice)
    (FPa : TopF K "are_act_parts" sParts)
    (FC : TopF K "cheapest_ends" sCheapest)
    (FL : TopF K "state_of_lowest" sLowest)
    (FG : TopF K "ends_one_longer" sLonger)
    (FLe : TopF K "call_length" sLength)
    (FA : TopF K "answer_of" sAnswer)
    (FZ : TopF K "answers" sAnswers)
    (FF : LamF K c)
    (A0 : MetF K CA "__init__" "Act.__init__" sActInit)
    (A1 : MetF K CA "may_be_done" "Act.may_be_done" sMay)
    (A2 : MetF K CA "state_behind" "Act.state_behind" sBehind)
    (H0 : MetF K CH "__init__" "House.__init__" sInit)
    (H1 : MetF K CH "begins" "House.begins" sBegins)
    (H2 : MetF K CH "act" "House.act" sAct)
    (H3 : MetF K CH "worth" "House.worth" sWorth)
    (H4 : MetF K CH "start" "House.start" sStart)
    (H5 : MetF K CH "best" "House.best" sBest)
    (H6 : MetF K CH "least" "House.least" sLeast)
    (H7 : MetF K CH "net" "House.net" sNet)
    (H8 : MetF K CH "front" "House.front" sFront)
    (H9 : MetF K CH "drop" "House.drop" sDrop)
    (H10 : MetF K CH "valued_ends" "House.valued_ends" sValued)
    (H11 : MetF K CH "worth_of" "House.worth_of" sWorthOf) :
    ∃ fd : FuncData, (∀ (s : Shared) (us : List Value), us.length = (["calls"] : List Str).length → BindsTo s fd ⟨us, []⟩ ((["calls"] : List Str).zip us)) ∧ ∀ base : Heap, K.In base → base.Ns mainGlobals mg → TabB base mg c TA → FnOk P w K mg base CX0 8 fa fd ["calls"] (spAnswers K TA) := by
  have TA1 : ActT K CA := ⟨cA.plain, nA_needs, nA_bars, nA_brings, nA_takes, nA_cost⟩
  have TH1 : HouseT K CH := ⟨cH.plain, nH_fact_count, nH_first_state, nH_acts, nH_worths⟩
  obtain ⟨t_BEGINS, g_BEGINS⟩ := g_BEGINS; have g_BEGINS := PySem.W.mg_of X G g_BEGINS
  obtain ⟨t_ACT, g_ACT⟩ := g_ACT; have g_ACT := PySem.W.mg_of X G g_ACT
  obtain ⟨t_WORTH, g_WORTH⟩ := g_WORTH; have g_WORTH := PySem.W.mg_of X G g_WORTH
  obtain ⟨t_START, g_START⟩ := g_START; have g_START := PySem.W.mg_of X G g_START
  obtain ⟨t_BEST, g_BEST⟩ := g_BEST; have g_BEST := PySem.W.mg_of X G g_BEST
  obtain ⟨t_LEAST, g_LEAST⟩ := g_LEAST; have g_LEAST := PySem.W.mg_of X G g_LEAST
  obtain ⟨t_NET, g_NET⟩ := g_NET; have g_NET := PySem.W.mg_of X G g_NET
  obtain ⟨t_FRONT, g_FRONT⟩ := g_FRONT; have g_FRONT := PySem.W.mg_of X G g_FRONT
  obtain ⟨t_WRONG, g_WRONG⟩ := g_WRONG; have g_WRONG := PySem.W.mg_of X G g_WRONG
  obtain ⟨t_NOT_THERE, g_NOT_THERE⟩ := g_NOT_THERE; have g_NOT_THERE := PySem.W.mg_of X G g_NOT_THERE
  obtain ⟨t_NEVER_SO_MUCH, g_NEVER_SO_MUCH⟩ := g_NEVER_SO_MUCH; have g_NEVER_SO_MUCH := PySem.W.mg_of X G g_NEVER_SO_MUCH
  obtain ⟨t_FULL, g_FULL⟩ := g_FULL; have g_FULL := PySem.W.mg_of X G g_FULL
  obtain ⟨t_MOST_FACTS, g_MOST_FACTS⟩ := g_MOST_FACTS; have g_MOST_FACTS := PySem.W.mg_of X G g_MOST_FACTS
  obtain ⟨t_MOST_ACTS, g_MOST_ACTS⟩ := g_MOST_ACTS; have g_MOST_ACTS := PySem.W.mg_of X G g_MOST_ACTS
  obtain ⟨t_MOST_WORTHS, g_MOST_WORTHS⟩ := g_MOST_WORTHS; have g_MOST_WORTHS := PySem.W.mg_of X G g_MOST_WORTHS
  obtain ⟨t_MOST_PRICE, g_MOST_PRICE⟩ := g_MOST_PRICE; have g_MOST_PRICE := PySem.W.mg_of X G g_MOST_PRICE
  have z_len := PySem.W.mg_none_of X G z_len
  have z_enumerate := PySem.W.mg_none_of X G z_enumerate
  have z_min := PySem.W.mg_none_of X G z_min
  have z_sum := PySem.W.mg_none_of X G z_sum
  have z_sorted := PySem.W.mg_none_of X G z_sorted
  have z_list := PySem.W.mg_none_of X G z_list
  obtain ⟨f_FH, d_FH, a_FH, FH⟩ := FH.ex; have a_FH := PySem.W.mg_of X G a_FH; have b_FH := FH.binds (ps := ["state", "facts"]) fun _ _ _ _ _ _ us hl => match us, hl with | [_, _], _ => rfl
  obtain ⟨f_FT, d_FT, a_FT, FT⟩ := FT.ex; have a_FT := PySem.W.mg_of X G a_FT; have b_FT := FT.binds (ps := ["fact_count", "facts"]) fun _ _ _ _ _ _ us hl => match us, hl with | [_, _], _ => rfl
  obtain ⟨f_FP, d_FP, a_FP, FP⟩ := FP.ex; have a_FP := PySem.W.mg_of X G a_FP; have b_FP := FP.binds (ps := ["number"]) fun _ _ _ _ _ _ us hl => match us, hl with | [_], _ => rfl
  obtain ⟨f_FPa, d_FPa, a_FPa, FPa⟩ := FPa.ex; have a_FPa := PySem.W.mg_of X G a_FPa; have b_FPa := FPa.binds (ps := ["fact_count", "parts"]) fun _ _ _ _ _ _ us hl => match us, hl with | [_, _], _ => rfl
  obtain ⟨f_FC, d_FC, a_FC, FC⟩ := FC.ex; have a_FC := PySem.W.mg_of X G a_FC; have b_FC := FC.binds (ps := ["first_state", "acts"]) fun _ _ _ _ _ _ us hl => match us, hl with | [_, _], _ => rfl
  obtain ⟨f_FL, d_FL, a_FL, FL⟩ := FL.ex; have a_FL := PySem.W.mg_of X G a_FL; have b_FL := FL.binds (ps := ["ends"]) fun _ _ _ _ _ _ us hl => match us, hl with | [_], _ => rfl
  obtain ⟨f_FG, d_FG, a_FG, FG⟩ := FG.ex; have a_FG := PySem.W.mg_of X G a_FG; have b_FG := FG.binds (ps := ["state", "end", "acts"]) fun _ _ _ _ _ _ us hl => match us, hl with | [_, _, _], _ => rfl
  obtain ⟨f_FLe, d_FLe, a_FLe, FLe⟩ := FLe.ex; have a_FLe := PySem.W.mg_of X G a_FLe; have b_FLe := FLe.binds (ps := ["calls", "place"]) fun _ _ _ _ _ _ us hl => match us, hl with | [_, _], _ => rfl
  obtain ⟨f_FA, d_FA, a_FA, FA⟩ := FA.ex; have a_FA := PySem.W.mg_of X G a_FA; have b_FA := FA.binds (ps := ["house", "call"]) fun _ _ _ _ _ _ us hl => match us, hl with | [_, _], _ => rfl
  obtain ⟨f_FZ, d_FZ, a_FZ, FZ⟩ := FZ.ex; have a_FZ := PySem.W.mg_of X G a_FZ; have b_FZ := FZ.binds (ps := ["calls"]) fun _ _ _ _ _ _ us hl => match us, hl with | [_], _ => rfl
  obtain ⟨f_A0, d_A0, a_A0, i_A0, A0⟩ := A0.ex; have b_A0 := A0.binds (ps := ["self", "parts"]) fun _ _ _ _ _ _ us hl => match us, hl with | [_, _], _ => rfl; have m_A0 : Meth K CA "__init__" f_A0 := ⟨a_A0, i_A0, A0.kp⟩
  obtain ⟨f_A1, d_A1, a_A1, i_A1, A1⟩ := A1.ex; have b_A1 := A1.binds (ps := ["self", "state"]) fun _ _ _ _ _ _ us hl => match us, hl with | [_, _], _ => rfl; have m_A1 : Meth K CA "may_be_done" f_A1 := ⟨a_A1, i_A1, A1.kp⟩
  obtain ⟨f_A2, d_A2, a_A2, i_A2, A2⟩ := A2.ex; have b_A2 := A2.binds (ps := ["self", "state"]) fun _ _ _ _ _ _ us hl => match us, hl with | [_, _], _ => rfl; have m_A2 : Meth K CA "state_behind" f_A2 := ⟨a_A2, i_A2, A2.kp⟩
  obtain ⟨f_H0, d_H0, a_H0, i_H0, H0⟩ := H0.ex; have b_H0 := H0.binds (ps := ["self"]) fun _ _ _ _ _ _ us hl => match us, hl with | [_], _ => rfl; have m_H0 : Meth K CH "__init__" f_H0 := ⟨a_H0, i_H0, H0.kp⟩
  obtain ⟨f_H1, d_H1, a_H1, i_H1, H1⟩ := H1.ex; have b_H1 := H1.binds (ps := ["self", "facts", "so"]) fun _ _ _ _ _ _ us hl => match us, hl with | [_, _, _], _ => rfl; have m_H1 : Meth K CH "begins" f_H1 := ⟨a_H1, i_H1, H1.kp⟩
  obtain ⟨f_H2, d_H2, a_H2, i_H2, H2⟩ := H2.ex; have b_H2 := H2.binds (ps := ["self", "parts"]) fun _ _ _ _ _ _ us hl => match us, hl with | [_, _], _ => rfl; have m_H2 : Meth K CH "act" f_H2 := ⟨a_H2, i_H2, H2.kp⟩
  obtain ⟨f_H3, d_H3, a_H3, i_H3, H3⟩ := H3.ex; have b_H3 := H3.binds (ps := ["self", "facts", "much"]) fun _ _ _ _ _ _ us hl => match us, hl with | [_, _, _], _ => rfl; have m_H3 : Meth K CH "worth" f_H3 := ⟨a_H3, i_H3, H3.kp⟩
  obtain ⟨f_H4, d_H4, a_H4, i_H4, H4⟩ := H4.ex; have b_H4 := H4.binds (ps := ["self", "so"]) fun _ _ _ _ _ _ us hl => match us, hl with | [_, _], _ => rfl; have m_H4 : Meth K CH "start" f_H4 := ⟨a_H4, i_H4, H4.kp⟩
  obtain ⟨f_H5, d_H5, a_H5, i_H5, H5⟩ := H5.ex; have b_H5 := H5.binds (ps := ["self", "spent"]) fun _ _ _ _ _ _ us hl => match us, hl with | [_, _], _ => rfl; have m_H5 : Meth K CH "best" f_H5 := ⟨a_H5, i_H5, H5.kp⟩
  obtain ⟨f_H6, d_H6, a_H6, i_H6, H6⟩ := H6.ex; have b_H6 := H6.binds (ps := ["self", "much"]) fun _ _ _ _ _ _ us hl => match us, hl with | [_, _], _ => rfl; have m_H6 : Meth K CH "least" f_H6 := ⟨a_H6, i_H6, H6.kp⟩
  obtain ⟨f_H7, d_H7, a_H7, i_H7, H7⟩ := H7.ex; have b_H7 := H7.binds (ps := ["self"]) fun _ _ _ _ _ _ us hl => match us, hl with | [_], _ => rfl; have m_H7 : Meth K CH "net" f_H7 := ⟨a_H7, i_H7, H7.kp⟩
  obtain ⟨f_H8, d_H8, a_H8, i_H8, H8⟩ := H8.ex; have b_H8 := H8.binds (ps := ["self"]) fun _ _ _ _ _ _ us hl => match us, hl with | [_], _ => rfl; have m_H8 : Meth K CH "front" f_H8 := ⟨a_H8, i_H8, H8.kp⟩
  obtain ⟨f_H9, d_H9, a_H9, i_H9, H9⟩ := H9.ex; have b_H9 := H9.binds (ps := ["self", "which"]) fun _ _ _ _ _ _ us hl => match us, hl with | [_, _], _ => rfl; have m_H9 : Meth K CH "drop" f_H9 := ⟨a_H9, i_H9, H9.kp⟩
  obtain ⟨f_H10, d_H10, a_H10, i_H10, H10⟩ := H10.ex; have b_H10 := H10.binds (ps := ["self"]) fun _ _ _ _ _ _ us hl => match us, hl with | [_], _ => rfl; have m_H10 : Meth K CH "valued_ends" f_H10 := ⟨a_H10, i_H10, H10.kp⟩
  obtain ⟨f_H11, d_H11, a_H11, i_H11, H11⟩ := H11.ex; have b_H11 := H11.binds (ps := ["self", "state"]) fun _ _ _ _ _ _ us hl => match us, hl with | [_, _], _ => rfl; have m_H11 : Meth K CH "worth_of" f_H11 := ⟨a_H11, i_H11, H11.kp⟩
  obtain ⟨fF, oc, od, an, osl, kV, doc, pm, ct, aF, lF, cF, kF⟩ := FF.ex
  have aF := PySem.W.mg_of X G aF
  have e := hfa.symm.trans a_FZ
  cases e
  refine ⟨d_FZ, fun s us hu => ?_, fun base hK hN TB => ?_⟩
  · obtain ⟨oc, od, kV, doc, pm, an, cdv, ct, osl, ed, _, _⟩ := FZ.ex
    rw [ed]
    exact match us, hu with | [_], _ => .of_eq rfl
  have bF : Binds K (PySem.W.fnOf "front_of" "front_of" (defArgs sFrontOf) (defBody sFrontOf) (defScope sFrontOf) .none kV doc pm an (.ref c) ct) ["pairs"] [] := .all fun us hl => match us, hl with | [_], _ => rfl
  have DH : Def P w K mg base "has_all" 1 ["state", "facts"] spHas := ⟨_, _, a_FH, FH.kp, b_FH, ok_has FH⟩
  have DT : Def P w K mg base "are_there" 1 ["fact_count", "facts"] spThere := ⟨_, _, a_FT, FT.kp, b_FT, ok_there FT⟩
  have DP : Def P w K mg base "is_price" 1 ["number"] spPrice := ⟨_, _, a_FP, FP.kp, b_FP, ok_price FP g_MOST_PRICE⟩
  have DPa : Def P w K mg base "are_act_parts" 2 ["fact_count", "parts"] (spParts K) := ⟨_, _, a_FPa, FPa.kp, b_FPa, ok_parts FPa z_len DT DP⟩
  have k_A0 : FnOk P w K mg base CX0 1 f_A0 d_A0 ["self", "parts"] (spActInit K CA) := ok_actInit A0 TA1
  have k_A1 : FnOk P w K mg base CX0 2 f_A1 d_A1 ["self", "state"] (spMay CA) := ok_may A1 TA1 DH
  have k_A2 : FnOk P w K mg base CX0 1 f_A2 d_A2 ["self", "state"] (spBehind CA) := ok_behind A2 TA1
  have DG : Def P w K mg base "ends_one_longer" 3 ["state", "end", "acts"] (spLonger K CA) := ⟨_, _, a_FG, FG.kp, b_FG, ok_longer FG TA1 z_enumerate k_A1 b_A1 m_A1 k_A2 b_A2 m_A2⟩
  have DL : Def P w K mg base "state_of_lowest" 1 ["ends"] (spLowest K) := ⟨_, _, a_FL, FL.kp, b_FL, ok_lowest FL z_min⟩
  have DC : Def P w K mg base "cheapest_ends" 4 ["first_state", "acts"] (spCheapest K CA) := ⟨_, _, a_FC, FC.kp, b_FC, ok_cheapest FC z_len DL DG⟩
  have DF : Def P w K mg base "front_of" 2 ["pairs"] (spFrontOf K TA) := ⟨_, _, aF, kF, bF, ok_frontOf lF cF TB z_len z_sorted⟩
  have k_H0 : FnOk P w K mg base CX0 1 f_H0 d_H0 ["self"] (spInit CA CH) := ok_init H0 TH1
  have k_H1 : FnOk P w K mg base CX0 2 f_H1 d_H1 ["self", "facts", "so"] (spBegins CA CH) := ok_begins H1 TH1 g_WRONG g_MOST_FACTS DT
  have k_H2 : FnOk P w K mg base CX0 3 f_H2 d_H2 ["self", "parts"] (spAct K CA CH) := ok_act H2 TH1 g_WRONG g_FULL g_MOST_ACTS z_len DPa ⟨cA.mks, a_A0, i_A0, cA.kc⟩ k_A0 b_A0 (PySem.W.mg_of X G cA.at_)
  have k_H3 : FnOk P w K mg base CX0 2 f_H3 d_H3 ["self", "facts", "much"] (spWorth CA CH) := ok_worth H3 TH1 g_WRONG g_FULL g_MOST_WORTHS z_len DT DP
  have k_H4 : FnOk P w K mg base CX0 2 f_H4 d_H4 ["self", "so"] (spStart CA CH) := ok_start H4 TH1 g_WRONG DT
  have k_H11 : FnOk P w K mg base CX0 2 f_H11 d_H11 ["self", "state"] (spWorthOf CA CH) := ok_worthOf H11 TH1 z_sum DH
  have k_H10 : FnOk P w K mg base CX0 5 f_H10 d_H10 ["self"] (spValued K CA CH) := ok_valued H10 TH1 DC k_H11 b_H11 m_H11
  have k_H5 : FnOk P w K mg base CX0 6 f_H5 d_H5 ["self", "spent"] (spBest CA CH) := ok_best H5 TH1 z_min z_list k_H10 b_H10 m_H10
  have k_H6 : FnOk P w K mg base CX0 6 f_H6 d_H6 ["self", "much"] (spLeast CA CH) := ok_least H6 TH1 z_len z_min z_list g_NEVER_SO_MUCH k_H10 b_H10 m_H10
  have k_H7 : FnOk P w K mg base CX0 6 f_H7 d_H7 ["self"] (spNet CA CH) := ok_net H7 TH1 z_min z_list k_H10 b_H10 m_H10
  have k_H8 : FnOk P w K mg base CX0 6 f_H8 d_H8 ["self"] (spFront CA CH TA) := ok_front H8 TH1 z_len DF k_H10 b_H10 m_H10
  have k_H9 : FnOk P w K mg base CX0 1 f_H9 d_H9 ["self", "which"] (spDrop CA CH) := ok_drop H9 TH1 g_NOT_THERE z_len
  have DLe : Def P w K mg base "call_length" 1 ["calls", "place"] (spLength K) := ⟨_, _, a_FLe, FLe.kp, b_FLe, ok_length FLe g_ACT g_BEGINS g_WORTH g_NET g_FRONT⟩
  have DA : Def P w K mg base "answer_of" 7 ["house", "call"] (spAnswer K CA CH TA) := ⟨_, _, a_FA, FA.kp, b_FA, ok_answer FA TH1 g_BEGINS g_ACT g_WORTH g_START g_BEST g_LEAST g_NET g_FRONT
    ⟨_, _, m_H1, b_H1, k_H1.mono (by decide)⟩ ⟨_, _, m_H2, b_H2, k_H2.mono (by decide)⟩ ⟨_, _, m_H3, b_H3, k_H3.mono (by decide)⟩ ⟨_, _, m_H4, b_H4, k_H4.mono (by decide)⟩ ⟨_, _, m_H5, b_H5, k_H5⟩ ⟨_, _, m_H6, b_H6, k_H6⟩ ⟨_, _, m_H7, b_H7, k_H7⟩ ⟨_, _, m_H8, b_H8, k_H8⟩ ⟨_, _, m_H9, b_H9, k_H9.mono (by decide)⟩⟩
  exact ok_answers FZ z_len ⟨cH.mks, a_H0, i_H0, cH.kc⟩ k_H0 b_H0 (PySem.W.mg_of X G cH.at_) DLe DA
end WP

open PySem PySem.W PyProof.Rows
set_option maxRecDepth 100000 in
set_option maxHeartbeats 8000000 in
theorem PySem.Challenge.cw_worthmost_s01_answers_holds : PySem.Challenge.rw_worthmost_s01_answers.Holds := by
  w_on; k_headS; (case hw => exact ⟨[.list [.int 6]], by decide +kernel, by decide +kernel⟩)
  k_fillS
  refine WT.walk_tab (r := PySem.Challenge.rw_worthmost_s01_answers) (k := 8) (ps := ["calls"]) (sp := fun K => WP.spAnswers K ?TT0) (x := "front_of") (d' := ?dd) (c := ?cc0) (T := ?TT0) (by decide +kernel) rfl rfl ⟨rfl, by decide, by decide⟩ (fun w h Y => PySem.W.kIn_of Y) ?R ?tb ?nT ?F ?S
  case R => rfl
  case tb => intro w; rfl
  case nT => intro w; rfl
  case F =>
    intro w mg fa h Y KX G hmg
    refine' WP.all_ok KX G hmg ?cA ?cH ?nA_needs ?nA_bars ?nA_brings ?nA_takes ?nA_cost ?nH_fact_count ?nH_first_state ?nH_acts ?nH_worths ?g_BEGINS ?g_ACT ?g_WORTH ?g_START ?g_BEST ?g_LEAST ?g_NET ?g_FRONT ?g_WRONG ?g_NOT_THERE ?g_NEVER_SO_MUCH ?g_FULL ?g_MOST_FACTS ?g_MOST_ACTS ?g_MOST_WORTHS ?g_MOST_PRICE ?z_len ?z_enumerate ?z_min ?z_sum ?z_sorted ?z_list ?FH ?FT ?FP ?FPa ?FC ?FL ?FG ?FLe ?FA ?FZ ?FF ?A0 ?A1 ?A2 ?H0 ?H1 ?H2 ?H3 ?H4 ?H5 ?H6 ?H7 ?H8 ?H9 ?H10 ?H11
    (case cA => refine' ⟨?cA_a, ⟨?cA_b, ?cA_c, ?cA_d, ?cA_e⟩, ?cA_f, ?cA_g⟩; (case cA_a => k_is); (case cA_b => k_is); (case cA_c => k_is); (case cA_d => k_is); (case cA_e => k_is); (case cA_f => k_is); (case cA_g => k_is))
    (case cH => refine' ⟨?cH_a, ⟨?cH_b, ?cH_c, ?cH_d, ?cH_e⟩, ?cH_f, ?cH_g⟩; (case cH_a => k_is); (case cH_b => k_is); (case cH_c => k_is); (case cH_d => k_is); (case cH_e => k_is); (case cH_f => k_is); (case cH_g => k_is))
    (case nA_needs => refine' WP.noA ?nA_needs_a; (case nA_needs_a => k_is))
    (case nA_bars => refine' WP.noA ?nA_bars_a; (case nA_bars_a => k_is))
    (case nA_brings => refine' WP.noA ?nA_brings_a; (case nA_brings_a => k_is))
    (case nA_takes => refine' WP.noA ?nA_takes_a; (case nA_takes_a => k_is))
    (case nA_cost => refine' WP.noA ?nA_cost_a; (case nA_cost_a => k_is))
    (case nH_fact_count => refine' WP.noA ?nH_fact_count_a; (case nH_fact_count_a => k_is))
    (case nH_first_state => refine' WP.noA ?nH_first_state_a; (case nH_first_state_a => k_is))
    (case nH_acts => refine' WP.noA ?nH_acts_a; (case nH_acts_a => k_is))
    (case nH_worths => refine' WP.noA ?nH_worths_a; (case nH_worths_a => k_is))
    (case g_BEGINS => refine' WP.intG ?g_BEGINS_a; (case g_BEGINS_a => k_is))
    (case g_ACT => refine' WP.intG ?g_ACT_a; (case g_ACT_a => k_is))
    (case g_WORTH => refine' WP.intG ?g_WORTH_a; (case g_WORTH_a => k_is))
    (case g_START => refine' WP.intG ?g_START_a; (case g_START_a => k_is))
    (case g_BEST => refine' WP.intG ?g_BEST_a; (case g_BEST_a => k_is))
    (case g_LEAST => refine' WP.intG ?g_LEAST_a; (case g_LEAST_a => k_is))
    (case g_NET => refine' WP.intG ?g_NET_a; (case g_NET_a => k_is))
    (case g_FRONT => refine' WP.intG ?g_FRONT_a; (case g_FRONT_a => k_is))
    (case g_WRONG => refine' WP.intG ?g_WRONG_a; (case g_WRONG_a => k_is))
    (case g_NOT_THERE => refine' WP.intG ?g_NOT_THERE_a; (case g_NOT_THERE_a => k_is))
    (case g_NEVER_SO_MUCH => refine' WP.intG ?g_NEVER_SO_MUCH_a; (case g_NEVER_SO_MUCH_a => k_is))
    (case g_FULL => refine' WP.intG ?g_FULL_a; (case g_FULL_a => k_is))
    (case g_MOST_FACTS => refine' WP.intG ?g_MOST_FACTS_a; (case g_MOST_FACTS_a => k_is))
    (case g_MOST_ACTS => refine' WP.intG ?g_MOST_ACTS_a; (case g_MOST_ACTS_a => k_is))
    (case g_MOST_WORTHS => refine' WP.intG ?g_MOST_WORTHS_a; (case g_MOST_WORTHS_a => k_is))
    (case g_MOST_PRICE => refine' WP.intG ?g_MOST_PRICE_a; (case g_MOST_PRICE_a => k_is))
    (case z_len => refine' WP.noG ?z_len_a; (case z_len_a => k_is))
    (case z_enumerate => refine' WP.noG ?z_enumerate_a; (case z_enumerate_a => k_is))
    (case z_min => refine' WP.noG ?z_min_a; (case z_min_a => k_is))
    (case z_sum => refine' WP.noG ?z_sum_a; (case z_sum_a => k_is))
    (case z_sorted => refine' WP.noG ?z_sorted_a; (case z_sorted_a => k_is))
    (case z_list => refine' WP.noG ?z_list_a; (case z_list_a => k_is))
    (case FH => refine' WP.topF ?FH_a ?FH_l ?FH_c ?FH_k; (case FH_a => k_is); (case FH_l => k_is); (case FH_c => k_is); (case FH_k => k_is))
    (case FT => refine' WP.topF ?FT_a ?FT_l ?FT_c ?FT_k; (case FT_a => k_is); (case FT_l => k_is); (case FT_c => k_is); (case FT_k => k_is))
    (case FP => refine' WP.topF ?FP_a ?FP_l ?FP_c ?FP_k; (case FP_a => k_is); (case FP_l => k_is); (case FP_c => k_is); (case FP_k => k_is))
    (case FPa => refine' WP.topF ?FPa_a ?FPa_l ?FPa_c ?FPa_k; (case FPa_a => k_is); (case FPa_l => k_is); (case FPa_c => k_is); (case FPa_k => k_is))
    (case FC => refine' WP.topF ?FC_a ?FC_l ?FC_c ?FC_k; (case FC_a => k_is); (case FC_l => k_is); (case FC_c => k_is); (case FC_k => k_is))
    (case FL => refine' WP.topF ?FL_a ?FL_l ?FL_c ?FL_k; (case FL_a => k_is); (case FL_l => k_is); (case FL_c => k_is); (case FL_k => k_is))
    (case FG => refine' WP.topF ?FG_a ?FG_l ?FG_c ?FG_k; (case FG_a => k_is); (case FG_l => k_is); (case FG_c => k_is); (case FG_k => k_is))
    (case FLe => refine' WP.topF ?FLe_a ?FLe_l ?FLe_c ?FLe_k; (case FLe_a => k_is); (case FLe_l => k_is); (case FLe_c => k_is); (case FLe_k => k_is))
    (case FA => refine' WP.topF ?FA_a ?FA_l ?FA_c ?FA_k; (case FA_a => k_is); (case FA_l => k_is); (case FA_c => k_is); (case FA_k => k_is))
    (case FZ => refine' WP.topF ?FZ_a ?FZ_l ?FZ_c ?FZ_k; (case FZ_a => k_is); (case FZ_l => k_is); (case FZ_c => k_is); (case FZ_k => k_is))
    (case FF => refine' WP.lamF ?FF_a ?FF_l ?FF_d ?FF_k; (case FF_a => k_is); (case FF_l => k_is); (case FF_d => k_is); (case FF_k => k_is))
    (case A0 => refine' WP.metF ?A0_a ?A0_i ?A0_l ?A0_c ?A0_k; (case A0_a => k_is); (case A0_i => k_is); (case A0_l => k_is); (case A0_c => k_is); (case A0_k => k_is))
    (case A1 => refine' WP.metF ?A1_a ?A1_i ?A1_l ?A1_c ?A1_k; (case A1_a => k_is); (case A1_i => k_is); (case A1_l => k_is); (case A1_c => k_is); (case A1_k => k_is))
    (case A2 => refine' WP.metF ?A2_a ?A2_i ?A2_l ?A2_c ?A2_k; (case A2_a => k_is); (case A2_i => k_is); (case A2_l => k_is); (case A2_c => k_is); (case A2_k => k_is))
    (case H0 => refine' WP.metF ?H0_a ?H0_i ?H0_l ?H0_c ?H0_k; (case H0_a => k_is); (case H0_i => k_is); (case H0_l => k_is); (case H0_c => k_is); (case H0_k => k_is))
    (case H1 => refine' WP.metF ?H1_a ?H1_i ?H1_l ?H1_c ?H1_k; (case H1_a => k_is); (case H1_i => k_is); (case H1_l => k_is); (case H1_c => k_is); (case H1_k => k_is))
    (case H2 => refine' WP.metF ?H2_a ?H2_i ?H2_l ?H2_c ?H2_k; (case H2_a => k_is); (case H2_i => k_is); (case H2_l => k_is); (case H2_c => k_is); (case H2_k => k_is))
    (case H3 => refine' WP.metF ?H3_a ?H3_i ?H3_l ?H3_c ?H3_k; (case H3_a => k_is); (case H3_i => k_is); (case H3_l => k_is); (case H3_c => k_is); (case H3_k => k_is))
    (case H4 => refine' WP.metF ?H4_a ?H4_i ?H4_l ?H4_c ?H4_k; (case H4_a => k_is); (case H4_i => k_is); (case H4_l => k_is); (case H4_c => k_is); (case H4_k => k_is))
    (case H5 => refine' WP.metF ?H5_a ?H5_i ?H5_l ?H5_c ?H5_k; (case H5_a => k_is); (case H5_i => k_is); (case H5_l => k_is); (case H5_c => k_is); (case H5_k => k_is))
    (case H6 => refine' WP.metF ?H6_a ?H6_i ?H6_l ?H6_c ?H6_k; (case H6_a => k_is); (case H6_i => k_is); (case H6_l => k_is); (case H6_c => k_is); (case H6_k => k_is))
    (case H7 => refine' WP.metF ?H7_a ?H7_i ?H7_l ?H7_c ?H7_k; (case H7_a => k_is); (case H7_i => k_is); (case H7_l => k_is); (case H7_c => k_is); (case H7_k => k_is))
    (case H8 => refine' WP.metF ?H8_a ?H8_i ?H8_l ?H8_c ?H8_k; (case H8_a => k_is); (case H8_i => k_is); (case H8_l => k_is); (case H8_c => k_is); (case H8_k => k_is))
    (case H9 => refine' WP.metF ?H9_a ?H9_i ?H9_l ?H9_c ?H9_k; (case H9_a => k_is); (case H9_i => k_is); (case H9_l => k_is); (case H9_c => k_is); (case H9_k => k_is))
    (case H10 => refine' WP.metF ?H10_a ?H10_i ?H10_l ?H10_c ?H10_k; (case H10_a => k_is); (case H10_i => k_is); (case H10_l => k_is); (case H10_c => k_is); (case H10_k => k_is))
    (case H11 => refine' WP.metF ?H11_a ?H11_i ?H11_l ?H11_c ?H11_k; (case H11_a => k_is); (case H11_i => k_is); (case H11_l => k_is); (case H11_c => k_is); (case H11_k => k_is))
  case S =>
    intro K H xs a hO hn hwi hask hx
    cases hx with
    | cons h1 h2 =>
      cases h2
      cases h1 with
      | lst hs ha =>
        have e := L2.ints_dw a.1 _ ha
        subst e
        have q : ((Codec.inLen 0 520 a.1 && a.1.all (Codec.inInt 0 4294967295)) && true) = true := hwi
        rw [Bool.and_eq_true, Bool.and_eq_true] at q
        have pos : ∀ x ∈ a.1, 0 ≤ x := fun x hx => (Codec.inInt_iff.mp (List.all_eq_true.mp q.1.2 x hx)).1
        obtain ⟨ys, hf, ea, hl⟩ := WF.asked_flat pos hask
        have sm : L2.Same H (L2.upd H ?TT0 (.tbl #[])) := WP.upd_new hn
        refine ⟨_, a.1, ys, rfl, sm.seq hs, hf, hl, LamX.TabS.nil L2.upd_same, fun H' r hr => ?_⟩
        show L2.Dw K H' (.ref r) _
        have ef : Codec.app _ PySem.Challenge.rw_worthmost_s01_answers.f a = WF.due Pn11.init ys := ea
        rw [ef]
        exact .lst (L2.SqL.of hr) (L2.dw_ints _)
#print axioms PySem.Challenge.cw_worthmost_s01_answers_holds

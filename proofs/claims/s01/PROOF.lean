import PyProof.Rows.All
import Wide.All
import OpenK.AllK
import Wide.FinOn
import HandS.ForSpec
import HandS.ForMost
import HandS.WideBits
import HandS.TupAny
import HandS.SortKw
import HandS.Conv
import PySem.Challenge.RW_modedpieces_s01_answers
import HandS.Rev
import HandS.Zip
import KE.KeyNested
import KE.KDictWalk
import KE.KDictIter
import PyProof.DictMoreH
import PyProof.ListRange
import PyProof.CollectWalk
import HandS.DictSubView
import HandS.SetKeys
import KE.SortKeyHeap
import HandS.RevTup
import HandS.TryOnly
import PyFlatLaws
import KE.OsGo
set_option Elab.async false
-- MxSpec
/- What the derivatives of the specification mean: matching. -/
namespace Mx
open Sq17

/-- every range of a pattern holds a byte -/
def good : Pat → Prop
  | .eps => True
  | .set l => ∀ x ∈ l, x.1 ≤ x.2
  | .seq p q => good p ∧ good q
  | .alt p q => good p ∧ good q
  | .star p => good p

theorem m_eps {s : List Nat} : Matches .eps s ↔ s = [] := by
  constructor
  · intro h; cases h; rfl
  · rintro rfl; exact .eps

theorem m_set {l : List (Nat × Nat)} {s : List Nat} : Matches (.set l) s ↔ ∃ b, s = [b] ∧ inside l b = true := by
  constructor
  · intro h; cases h with | set h => exact ⟨_, rfl, h⟩
  · rintro ⟨b, rfl, h⟩; exact .set h

theorem m_seq {p q : Pat} {s : List Nat} : Matches (.seq p q) s ↔ ∃ u v, s = u ++ v ∧ Matches p u ∧ Matches q v := by
  constructor
  · intro h; cases h with | seq a b => exact ⟨_, _, rfl, a, b⟩
  · rintro ⟨u, v, rfl, a, b⟩; exact .seq a b

theorem m_alt {p q : Pat} {s : List Nat} : Matches (.alt p q) s ↔ Matches p s ∨ Matches q s := by
  constructor
  · intro h; cases h with
    | left a => exact .inl a
    | right a => exact .inr a
  · rintro (a | a)
    · exact .left a
    · exact .right a

theorem star_nil {p : Pat} : Matches (.star p) [] := .halt_

theorem star_cons_aux {r : Pat} {s : List Nat} (h : Matches r s) : ∀ p, r = .star p → ∀ b t, s = b :: t → ∃ u v, t = u ++ v ∧ Matches p (b :: u) ∧ Matches (.star p) v := by
  induction h with
  | eps => intro p e; cases e
  | set _ => intro p e; cases e
  | seq _ _ => intro p e; cases e
  | left _ => intro p e; cases e
  | right _ => intro p e; cases e
  | halt_ => intro p e b t e2; cases e2
  | @more p' s' t' h1 h2 ih1 ih2 =>
    intro p e b t e2
    cases e
    cases s' with
    | nil => exact ih2 p' rfl b t e2
    | cons c s' =>
      simp only [List.cons_append, List.cons.injEq] at e2
      obtain ⟨rfl, rfl⟩ := e2
      exact ⟨s', t', rfl, h1, h2⟩

theorem star_cons {p : Pat} {b : Nat} {t : List Nat} : Matches (.star p) (b :: t) ↔ ∃ u v, t = u ++ v ∧ Matches p (b :: u) ∧ Matches (.star p) v := by
  constructor
  · intro h; exact star_cons_aux h p rfl b t rfl
  · rintro ⟨u, v, rfl, a, c⟩; exact .more (s := b :: u) a c

theorem bare_iff : ∀ {p : Pat}, p.bare = true ↔ Matches p []
  | .eps => by simp [Pat.bare, m_eps]
  | .set l => by simp [Pat.bare, m_set]
  | .seq p q => by
    have h1 := @bare_iff p; have h2 := @bare_iff q
    simp only [Pat.bare, Bool.and_eq_true, h1, h2, m_seq]
    constructor
    · rintro ⟨a, b⟩; exact ⟨[], [], rfl, a, b⟩
    · rintro ⟨u, v, e, a, b⟩
      have := List.append_eq_nil_iff.mp e.symm
      rw [this.1] at a; rw [this.2] at b; exact ⟨a, b⟩
  | .alt p q => by
    have h1 := @bare_iff p; have h2 := @bare_iff q
    simp only [Pat.bare, Bool.or_eq_true, h1, h2, m_alt]
  | .star p => by simp [Pat.bare, star_nil]

theorem inside_some {l : List (Nat × Nat)} (g : ∀ x ∈ l, x.1 ≤ x.2) : l ≠ [] ↔ ∃ b, inside l b = true := by
  constructor
  · intro h
    cases l with
    | nil => exact absurd rfl h
    | cons x l =>
      refine ⟨x.1, ?_⟩
      have := g x (by simp)
      simp [inside, this]
  · rintro ⟨b, h⟩ rfl
    simp [inside] at h

theorem dead_iff : ∀ {p : Pat}, good p → (p.dead = false ↔ ∃ s, Matches p s)
  | .eps, _ => by simp [Pat.dead, m_eps]
  | .set l, g => by
    have := inside_some g
    simp only [Pat.dead, List.isEmpty_eq_false_iff, m_set]
    rw [show (l ≠ []) ↔ _ from this]
    constructor
    · rintro ⟨b, h⟩; exact ⟨[b], b, rfl, h⟩
    · rintro ⟨s, b, _, h⟩; exact ⟨b, h⟩
  | .seq p q, g => by
    have h1 := @dead_iff p g.1; have h2 := @dead_iff q g.2
    simp only [Pat.dead, Bool.or_eq_false_iff, h1, h2, m_seq]
    constructor
    · rintro ⟨⟨u, a⟩, ⟨v, b⟩⟩; exact ⟨u ++ v, u, v, rfl, a, b⟩
    · rintro ⟨s, u, v, _, a, b⟩; exact ⟨⟨u, a⟩, ⟨v, b⟩⟩
  | .alt p q, g => by
    have h1 := @dead_iff p g.1; have h2 := @dead_iff q g.2
    simp only [Pat.dead, Bool.and_eq_false_iff, h1, h2, m_alt]
    constructor
    · rintro (⟨u, a⟩ | ⟨u, a⟩)
      · exact ⟨u, .inl a⟩
      · exact ⟨u, .inr a⟩
    · rintro ⟨u, a | a⟩
      · exact .inl ⟨u, a⟩
      · exact .inr ⟨u, a⟩
  | .star p, _ => by
    simp only [Pat.dead, true_iff]; exact ⟨[], star_nil⟩

theorem not_dead {p : Pat} {s : List Nat} (g : good p) (h : Matches p s) : p.dead = false := (dead_iff g).mpr ⟨s, h⟩

theorem dead_none {p : Pat} {s : List Nat} (g : good p) (h : p.dead = true) : ¬ Matches p s := by
  intro m; rw [not_dead g m] at h; cases h

theorem long_iff : ∀ {p : Pat}, good p → (p.long = true ↔ ∃ s, s ≠ [] ∧ Matches p s)
  | .eps, _ => by simp [Pat.long, m_eps]
  | .set l, g => by
    have := inside_some g
    simp only [Pat.long, Bool.not_eq_true', List.isEmpty_eq_false_iff, m_set]
    rw [show (l ≠ []) ↔ _ from this]
    constructor
    · rintro ⟨b, h⟩; exact ⟨[b], by simp, b, rfl, h⟩
    · rintro ⟨s, _, b, _, h⟩; exact ⟨b, h⟩
  | .seq p q, g => by
    have h1 := @long_iff p g.1; have h2 := @long_iff q g.2
    have d1 := @dead_iff p g.1; have d2 := @dead_iff q g.2
    simp only [Pat.long, Bool.and_eq_true, Bool.not_eq_true', Bool.or_eq_true, h1, h2, d1, d2, m_seq]
    constructor
    · rintro ⟨⟨u, a⟩, ⟨v, b⟩, ⟨w, ne, c⟩ | ⟨w, ne, c⟩⟩
      · exact ⟨w ++ v, by simp [ne], w, v, rfl, c, b⟩
      · exact ⟨u ++ w, by simp [ne], u, w, rfl, a, c⟩
    · rintro ⟨s, ne, u, v, rfl, a, b⟩
      refine ⟨⟨u, a⟩, ⟨v, b⟩, ?_⟩
      cases u with
      | nil => exact .inr ⟨v, by simpa using ne, b⟩
      | cons x u => exact .inl ⟨_, by simp, a⟩
  | .alt p q, g => by
    have h1 := @long_iff p g.1; have h2 := @long_iff q g.2
    simp only [Pat.long, Bool.or_eq_true, h1, h2, m_alt]
    constructor
    · rintro (⟨u, n, a⟩ | ⟨u, n, a⟩)
      · exact ⟨u, n, .inl a⟩
      · exact ⟨u, n, .inr a⟩
    · rintro ⟨u, n, a | a⟩
      · exact .inl ⟨u, n, a⟩
      · exact .inr ⟨u, n, a⟩
  | .star p, g => by
    have h1 := @long_iff p g
    simp only [Pat.long, h1]
    constructor
    · rintro ⟨u, n, a⟩; exact ⟨u, n, by simpa using Matches.more a (star_nil (p := p))⟩
    · rintro ⟨u, n, a⟩
      cases u with
      | nil => exact absurd rfl n
      | cons b t =>
        obtain ⟨u, v, _, h, _⟩ := star_cons.mp a
        exact ⟨_, by simp, h⟩

theorem m_seq' {p q : Pat} {s : List Nat} : Matches (Sq17.seq p q) s ↔ Matches (.seq p q) s := by
  unfold Sq17.seq
  split
  · next h =>
    subst h
    rw [m_seq]
    constructor
    · intro h; exact ⟨[], s, rfl, .eps, h⟩
    · rintro ⟨u, v, rfl, a, b⟩
      rw [m_eps.mp a]; exact b
  · exact Iff.rfl

theorem behind_iff : ∀ {b : Nat} {p : Pat} {s : List Nat}, (∃ q ∈ Pat.behind b p, Matches q s) ↔ Matches p (b :: s)
  | b, .eps, s => by simp [Pat.behind, m_eps]
  | b, .set l, s => by
    unfold Pat.behind
    split
    · next h =>
      simp only [List.mem_singleton, exists_eq_left, m_eps, m_set]
      constructor
      · rintro rfl; exact ⟨b, rfl, h⟩
      · rintro ⟨c, e, _⟩; simp at e; exact e.2
    · next h =>
      simp only [List.not_mem_nil, false_and, exists_false, m_set, false_iff]
      rintro ⟨c, e, hc⟩
      simp at e; rw [e.1] at h; exact h hc
  | b, .seq p q, s => by
    have h1 := fun t => @behind_iff b p t
    have h2 := fun t => @behind_iff b q t
    simp only [Pat.behind, List.mem_append, List.mem_map]
    constructor
    · rintro ⟨r, (⟨x, hx, rfl⟩ | hr), m⟩
      · obtain ⟨u, v, rfl, a, c⟩ := m_seq.mp (m_seq'.mp m)
        exact m_seq.mpr ⟨b :: u, v, rfl, (h1 u).mp ⟨x, hx, a⟩, c⟩
      · split at hr
        · next hb => exact m_seq.mpr ⟨[], b :: s, rfl, bare_iff.mp hb, (h2 s).mp ⟨r, hr, m⟩⟩
        · simp at hr
    · intro m
      obtain ⟨u, v, e, a, c⟩ := m_seq.mp m
      cases u with
      | nil =>
        simp at e; subst e
        obtain ⟨r, hr, mr⟩ := (h2 s).mpr c
        refine ⟨r, .inr ?_, mr⟩
        rw [if_pos (bare_iff.mpr a)]; exact hr
      | cons d u =>
        simp at e; obtain ⟨rfl, rfl⟩ := e
        obtain ⟨x, hx, mx⟩ := (h1 u).mpr a
        exact ⟨_, .inl ⟨x, hx, rfl⟩, m_seq'.mpr (m_seq.mpr ⟨u, v, rfl, mx, c⟩)⟩
  | b, .alt p q, s => by
    have h1 := @behind_iff b p s
    have h2 := @behind_iff b q s
    simp only [Pat.behind, List.mem_append, m_alt, ← h1, ← h2]
    constructor
    · rintro ⟨r, (h | h), m⟩
      · exact .inl ⟨r, h, m⟩
      · exact .inr ⟨r, h, m⟩
    · rintro (⟨r, h, m⟩ | ⟨r, h, m⟩)
      · exact ⟨r, .inl h, m⟩
      · exact ⟨r, .inr h, m⟩
  | b, .star p, s => by
    have h1 := fun t => @behind_iff b p t
    simp only [Pat.behind, List.mem_map, star_cons]
    constructor
    · rintro ⟨r, ⟨x, hx, rfl⟩, m⟩
      obtain ⟨u, v, rfl, a, c⟩ := m_seq.mp (m_seq'.mp m)
      exact ⟨u, v, rfl, (h1 u).mp ⟨x, hx, a⟩, c⟩
    · rintro ⟨u, v, rfl, a, c⟩
      obtain ⟨x, hx, mx⟩ := (h1 u).mpr a
      exact ⟨_, ⟨x, hx, rfl⟩, m_seq'.mpr (m_seq.mpr ⟨u, v, rfl, mx, c⟩)⟩

theorem good_seq {p q : Pat} (a : good p) (b : good q) : good (Sq17.seq p q) := by
  unfold Sq17.seq; split
  · exact b
  · exact ⟨a, b⟩

theorem behind_good : ∀ {b : Nat} {p : Pat}, good p → ∀ q ∈ Pat.behind b p, good q
  | b, .eps, _ => by simp [Pat.behind]
  | b, .set l, _ => by
    unfold Pat.behind; split
    · simp [good]
    · simp
  | b, .seq p q, g => by
    have h1 := @behind_good b p g.1
    have h2 := @behind_good b q g.2
    simp only [Pat.behind, List.mem_append, List.mem_map]
    rintro r (⟨x, hx, rfl⟩ | hr)
    · exact good_seq (h1 x hx) g.2
    · split at hr
      · exact h2 r hr
      · simp at hr
  | b, .alt p q, g => by
    have h1 := @behind_good b p g.1
    have h2 := @behind_good b q g.2
    simp only [Pat.behind, List.mem_append]
    rintro r (h | h)
    · exact h1 r h
    · exact h2 r h
  | b, .star p, g => by
    have h1 := @behind_good b p g
    simp only [Pat.behind, List.mem_map]
    rintro r ⟨x, hx, rfl⟩
    exact good_seq (h1 x hx) g

/-- what any of some patterns matches -/
def Lang (l : List Pat) (s : List Nat) : Prop := ∃ q ∈ l, Matches q s

def allGood (l : List Pat) : Prop := ∀ q ∈ l, good q

theorem distinct_fold (l : List Pat) : ∀ m : List Pat,
    (∀ q ∈ l.foldl (fun (m : List Pat) p => if m.contains p || p.dead then m else m ++ [p]) m, q ∈ m ∨ q ∈ l) ∧
    (∀ q ∈ m, q ∈ l.foldl (fun (m : List Pat) p => if m.contains p || p.dead then m else m ++ [p]) m) ∧
    (∀ q ∈ l, q.dead = false → q ∈ l.foldl (fun (m : List Pat) p => if m.contains p || p.dead then m else m ++ [p]) m) := by
  induction l with
  | nil => intro m; exact ⟨fun q h => .inl h, fun q h => h, fun q h => by simp at h⟩
  | cons p l ih =>
    intro m
    rw [List.foldl_cons]
    obtain ⟨a, b, c⟩ := ih (if m.contains p || p.dead then m else m ++ [p])
    refine ⟨?_, ?_, ?_⟩
    · intro q hq
      rcases a q hq with h | h
      · split at h
        · exact .inl h
        · rcases List.mem_append.mp h with h | h
          · exact .inl h
          · simp at h; subst h; exact .inr (by simp)
      · exact .inr (by simp [h])
    · intro q hq
      apply b
      split
      · exact hq
      · simp [hq]
    · intro q hq hd
      rcases List.mem_cons.mp hq with rfl | h
      · apply b
        split
        · next h =>
          simp only [Bool.or_eq_true, hd, Bool.false_eq_true, or_false] at h
          exact List.contains_iff_mem.mp h
        · simp
      · exact c q h hd

theorem distinct_sub {l : List Pat} {q : Pat} (h : q ∈ distinct l) : q ∈ l := by
  rcases (distinct_fold l []).1 q h with h | h
  · simp at h
  · exact h

theorem distinct_keep {l : List Pat} {q : Pat} (h : q ∈ l) (d : q.dead = false) : q ∈ distinct l := (distinct_fold l []).2.2 q h d

theorem next_good {l : List Pat} {b : Nat} (g : allGood l) : allGood (next b l) := by
  intro q h
  have h := distinct_sub h
  obtain ⟨p, hp, hq⟩ := List.mem_flatMap.mp h
  exact behind_good (g p hp) q hq

theorem next_lang {l : List Pat} {b : Nat} {s : List Nat} (g : allGood l) : Lang (next b l) s ↔ Lang l (b :: s) := by
  constructor
  · rintro ⟨q, h, m⟩
    have h := distinct_sub h
    obtain ⟨p, hp, hq⟩ := List.mem_flatMap.mp h
    exact ⟨p, hp, behind_iff.mp ⟨q, hq, m⟩⟩
  · rintro ⟨p, hp, m⟩
    obtain ⟨q, hq, mq⟩ := behind_iff.mpr m
    exact ⟨q, distinct_keep (List.mem_flatMap.mpr ⟨p, hp, hq⟩) (not_dead (behind_good (g p hp) q hq) mq), mq⟩

theorem filter_good {l : List Pat} (g : allGood l) : allGood (l.filter Pat.long) := fun q h => g q (List.mem_filter.mp h).1

theorem filter_lang {l : List Pat} {s : List Nat} (g : allGood l) (ne : s ≠ []) : Lang (l.filter Pat.long) s ↔ Lang l s := by
  constructor
  · rintro ⟨q, h, m⟩; exact ⟨q, (List.mem_filter.mp h).1, m⟩
  · rintro ⟨q, h, m⟩; exact ⟨q, List.mem_filter.mpr ⟨h, (long_iff (g q h)).mpr ⟨s, ne, m⟩⟩, m⟩

theorem filter_alive {l : List Pat} (g : allGood l) : (l.filter Pat.long).isEmpty = false ↔ ∃ s, s ≠ [] ∧ Lang l s := by
  rw [List.isEmpty_eq_false_iff_exists_mem]
  constructor
  · rintro ⟨q, h⟩
    have h := List.mem_filter.mp h
    obtain ⟨s, ne, m⟩ := (long_iff (g q h.1)).mp h.2
    exact ⟨s, ne, q, h.1, m⟩
  · rintro ⟨s, ne, q, h, m⟩
    exact ⟨q, List.mem_filter.mpr ⟨h, (long_iff (g q h)).mpr ⟨s, ne, m⟩⟩⟩

theorem any_bare {l : List Pat} : l.any Pat.bare = true ↔ Lang l [] := by
  simp only [List.any_eq_true, bare_iff, Lang]

end Mx

-- MxLook
/- The scan of one matcher, and the look of the specification over some rules. -/
namespace Mx
open Sq17

/-- a set's steps, the highest first -/
def stepsIn (n : Nat) : List Nat :=
  if h : n = 0 then [] else n.log2 :: stepsIn (n - 2 ^ n.log2)
termination_by n
decreasing_by
  have := Nat.two_pow_pos n.log2
  omega

structure Mat where
  behind : List Nat
  ahead : List Nat
  byb : List Nat
  bare : Bool
  first : Nat
  last : Nat

def orAt (beh : List Nat) (l : List Nat) : Nat := l.foldl (fun a s => a ||| beh.getD s 0) 0
def Mat.nx (M : Mat) (d : Nat) : Nat := orAt M.behind (stepsIn d)
def Mat.done (M : Mat) (b c : Nat) : Nat := c &&& M.byb.getD b 0
def Mat.go (M : Mat) (b c : Nat) : Nat := M.nx (M.done b c)
def Mat.hit (M : Mat) (b c : Nat) : Bool := (M.done b c &&& M.last) != 0

/-- the longest match of one byte or more from here on (the one seen so far if there's none), and how many were looked at -/
def Mat.scan (M : Mat) : List Nat → Nat → Nat → Nat → Nat × Nat
  | [], c, k, lg => (lg, if c = 0 then k else k + 1)
  | b :: l, c, k, lg => if c = 0 then (lg, k) else M.scan l (M.go b c) (k + 1) (if M.hit b c = true then k + 1 else lg)

def Mat.acc (M : Mat) : List Nat → Nat → Bool
  | [], _ => false
  | [b], c => M.hit b c
  | b :: t, c => M.acc t (M.go b c)

theorem Mat.acc_one (M : Mat) (b c : Nat) : M.acc [b] c = M.hit b c := rfl
theorem Mat.acc_cons (M : Mat) (b c : Nat) {t : List Nat} (h : t ≠ []) : M.acc (b :: t) c = M.acc t (M.go b c) := by
  cases t with
  | nil => exact absurd rfl h
  | cons x t => rfl

def Mat.run (M : Mat) : List Nat → Nat → Nat
  | [], c => c
  | b :: t, c => M.run t (M.go b c)

/-- from every set that is reached a match can be finished -/
def Liv (M : Mat) (c : Nat) : Prop := ∀ bs, M.run bs c ≠ 0 → ∃ s, s ≠ [] ∧ M.acc s (M.run bs c) = true

theorem Liv.go {M : Mat} {c : Nat} (h : Liv M c) (b : Nat) : Liv M (M.go b c) := fun bs => h (b :: bs)

/-- some patterns and a set of steps say the same -/
structure St (M : Mat) (l : List Pat) (c : Nat) : Prop where
  g : allGood l
  same : ∀ s, s ≠ [] → (Lang l s ↔ M.acc s c = true)
  liv : Liv M c

theorem scan_zero (M : Mat) (l : List Nat) (k lg : Nat) : M.scan l 0 k lg = (lg, k) := by
  cases l <;> simp [Mat.scan]

theorem run_zero (M : Mat) : ∀ s, M.acc s 0 = false
  | [] => rfl
  | [b] => by simp [Mat.acc, Mat.hit, Mat.done]
  | b :: x :: t => by
    rw [Mat.acc_cons _ _ _ (by simp)]
    have : M.go b 0 = 0 := by simp [Mat.go, Mat.nx, Mat.done, orAt, stepsIn]
    rw [this]; exact run_zero M _

theorem St.alive {M : Mat} {l : List Pat} {c : Nat} (h : St M l c) : (l.filter Pat.long).isEmpty = true ↔ c = 0 := by
  constructor
  · intro e
    by_cases hc : c = 0
    · exact hc
    · obtain ⟨s, ne, m⟩ := h.liv [] hc
      have := (filter_alive h.g).mpr ⟨s, ne, (h.same s ne).mpr m⟩
      rw [e] at this; cases this
  · rintro rfl
    by_cases he : (l.filter Pat.long).isEmpty = true
    · exact he
    · obtain ⟨s, ne, m⟩ := (filter_alive h.g).mp (by simpa using he)
      rw [h.same s ne, run_zero] at m; cases m

theorem St.hit {M : Mat} {l : List Pat} {c : Nat} (h : St M l c) (b : Nat) : (next b l).any Pat.bare = M.hit b c := by
  rw [Bool.eq_iff_iff, any_bare, next_lang h.g, h.same _ (by simp), Mat.acc_one]

theorem St.step {M : Mat} {l : List Pat} {c : Nat} (h : St M l c) (b : Nat) : St M (next b l) (M.go b c) where
  g := next_good h.g
  same := fun s ne => by rw [next_lang h.g, h.same _ (by simp), Mat.acc_cons _ _ _ ne]
  liv := h.liv.go b

theorem St.filter {M : Mat} {l : List Pat} {c : Nat} (h : St M l c) : St M (l.filter Pat.long) c where
  g := filter_good h.g
  same := fun s ne => by rw [filter_lang h.g ne, h.same s ne]
  liv := h.liv

/-! ### Several rules -/

structure Row where
  i : Nat
  l : List Pat
  M : Mat
  c : Nat

def Row.ok (r : Row) : Prop := St r.M r.l r.c
def Row.spec (r : Row) : Nat × List Pat := (r.i, r.l)
def Row.go (b : Nat) (r : Row) : Row := ⟨r.i, (next b r.l).filter Pat.long, r.M, r.M.go b r.c⟩
def Row.hit (b : Nat) (r : Row) : Bool := r.M.hit b r.c
def Row.scan (l : List Nat) (k : Nat) (r : Row) : Nat × Nat := r.M.scan l r.c k 0
/-- those that may match more, behind a byte -/
def goes (b : Nat) (rs : List Row) : List Row := (rs.map (Row.go b)).filter fun r => decide (r.c ≠ 0)

/-- of some lengths the greatest and first, none of no byte -/
def lenOf : Option (Nat × Nat) → Nat
  | none => 0
  | some y => y.2
def pickStep (best : Option (Nat × Nat)) (x : Nat × Nat) : Option (Nat × Nat) := if lenOf best < x.2 then some x else best
theorem pickStep_none (x : Nat × Nat) : pickStep none x = if 0 < x.2 then some x else none := rfl
theorem pickStep_some (y x : Nat × Nat) : pickStep (some y) x = if y.2 < x.2 then some x else some y := rfl
def pick (l : List (Nat × Nat)) : Option (Nat × Nat) := l.foldl pickStep none
theorem pick_some (l : List (Nat × Nat)) : ∀ y, ∃ z, l.foldl pickStep (some y) = some z := by
  induction l with
  | nil => intro y; exact ⟨y, rfl⟩
  | cons a l ih =>
    intro y; rw [List.foldl_cons, pickStep_some]; split
    · exact ih _
    · exact ih _

theorem longer_goes {b : Nat} {rs : List Row} (h : ∀ r ∈ rs, r.ok) : longer ((rs.map Row.spec).map fun x => (x.1, next b x.2)) = (goes b rs).map Row.spec := by
  unfold longer goes
  rw [List.map_map, List.map_map, List.filter_map, List.filter_map, List.map_map]
  show List.map (Row.spec ∘ Row.go b) _ = _
  congr 1
  apply List.filter_congr
  intro r hr
  have := (St.alive ((h r hr).step b))
  simp only [Function.comp, Row.spec, Row.go]
  by_cases hc : r.M.go b r.c = 0
  · simp [hc, this.mpr hc]
  · have : (List.filter Pat.long (next b r.l)).isEmpty = false := by
      cases e : (List.filter Pat.long (next b r.l)).isEmpty
      · rfl
      · exact absurd (this.mp e) hc
    simp [hc, this]

theorem find_hit {b : Nat} : ∀ {rs : List Row}, (∀ r ∈ rs, r.ok) → (((rs.map Row.spec).map fun x => (x.1, next b x.2)).find? fun x => x.2.any Pat.bare).map (·.1) = (rs.find? (Row.hit b)).map (·.i)
  | [], _ => rfl
  | r :: rs, h => by
    have h1 := (h r (by simp)).hit b
    have ih := @find_hit b rs (fun r hr => h r (by simp [hr]))
    simp only [List.map_cons, List.find?_cons, Row.spec, h1]
    show Option.map _ (match r.M.hit b r.c with | true => _ | false => _) = Option.map _ (match Row.hit b r with | true => _ | false => _)
    cases hh : r.M.hit b r.c with
    | true => simp [Row.hit, hh]
    | false => simp only [Row.hit, hh]; exact ih

theorem goes_ok {b : Nat} {rs : List Row} (h : ∀ r ∈ rs, r.ok) : ∀ r ∈ goes b rs, r.ok ∧ r.c ≠ 0 := by
  intro r hr
  obtain ⟨h1, h2⟩ := List.mem_filter.mp hr
  obtain ⟨q, hq, rfl⟩ := List.mem_map.mp h1
  exact ⟨((h q hq).step b).filter, by simpa using h2⟩

theorem scan_le (M : Mat) : ∀ (l : List Nat) (c k lg : Nat), k ≤ (M.scan l c k lg).2
  | [], c, k, lg => by simp only [Mat.scan]; split <;> omega
  | b :: l, c, k, lg => by
    simp only [Mat.scan]; split
    · exact Nat.le_refl _
    · exact Nat.le_trans (Nat.le_succ k) (scan_le M l _ _ _)

/-- the longest is the one seen so far, or a later one -/
theorem scan_lg (M : Mat) : ∀ (l : List Nat) (c k lg : Nat), (M.scan l c k lg).1 = if (M.scan l c k 0).1 = 0 then lg else (M.scan l c k 0).1
  | [], c, k, lg => by simp [Mat.scan]
  | b :: l, c, k, lg => by
    simp only [Mat.scan]
    split
    · simp
    · split
      · rw [scan_lg M l _ (k + 1) (k + 1)]
        split <;> simp_all
      · rw [scan_lg M l _ (k + 1) lg]

theorem scan_gt (M : Mat) : ∀ (l : List Nat) (c k : Nat), (M.scan l c k 0).1 = 0 ∨ k < (M.scan l c k 0).1
  | [], c, k => by simp [Mat.scan]
  | b :: l, c, k => by
    simp only [Mat.scan]
    split
    · simp
    · rw [scan_lg]
      have := scan_gt M l (M.go b c) (k + 1)
      split
      · split
        · exact .inr (Nat.lt_succ_self k)
        · exact .inl rfl
      · rcases this with h | h
        · contradiction
        · exact .inr (by omega)

theorem scan_seen (M : Mat) : ∀ (l : List Nat) (c k a b : Nat), (M.scan l c k a).2 = (M.scan l c k b).2
  | [], c, k, a, b => by simp [Mat.scan]
  | x :: l, c, k, a, b => by
    simp only [Mat.scan]
    split
    · rfl
    · exact scan_seen M l _ _ _ _

/-- how many were looked at, of several -/
def seens (l : List Nat) (k : Nat) (rs : List Row) (m : Nat) : Nat := rs.foldl (fun m r => max m (r.scan l k).2) m

theorem seens_go {b : Nat} {l : List Nat} {k : Nat} : ∀ (rs : List Row) (m : Nat), (∀ r ∈ rs, r.c ≠ 0) → k + 1 ≤ m → seens (b :: l) k rs m = seens l (k + 1) (goes b rs) m
  | [], m, _, _ => rfl
  | r :: rs, m, h, hm => by
    have hr : r.c ≠ 0 := h r (by simp)
    have e : (r.scan (b :: l) k).2 = (r.M.scan l (r.M.go b r.c) (k + 1) 0).2 := by
      simp only [Row.scan, Mat.scan, if_neg hr]; exact scan_seen _ _ _ _ _ _
    have ih := fun m hm => @seens_go b l k rs m (fun r hr => h r (by simp [hr])) hm
    simp only [seens, List.foldl_cons] at ih ⊢
    unfold goes at ih ⊢
    rw [List.map_cons, List.filter_cons]
    by_cases hc : (Row.go b r).c = 0
    · have hc' : r.M.go b r.c = 0 := hc
      rw [if_neg (by simp [hc]), e, hc', scan_zero, Nat.max_eq_left hm]
      exact ih m hm
    · rw [if_pos (by simp [hc]), List.foldl_cons, e]
      exact ih _ (Nat.le_trans hm (Nat.le_max_left _ _))

theorem seens_first {l : List Nat} {k : Nat} : ∀ (rs : List Row) (m : Nat), seens l k rs m = max m (seens l k rs m)
  | [], m => by simp [seens]
  | r :: rs, m => by
    have := @seens_first l k rs (max m (r.scan l k).2)
    simp only [seens, List.foldl_cons] at this ⊢
    omega

theorem seens_mono {l : List Nat} {k : Nat} : ∀ (rs : List Row) (m n : Nat), seens l k rs (max m n) = max m (seens l k rs n)
  | [], m, n => by simp [seens]
  | r :: rs, m, n => by
    have := @seens_mono l k rs m (max n (r.scan l k).2)
    simp only [seens, List.foldl_cons] at this ⊢
    rw [Nat.max_assoc]; exact this

/-- picking by lengths of which each is a later one or else one and the same earlier one -/
theorem pick_split (k : Nat) : ∀ (rs : List (Nat × Nat × Bool)) (b1 b2 : Option (Nat × Nat)),
    (∀ x ∈ rs, x.2.1 = 0 ∨ k < x.2.1) → (∀ y, b1 = some y → k < y.2) → (∀ y, b2 = some y → y.2 = k) → 0 < k →
    (rs.map fun x => (x.1, if x.2.1 = 0 then (if x.2.2 = true then k else 0) else x.2.1)).foldl pickStep (b1.or b2)
      = ((rs.map fun x => (x.1, x.2.1)).foldl pickStep b1).or (b2.or ((rs.find? fun x => x.2.2 = true).map fun x => (x.1, k)))
  | [], b1, b2, _, _, _, _ => by simp
  | x :: rs, b1, b2, h, h1, h2, hk => by
    obtain ⟨i, a, t⟩ := x
    have hx : a = 0 ∨ k < a := h (i, a, t) (by simp)
    have ih := fun b1 b2 g1 g2 => @pick_split k rs b1 b2 (fun x hx => h x (by simp [hx])) g1 g2 hk
    simp only [List.map_cons, List.foldl_cons, List.find?_cons]
    by_cases ha : a = 0
    · subst ha
      have e1 : pickStep b1 (i, 0) = b1 := by simp [pickStep]
      rw [e1]
      cases t with
      | false =>
        have e2 : pickStep (b1.or b2) (i, if (0 : Nat) = 0 then (if false = true then k else 0) else 0) = b1.or b2 := by simp [pickStep]
        rw [e2, ih b1 b2 h1 h2]; rfl
      | true =>
        cases b1 with
        | some y =>
          have := h1 y rfl
          have e2 : pickStep ((some y).or b2) (i, if (0 : Nat) = 0 then (if true = true then k else 0) else 0) = (some y).or b2 := by
            rw [Option.some_or, pickStep_some, if_pos rfl, if_pos rfl, if_neg (by show ¬ y.2 < k; omega)]
          rw [e2, ih (some y) b2 h1 h2]
          obtain ⟨z, hz⟩ := pick_some (rs.map fun x => (x.1, x.2.1)) y
          rw [hz]; rfl
        | none =>
          cases b2 with
          | some y =>
            have := h2 y rfl
            have e2 : pickStep ((none : Option (Nat × Nat)).or (some y)) (i, if (0 : Nat) = 0 then (if true = true then k else 0) else 0) = some y := by
              rw [Option.none_or, pickStep_some, if_pos rfl, if_pos rfl, if_neg (by show ¬ y.2 < k; omega)]
            rw [e2]
            exact (ih none (some y) h1 h2).trans (by simp)
          | none =>
            have e2 : pickStep ((none : Option (Nat × Nat)).or none) (i, if (0 : Nat) = 0 then (if true = true then k else 0) else 0) = some (i, k) := by
              rw [Option.none_or, pickStep_none, if_pos rfl, if_pos rfl, if_pos (by exact hk)]
            rw [e2]
            exact (ih none (some (i, k)) h1 (by simp)).trans (by simp)
    · have hx : k < a := by omega
      have e1 : pickStep (b1.or b2) (i, if a = 0 then (if t = true then k else 0) else a) = (pickStep b1 (i, a)).or b2 := by
        rw [if_neg ha]
        cases b1 with
        | none =>
          cases b2 with
          | none => rw [Option.none_or, pickStep_none, if_pos (by show 0 < a; omega)]; rfl
          | some y =>
            have := h2 y rfl
            rw [Option.none_or, pickStep_some, pickStep_none, if_pos (by show y.2 < a; omega), if_pos (by show 0 < a; omega)]; rfl
        | some y => rw [Option.some_or, pickStep_some]; split <;> rfl
      have g : ∀ y, pickStep b1 (i, a) = some y → k < y.2 := by
        intro y hy
        unfold pickStep at hy
        split at hy
        · simp at hy; subst hy; exact hx
        · exact h1 y hy
      have hne : ∃ y, pickStep b1 (i, a) = some y := by
        unfold pickStep
        split
        · exact ⟨_, rfl⟩
        · next hh => cases b1 with
          | none => simp [lenOf] at hh; omega
          | some y => exact ⟨y, rfl⟩
      rw [e1, ih (pickStep b1 (i, a)) b2 g h2]
      obtain ⟨y, hy⟩ := hne
      obtain ⟨z, hz⟩ := pick_some (rs.map fun x => (x.1, x.2.1)) y
      rw [hy, hz]; rfl

theorem pick_drop {b : Nat} {l : List Nat} {k : Nat} : ∀ (rs : List Row) (best : Option (Nat × Nat)),
    (rs.map fun r => (r.i, (r.M.scan l (r.M.go b r.c) (k + 1) 0).1)).foldl pickStep best = ((goes b rs).map fun r => (r.i, (r.scan l (k + 1)).1)).foldl pickStep best
  | [], best => rfl
  | r :: rs, best => by
    have ih := @pick_drop b l k rs
    unfold goes at ih ⊢
    rw [List.map_cons, List.map_cons, List.filter_cons, List.foldl_cons]
    by_cases hc : (Row.go b r).c = 0
    · have hc' : r.M.go b r.c = 0 := hc
      rw [if_neg (by simp [hc]), hc', scan_zero]
      have : pickStep best (r.i, 0) = best := by simp [pickStep]
      rw [this]; exact ih best
    · rw [if_pos (by simp [hc]), List.map_cons, List.foldl_cons]
      exact ih _

theorem look_eq : ∀ (l : List Nat) (k : Nat) (rs : List Row) (best : Option (Nat × Nat)), (∀ r ∈ rs, r.ok ∧ r.c ≠ 0) →
    look l k (rs.map Row.spec) best = (seens l k rs k, (pick (rs.map fun r => (r.i, (r.scan l k).1))).or best)
  | [], k, rs, best, h => by
    simp only [look, List.isEmpty_map, Prod.mk.injEq]
    constructor
    · cases rs with
      | nil => rfl
      | cons r rs =>
        simp only [List.isEmpty_cons, Bool.false_eq_true, if_false]
        have : ∀ (rs : List Row) (m : Nat), (∀ r ∈ rs, r.c ≠ 0) → k + 1 ≤ m → m ≤ k + 1 → seens [] k rs m = k + 1 := by
          intro rs; induction rs with
          | nil => intro m _ h1 h2; simp [seens]; omega
          | cons r rs ih =>
            intro m h h1 h2
            simp only [seens, List.foldl_cons, Row.scan, Mat.scan, if_neg (h r (by simp))]
            exact ih _ (fun r hr => h r (by simp [hr])) (by omega) (by omega)
        simp only [seens, List.foldl_cons, Row.scan, Mat.scan, if_neg (h r (by simp)).2]
        exact (this rs _ (fun r hr => (h r (by simp [hr])).2) (by omega) (by omega)).symm
    · have : ∀ rs : List Row, pick (rs.map fun r => (r.i, (r.scan [] k).1)) = none := by
        intro rs; unfold pick
        induction rs with
        | nil => rfl
        | cons r rs ih => simpa [Row.scan, Mat.scan, pickStep] using ih
      rw [this]; rfl
  | b :: l, k, [], best, h => by simp [look, seens, pick]
  | b :: l, k, r :: rs, best, h => by
    have hok : ∀ q ∈ r :: rs, q.ok := fun q hq => (h q hq).1
    have hc : ∀ q ∈ r :: rs, q.c ≠ 0 := fun q hq => (h q hq).2
    generalize hR : r :: rs = R at *
    have hne : (R.map Row.spec).isEmpty = false := by rw [← hR]; rfl
    have hne' : R.isEmpty = false := by rw [← hR]; rfl
    simp only [look, hne, Bool.false_eq_true, if_false]
    rw [longer_goes hok, look_eq l (k + 1) (goes b R) _ (goes_ok hok)]
    have hf := @find_hit b R hok
    have e : (match ((R.map Row.spec).map fun x => (x.1, next b x.2)).find? fun x => x.2.any Pat.bare with
      | some x => some (x.1, k + 1)
      | none => best) = ((R.find? (Row.hit b)).map fun r => (r.i, k + 1)).or best := by
      cases h1 : ((R.map Row.spec).map fun x => (x.1, next b x.2)).find? fun x => x.2.any Pat.bare with
      | none => rw [h1] at hf; cases h2 : R.find? (Row.hit b) with
        | none => rfl
        | some y => rw [h2] at hf; simp at hf
      | some x => rw [h1] at hf; cases h2 : R.find? (Row.hit b) with
        | none => rw [h2] at hf; simp at hf
        | some y => rw [h2] at hf; simp at hf; simp [hf]
    refine Eq.trans (congrArg (fun z => (seens l (k + 1) (goes b R) (k + 1), (pick ((goes b R).map fun r => (r.i, (r.scan l (k + 1)).1))).or z)) e) ?_
    simp only [Prod.mk.injEq]
    constructor
    · rw [← seens_go R (k + 1) hc (Nat.le_refl _), ← hR]
      have e1 : (r.scan (b :: l) k).2 = (r.M.scan l (r.M.go b r.c) (k + 1) (if r.M.hit b r.c = true then k + 1 else 0)).2 := by
        simp only [Row.scan, Mat.scan, if_neg (hc r (by rw [← hR]; simp))]
      have e2 : k + 1 ≤ (r.scan (b :: l) k).2 := by rw [e1]; exact scan_le _ _ _ _ _
      simp only [seens, List.foldl_cons]
      congr 1; omega
    · rw [← Option.or_assoc]
      congr 1
      have hs := pick_split (k + 1) (R.map fun r => (r.i, (r.M.scan l (r.M.go b r.c) (k + 1) 0).1, Row.hit b r)) none none
        (by
          intro x hx
          obtain ⟨r, _, rfl⟩ := List.mem_map.mp hx
          exact scan_gt _ _ _ _) (by simp) (by simp) (by omega)
      simp only [List.map_map, Option.or_none, Option.none_or] at hs
      have e3 : (R.map fun r => (r.i, (r.scan (b :: l) k).1)) = R.map ((fun x : Nat × Nat × Bool => (x.1, if x.2.1 = 0 then (if x.2.2 = true then k + 1 else 0) else x.2.1)) ∘ fun r => (r.i, (r.M.scan l (r.M.go b r.c) (k + 1) 0).1, Row.hit b r)) := by
        apply List.map_congr_left
        intro q hq
        simp only [Function.comp, Row.scan, Mat.scan, if_neg (hc q hq), Prod.mk.injEq, true_and]
        rw [scan_lg]; rfl
      unfold pick
      rw [e3, hs]
      have e4 : (R.map ((fun x : Nat × Nat × Bool => (x.1, x.2.1)) ∘ fun r => (r.i, (r.M.scan l (r.M.go b r.c) (k + 1) 0).1, Row.hit b r))) = R.map fun r => (r.i, (r.M.scan l (r.M.go b r.c) (k + 1) 0).1) := rfl
      rw [e4, pick_drop]
      congr 1
      rw [List.find?_map]
      have e5 : ((fun x : Nat × Nat × Bool => decide (x.2.2 = true)) ∘ fun r : Row => (r.i, (r.M.scan l (r.M.go b r.c) (k + 1) 0).1, Row.hit b r)) = Row.hit b := by
        funext r; simp [Function.comp]
      rw [e5, Option.map_map]; rfl

end Mx

-- MxAut
/- Positions of a pattern's single bytes, which may come behind which: what they accept is what's matched. -/
namespace Mx
open Sq17

inductive Run (succ lab : Nat → Nat → Prop) : Nat → List Nat → Nat → Prop
  | one {p b : Nat} : lab p b → Run succ lab p [b] p
  | cons {p q r b : Nat} {s : List Nat} : lab p b → succ p q → Run succ lab q s r → Run succ lab p (b :: s) r

theorem Run.ne {succ lab : Nat → Nat → Prop} {p q : Nat} {s : List Nat} (h : Run succ lab p s q) : s ≠ [] := by
  cases h <;> simp

theorem Run.mono {succ succ' lab : Nat → Nat → Prop} (hs : ∀ p q, succ p q → succ' p q) {p q : Nat} {s : List Nat} (h : Run succ lab p s q) : Run succ' lab p s q := by
  induction h with
  | one h => exact .one h
  | cons a b _ ih => exact .cons a (hs _ _ b) ih

theorem Run.join {succ lab : Nat → Nat → Prop} {p m n r : Nat} {u v : List Nat} (h : Run succ lab p u m) (hs : succ m n) (k : Run succ lab n v r) : Run succ lab p (u ++ v) r := by
  induction h with
  | one h => exact .cons h hs k
  | cons a b _ ih => exact .cons a b (ih hs)

def In (lo hi p : Nat) : Prop := lo ≤ p ∧ p < hi

theorem Run.inn {succ lab : Nat → Nat → Prop} {lo hi : Nat} (c : ∀ p q, In lo hi p → succ p q → In lo hi q) {p q : Nat} {s : List Nat} (h : Run succ lab p s q) (i : In lo hi p) : In lo hi q := by
  induction h with
  | one h => exact i
  | cons a b _ ih => exact ih (c _ _ i b)

theorem Run.trans {succ lab succ' lab' : Nat → Nat → Prop} {lo hi : Nat} (c : ∀ p q, In lo hi p → succ p q → In lo hi q)
    (hl : ∀ p b, In lo hi p → lab p b → lab' p b) (hs : ∀ p q, In lo hi p → succ p q → succ' p q)
    {p q : Nat} {s : List Nat} (h : Run succ lab p s q) (i : In lo hi p) : Run succ' lab' p s q := by
  induction h with
  | one h => exact .one (hl _ _ i h)
  | cons a b _ ih => exact .cons (hl _ _ i a) (hs _ _ i b) (ih (c _ _ i b))

structure Aut (succ lab : Nat → Nat → Prop) (lo hi : Nat) (F L : Nat → Prop) (M : List Nat → Prop) : Prop where
  le : lo ≤ hi
  fIn : ∀ p, F p → In lo hi p
  lIn : ∀ p, L p → In lo hi p
  sIn : ∀ p q, In lo hi p → succ p q → In lo hi q
  acc : ∀ s, s ≠ [] → (M s ↔ ∃ p q, F p ∧ L q ∧ Run succ lab p s q)
  live : ∃ P : Nat → Prop, (∀ p, F p → P p) ∧ (∀ p q, P p → succ p q → P q) ∧ (∀ p, P p → In lo hi p ∧ ∃ s q, L q ∧ Run succ lab p s q)

theorem Aut.trans {succ lab succ' lab' : Nat → Nat → Prop} {lo hi : Nat} {F L : Nat → Prop} {M : List Nat → Prop} (A : Aut succ lab lo hi F L M)
    (hl : ∀ p b, In lo hi p → (lab' p b ↔ lab p b)) (hs : ∀ p q, In lo hi p → (succ' p q ↔ succ p q)) : Aut succ' lab' lo hi F L M where
  le := A.le
  fIn := A.fIn
  lIn := A.lIn
  sIn := fun p q i h => A.sIn p q i ((hs p q i).mp h)
  acc := by
    intro s ne
    rw [A.acc s ne]
    constructor
    · rintro ⟨p, q, f, l, r⟩
      exact ⟨p, q, f, l, r.trans A.sIn (fun p b i => (hl p b i).mpr) (fun p b i => (hs p b i).mpr) (A.fIn p f)⟩
    · rintro ⟨p, q, f, l, r⟩
      exact ⟨p, q, f, l, r.trans (fun p q i h => A.sIn p q i ((hs p q i).mp h)) (fun p b i => (hl p b i).mp) (fun p b i => (hs p b i).mp) (A.fIn p f)⟩
  live := by
    obtain ⟨P, a, b, c⟩ := A.live
    refine ⟨P, a, fun p q h k => b p q h ((hs p q (c p h).1).mp k), fun p h => ?_⟩
    obtain ⟨i, s, q, l, r⟩ := c p h
    exact ⟨i, s, q, l, r.trans A.sIn (fun p b i => (hl p b i).mpr) (fun p b i => (hs p b i).mpr) i⟩

theorem Aut.iff {succ lab : Nat → Nat → Prop} {lo hi : Nat} {F L F' L' : Nat → Prop} {M M' : List Nat → Prop} (A : Aut succ lab lo hi F L M)
    (hF : ∀ p, F' p ↔ F p) (hL : ∀ p, L' p ↔ L p) (hM : ∀ s, s ≠ [] → (M' s ↔ M s)) : Aut succ lab lo hi F' L' M' where
  le := A.le
  fIn := fun p h => A.fIn p ((hF p).mp h)
  lIn := fun p h => A.lIn p ((hL p).mp h)
  sIn := A.sIn
  acc := by
    intro s ne
    rw [hM s ne, A.acc s ne]
    simp only [hF, hL]
  live := by
    obtain ⟨P, a, b, c⟩ := A.live
    refine ⟨P, fun p h => a p ((hF p).mp h), b, fun p h => ?_⟩
    obtain ⟨i, s, q, l, r⟩ := c p h
    exact ⟨i, s, q, (hL q).mpr l, r⟩

/-- nothing of one byte or more is matched -/
theorem Aut.none {succ lab : Nat → Nat → Prop} {lo hi : Nat} {M : List Nat → Prop} (h : lo ≤ hi) (c : ∀ p q, In lo hi p → succ p q → In lo hi q)
    (hM : ∀ s, s ≠ [] → ¬ M s) : Aut succ lab lo hi (fun _ => False) (fun _ => False) M where
  le := h
  fIn := fun p h => h.elim
  lIn := fun p h => h.elim
  sIn := c
  acc := by
    intro s ne
    constructor
    · intro m; exact (hM s ne m).elim
    · rintro ⟨p, q, f, _⟩; exact f.elim
  live := ⟨fun _ => False, fun _ h => h.elim, fun _ _ h => h.elim, fun _ h => h.elim⟩

theorem Aut.single {succ lab : Nat → Nat → Prop} {n : Nat} {M : List Nat → Prop} (hs : ∀ q, ¬ succ n q) (hb : ∃ b, lab n b)
    (hM : ∀ s, s ≠ [] → (M s ↔ ∃ b, s = [b] ∧ lab n b)) : Aut succ lab n (n + 1) (fun p => p = n) (fun p => p = n) M where
  le := Nat.le_succ n
  fIn := by rintro p rfl; exact ⟨Nat.le_refl _, Nat.lt_succ_self _⟩
  lIn := by rintro p rfl; exact ⟨Nat.le_refl _, Nat.lt_succ_self _⟩
  sIn := by
    rintro p q ⟨a, b⟩ h
    have : p = n := by omega
    subst this; exact (hs q h).elim
  acc := by
    intro s ne
    rw [hM s ne]
    constructor
    · rintro ⟨b, rfl, h⟩; exact ⟨n, n, rfl, rfl, .one h⟩
    · rintro ⟨p, q, rfl, rfl, r⟩
      cases r with
      | one h => exact ⟨_, rfl, h⟩
      | cons _ h _ => exact (hs _ h).elim
  live := by
    refine ⟨fun p => p = n, fun p h => h, ?_, ?_⟩
    · rintro p q rfl h; exact (hs q h).elim
    · rintro p rfl
      obtain ⟨b, h⟩ := hb
      exact ⟨⟨Nat.le_refl _, Nat.lt_succ_self _⟩, [b], p, rfl, .one h⟩

theorem in_absurd {lo m hi p : Nat} {Q : Prop} (a : In lo m p) (b : In m hi p) : Q := by
  have := a.2; have := b.1; omega

/-- the right one stands on the lower positions -/
theorem Aut.alt {succ lab : Nat → Nat → Prop} {lo m hi : Nat} {F1 L1 F2 L2 : Nat → Prop} {M1 M2 : List Nat → Prop}
    (A2 : Aut succ lab lo m F2 L2 M2) (A1 : Aut succ lab m hi F1 L1 M1) :
    Aut succ lab lo hi (fun p => F1 p ∨ F2 p) (fun p => L1 p ∨ L2 p) (fun s => M1 s ∨ M2 s) where
  le := Nat.le_trans A2.le A1.le
  fIn := by
    rintro p (h | h)
    · have := A1.fIn p h; have := A2.le; exact ⟨by have := (A1.fIn p h).1; omega, (A1.fIn p h).2⟩
    · have := A2.fIn p h; have := A1.le; exact ⟨(A2.fIn p h).1, by have := (A2.fIn p h).2; omega⟩
  lIn := by
    rintro p (h | h)
    · have := A1.lIn p h; have := A2.le; exact ⟨by have := (A1.lIn p h).1; omega, (A1.lIn p h).2⟩
    · have := A2.lIn p h; have := A1.le; exact ⟨(A2.lIn p h).1, by have := (A2.lIn p h).2; omega⟩
  sIn := by
    intro p q i h
    have l1 := A1.le; have l2 := A2.le
    by_cases hp : p < m
    · have := A2.sIn p q ⟨i.1, hp⟩ h; exact ⟨this.1, by have := this.2; omega⟩
    · have := A1.sIn p q ⟨by omega, i.2⟩ h; exact ⟨by have := this.1; omega, this.2⟩
  acc := by
    intro s ne
    rw [A1.acc s ne, A2.acc s ne]
    constructor
    · rintro (⟨p, q, f, l, r⟩ | ⟨p, q, f, l, r⟩)
      · exact ⟨p, q, .inl f, .inl l, r⟩
      · exact ⟨p, q, .inr f, .inr l, r⟩
    · rintro ⟨p, q, f | f, l, r⟩
      · have i := r.inn A1.sIn (A1.fIn p f)
        rcases l with l | l
        · exact .inl ⟨p, q, f, l, r⟩
        · exact in_absurd (A2.lIn q l) i
      · have i := r.inn A2.sIn (A2.fIn p f)
        rcases l with l | l
        · exact in_absurd i (A1.lIn q l)
        · exact .inr ⟨p, q, f, l, r⟩
  live := by
    obtain ⟨P1, a1, b1, c1⟩ := A1.live
    obtain ⟨P2, a2, b2, c2⟩ := A2.live
    have l1 := A1.le; have l2 := A2.le
    refine ⟨fun p => P1 p ∨ P2 p, ?_, ?_, ?_⟩
    · rintro p (h | h)
      · exact .inl (a1 p h)
      · exact .inr (a2 p h)
    · rintro p q (h | h) k
      · exact .inl (b1 p q h k)
      · exact .inr (b2 p q h k)
    · rintro p (h | h)
      · obtain ⟨i, s, q, l, r⟩ := c1 p h
        exact ⟨⟨by have := i.1; omega, i.2⟩, s, q, .inl l, r⟩
      · obtain ⟨i, s, q, l, r⟩ := c2 p h
        exact ⟨⟨i.1, by have := i.2; omega⟩, s, q, .inr l, r⟩

theorem Run.seq {succ succ' lab : Nat → Nat → Prop} {lo m hi : Nat} {F2 L1 : Nat → Prop}
    (c1 : ∀ p q, In m hi p → succ p q → In m hi q) (c2 : ∀ p q, In lo m p → succ p q → In lo m q)
    (f2 : ∀ p, F2 p → In lo m p) (l1 : ∀ p, L1 p → In m hi p)
    (hs : ∀ p q, In lo hi p → (succ' p q ↔ succ p q ∨ (L1 p ∧ F2 q))) (le1 : lo ≤ m)
    {p r : Nat} {s : List Nat} (h : Run succ' lab p s r) (i : In m hi p) :
    Run succ lab p s r ∨ ∃ u v a b, s = u ++ v ∧ Run succ lab p u a ∧ L1 a ∧ F2 b ∧ Run succ lab b v r := by
  induction h with
  | one h => exact .inl (.one h)
  | @cons p q r b s a k t ih =>
    rcases (hs p q ⟨by have := i.1; omega, i.2⟩).mp k with k | ⟨k1, k2⟩
    · rcases ih (c1 _ _ i k) with h | ⟨u, v, x, y, rfl, r1, l, f, r2⟩
      · exact .inl (.cons a k h)
      · exact .inr ⟨b :: u, v, x, y, rfl, .cons a k r1, l, f, r2⟩
    · refine .inr ⟨[b], s, p, q, rfl, .one a, k1, k2, ?_⟩
      have hi' : ∀ p q, In lo m p → (succ' p q → succ p q) := by
        intro p q j h
        have : m ≤ hi := by have := i.1; have := i.2; omega
        rcases (hs p q ⟨j.1, by have := j.2; omega⟩).mp h with h | ⟨h, _⟩
        · exact h
        · exact in_absurd j (l1 p h)
      exact t.trans (fun p q j h => c2 p q j (hi' p q j h)) (fun _ _ _ h => h) hi' (f2 q k2)

theorem Aut.seq {succ succ' lab : Nat → Nat → Prop} {lo m hi : Nat} {F1 L1 F2 L2 : Nat → Prop} {M1 M2 : List Nat → Prop} {e1 e2 : Prop}
    (A2 : Aut succ lab lo m F2 L2 M2) (A1 : Aut succ lab m hi F1 L1 M1) (h1 : e1 ↔ M1 []) (h2 : e2 ↔ M2 [])
    (hs : ∀ p q, In lo hi p → (succ' p q ↔ succ p q ∨ (L1 p ∧ F2 q))) (alive : ∃ s, M2 s) :
    Aut succ' lab lo hi (fun p => F1 p ∨ (e1 ∧ F2 p)) (fun p => L2 p ∨ (e2 ∧ L1 p)) (fun s => ∃ u v, s = u ++ v ∧ M1 u ∧ M2 v) := by
  have le1 := A1.le; have le2 := A2.le
  have up1 : ∀ p, In m hi p → In lo hi p := fun p i => ⟨by have := i.1; omega, i.2⟩
  have up2 : ∀ p, In lo m p → In lo hi p := fun p i => ⟨i.1, by have := i.2; omega⟩
  have hi2 : ∀ p q, In lo m p → succ' p q → succ p q := by
    intro p q j h
    rcases (hs p q (up2 p j)).mp h with h | ⟨h, _⟩
    · exact h
    · exact in_absurd j (A1.lIn p h)
  have mo1 : ∀ {p s q}, Run succ lab p s q → In m hi p → Run succ' lab p s q := fun r i =>
    r.trans A1.sIn (fun _ _ _ h => h) (fun p q i h => (hs p q (up1 p i)).mpr (.inl h)) i
  have mo2 : ∀ {p s q}, Run succ lab p s q → In lo m p → Run succ' lab p s q := fun r i =>
    r.trans A2.sIn (fun _ _ _ h => h) (fun p q i h => (hs p q (up2 p i)).mpr (.inl h)) i
  have rev2 : ∀ {p s q}, Run succ' lab p s q → In lo m p → Run succ lab p s q := fun r i =>
    r.trans (fun p q j h => A2.sIn p q j (hi2 p q j h)) (fun _ _ _ h => h) hi2 i
  refine ⟨by omega, ?_, ?_, ?_, ?_, ?_⟩
  · rintro p (h | ⟨_, h⟩)
    · exact up1 p (A1.fIn p h)
    · exact up2 p (A2.fIn p h)
  · rintro p (h | ⟨_, h⟩)
    · exact up2 p (A2.lIn p h)
    · exact up1 p (A1.lIn p h)
  · intro p q i h
    rcases (hs p q i).mp h with h | ⟨_, h⟩
    · by_cases hp : p < m
      · exact up2 q (A2.sIn p q ⟨i.1, hp⟩ h)
      · exact up1 q (A1.sIn p q ⟨by omega, i.2⟩ h)
    · exact up2 q (A2.fIn q h)
  · intro s ne
    constructor
    · rintro ⟨u, v, rfl, a, b⟩
      by_cases hu : u = []
      · subst hu
        by_cases hv : v = []
        · subst hv; exact absurd rfl ne
        · obtain ⟨p, q, f, l, r⟩ := (A2.acc v hv).mp b
          exact ⟨p, q, .inr ⟨h1.mpr a, f⟩, .inl l, by simpa using mo2 r (A2.fIn p f)⟩
      · obtain ⟨p, q, f, l, r⟩ := (A1.acc u hu).mp a
        by_cases hv : v = []
        · subst hv
          exact ⟨p, q, .inl f, .inr ⟨h2.mpr b, l⟩, by simpa using mo1 r (A1.fIn p f)⟩
        · obtain ⟨p2, q2, f2, l2, r2⟩ := (A2.acc v hv).mp b
          exact ⟨p, q2, .inl f, .inl l2, (mo1 r (A1.fIn p f)).join ((hs q p2 (up1 q (A1.lIn q l))).mpr (.inr ⟨l, f2⟩)) (mo2 r2 (A2.fIn p2 f2))⟩
    · rintro ⟨p, q, f | ⟨e, f⟩, l, r⟩
      · rcases Run.seq A1.sIn A2.sIn A2.fIn A1.lIn hs A2.le r (A1.fIn p f) with r | ⟨u, v, a, b, rfl, r1, la, fb, r2⟩
        · have i := r.inn A1.sIn (A1.fIn p f)
          rcases l with l | ⟨e, l⟩
          · exact in_absurd (A2.lIn q l) i
          · exact ⟨s, [], by simp, (A1.acc s ne).mpr ⟨p, q, f, l, r⟩, h2.mp e⟩
        · have i := r2.inn A2.sIn (A2.fIn b fb)
          rcases l with l | ⟨e, l⟩
          · exact ⟨u, v, rfl, (A1.acc u r1.ne).mpr ⟨p, a, f, la, r1⟩, (A2.acc v r2.ne).mpr ⟨b, q, fb, l, r2⟩⟩
          · exact in_absurd i (A1.lIn q l)
      · have r := rev2 r (A2.fIn p f)
        have i := r.inn A2.sIn (A2.fIn p f)
        rcases l with l | ⟨_, l⟩
        · exact ⟨[], s, by simp, h1.mp e, (A2.acc s ne).mpr ⟨p, q, f, l, r⟩⟩
        · exact in_absurd i (A1.lIn q l)
  · obtain ⟨P1, a1, b1, c1⟩ := A1.live
    obtain ⟨P2, a2, b2, c2⟩ := A2.live
    refine ⟨fun p => P1 p ∨ P2 p, ?_, ?_, ?_⟩
    · rintro p (h | ⟨_, h⟩)
      · exact .inl (a1 p h)
      · exact .inr (a2 p h)
    · rintro p q (h | h) k
      · rcases (hs p q (up1 p (c1 p h).1)).mp k with k | ⟨_, k⟩
        · exact .inl (b1 p q h k)
        · exact .inr (a2 q k)
      · exact .inr (b2 p q h (hi2 p q (c2 p h).1 k))
    · rintro p (h | h)
      · obtain ⟨i, s, q, l, r⟩ := c1 p h
        refine ⟨up1 p i, ?_⟩
        by_cases he : e2
        · exact ⟨s, q, .inr ⟨he, l⟩, mo1 r i⟩
        · obtain ⟨t, ht⟩ := alive
          have hne : t ≠ [] := by rintro rfl; exact he (h2.mpr ht)
          obtain ⟨p2, q2, f2, l2, r2⟩ := (A2.acc t hne).mp ht
          exact ⟨s ++ t, q2, .inl l2, (mo1 r i).join ((hs q p2 (up1 q (A1.lIn q l))).mpr (.inr ⟨l, f2⟩)) (mo2 r2 (A2.fIn p2 f2))⟩
      · obtain ⟨i, s, q, l, r⟩ := c2 p h
        exact ⟨up2 p i, s, q, .inl l, mo2 r i⟩

theorem Run.star {succ succ' lab : Nat → Nat → Prop} {lo hi : Nat} {F L : Nat → Prop}
    (c : ∀ p q, In lo hi p → succ p q → In lo hi q)
    (hs : ∀ p q, In lo hi p → (succ' p q ↔ succ p q ∨ (L p ∧ F q)))
    {p r : Nat} {s : List Nat} (h : Run succ' lab p s r) (i : In lo hi p) :
    Run succ lab p s r ∨ ∃ u v a b, s = u ++ v ∧ Run succ lab p u a ∧ L a ∧ F b ∧ Run succ' lab b v r := by
  induction h with
  | one h => exact .inl (.one h)
  | @cons p q r b s a k t ih =>
    rcases (hs p q i).mp k with k | ⟨k1, k2⟩
    · rcases ih (c _ _ i k) with h | ⟨u, v, x, y, rfl, r1, l, f, r2⟩
      · exact .inl (.cons a k h)
      · exact .inr ⟨b :: u, v, x, y, rfl, .cons a k r1, l, f, r2⟩
    · exact .inr ⟨[b], s, p, q, rfl, .one a, k1, k2, t⟩

theorem Aut.star {succ succ' lab : Nat → Nat → Prop} {lo hi : Nat} {F L : Nat → Prop} {p : Pat}
    (A : Aut succ lab lo hi F L (Matches p)) (hs : ∀ p q, In lo hi p → (succ' p q ↔ succ p q ∨ (L p ∧ F q))) :
    Aut succ' lab lo hi F L (Matches (.star p)) := by
  have c' : ∀ p q, In lo hi p → succ' p q → In lo hi q := by
    intro p q i h
    rcases (hs p q i).mp h with h | ⟨_, h⟩
    · exact A.sIn p q i h
    · exact A.fIn q h
  have mo : ∀ {p s q}, Run succ lab p s q → In lo hi p → Run succ' lab p s q := fun r i =>
    r.trans A.sIn (fun _ _ _ h => h) (fun p q i h => (hs p q i).mpr (.inl h)) i
  refine ⟨A.le, A.fIn, A.lIn, c', ?_, ?_⟩
  · have up : ∀ n s, s.length ≤ n → s ≠ [] → Matches (.star p) s → ∃ a b, F a ∧ L b ∧ Run succ' lab a s b := by
      intro n; induction n with
      | zero => intro s h ne; cases s with
        | nil => exact absurd rfl ne
        | cons _ _ => simp at h
      | succ n ih =>
        intro s h ne m
        cases s with
        | nil => exact absurd rfl ne
        | cons x t =>
          obtain ⟨u, v, rfl, a, b⟩ := star_cons.mp m
          obtain ⟨y, z, f, l, r⟩ := (A.acc (x :: u) (by simp)).mp a
          by_cases hv : v = []
          · subst hv; exact ⟨y, z, f, l, by simpa using mo r (A.fIn y f)⟩
          · have : v.length ≤ n := by simp at h; omega
            obtain ⟨y2, z2, f2, l2, r2⟩ := ih v this hv b
            exact ⟨y, z2, f, l2, by simpa using (mo r (A.fIn y f)).join ((hs z y2 (A.lIn z l)).mpr (.inr ⟨l, f2⟩)) r2⟩
    have dn : ∀ n s, s.length ≤ n → (∃ a b, F a ∧ L b ∧ Run succ' lab a s b) → Matches (.star p) s := by
      intro n; induction n with
      | zero => rintro s h ⟨a, b, _, _, r⟩; cases s with
        | nil => exact star_nil
        | cons _ _ => simp at h
      | succ n ih =>
        rintro s h ⟨a, b, f, l, r⟩
        rcases Run.star A.sIn hs r (A.fIn a f) with r | ⟨u, v, x, y, rfl, r1, lx, fy, r2⟩
        · have := Matches.more ((A.acc s r.ne).mpr ⟨a, b, f, l, r⟩) (star_nil (p := p))
          simpa using this
        · have hu : 0 < u.length := List.length_pos_iff.mpr r1.ne
          have : v.length ≤ n := by simp at h; omega
          exact Matches.more ((A.acc u r1.ne).mpr ⟨a, x, f, lx, r1⟩) (ih v this ⟨y, b, fy, l, r2⟩)
    intro s ne
    exact ⟨up s.length s (Nat.le_refl _) ne, dn s.length s (Nat.le_refl _)⟩
  · obtain ⟨P, a, b, c⟩ := A.live
    refine ⟨P, a, ?_, ?_⟩
    · intro p q h k
      rcases (hs p q (c p h).1).mp k with k | ⟨_, k⟩
      · exact b p q h k
      · exact a q k
    · intro p h
      obtain ⟨i, s, q, l, r⟩ := c p h
      exact ⟨i, s, q, l, mo r i⟩

theorem plus_star {p : Pat} {s : List Nat} (ne : s ≠ []) : Matches (.seq p (.star p)) s ↔ Matches (.star p) s := by
  constructor
  · intro h
    obtain ⟨u, v, rfl, a, b⟩ := m_seq.mp h
    exact .more a b
  · intro h
    cases s with
    | nil => exact absurd rfl ne
    | cons x t =>
      obtain ⟨u, v, rfl, a, b⟩ := star_cons.mp h
      exact m_seq.mpr ⟨x :: u, v, rfl, a, b⟩

end Mx

-- MxBits
/- Sets of steps as numbers. -/
namespace Mx

theorem stepsIn_zero : stepsIn 0 = [] := by rw [stepsIn]; simp
theorem stepsIn_pos {n : Nat} (h : n ≠ 0) : stepsIn n = n.log2 :: stepsIn (n - 2 ^ n.log2) := by rw [stepsIn]; simp [h]

theorem rest_bit {n : Nat} (h : n ≠ 0) (p : Nat) : (n - 2 ^ n.log2).testBit p = (n.testBit p && decide (p ≠ n.log2)) := by
  have h1 : 2 ^ n.log2 ≤ n := Nat.log2_self_le h
  have h2 : n < 2 ^ (n.log2 + 1) := Nat.lt_log2_self
  generalize hk : n.log2 = k at *
  obtain ⟨r, rfl⟩ : ∃ r, n = 2 ^ k + r := ⟨n - 2 ^ k, by omega⟩
  rw [Nat.add_sub_cancel_left]
  have hr : r < 2 ^ k := by rw [Nat.pow_succ] at h2; omega
  rcases Nat.lt_trichotomy p k with hp | hp | hp
  · rw [Nat.testBit_two_pow_add_gt hp]
    have : p ≠ k := by omega
    simp [this]
  · subst hp
    rw [Nat.testBit_lt_two_pow hr]; simp
  · have e1 : r.testBit p = false := Nat.testBit_lt_two_pow (Nat.lt_of_lt_of_le hr (Nat.pow_le_pow_right (by omega) (by omega)))
    have e2 : (2 ^ k + r).testBit p = false := Nat.testBit_lt_two_pow (Nat.lt_of_lt_of_le h2 (Nat.pow_le_pow_right (by omega) (by omega)))
    rw [e1, e2]; rfl

theorem log2_bit {n : Nat} (h : n ≠ 0) : n.testBit n.log2 = true := by
  have h1 : 2 ^ n.log2 ≤ n := Nat.log2_self_le h
  have h2 : n < 2 ^ (n.log2 + 1) := Nat.lt_log2_self
  generalize hk : n.log2 = k at *
  obtain ⟨r, rfl⟩ : ∃ r, n = 2 ^ k + r := ⟨n - 2 ^ k, by omega⟩
  have hr : r < 2 ^ k := by rw [Nat.pow_succ] at h2; omega
  rw [Nat.testBit_two_pow_add_eq, Nat.testBit_lt_two_pow hr]; rfl

theorem mem_stepsIn {n p : Nat} : p ∈ stepsIn n ↔ n.testBit p = true := by
  by_cases h : n = 0
  · subst h; simp [stepsIn_zero]
  · have hlt : n - 2 ^ n.log2 < n := by have := Nat.two_pow_pos n.log2; omega
    rw [stepsIn_pos h, List.mem_cons, mem_stepsIn (n := n - 2 ^ n.log2), rest_bit h]
    by_cases hp : p = n.log2
    · subst hp; simp [log2_bit h]
    · simp [hp]
termination_by n

/-- taking the highest step away by exclusive or -/
theorem rest_xor {n : Nat} (h : n ≠ 0) : n ^^^ 2 ^ n.log2 = n - 2 ^ n.log2 := by
  apply Nat.eq_of_testBit_eq
  intro p
  rw [Nat.testBit_xor, rest_bit h, Nat.testBit_two_pow]
  by_cases hp : n.log2 = p
  · subst hp; simp [log2_bit h]
  · have : p ≠ n.log2 := fun e => hp e.symm
    simp [hp, this]

theorem ne_zero_bit {n : Nat} : n ≠ 0 ↔ ∃ p, n.testBit p = true := by
  constructor
  · intro h; exact ⟨_, log2_bit h⟩
  · rintro ⟨p, h⟩ rfl; simp at h

theorem orAt_bit (beh l : List Nat) (q : Nat) : (orAt beh l).testBit q = true ↔ ∃ p ∈ l, (beh.getD p 0).testBit q = true := by
  have : ∀ (l : List Nat) (a : Nat), (l.foldl (fun a s => a ||| beh.getD s 0) a).testBit q = true ↔ a.testBit q = true ∨ ∃ p ∈ l, (beh.getD p 0).testBit q = true := by
    intro l; induction l with
    | nil => intro a; simp
    | cons x l ih => intro a; rw [List.foldl_cons, ih, Nat.testBit_or]; simp [or_assoc]
  unfold orAt
  rw [this]; simp

theorem nx_bit (M : Mat) (d q : Nat) : (M.nx d).testBit q = true ↔ ∃ p, d.testBit p = true ∧ (M.behind.getD p 0).testBit q = true := by
  unfold Mat.nx; rw [orAt_bit]; simp only [mem_stepsIn]

/-- some cells of a row, each joined with a set -/
def orInto (x : Nat) (l : List Nat) (beh : List Nat) : List Nat := l.foldl (fun m s => m.set s (m.getD s 0 ||| x)) beh

theorem orInto_length (x : Nat) (l : List Nat) : ∀ beh, (orInto x l beh).length = beh.length := by
  unfold orInto
  induction l with
  | nil => intro beh; rfl
  | cons a l ih => intro beh; rw [List.foldl_cons, ih]; simp

theorem getD_set_self {l : List Nat} {i v : Nat} (h : i < l.length) : (l.set i v).getD i 0 = v := by
  simp [List.getD_eq_getElem?_getD, h]
theorem getD_set_ne {l : List Nat} {i j v : Nat} (h : i ≠ j) : (l.set i v).getD j 0 = l.getD j 0 := by
  simp [List.getD_eq_getElem?_getD, List.getElem?_set_ne h]
theorem getD_out {l : List Nat} {i : Nat} (h : l.length ≤ i) : l.getD i 0 = 0 := by
  simp [List.getD_eq_getElem?_getD, List.getElem?_eq_none h]

theorem orInto_bit (x : Nat) (l : List Nat) : ∀ (beh : List Nat) (p q : Nat), (∀ s ∈ l, s < beh.length) →
    (((orInto x l beh).getD p 0).testBit q = true ↔ (beh.getD p 0).testBit q = true ∨ (p ∈ l ∧ x.testBit q = true)) := by
  unfold orInto
  induction l with
  | nil => intro beh p q _; simp
  | cons a l ih =>
    intro beh p q h
    have ha : a < beh.length := h a (by simp)
    rw [List.foldl_cons, ih _ p q (fun s hs => by simpa using h s (by simp [hs]))]
    by_cases hp : a = p
    · subst hp
      rw [getD_set_self ha, Nat.testBit_or]
      simp only [List.mem_cons, true_or, true_and, Bool.or_eq_true]
      constructor
      · rintro ((h | h) | ⟨_, h⟩)
        · exact .inl h
        · exact .inr h
        · exact .inr h
      · rintro (h | h)
        · exact .inl (.inl h)
        · exact .inl (.inr h)
    · rw [getD_set_ne hp]
      have : p ≠ a := fun e => hp e.symm
      simp [this]

end Mx

-- MxBuild
/- A pattern as a tree, its steps built from it, and what they accept. -/
namespace Mx
open Sq17

inductive T where
  | eps
  | byt (ms : List Nat)
  | seq (a b : T)
  | alt (a b : T)
  | star (a : T)
  | plus (a : T)
  | opt (a : T)

/-- a tree tells a pattern -/
inductive Is : T → Pat → Prop
  | eps : Is .eps .eps
  | byt {ms : List Nat} {l : List (Nat × Nat)} : (∀ b, inside l b = true ↔ b ∈ ms) → good (.set l) → (∀ b ∈ ms, b < 256) → Is (.byt ms) (.set l)
  | seq {a b : T} {p q : Pat} : Is a p → Is b q → Is (.seq a b) (.seq p q)
  | alt {a b : T} {p q : Pat} : Is a p → Is b q → Is (.alt a b) (.alt p q)
  | star {a : T} {p : Pat} : Is a p → Is (.star a) (.star p)
  | plus {a : T} {p : Pat} : Is a p → Is (.plus a) (.seq p (.star p))
  | opt {a : T} {p : Pat} : Is a p → Is (.opt a) (.alt p .eps)

theorem Is.good {t : T} {p : Pat} (h : Is t p) : good p := by
  induction h with
  | eps => exact trivial
  | byt _ g _ => exact g
  | seq _ _ a b => exact ⟨a, b⟩
  | alt _ _ a b => exact ⟨a, b⟩
  | star _ a => exact a
  | plus _ a => exact ⟨a, a⟩
  | opt _ a => exact ⟨a, trivial⟩

structure B where
  beh : List Nat
  ahd : List Nat
  byb : List Nat

abbrev Shape := Bool × Nat × Nat

def single (st : B) (ms : List Nat) : B × Shape :=
  if ms = [] then (st, false, 0, 0)
  else (⟨st.beh ++ [0], st.ahd ++ [0], orInto (2 ^ st.beh.length) ms st.byb⟩, false, 2 ^ st.beh.length, 2 ^ st.beh.length)
def link (st : B) (L F : Nat) : B := ⟨orInto F (stepsIn L) st.beh, orInto L (stepsIn F) st.ahd, st.byb⟩
def nothing (s : Shape) : Bool := !s.1 && s.2.1 == 0
def sequence (st : B) (l r : Shape) : B × Shape :=
  if nothing l || nothing r then (st, false, 0, 0)
  else (link st l.2.2 r.2.1, l.1 && r.1, (if l.1 then l.2.1 ||| r.2.1 else l.2.1), (if r.1 then l.2.2 ||| r.2.2 else r.2.2))
def eitherS (l r : Shape) : Shape := (l.1 || r.1, l.2.1 ||| r.2.1, l.2.2 ||| r.2.2)

def bld : T → B → B × Shape
  | .eps, st => (st, true, 0, 0)
  | .byt ms, st => single st ms
  | .seq a b, st =>
    let r := bld b st
    let l := bld a r.1
    sequence l.1 l.2 r.2
  | .alt a b, st =>
    let r := bld b st
    let l := bld a r.1
    (l.1, eitherS l.2 r.2)
  | .star a, st =>
    let x := bld a st
    (link x.1 x.2.2.2 x.2.2.1, true, x.2.2)
  | .plus a, st =>
    let x := bld a st
    (link x.1 x.2.2.2 x.2.2.1, x.2.1, x.2.2)
  | .opt a, st =>
    let x := bld a st
    (x.1, true, x.2.2)

def B.succ (st : B) (p q : Nat) : Prop := (st.beh.getD p 0).testBit q = true
def B.lab (st : B) (p b : Nat) : Prop := (st.byb.getD b 0).testBit p = true
def bits (n p : Nat) : Prop := n.testBit p = true

structure Wf (st : B) : Prop where
  len : st.byb.length = 256
  lab : ∀ p b, st.lab p b → p < st.beh.length
  alen : st.ahd.length = st.beh.length
  rev : ∀ p q, (st.ahd.getD q 0).testBit p = true ↔ st.succ p q

theorem succ_lt {st : B} {p q : Nat} (h : st.succ p q) : p < st.beh.length := by
  unfold B.succ at h
  by_cases hp : p < st.beh.length
  · exact hp
  · rw [getD_out (by omega)] at h; simp at h

structure Ext (st st' : B) : Prop where
  wf : Wf st'
  le : st.beh.length ≤ st'.beh.length
  succ : ∀ p q, p < st.beh.length → (st'.succ p q ↔ st.succ p q)
  lab : ∀ p b, p < st.beh.length → (st'.lab p b ↔ st.lab p b)

theorem Ext.refl {st : B} (w : Wf st) : Ext st st := ⟨w, Nat.le_refl _, fun _ _ _ => Iff.rfl, fun _ _ _ => Iff.rfl⟩
theorem Ext.trans {a b c : B} (h : Ext a b) (k : Ext b c) : Ext a c :=
  ⟨k.wf, Nat.le_trans h.le k.le, fun p q i => (k.succ p q (Nat.lt_of_lt_of_le i h.le)).trans (h.succ p q i), fun p q i => (k.lab p q (Nat.lt_of_lt_of_le i h.le)).trans (h.lab p q i)⟩

theorem link_succ {st : B} {L F : Nat} (h : ∀ p, bits L p → p < st.beh.length) (p q : Nat) : (link st L F).succ p q ↔ st.succ p q ∨ (bits L p ∧ bits F q) := by
  unfold B.succ link
  rw [orInto_bit _ _ _ _ _ (fun s hs => h s (mem_stepsIn.mp hs)), mem_stepsIn]; rfl
theorem link_len (st : B) (L F : Nat) : (link st L F).beh.length = st.beh.length := orInto_length _ _ _
theorem link_ext {st : B} {L F n : Nat} (w : Wf st) (h : ∀ p, bits L p → n ≤ p ∧ p < st.beh.length) (hF : ∀ p, bits F p → p < st.beh.length) {a : B} (e : Ext a st) (hn : a.beh.length = n) : Ext a (link st L F) where
  wf := ⟨w.len, fun p b h => by rw [link_len]; exact w.lab p b h, by rw [link_len]; exact (orInto_length _ _ _).trans w.alen, fun p q => by
    rw [link_succ (fun p hp => (h p hp).2)]
    show ((orInto L (stepsIn F) st.ahd).getD q 0).testBit p = true ↔ _
    rw [orInto_bit _ _ _ _ _ (fun s hs => by rw [w.alen]; exact hF s (mem_stepsIn.mp hs)), mem_stepsIn, w.rev p q]
    exact ⟨fun z => z.imp id fun z => ⟨z.2, z.1⟩, fun z => z.imp id fun z => ⟨z.2, z.1⟩⟩⟩
  le := by rw [link_len]; exact e.le
  succ := fun p q i => by
    rw [link_succ (fun p hp => (h p hp).2), e.succ p q i]
    constructor
    · rintro (h1 | ⟨h1, _⟩)
      · exact h1
      · have := (h p h1).1; omega
    · exact .inl
  lab := fun p b i => e.lab p b i

/-- what is built of a tree -/
structure Built (st : B) (p : Pat) (r : B × Shape) : Prop where
  ext : Ext st r.1
  e : r.2.1 = true ↔ Matches p []
  aut : Aut r.1.succ r.1.lab st.beh.length r.1.beh.length (bits r.2.2.1) (bits r.2.2.2) (Matches p)

theorem bits_zero (p : Nat) : bits 0 p ↔ False := by simp [bits]
theorem bits_or (a b p : Nat) : bits (a ||| b) p ↔ bits a p ∨ bits b p := by simp [bits, Nat.testBit_or]
theorem bits_if (e : Bool) (a b p : Nat) : bits (if e = true then a ||| b else a) p ↔ bits a p ∨ (e = true ∧ bits b p) := by
  cases e <;> simp [bits_or]
theorem bits_if' (e : Bool) (a b p : Nat) : bits (if e = true then b ||| a else a) p ↔ bits a p ∨ (e = true ∧ bits b p) := by
  cases e <;> simp [bits_or, or_comm]
theorem bits_two (n p : Nat) : bits (2 ^ n) p ↔ p = n := by
  simp [bits, Nat.testBit_two_pow, eq_comm]
theorem bits_ex {n : Nat} : n ≠ 0 ↔ ∃ p, bits n p := ne_zero_bit

/-- no match at all -/
theorem Built.dead {st : B} {p : Pat} {r : B × Shape} (h : Built st p r) (d : nothing r.2 = true) : ∀ s, ¬ Matches p s := by
  intro s m
  simp only [nothing, Bool.and_eq_true, Bool.not_eq_true', beq_iff_eq] at d
  by_cases hs : s = []
  · subst hs; have := h.e.mpr m; rw [d.1] at this; cases this
  · obtain ⟨x, y, f, _, _⟩ := (h.aut.acc s hs).mp m
    rw [d.2, bits_zero] at f; exact f

theorem Built.alive {st : B} {p : Pat} {r : B × Shape} (h : Built st p r) (d : nothing r.2 = false) : ∃ s, Matches p s := by
  by_cases he : r.2.1 = true
  · exact ⟨[], h.e.mp he⟩
  · simp only [nothing, Bool.and_eq_false_iff, Bool.not_eq_false', beq_eq_false_iff_ne, he] at d
    rcases d with d | d
    · simp at d
    · obtain ⟨x, hx⟩ := bits_ex.mp d
      obtain ⟨P, a, _, c⟩ := h.aut.live
      obtain ⟨_, s, q, l, run⟩ := c x (a x hx)
      exact ⟨s, (h.aut.acc s run.ne).mpr ⟨x, q, hx, l, run⟩⟩

theorem single_ok {st : B} {ms : List Nat} {l : List (Nat × Nat)} (w : Wf st) (hi : ∀ b, inside l b = true ↔ b ∈ ms) (hb : ∀ b ∈ ms, b < 256) : Built st (.set l) (single st ms) := by
  unfold single
  by_cases h : ms = []
  · rw [if_pos h]
    refine ⟨Ext.refl w, by simp [m_set], (Aut.none (Nat.le_refl _) (fun p q i => absurd i.2 (by have := i.1; omega)) ?_).iff (fun p => bits_zero p) (fun p => bits_zero p) (fun _ _ => Iff.rfl)⟩
    intro s _ m
    obtain ⟨b, _, hb'⟩ := m_set.mp m
    have := (hi b).mp hb'; rw [h] at this; simp at this
  · rw [if_neg h]
    have hl : ∀ p b, (B.mk (st.beh ++ [0]) (st.ahd ++ [0]) (orInto (2 ^ st.beh.length) ms st.byb)).lab p b ↔ st.lab p b ∨ (b ∈ ms ∧ p = st.beh.length) := by
      intro p b
      unfold B.lab
      rw [orInto_bit _ _ _ _ _ (fun s hs => by rw [w.len]; exact hb s hs)]
      have := bits_two st.beh.length p
      unfold bits at this; rw [this]
    have hs : ∀ p q, (B.mk (st.beh ++ [0]) (st.ahd ++ [0]) (orInto (2 ^ st.beh.length) ms st.byb)).succ p q ↔ st.succ p q := by
      intro p q
      unfold B.succ
      rcases Nat.lt_trichotomy p st.beh.length with hp | hp | hp
      · simp [List.getD_eq_getElem?_getD, List.getElem?_append_left hp]
      · subst hp; simp [List.getD_eq_getElem?_getD]
      · rw [getD_out (by simp; omega), getD_out (by omega)]
    have hn : ∀ q, ¬ st.succ st.beh.length q := fun q h => absurd (succ_lt h) (by omega)
    have hnl : ∀ b, ¬ st.lab st.beh.length b := fun b h => absurd (w.lab _ b h) (by omega)
    refine ⟨⟨⟨by simp [orInto_length, w.len], ?_, by simp [w.alen], fun p q => ?_⟩, by simp, fun p q _ => hs p q, ?_⟩, by simp [m_set], ?_⟩
    · intro p b h
      rcases (hl p b).mp h with h | ⟨_, h⟩
      · have := w.lab p b h; simp; omega
      · subst h; simp
    · rw [hs, ← w.rev]
      have : (st.ahd ++ [0]).getD q 0 = st.ahd.getD q 0 := by
        rcases Nat.lt_trichotomy q st.ahd.length with hp | hp | hp
        · simp [List.getD_eq_getElem?_getD, List.getElem?_append_left hp]
        · subst hp; simp [List.getD_eq_getElem?_getD]
        · rw [getD_out (by simp; omega), getD_out (by omega)]
      show ((st.ahd ++ [0]).getD q 0).testBit p = true ↔ _
      rw [this]
    · intro p b hp
      rw [hl]
      constructor
      · rintro (h | ⟨_, h⟩)
        · exact h
        · omega
      · exact .inl
    · have A := @Aut.single (B.mk (st.beh ++ [0]) (st.ahd ++ [0]) (orInto (2 ^ st.beh.length) ms st.byb)).succ (B.mk (st.beh ++ [0]) (st.ahd ++ [0]) (orInto (2 ^ st.beh.length) ms st.byb)).lab st.beh.length (Matches (.set l))
        (fun q h => hn q ((hs _ q).mp h)) ?_ ?_
      · have := A.iff (fun p => bits_two st.beh.length p) (fun p => bits_two st.beh.length p) (fun s _ => Iff.rfl)
        simpa using this
      · cases ms with
        | nil => exact absurd rfl h
        | cons b ms => exact ⟨b, (hl _ b).mpr (.inr ⟨by simp, rfl⟩)⟩
      · intro s _
        rw [m_set]
        constructor
        · rintro ⟨b, rfl, h⟩; exact ⟨b, rfl, (hl _ b).mpr (.inr ⟨(hi b).mp h, rfl⟩)⟩
        · rintro ⟨b, rfl, h⟩
          rcases (hl _ b).mp h with h | ⟨h, _⟩
          · exact (hnl b h).elim
          · exact ⟨b, rfl, (hi b).mpr h⟩

theorem keep {st st' : B} {lo hi : Nat} {F L : Nat → Prop} {M : List Nat → Prop} (A : Aut st.succ st.lab lo hi F L M) (e : Ext st st') (h : hi ≤ st.beh.length) : Aut st'.succ st'.lab lo hi F L M :=
  A.trans (fun p b i => e.lab p b (by have := i.2; omega)) (fun p q i => e.succ p q (by have := i.2; omega))

theorem star_ok {st : B} {p : Pat} {x : B × Shape} (h : Built st p x) : Ext st (link x.1 x.2.2.2 x.2.2.1) ∧
    Aut (link x.1 x.2.2.2 x.2.2.1).succ (link x.1 x.2.2.2 x.2.2.1).lab st.beh.length (link x.1 x.2.2.2 x.2.2.1).beh.length (bits x.2.2.1) (bits x.2.2.2) (Matches (.star p)) := by
  refine ⟨link_ext h.ext.wf (fun p hp => h.aut.lIn p hp) (fun p hp => (h.aut.fIn p hp).2) h.ext rfl, ?_⟩
  rw [link_len]
  exact h.aut.star (fun p q _ => link_succ (fun p hp => (h.aut.lIn p hp).2) p q)

theorem bld_ok {t : T} {p : Pat} (h : Is t p) : ∀ st, Wf st → Built st p (bld t st) := by
  induction h with
  | eps =>
    intro st w
    refine ⟨Ext.refl w, by simp [bld, m_eps], (Aut.none (Nat.le_refl _) (fun p q i => absurd i.2 (by have := i.1; omega)) ?_).iff (fun p => bits_zero p) (fun p => bits_zero p) (fun _ _ => Iff.rfl)⟩
    intro s ne m; exact ne (m_eps.mp m)
  | byt hi _ hb => intro st w; exact single_ok w hi hb
  | @seq a b p q _ _ iha ihb =>
    intro st w
    have h2 := ihb st w
    have h1 := iha _ h2.ext.wf
    have ext := h2.ext.trans h1.ext
    have A2 := keep h2.aut h1.ext (Nat.le_refl _)
    show Built st _ (sequence (bld a (bld b st).1).1 (bld a (bld b st).1).2 (bld b st).2)
    generalize bld a (bld b st).1 = l at *
    generalize bld b st = r at *
    unfold sequence
    by_cases hd : (nothing l.2 || nothing r.2) = true
    · rw [if_pos hd]
      have none : ∀ s, ¬ Matches (.seq p q) s := by
        intro s m
        obtain ⟨u, v, _, m1, m2⟩ := m_seq.mp m
        rcases (Bool.or_eq_true _ _).mp hd with h | h
        · exact h1.dead h u m1
        · exact h2.dead h v m2
      refine ⟨ext, ⟨fun h => by simp at h, fun m => (none _ m).elim⟩, (Aut.none ext.le ?_ (fun s _ => none s)).iff (fun p => bits_zero p) (fun p => bits_zero p) (fun _ _ => Iff.rfl)⟩
      exact (Aut.alt A2 h1.aut).sIn
    · rw [if_neg hd]
      have hd' : nothing l.2 = false ∧ nothing r.2 = false := by
        revert hd; cases nothing l.2 <;> cases nothing r.2 <;> simp
      have lt : ∀ p, bits l.2.2.2 p → p < l.1.beh.length := fun p hp => (h1.aut.lIn p hp).2
      refine ⟨link_ext ext.wf (fun p hp => ?_) (fun p hp => Nat.lt_of_lt_of_le (h2.aut.fIn p hp).2 h1.ext.le) ext rfl, ?_, ?_⟩
      · have := h1.aut.lIn p hp; exact ⟨Nat.le_trans h2.ext.le this.1, this.2⟩
      · simp only [Bool.and_eq_true, h1.e, h2.e, m_seq]
        constructor
        · rintro ⟨m1, m2⟩; exact ⟨[], [], rfl, m1, m2⟩
        · rintro ⟨u, v, e, m1, m2⟩
          have := List.append_eq_nil_iff.mp e.symm
          rw [this.1] at m1; rw [this.2] at m2; exact ⟨m1, m2⟩
      · rw [show (link l.1 l.2.2.2 r.2.2.1).beh.length = l.1.beh.length from link_len _ _ _]
        exact (Aut.seq A2 h1.aut h1.e h2.e (fun p q _ => link_succ lt p q) (h2.alive hd'.2)).iff
          (fun p => bits_if _ _ _ _) (fun p => bits_if' _ _ _ _) (fun s _ => m_seq)
  | @alt a b p q _ _ iha ihb =>
    intro st w
    have h2 := ihb st w
    have h1 := iha _ h2.ext.wf
    refine ⟨h2.ext.trans h1.ext, ?_, ?_⟩
    · show ((bld a (bld b st).1).2.1 || (bld b st).2.1) = true ↔ _
      rw [Bool.or_eq_true, h1.e, h2.e, m_alt]
    · exact (Aut.alt (keep h2.aut h1.ext (Nat.le_refl _)) h1.aut).iff (fun p => bits_or _ _ _) (fun p => bits_or _ _ _) (fun s _ => m_alt)
  | @star a p _ ih =>
    intro st w
    have h1 := ih st w
    obtain ⟨e, A⟩ := star_ok h1
    exact ⟨e, by simp [bld, star_nil], A⟩
  | @plus a p _ ih =>
    intro st w
    have h1 := ih st w
    obtain ⟨e, A⟩ := star_ok h1
    refine ⟨e, ?_, A.iff (fun _ => Iff.rfl) (fun _ => Iff.rfl) (fun s ne => plus_star ne)⟩
    show (bld a st).2.1 = true ↔ _
    rw [h1.e, m_seq]
    constructor
    · intro m; exact ⟨[], [], rfl, m, star_nil⟩
    · rintro ⟨u, v, e, m1, m2⟩
      have := List.append_eq_nil_iff.mp e.symm
      rw [this.1] at m1; exact m1
  | @opt a p _ ih =>
    intro st w
    have h1 := ih st w
    refine ⟨h1.ext, ?_, h1.aut.iff (fun _ => Iff.rfl) (fun _ => Iff.rfl) (fun s ne => ?_)⟩
    · simp [bld, m_alt, m_eps]
    · simp [m_alt, m_eps, ne]

theorem replicate_getD (n b : Nat) : (List.replicate n 0).getD b 0 = 0 := by
  rw [List.getD_eq_getElem?_getD, List.getElem?_replicate]; split <;> rfl
def B.start : B := ⟨[], [], List.replicate 256 0⟩
theorem start_wf : Wf B.start where
  len := List.length_replicate
  lab := fun p b h => by
    have h : ((List.replicate 256 0).getD b 0).testBit p = true := h
    rw [replicate_getD, Nat.zero_testBit] at h; cases h
  alen := rfl
  rev := fun p q => by
    show (([] : List Nat).getD q 0).testBit p = true ↔ (([] : List Nat).getD p 0).testBit q = true
    simp

def matOf (r : B × Shape) : Mat := ⟨r.1.beh, r.1.ahd, r.1.byb, r.2.1, r.2.2.1, r.2.2.2⟩

theorem go_bits (M : Mat) (b c q : Nat) : bits (M.go b c) q ↔ ∃ p, bits c p ∧ (B.mk M.behind M.ahead M.byb).lab p b ∧ (B.mk M.behind M.ahead M.byb).succ p q := by
  unfold bits Mat.go
  rw [nx_bit]
  simp only [Mat.done, Nat.testBit_and, Bool.and_eq_true, B.lab, B.succ, and_assoc]

theorem hit_bits (M : Mat) (b c : Nat) : M.hit b c = true ↔ ∃ p, bits c p ∧ (B.mk M.behind M.ahead M.byb).lab p b ∧ bits M.last p := by
  unfold Mat.hit
  rw [bne_iff_ne, bits_ex]
  simp only [bits, Mat.done, Nat.testBit_and, Bool.and_eq_true, B.lab, and_assoc]

theorem acc_run (M : Mat) : ∀ (s : List Nat) (c : Nat), M.acc s c = true ↔ ∃ p q, bits c p ∧ bits M.last q ∧ Run (B.mk M.behind M.ahead M.byb).succ (B.mk M.behind M.ahead M.byb).lab p s q
  | [], c => by
    simp only [Mat.acc, Bool.false_eq_true, false_iff]
    rintro ⟨p, q, _, _, r⟩; exact r.ne rfl
  | [b], c => by
    rw [Mat.acc_one, hit_bits]
    constructor
    · rintro ⟨p, a, b, c⟩; exact ⟨p, p, a, c, .one b⟩
    · rintro ⟨p, q, a, b, r⟩
      cases r with
      | one h => exact ⟨p, a, h, b⟩
      | cons _ _ h => exact absurd rfl h.ne
  | b :: x :: t, c => by
    rw [Mat.acc_cons _ _ _ (by simp), acc_run M (x :: t)]
    simp only [go_bits]
    constructor
    · rintro ⟨p, q, ⟨p0, a, l, s⟩, c, r⟩; exact ⟨p0, q, a, c, .cons l s r⟩
    · rintro ⟨p, q, a, c, r⟩
      cases r with
      | cons l s r => exact ⟨_, q, ⟨p, a, l, s⟩, c, r⟩

theorem mat_st {t : T} {p : Pat} (h : Is t p) : St (matOf (bld t B.start)) [p] (bld t B.start).2.2.1 where
  g := by intro q hq; simp at hq; subst hq; exact h.good
  same := by
    intro s ne
    have b := bld_ok h B.start start_wf
    rw [acc_run]
    simp only [Lang, List.mem_singleton, exists_eq_left]
    exact b.aut.acc s ne
  liv := by
    have b := bld_ok h B.start start_wf
    obtain ⟨P, a, c, d⟩ := b.aut.live
    have inv : ∀ bs k, (∀ p, bits k p → P p) → ∀ p, bits ((matOf (bld t B.start)).run bs k) p → P p := by
      intro bs; induction bs with
      | nil => intro k h p hp; exact h p hp
      | cons x bs ih =>
        intro k h
        refine ih _ (fun p hp => ?_)
        obtain ⟨p0, k0, _, s⟩ := (go_bits _ _ _ _).mp hp
        exact c p0 p (h p0 k0) s
    intro bs hne
    obtain ⟨x, hx⟩ := bits_ex.mp hne
    obtain ⟨_, s, q, l, r⟩ := d x (inv bs _ a x hx)
    exact ⟨s, r.ne, (acc_run _ _ _).mpr ⟨x, q, hx, l, r⟩⟩

theorem mat_bare {t : T} {p : Pat} (h : Is t p) : (bld t B.start).2.1 = p.bare := by
  rw [Bool.eq_iff_iff, (bld_ok h B.start start_wf).e, bare_iff]

end Mx

-- MxRead
/- A pattern read from a list part by part, and by the specification. -/
namespace Mx
open Sq17

def others (told : List Nat) : List Nat := (List.range 256).filter fun b => !told.contains b
def readMembers (n : Nat) (r : List Nat) : Option (Nat × List Nat × Nat) := match r with
  | [] => none
  | k :: r => if r.length < k ∨ ((r.take k).any fun b => decide (255 < b)) = true then none
    else if n = 1 then (if k = 0 then none else some (1, r.take k, 2 + k)) else some (1, others (r.take k), 2 + k)
def readSpan (r : List Nat) : Option (Nat × List Nat × Nat) := match r with
  | a :: b :: _ => if b < a ∨ 255 < b then none else some (1, List.range' a (b + 1 - a), 3)
  | _ => none
/-- a part's sort, its bytes, how many numbers it has itself -/
def readPart (l : List Nat) : Option (Nat × List Nat × Nat) := match l with
  | [] => none
  | n :: r => if 8 < n then none else if n = 1 ∨ n = 2 then readMembers n r else if n = 8 then readSpan r else some (n, [], 1)

theorem rp (n : Nat) (r : List Nat) : readPart (n :: r) = if 8 < n then none else if n = 1 ∨ n = 2 then readMembers n r else if n = 8 then readSpan r else some (n, [], 1) := rfl
theorem rm (n k : Nat) (r : List Nat) : readMembers n (k :: r) = if r.length < k ∨ ((r.take k).any fun b => decide (255 < b)) = true then none
    else if n = 1 then (if k = 0 then none else some (1, r.take k, 2 + k)) else some (1, others (r.take k), 2 + k) := rfl
theorem rs (a b : Nat) (r : List Nat) : readSpan (a :: b :: r) = if b < a ∨ 255 < b then none else some (1, List.range' a (b + 1 - a), 3) := rfl

def innerOf (n : Nat) : Nat := if n = 3 ∨ n = 4 then 2 else if n = 5 ∨ n = 6 ∨ n = 7 then 1 else 0

theorem readPart_size {l : List Nat} {x : Nat × List Nat × Nat} (h : readPart l = some x) : 0 < x.2.2 ∧ x.2.2 ≤ l.length := by
  unfold readPart at h
  cases l with
  | nil => cases h
  | cons n r =>
    simp only at h
    split at h
    · cases h
    · split at h
      · unfold readMembers at h
        cases r with
        | nil => cases h
        | cons k r =>
          simp only at h
          split at h
          · cases h
          · next h1 =>
            have : k ≤ r.length := by have := not_or.mp h1; omega
            split at h
            · split at h
              · cases h
              · cases h; simp only [List.length_cons]; omega
            · cases h; simp only [List.length_cons]; omega
      · split at h
        · unfold readSpan at h
          split at h
          · split at h
            · cases h
            · cases h; simp
          · cases h
        · cases h; simp

/-- the loop over the parts: the levels still to come, the numbers left, the parts so far -/
def readLoop (levels l : List Nat) (parts : List (Nat × List Nat)) : Option (List (Nat × List Nat) × List Nat) :=
  match levels with
  | [] => some (parts, l)
  | lv :: rest => match _h : readPart l with
    | none => none
    | some x => if 40 < lv then none else readLoop (List.replicate (innerOf x.1) (lv + 1) ++ rest) (l.drop x.2.2) (parts ++ [(x.1, x.2.1)])
termination_by l.length
decreasing_by
  have := readPart_size _h
  simp only [List.length_drop]; omega

theorem readLoop_nil (l : List Nat) (parts : List (Nat × List Nat)) : readLoop [] l parts = some (parts, l) := by rw [readLoop]
theorem readLoop_none {lv : Nat} {rest l : List Nat} {parts : List (Nat × List Nat)} (h : readPart l = none) : readLoop (lv :: rest) l parts = none := by
  rw [readLoop]; split
  · rfl
  · next h1 => rw [h] at h1; cases h1
theorem readLoop_deep {lv : Nat} {rest l : List Nat} {parts : List (Nat × List Nat)} (h : 40 < lv) : readLoop (lv :: rest) l parts = none := by
  rw [readLoop]; split
  · rfl
  · rw [if_pos h]
theorem readLoop_some {lv : Nat} {rest l : List Nat} {parts : List (Nat × List Nat)} {x : Nat × List Nat × Nat} (h : readPart l = some x) (hl : lv ≤ 40) :
    readLoop (lv :: rest) l parts = readLoop (List.replicate (innerOf x.1) (lv + 1) ++ rest) (l.drop x.2.2) (parts ++ [(x.1, x.2.1)]) := by
  rw [readLoop]; split
  · next h1 => rw [h] at h1; cases h1
  · next h1 => rw [h] at h1; cases h1; rw [if_neg (by omega)]

/-- a tree's parts, an outer one ahead of those in it -/
def T.pre : T → List (Nat × List Nat)
  | .eps => [(0, [])]
  | .byt ms => [(1, ms)]
  | .seq a b => (3, []) :: (a.pre ++ b.pre)
  | .alt a b => (4, []) :: (a.pre ++ b.pre)
  | .star a => (5, []) :: a.pre
  | .plus a => (6, []) :: a.pre
  | .opt a => (7, []) :: a.pre

/-! Ranges. -/
def rangeStep (f : Nat → Bool) (l : List (Nat × Nat)) (b : Nat) : List (Nat × Nat) := if f b = false then l else match l with
  | x :: r => if x.2 + 1 = b then (x.1, b) :: r else (b, b) :: x :: r
  | [] => [(b, b)]

theorem inside_cons (x : Nat × Nat) (l : List (Nat × Nat)) (b : Nat) : inside (x :: l) b = true ↔ (x.1 ≤ b ∧ b ≤ x.2) ∨ inside l b = true := by
  simp [inside]
theorem inside_nil (b : Nat) : ¬ inside [] b = true := by simp [inside]

theorem rangeStep_fold (f : Nat → Bool) : ∀ n, let l := (List.range n).foldl (rangeStep f) []
    (∀ b, inside l b = true ↔ b < n ∧ f b = true) ∧ (∀ x ∈ l, x.1 ≤ x.2) ∧ (∀ x ∈ l, x.2 < n)
  | 0 => by simp [inside]
  | n + 1 => by
    obtain ⟨h1, h2, h3⟩ := rangeStep_fold f n
    rw [List.range_succ, List.foldl_append]
    simp only [List.foldl_cons, List.foldl_nil]
    generalize (List.range n).foldl (rangeStep f) [] = l at *
    unfold rangeStep
    by_cases hf : f n = false
    · rw [if_pos hf]
      refine ⟨fun b => ?_, h2, fun x hx => Nat.lt_succ_of_lt (h3 x hx)⟩
      rw [h1]
      constructor
      · rintro ⟨a, b⟩; exact ⟨by omega, b⟩
      · rintro ⟨a, c⟩
        refine ⟨?_, c⟩
        by_cases hb : b = n
        · subst hb; rw [hf] at c; cases c
        · omega
    · rw [if_neg hf]
      have hf : f n = true := by simpa using hf
      have key : ∀ b, (b = n ∨ inside l b = true) ↔ b < n + 1 ∧ f b = true := by
        intro b; rw [h1]
        constructor
        · rintro (rfl | ⟨a, c⟩)
          · exact ⟨by omega, hf⟩
          · exact ⟨by omega, c⟩
        · rintro ⟨a, c⟩
          by_cases hb : b = n
          · exact .inl hb
          · exact .inr ⟨by omega, c⟩
      cases l with
      | nil =>
        refine ⟨fun b => ?_, by simp, by simp⟩
        rw [← key, inside_cons]; simp only []
        constructor
        · rintro (⟨a, c⟩ | h)
          · left; omega
          · exact .inr h
        · rintro (rfl | h)
          · left; omega
          · exact .inr h
      | cons x r =>
        simp only []
        have hx := h2 x (by simp)
        split
        · next he =>
          refine ⟨fun b => ?_, ?_, ?_⟩
          · rw [← key, inside_cons, inside_cons]; simp only []
            constructor
            · rintro (⟨a, c⟩ | h)
              · by_cases hb : b = n
                · exact .inl hb
                · right; left; omega
              · exact .inr (.inr h)
            · rintro (rfl | ⟨a, c⟩ | h)
              · left; omega
              · left; omega
              · exact .inr h
          · intro y hy
            rcases List.mem_cons.mp hy with rfl | hy
            · show x.1 ≤ n; omega
            · exact h2 y (by simp [hy])
          · intro y hy
            rcases List.mem_cons.mp hy with rfl | hy
            · show n < n + 1; omega
            · exact Nat.lt_succ_of_lt (h3 y (by simp [hy]))
        · refine ⟨fun b => ?_, ?_, ?_⟩
          · rw [← key, inside_cons]; simp only []
            constructor
            · rintro (⟨a, c⟩ | h)
              · left; omega
              · exact .inr h
            · rintro (rfl | h)
              · left; omega
              · exact .inr h
          · intro y hy
            rcases List.mem_cons.mp hy with rfl | hy
            · exact Nat.le_refl _
            · exact h2 y hy
          · intro y hy
            rcases List.mem_cons.mp hy with rfl | hy
            · show n < n + 1; omega
            · exact Nat.lt_succ_of_lt (h3 y hy)

theorem rangesOf_eq (f : Nat → Bool) : rangesOf f = ((List.range 256).foldl (rangeStep f) []).reverse := rfl
theorem inside_reverse (l : List (Nat × Nat)) (b : Nat) : inside l.reverse b = inside l b := by simp [inside]
theorem rangesOf_inside (f : Nat → Bool) (b : Nat) : inside (rangesOf f) b = true ↔ b < 256 ∧ f b = true := by
  rw [rangesOf_eq, inside_reverse]; exact (rangeStep_fold f 256).1 b
theorem rangesOf_good (f : Nat → Bool) : good (.set (rangesOf f)) := by
  intro x hx
  rw [rangesOf_eq, List.mem_reverse] at hx
  exact (rangeStep_fold f 256).2.1 x hx

theorem any_big {l : List Nat} : ¬ (l.any fun b => decide (255 < b)) = true ↔ ∀ b ∈ l, b < 256 := by
  simp only [List.any_eq_true, decide_eq_true_eq, not_exists, not_and]
  constructor
  · intro h b hb; have := h b hb; omega
  · intro h b hb; have := h b hb; omega

section
variable (f : Nat) (l : List Nat)
theorem p0 : patOf (f + 1) (0 :: l) = some (.eps, l) := rfl
theorem p1n : patOf (f + 1) [1] = none := rfl
theorem p1 (k : Nat) : patOf (f + 1) (1 :: k :: l) = if k = 0 ∨ l.length < k ∨ ((l.take k).any fun b => decide (255 < b)) = true then none else some (.set (rangesOf fun b => (l.take k).contains b), l.drop k) := rfl
theorem p2n : patOf (f + 1) [2] = none := rfl
theorem p2 (k : Nat) : patOf (f + 1) (2 :: k :: l) = if l.length < k ∨ ((l.take k).any fun b => decide (255 < b)) = true then none else some (.set (rangesOf fun b => !(l.take k).contains b), l.drop k) := rfl
theorem p3 : patOf (f + 1) (3 :: l) = (patOf f l).bind fun x => (patOf f x.2).map fun y => (.seq x.1 y.1, y.2) := rfl
theorem p4 : patOf (f + 1) (4 :: l) = (patOf f l).bind fun x => (patOf f x.2).map fun y => (.alt x.1 y.1, y.2) := rfl
theorem p5 : patOf (f + 1) (5 :: l) = (patOf f l).map fun x => (.star x.1, x.2) := rfl
theorem p6 : patOf (f + 1) (6 :: l) = (patOf f l).map fun x => (.seq x.1 (.star x.1), x.2) := rfl
theorem p7 : patOf (f + 1) (7 :: l) = (patOf f l).map fun x => (.alt x.1 .eps, x.2) := rfl
theorem p8n : patOf (f + 1) [8] = none := rfl
theorem p8o (a : Nat) : patOf (f + 1) [8, a] = none := rfl
theorem p8 (a b : Nat) : patOf (f + 1) (8 :: a :: b :: l) = if b < a ∨ 255 < b then none else some (.set [(a, b)], l) := rfl
theorem p9 (n : Nat) : patOf (f + 1) ((n + 9) :: l) = none := by cases l with
  | nil => rfl
  | cons a l => cases l <;> rfl
end

/-- what's read at a level -/
structure Reads (lv : Nat) (l : List Nat) (o : Option (Pat × List Nat)) : Prop where
  none : o = none → ∀ rest parts, readLoop (lv :: rest) l parts = none
  some : ∀ p r, o = some (p, r) → ∃ t, Is t p ∧ ∀ rest parts, readLoop (lv :: rest) l parts = readLoop rest r (parts ++ t.pre)

theorem leaf {lv : Nat} {l r ms : List Nat} {p : Pat} {t : T} {n : Nat} (hl : lv ≤ 40) (hi : Is t p) (ht : t.pre = [(n, ms)]) {k : Nat} (hp : readPart l = some (n, ms, k)) (hn : innerOf n = 0) (hr : r = l.drop k) : Reads lv l (some (p, r)) where
  none := fun h => by cases h
  some := by
    intro p' r' h; cases h
    refine ⟨t, hi, fun rest parts => ?_⟩
    rw [readLoop_some hp hl, ht, hn, hr]; rfl
theorem refused {lv : Nat} {l : List Nat} (hp : readPart l = none) : Reads lv l none where
  none := fun _ rest parts => readLoop_none hp
  some := by intro p' r' h; cases h

theorem reads : ∀ (f lv : Nat) (l : List Nat), f + lv = 41 → Reads lv l (patOf f l)
  | 0, lv, l, h => by
    rw [patOf]
    exact ⟨fun _ rest parts => readLoop_deep (by omega), by intro p r h; cases h⟩
  | f + 1, lv, [], h => by rw [patOf]; exact refused rfl
  | f + 1, lv, n :: l, h => by
    have hl : lv ≤ 40 := by omega
    have ih := fun l => reads f (lv + 1) l (by omega)
    have one : ∀ (l : List Nat) (n : Nat) (g : T → T) (q : Pat → Pat), (∀ t, (g t).pre = (n, []) :: t.pre) → (∀ t p, Is t p → Is (g t) (q p)) → readPart (n :: l) = some (n, [], 1) → innerOf n = 1 →
        Reads lv (n :: l) ((patOf f l).map fun x => (q x.1, x.2)) := by
      intro l n g q hg hq hp hn
      have i := ih l
      cases ho : patOf f l with
      | none =>
        refine ⟨fun _ rest parts => ?_, by intro p r h; cases h⟩
        rw [readLoop_some hp hl, hn]
        exact i.none ho _ _
      | some x =>
        refine ⟨fun h => (by cases h), ?_⟩
        intro p r h; cases h
        obtain ⟨t, ht, hr⟩ := i.some x.1 x.2 ho
        refine ⟨g t, hq t _ ht, fun rest parts => ?_⟩
        rw [readLoop_some hp hl, hn]
        have := hr rest (parts ++ [(n, [])])
        rw [hg]; simpa using this
    have two : ∀ (l : List Nat) (n : Nat) (g : T → T → T) (q : Pat → Pat → Pat), (∀ a b, (g a b).pre = (n, []) :: (a.pre ++ b.pre)) → (∀ a b p r, Is a p → Is b r → Is (g a b) (q p r)) → readPart (n :: l) = some (n, [], 1) → innerOf n = 2 →
        Reads lv (n :: l) ((patOf f l).bind fun x => (patOf f x.2).map fun y => (q x.1 y.1, y.2)) := by
      intro l n g q hg hq hp hn
      have i := ih l
      cases ho : patOf f l with
      | none =>
        refine ⟨fun _ rest parts => ?_, by intro p r h; cases h⟩
        rw [readLoop_some hp hl, hn]
        exact i.none ho _ _
      | some x =>
        obtain ⟨t, ht, hr⟩ := i.some x.1 x.2 ho
        have j := ih x.2
        simp only [Option.bind_some]
        cases ho2 : patOf f x.2 with
        | none =>
          refine ⟨fun _ rest parts => ?_, by intro p r h; cases h⟩
          rw [readLoop_some hp hl, hn]
          exact (hr ((lv + 1) :: rest) _).trans (j.none ho2 _ _)
        | some y =>
          refine ⟨fun h => (by cases h), ?_⟩
          intro p r h; cases h
          obtain ⟨t2, ht2, hr2⟩ := j.some y.1 y.2 ho2
          refine ⟨g t t2, hq _ _ _ _ ht ht2, fun rest parts => ?_⟩
          rw [readLoop_some hp hl, hn]
          have := (hr ((lv + 1) :: rest) (parts ++ [(n, [])])).trans (hr2 rest _)
          rw [hg]; simpa using this
    match n, l with
    | 0, l => rw [p0]; exact leaf hl .eps rfl (k := 1) rfl rfl rfl
    | 1, [] => rw [p1n]; exact refused rfl
    | 1, k :: l =>
      rw [p1]
      by_cases hk : k = 0 ∨ l.length < k ∨ ((l.take k).any fun b => decide (255 < b)) = true
      · rw [if_pos hk]
        apply refused
        rw [rp, if_neg (by omega), if_pos (.inl rfl), rm]
        by_cases h2 : l.length < k ∨ ((l.take k).any fun b => decide (255 < b)) = true
        · rw [if_pos h2]
        · rw [if_neg h2, if_pos rfl, if_pos (hk.resolve_right h2)]
      · rw [if_neg hk]
        have h1 := (not_or.mp hk).1
        have h2 := (not_or.mp hk).2
        refine leaf hl (t := .byt (l.take k)) (.byt (fun b => ?_) (rangesOf_good _) (any_big.mp (not_or.mp h2).2)) rfl (k := 2 + k) ?_ rfl ?_
        · rw [rangesOf_inside]
          have := any_big.mp (not_or.mp h2).2
          constructor
          · rintro ⟨_, h⟩; exact List.contains_iff_mem.mp h
          · intro h; exact ⟨this b h, List.contains_iff_mem.mpr h⟩
        · rw [rp, if_neg (by omega), if_pos (.inl rfl), rm]
          rw [if_neg h2, if_pos rfl, if_neg h1]
        · rw [Nat.add_comm]; rfl
    | 2, [] => rw [p2n]; exact refused rfl
    | 2, k :: l =>
      rw [p2]
      by_cases hk : l.length < k ∨ ((l.take k).any fun b => decide (255 < b)) = true
      · rw [if_pos hk]
        apply refused
        rw [rp, if_neg (by omega), if_pos (.inr rfl), rm]
        rw [if_pos hk]
      · rw [if_neg hk]
        refine leaf hl (t := .byt (others (l.take k))) (.byt (fun b => ?_) (rangesOf_good _) ?_) rfl (k := 2 + k) ?_ rfl ?_
        · rw [rangesOf_inside]; simp [others]
        · intro b hb; unfold others at hb; exact List.mem_range.mp (List.mem_filter.mp hb).1
        · rw [rp, if_neg (by omega), if_pos (.inr rfl), rm]
          rw [if_neg hk, if_neg (by omega)]
        · rw [Nat.add_comm]; rfl
    | 3, l => rw [p3]; exact two l 3 .seq .seq (fun _ _ => rfl) (fun _ _ _ _ => .seq) rfl rfl
    | 4, l => rw [p4]; exact two l 4 .alt .alt (fun _ _ => rfl) (fun _ _ _ _ => .alt) rfl rfl
    | 5, l => rw [p5]; exact one l 5 .star .star (fun _ => rfl) (fun _ _ => .star) rfl rfl
    | 6, l => rw [p6]; exact one l 6 .plus (fun p => .seq p (.star p)) (fun _ => rfl) (fun _ _ => .plus) rfl rfl
    | 7, l => rw [p7]; exact one l 7 .opt (fun p => .alt p .eps) (fun _ => rfl) (fun _ _ => .opt) rfl rfl
    | 8, [] => rw [p8n]; exact refused rfl
    | 8, [a] => rw [p8o]; exact refused rfl
    | 8, a :: b :: l =>
      rw [p8]
      by_cases hk : b < a ∨ 255 < b
      · rw [if_pos hk]
        apply refused
        rw [rp, rs, if_neg (by omega), if_neg (by omega), if_pos rfl, if_pos hk]
      · rw [if_neg hk]
        refine leaf hl (t := .byt (List.range' a (b + 1 - a))) (.byt (fun c => ?_) (fun x hx => ?_) (fun c hc => ?_)) rfl (k := 3) ?_ rfl rfl
        · rw [inside_cons, List.mem_range'_1]
          rw [show (inside [] c = true) ↔ False from iff_false_intro (inside_nil c), or_false]
          constructor <;> intro h <;> omega
        · simp at hx; subst hx; show a ≤ b; omega
        · rw [List.mem_range'_1] at hc; omega
        · rw [rp, rs, if_neg (by omega), if_neg (by omega), if_pos rfl, if_neg hk]
    | n + 9, l =>
      rw [p9]
      apply refused
      rw [rp, if_pos (by omega)]

/-- a whole pattern -/
def readPattern (l : List Nat) : Option (List (Nat × List Nat)) := match readLoop [0] l [] with
  | some (parts, []) => some parts
  | _ => none

theorem readPattern_none {l : List Nat} (h : wholePat l = none) : readPattern l = none := by
  have r := reads 41 0 l rfl
  unfold wholePat at h
  unfold readPattern
  cases ho : patOf (DEEP + 1) l with
  | none => rw [r.none ho]
  | some x =>
    obtain ⟨t, _, ht⟩ := r.some x.1 x.2 ho
    rw [ht, readLoop_nil]
    rw [ho] at h
    obtain ⟨p, q⟩ := x
    cases q with
    | nil => cases h
    | cons a q => rfl

theorem readPattern_some {l : List Nat} {p : Pat} (h : wholePat l = some p) : ∃ t, Is t p ∧ readPattern l = some t.pre := by
  have r := reads 41 0 l rfl
  unfold wholePat at h
  unfold readPattern
  cases ho : patOf (DEEP + 1) l with
  | none => rw [ho] at h; cases h
  | some x =>
    obtain ⟨t, hi, ht⟩ := r.some x.1 x.2 ho
    rw [ho] at h
    obtain ⟨p', q⟩ := x
    cases q with
    | nil => cases h; exact ⟨t, hi, by rw [ht, readLoop_nil]; rfl⟩
    | cons a q => cases h

/-! The parts done from the last to the first. -/
def partStep (x : B × List Shape) (part : Nat × List Nat) : B × List Shape :=
  if part.1 = 0 then (x.1, (true, 0, 0) :: x.2)
  else if part.1 = 1 then ((single x.1 part.2).1, (single x.1 part.2).2 :: x.2)
  else match x.2 with
    | [] => x
    | inner :: rest =>
      if part.1 = 3 then match rest with
        | [] => x
        | right :: rest => ((sequence x.1 inner right).1, (sequence x.1 inner right).2 :: rest)
      else if part.1 = 4 then match rest with
        | [] => x
        | right :: rest => (x.1, eitherS inner right :: rest)
      else ((if part.1 = 5 ∨ part.1 = 6 then link x.1 inner.2.2 inner.2.1 else x.1), (inner.1 || (decide (part.1 = 5) || decide (part.1 = 7)), inner.2) :: rest)

theorem pre_fold : ∀ (t : T) (st : B) (stack : List Shape), t.pre.reverse.foldl partStep (st, stack) = ((bld t st).1, (bld t st).2 :: stack)
  | .eps, st, stack => rfl
  | .byt ms, st, stack => rfl
  | .seq a b, st, stack => by
    rw [T.pre, List.reverse_cons, List.reverse_append, List.foldl_append, List.foldl_append, pre_fold b, pre_fold a]; rfl
  | .alt a b, st, stack => by
    rw [T.pre, List.reverse_cons, List.reverse_append, List.foldl_append, List.foldl_append, pre_fold b, pre_fold a]; rfl
  | .star a, st, stack => by
    rw [T.pre, List.reverse_cons, List.foldl_append, pre_fold a]
    simp [partStep, bld]
  | .plus a, st, stack => by
    rw [T.pre, List.reverse_cons, List.foldl_append, pre_fold a]
    simp [partStep, bld]
  | .opt a, st, stack => by
    rw [T.pre, List.reverse_cons, List.foldl_append, pre_fold a]
    simp [partStep, bld]

end Mx

-- MxCut
/- The best rule at a place, the pieces. -/
namespace Mx
open Sq17

/-- a rule's steps say what its pattern says -/
def okR (x : Rule × Mat) : Prop := St x.2 [x.1.pat] x.2.first

def rowsFrom (m : Nat) : Nat → List (Rule × Mat) → List Row
  | _, [] => []
  | k, x :: rs => if x.1.mode = m ∧ x.1.pat.long = true then ⟨k, [x.1.pat], x.2, x.2.first⟩ :: rowsFrom m (k + 1) rs else rowsFrom m (k + 1) rs

theorem inMode_rows (m : Nat) (rs : List (Rule × Mat)) : inMode (rs.map (·.1)) m = (rowsFrom m 0 rs).map Row.spec := by
  have : ∀ (rs : List (Rule × Mat)) (k : Nat), (((List.range' k rs.length).zip (rs.map (·.1))).filterMap fun x => if x.2.mode = m ∧ x.2.pat.long = true then some (x.1, [x.2.pat]) else none) = (rowsFrom m k rs).map Row.spec := by
    intro rs; induction rs with
    | nil => intro k; rfl
    | cons x rs ih =>
      intro k
      rw [List.length_cons, List.range'_succ, List.map_cons, List.zip_cons_cons, List.filterMap_cons, rowsFrom]
      by_cases h : x.1.mode = m ∧ x.1.pat.long = true
      · rw [if_pos h, if_pos h]; simp only [ih]; rfl
      · rw [if_neg h, if_neg h]; simp only [ih]
  unfold inMode
  rw [List.range_eq_range', List.length_map]
  exact this rs 0

theorem long_first {x : Rule × Mat} (h : okR x) : x.1.pat.long = true ↔ x.2.first ≠ 0 := by
  have := h.alive
  rw [List.filter_cons] at this
  by_cases hl : x.1.pat.long = true
  · rw [if_pos hl] at this
    simp only [hl, true_iff]
    intro e; have := this.mpr e; simp at this
  · rw [if_neg hl] at this
    exact ⟨fun h => absurd h hl, fun e => absurd (this.mp rfl) e⟩

theorem rows_ok {m : Nat} : ∀ {rs : List (Rule × Mat)} {k : Nat}, (∀ x ∈ rs, okR x) → ∀ r ∈ rowsFrom m k rs, r.ok ∧ r.c ≠ 0
  | [], _, _, r, hr => by simp [rowsFrom] at hr
  | x :: rs, k, h, r, hr => by
    have ih := @rows_ok m rs (k + 1) (fun y hy => h y (by simp [hy])) r
    rw [rowsFrom] at hr
    split at hr
    · next hc =>
      rcases List.mem_cons.mp hr with rfl | hr
      · exact ⟨h x (by simp), (long_first (h x (by simp))).mp hc.2⟩
      · exact ih hr
    · exact ih hr

theorem rows_ix {m : Nat} : ∀ {rs : List (Rule × Mat)} {k : Nat}, ∀ r ∈ rowsFrom m k rs, k ≤ r.i ∧ r.i < k + rs.length
  | [], _, r, hr => by simp [rowsFrom] at hr
  | x :: rs, k, r, hr => by
    have ih := @rows_ix m rs (k + 1) r
    simp only [List.length_cons]
    rw [rowsFrom] at hr
    split at hr
    · rcases List.mem_cons.mp hr with rfl | hr
      · exact ⟨Nat.le_refl _, by show k < _; omega⟩
      · have := ih hr; omega
    · have := ih hr; omega

/-- the best so far and how many were looked at, with one more rule -/
def bmStep (m : Nat) (l : List Nat) (st : Option (Nat × Nat) × Nat) (k : Nat) (x : Rule × Mat) : Option (Nat × Nat) × Nat :=
  if x.1.mode = m then (pickStep st.1 (k, (x.2.scan l x.2.first 0 0).1), max st.2 (x.2.scan l x.2.first 0 0).2) else st
def bmFrom (m : Nat) (l : List Nat) : Nat → List (Rule × Mat) → Option (Nat × Nat) × Nat → Option (Nat × Nat) × Nat
  | _, [], st => st
  | k, x :: rs, st => bmFrom m l (k + 1) rs (bmStep m l st k x)
def bm (m : Nat) (l : List Nat) (rs : List (Rule × Mat)) : Option (Nat × Nat) × Nat := bmFrom m l 0 rs (none, 1)

theorem bm_rows (m : Nat) (l : List Nat) : ∀ (rs : List (Rule × Mat)) (k : Nat) (st : Option (Nat × Nat) × Nat), (∀ x ∈ rs, okR x) →
    bmFrom m l k rs st = (((rowsFrom m k rs).map fun r => (r.i, (r.scan l 0).1)).foldl pickStep st.1, seens l 0 (rowsFrom m k rs) st.2)
  | [], k, st, _ => rfl
  | x :: rs, k, st, h => by
    have ih := bm_rows m l rs (k + 1)
    have h' : ∀ y ∈ rs, okR y := fun y hy => h y (by simp [hy])
    rw [bmFrom, ih _ h', rowsFrom]
    by_cases hm : x.1.mode = m
    · unfold bmStep
      rw [if_pos hm]
      by_cases hl : x.1.pat.long = true
      · rw [if_pos ⟨hm, hl⟩]; rfl
      · rw [if_neg (fun h => hl h.2)]
        have : x.2.first = 0 := by
          by_cases e : x.2.first = 0
          · exact e
          · exact absurd ((long_first (h x (by simp))).mpr e) hl
        rw [this, scan_zero]
        simp only [Nat.max_zero]
        have : pickStep st.1 (k, 0) = st.1 := by simp [pickStep]
        rw [this]
    · unfold bmStep
      rw [if_neg hm, if_neg (fun h => hm h.1)]

theorem bm_look (m : Nat) (l : List Nat) (rs : List (Rule × Mat)) (h : ∀ x ∈ rs, okR x) :
    bm m l rs = ((look l 0 (inMode (rs.map (·.1)) m) none).2, max 1 (look l 0 (inMode (rs.map (·.1)) m) none).1) := by
  rw [inMode_rows, look_eq _ _ _ _ (rows_ok h)]
  unfold bm
  rw [bm_rows m l rs 0 _ h]
  simp only [Option.or_none]
  rw [← seens_mono, Nat.max_zero]; rfl

theorem scan_max (M : Mat) : ∀ (l : List Nat) (c k lg : Nat), lg ≤ k + l.length → (M.scan l c k lg).1 ≤ k + l.length
  | [], c, k, lg, h => by simpa [Mat.scan] using h
  | b :: l, c, k, lg, h => by
    simp only [Mat.scan, List.length_cons] at h ⊢
    split
    · exact h
    · have := scan_max M l (M.go b c) (k + 1) (if M.hit b c = true then k + 1 else lg) (by split <;> omega)
      omega

theorem pick_mem : ∀ (l : List (Nat × Nat)) (b : Option (Nat × Nat)) (y : Nat × Nat), l.foldl pickStep b = some y → b = some y ∨ (y ∈ l ∧ 0 < y.2)
  | [], b, y, h => .inl h
  | x :: l, b, y, h => by
    rw [List.foldl_cons] at h
    rcases pick_mem l _ y h with h | h
    · unfold pickStep at h
      split at h
      · next hl => cases h; exact .inr ⟨by simp, by omega⟩
      · exact .inl h
    · exact .inr ⟨by simp [h.1], h.2⟩

/-- the row that's found: of a rule that is there, of one byte or more, not beyond the end -/
theorem look_some {m : Nat} {l : List Nat} {rs : List (Rule × Mat)} (h : ∀ x ∈ rs, okR x) {y : Nat × Nat} (hy : (look l 0 (inMode (rs.map (·.1)) m) none).2 = some y) :
    y.1 < rs.length ∧ 0 < y.2 ∧ y.2 ≤ l.length := by
  rw [inMode_rows, look_eq _ _ _ _ (rows_ok h)] at hy
  simp only [Option.or_none] at hy
  rcases pick_mem _ _ _ hy with hy | ⟨hy, h0⟩
  · cases hy
  · obtain ⟨r, hr, rfl⟩ := List.mem_map.mp hy
    have := rows_ix r hr
    refine ⟨by simpa using this.2, h0, ?_⟩
    have := scan_max r.M l r.c 0 0 (by omega)
    simpa [Row.scan] using this

/-! Pieces one behind another. -/
theorem pieceAt_i (rules : List Rule) (i far : Nat) (l ms : List Nat) : (pieceAt rules i far l ms).1.i = i := by
  unfold pieceAt; simp only []
  split
  · rfl
  · split
    · rfl
    · split <;> rfl
theorem pieceAt_mode (rules : List Rule) (i far : Nat) (l ms : List Nat) : (pieceAt rules i far l ms).1.mode = ms.headD 0 := by
  unfold pieceAt; simp only []
  split
  · rfl
  · split
    · rfl
    · split <;> rfl

theorem pieceAt_n {rs : List (Rule × Mat)} (h : ∀ x ∈ rs, okR x) (i far : Nat) {l : List Nat} (hl : l ≠ []) (ms : List Nat) :
    0 < (pieceAt (rs.map (·.1)) i far l ms).1.n ∧ (pieceAt (rs.map (·.1)) i far l ms).1.n ≤ l.length := by
  have := List.length_pos_iff.mpr hl
  unfold pieceAt; simp only []
  split
  · exact ⟨Nat.one_pos, this⟩
  · next y hy =>
    have := look_some h hy
    split
    · exact ⟨Nat.one_pos, by show 1 ≤ _; omega⟩
    · split
      · exact this.2
      · exact this.2

theorem cut_nil (rules : List Rule) (f i far : Nat) (ms : List Nat) : cut rules f i far [] ms = [] := by cases f <;> rfl
theorem cut_cons (rules : List Rule) (f i far : Nat) {l : List Nat} (hl : l ≠ []) (ms : List Nat) :
    cut rules (f + 1) i far l ms = ((pieceAt rules i far l ms).1, ms) :: cut rules f (i + (pieceAt rules i far l ms).1.n) (pieceAt rules i far l ms).1.reach (l.drop (pieceAt rules i far l ms).1.n) (pieceAt rules i far l ms).2 := by
  have : l.isEmpty = false := by simpa using hl
  rw [cut]; simp only [this, Bool.false_eq_true, if_false]

/-- pieces from a place on, one behind another, up to an end -/
def Chain : Nat → Nat → List (Piece × List Nat) → Prop
  | i, e, [] => i = e
  | i, e, x :: l => x.1.i = i ∧ 0 < x.1.n ∧ x.1.mode = x.2.headD 0 ∧ Chain (i + x.1.n) e l

theorem cut_chain {rs : List (Rule × Mat)} (h : ∀ x ∈ rs, okR x) : ∀ (f i far : Nat) (l ms : List Nat), l.length ≤ f → Chain i (i + l.length) (cut (rs.map (·.1)) f i far l ms)
  | 0, i, far, l, ms, hf => by
    have : l = [] := List.length_eq_zero_iff.mp (by omega)
    subst this; rfl
  | f + 1, i, far, l, ms, hf => by
    by_cases hl : l = []
    · subst hl; rfl
    · rw [cut_cons _ _ _ _ hl]
      have hn := pieceAt_n h i far hl ms
      refine ⟨pieceAt_i _ _ _ _ _, hn.1, pieceAt_mode _ _ _ _ _, ?_⟩
      have := cut_chain h f (i + (pieceAt (rs.map (·.1)) i far l ms).1.n) (pieceAt (rs.map (·.1)) i far l ms).1.reach (l.drop (pieceAt (rs.map (·.1)) i far l ms).1.n) (pieceAt (rs.map (·.1)) i far l ms).2 (by simp only [List.length_drop]; omega)
      simp only [List.length_drop] at this
      have e : i + (pieceAt (rs.map (·.1)) i far l ms).1.n + (l.length - (pieceAt (rs.map (·.1)) i far l ms).1.n) = i + l.length := by omega
      rw [e] at this; exact this

theorem pieces_chain {rs : List (Rule × Mat)} (h : ∀ x ∈ rs, okR x) (l : List Nat) : Chain 0 l.length (pieces (rs.map (·.1)) l) := by
  have := cut_chain h l.length 0 0 l [0] (Nat.le_refl _)
  rw [Nat.zero_add] at this; exact this

/-! Two texts' pieces alike, at the beginning and at the end, without a look at the places. -/
def alike (x y : Piece × List Nat) : Bool := decide (x.1.kind = y.1.kind) && decide (x.1.n = y.1.n) && decide (x.2 = y.2)
theorem alike_iff (x y : Piece × List Nat) : alike x y = true ↔ x.1.kind = y.1.kind ∧ x.1.n = y.1.n ∧ x.2 = y.2 := by
  simp [alike, and_assoc]
def same : List (Piece × List Nat) → List (Piece × List Nat) → Nat
  | x :: l, y :: m => if alike x y = true then 1 + same l m else 0
  | _, _ => 0

theorem same_ahead : ∀ (x y : List (Piece × List Nat)) (i e e' : Nat), Chain i e x → Chain i e' y → sameAhead x y = same x y
  | [], y, i, e, e', _, _ => by rw [sameAhead, same] <;> simp
  | x :: l, [], i, e, e', _, _ => by rw [sameAhead, same] <;> simp
  | x :: l, y :: m, i, e, e', h1, h2 => by
    rw [sameAhead, same]
    have hi : x.1.i = y.1.i := h1.1.trans h2.1.symm
    by_cases h : alike x y = true
    · have h' := (alike_iff x y).mp h
      have c2 := h2.2.2.2
      rw [← h'.2.1] at c2
      rw [if_pos h, if_pos ⟨h'.1, hi, h'.2.1, h'.2.2⟩, same_ahead l m _ _ _ h1.2.2.2 c2]
    · rw [if_neg h, if_neg (fun k => h ((alike_iff x y).mpr ⟨k.1, k.2.2.1, k.2.2.2⟩))]

/-- from the end: pieces that end at a place, each ahead of the last -/
def Back : Nat → List (Piece × List Nat) → Prop
  | _, [] => True
  | e, x :: l => x.1.i + x.1.n = e ∧ Back x.1.i l

theorem back_append : ∀ (l : List (Piece × List Nat)) (x : Piece × List Nat) (e : Nat), Back e l → (∀ y ∈ l.getLast?, y.1.i = x.1.i + x.1.n) → (l = [] → e = x.1.i + x.1.n) → Back e (l ++ [x])
  | [], x, e, _, _, h => ⟨(h rfl).symm, trivial⟩
  | y :: l, x, e, h1, h2, _ => by
    refine ⟨h1.1, back_append l x y.1.i h1.2 (fun z hz => h2 z ?_) (fun hl => ?_)⟩
    · cases l with
      | nil => simp at hz
      | cons a l => simpa using hz
    · subst hl; exact h2 y (by simp)

theorem chain_back : ∀ (l : List (Piece × List Nat)) (i e : Nat), Chain i e l → Back e l.reverse ∧ (∀ y ∈ l.reverse.getLast?, y.1.i = i)
  | [], i, e, h => ⟨trivial, by simp⟩
  | x :: l, i, e, h => by
    have ih := chain_back l (i + x.1.n) e h.2.2.2
    rw [List.reverse_cons]
    refine ⟨back_append _ x e ih.1 (fun y hy => ?_) (fun hl => ?_), by simp [h.1]⟩
    · rw [ih.2 y hy, h.1]
    · have : l = [] := by simpa using hl
      subst this
      have := h.2.2.2
      rw [h.1]; exact this.symm

theorem same_behind : ∀ (x y : List (Piece × List Nat)) (a b ea eb : Nat), Back ea x → Back eb y → ea + b = eb + a → sameBehind a b x y = same x y
  | [], y, _, _, _, _, _, _, _ => by rw [sameBehind, same] <;> simp
  | x :: l, [], _, _, _, _, _, _, _ => by rw [sameBehind, same] <;> simp
  | x :: l, y :: m, a, b, ea, eb, h1, h2, h => by
    rw [sameBehind, same]
    have e1 := h1.1
    have e2 := h2.1
    by_cases hh : alike x y = true
    · have h' := (alike_iff x y).mp hh
      have hi : x.1.i + b = y.1.i + a := by have := h'.2.1; omega
      rw [if_pos hh, if_pos ⟨h'.1, hi, h'.2.1, h'.2.2⟩, same_behind l m a b _ _ h1.2 h2.2 hi]
    · rw [if_neg hh, if_neg (fun k => hh ((alike_iff x y).mpr ⟨k.1, k.2.2.1, k.2.2.2⟩))]

theorem chain_ge : ∀ (l : List (Piece × List Nat)) (i e : Nat), Chain i e l → i ≤ e ∧ ∀ x ∈ l, i ≤ x.1.i ∧ x.1.i + x.1.n ≤ e
  | [], i, e, h => ⟨Nat.le_of_eq h, by simp⟩
  | x :: l, i, e, h => by
    have ih := chain_ge l _ e h.2.2.2
    refine ⟨by omega, fun y hy => ?_⟩
    rcases List.mem_cons.mp hy with rfl | hy
    · rw [h.1]; exact ⟨Nat.le_refl _, ih.1⟩
    · have := ih.2 y hy; omega

/-! A single rule's longest match. -/
theorem longest_eq {x : Rule × Mat} (h : okR x) (l : List Nat) : (look l 0 (longer [(0, [x.1.pat])]) none).2 = if (x.2.scan l x.2.first 0 0).1 = 0 then none else some (0, (x.2.scan l x.2.first 0 0).1) := by
  by_cases hl : x.1.pat.long = true
  · have e : longer [(0, [x.1.pat])] = [Row.mk 0 [x.1.pat] x.2 x.2.first].map Row.spec := by
      simp [longer, hl, Row.spec]
    rw [e, look_eq _ _ _ _ (by
      intro r hr; simp at hr; subst hr
      exact ⟨h, (long_first h).mp hl⟩)]
    simp only [Option.or_none, List.map_cons, List.map_nil, pick, List.foldl_cons, List.foldl_nil, pickStep_none, Row.scan]
    split <;> split <;> first | rfl | omega
  · have e : longer [(0, [x.1.pat])] = ([] : List Row).map Row.spec := by
      simp [longer, hl]
    rw [e, look_eq _ _ _ _ (by intro r hr; simp at hr)]
    have : x.2.first = 0 := by
      by_cases e : x.2.first = 0
      · exact e
      · exact absurd ((long_first h).mpr e) hl
    rw [this, scan_zero]; rfl

end Mx

-- MxFit
/- A row told by which steps match each byte. -/
namespace Mx
open Sq17

/-- which steps match each byte -/
def Mat.fits (M : Mat) (l : List Nat) : List Nat := l.map fun b => M.byb.getD b 0
def Mat.scanF (M : Mat) : List Nat → Nat → Nat → Nat → Nat × Nat
  | [], c, k, lg => (lg, if c = 0 then k else k + 1)
  | f :: l, c, k, lg => if c = 0 then (lg, k) else M.scanF l (M.nx (c &&& f)) (k + 1) (if ((c &&& f) &&& M.last) != 0 then k + 1 else lg)

theorem scanF_fits (M : Mat) : ∀ (l : List Nat) (c k lg : Nat), M.scanF (M.fits l) c k lg = M.scan l c k lg
  | [], _, _, _ => rfl
  | b :: l, c, k, lg => by
    show (if c = 0 then (lg, k) else M.scanF (M.fits l) (M.go b c) (k + 1) (if M.hit b c = true then k + 1 else lg)) = _
    rw [scanF_fits M l]; rfl
theorem fits_drop (M : Mat) (l : List Nat) (i : Nat) : (M.fits l).drop i = M.fits (l.drop i) := (List.map_drop).symm

theorem nx_zero (M : Mat) : M.nx 0 = 0 := by simp [Mat.nx, orAt, stepsIn]
theorem scanF_zero (M : Mat) (l : List Nat) (k lg : Nat) : M.scanF l 0 k lg = (lg, k) := by
  cases l <;> simp [Mat.scanF]
theorem scanF_one (M : Mat) (f : Nat) (l : List Nat) (c k lg : Nat) : (M.scanF (f :: l) c k lg).1 = (M.scanF l (M.nx (c &&& f)) (k + 1) (if ((c &&& f) &&& M.last) != 0 then k + 1 else lg)).1 := by
  rw [Mat.scanF]
  split
  · next h => subst h; rw [Nat.zero_and, nx_zero, scanF_zero]; simp
  · rfl

/-- where one comes from: the steps that lead to a set's -/
def Mat.bk (M : Mat) (d : Nat) : Nat := orAt M.ahead (stepsIn d)
/-- which steps match each byte with a match that's finished within the row -/
def Mat.prom (M : Mat) : List Nat → List Nat
  | [] => []
  | b :: l => (M.byb.getD b 0 &&& (M.last ||| M.bk ((M.prom l).headD 0))) :: M.prom l

/-- ahead is behind turned round -/
def RevOk (M : Mat) : Prop := ∀ p q, (M.ahead.getD q 0).testBit p = true ↔ (M.behind.getD p 0).testBit q = true

theorem bk_bit {M : Mat} (h : RevOk M) (d p : Nat) : (M.bk d).testBit p = true ↔ ∃ q, d.testBit q = true ∧ (M.behind.getD p 0).testBit q = true := by
  unfold Mat.bk
  rw [orAt_bit]
  simp only [mem_stepsIn, h p]

theorem prom_scan {M : Mat} (h : RevOk M) : ∀ (l : List Nat) (c c' k lg : Nat), (∀ p, c'.testBit p = true → c.testBit p = true) → (∀ p, c.testBit p = true → ((M.prom l).headD 0).testBit p = true → c'.testBit p = true) →
    (M.scanF (M.prom l) c' k lg).1 = (M.scanF (M.fits l) c k lg).1
  | [], _, _, _, _, _, _ => rfl
  | b :: l, c, c', k, lg, h1, h2 => by
    show (M.scanF ((M.byb.getD b 0 &&& (M.last ||| M.bk ((M.prom l).headD 0))) :: M.prom l) c' k lg).1 = (M.scanF (M.byb.getD b 0 :: M.fits l) c k lg).1
    have h2 : ∀ p, c.testBit p = true → (M.byb.getD b 0 &&& (M.last ||| M.bk ((M.prom l).headD 0))).testBit p = true → c'.testBit p = true := h2
    rw [scanF_one, scanF_one]
    generalize hf : M.byb.getD b 0 = f at *
    have dd : ∀ p, (c' &&& (f &&& (M.last ||| M.bk ((M.prom l).headD 0)))).testBit p = true ↔ (c &&& f).testBit p = true ∧ (M.last ||| M.bk ((M.prom l).headD 0)).testBit p = true := by
      intro p
      have a := h1 p
      have b := h2 p
      simp only [Nat.testBit_and, Bool.and_eq_true] at *
      constructor
      · rintro ⟨x, y, z⟩; exact ⟨⟨a x, y⟩, z⟩
      · rintro ⟨⟨x, y⟩, z⟩; exact ⟨b x ⟨y, z⟩, y, z⟩
    have hit : ((c' &&& (f &&& (M.last ||| M.bk ((M.prom l).headD 0))) &&& M.last) != 0) = ((c &&& f &&& M.last) != 0) := by
      rw [Bool.eq_iff_iff, bne_iff_ne, bne_iff_ne, ne_zero_bit, ne_zero_bit]
      simp only [Nat.testBit_and (c' &&& (f &&& (M.last ||| M.bk ((M.prom l).headD 0)))) M.last, Nat.testBit_and (c &&& f) M.last, Bool.and_eq_true, dd]
      constructor
      · rintro ⟨p, ⟨x, _⟩, z⟩; exact ⟨p, x, z⟩
      · rintro ⟨p, x, z⟩; exact ⟨p, ⟨x, by rw [Nat.testBit_or, z, Bool.true_or]⟩, z⟩
    rw [hit]
    refine prom_scan h l _ _ _ _ (fun p hp => ?_) (fun p hp hq => ?_)
    · rw [nx_bit] at hp ⊢
      obtain ⟨t, x, y⟩ := hp
      exact ⟨t, ((dd t).mp x).1, y⟩
    · rw [nx_bit] at hp ⊢
      obtain ⟨t, x, y⟩ := hp
      refine ⟨t, (dd t).mpr ⟨x, ?_⟩, y⟩
      rw [Nat.testBit_or, (bk_bit h _ _).mpr ⟨p, hq, y⟩, Bool.or_true]

theorem prom_len (M : Mat) : ∀ l, (M.prom l).length = l.length
  | [] => rfl
  | _ :: l => by rw [Mat.prom, List.length_cons, prom_len M l, List.length_cons]
theorem fits_len (M : Mat) (l : List Nat) : (M.fits l).length = l.length := List.length_map _
theorem prom_drop (M : Mat) : ∀ (l : List Nat) (i : Nat), (M.prom l).drop i = M.prom (l.drop i)
  | [], i => by simp [Mat.prom]
  | b :: l, 0 => rfl
  | b :: l, i + 1 => by rw [List.drop_succ_cons, ← prom_drop M l i]; rfl
theorem prom_first {M : Mat} (h : RevOk M) (l : List Nat) : (M.scanF (M.prom l) M.first 0 0).1 = (M.scan l M.first 0 0).1 := by
  rw [prom_scan h l M.first M.first 0 0 (fun _ h => h) (fun _ h _ => h), scanF_fits]

/-- the sets of steps that there are -/
structure MOk (M : Mat) : Prop where
  len : M.behind.length ≤ 2000
  alen : M.ahead.length = M.behind.length
  byb : M.byb.length = 256
  bits : ∀ b, M.byb.getD b 0 < 2 ^ M.behind.length
  bits1 : M.first < 2 ^ M.behind.length
  bits2 : M.last < 2 ^ M.behind.length
  rev : RevOk M
theorem lt_of_bits {n k : Nat} (h : ∀ p, n.testBit p = true → p < k) : n < 2 ^ k := by
  by_cases h0 : n = 0
  · subst h0; exact Nat.two_pow_pos _
  · exact (Nat.log2_lt h0).mp (h _ (log2_bit h0))
theorem bld_len : ∀ (t : T) (st : B), (bld t st).1.beh.length ≤ st.beh.length + t.pre.length
  | .eps, st => by show st.beh.length ≤ _; omega
  | .byt ms, st => by
    show (single st ms).1.beh.length ≤ st.beh.length + 1
    unfold single
    split
    · show st.beh.length ≤ _; omega
    · simp
  | .seq a b, st => by
    have h1 := bld_len b st
    have h2 := bld_len a (bld b st).1
    show (sequence (bld a (bld b st).1).1 (bld a (bld b st).1).2 (bld b st).2).1.beh.length ≤ _
    rw [T.pre]; simp only [List.length_cons, List.length_append]
    unfold sequence
    split
    · show (bld a (bld b st).1).1.beh.length ≤ _; omega
    · show (link _ _ _).beh.length ≤ _; rw [link_len]; omega
  | .alt a b, st => by
    have h1 := bld_len b st
    have h2 := bld_len a (bld b st).1
    show (bld a (bld b st).1).1.beh.length ≤ _
    rw [T.pre]; simp only [List.length_cons, List.length_append]; omega
  | .star a, st => by
    have h1 := bld_len a st
    show (link _ _ _).beh.length ≤ _
    rw [link_len, T.pre, List.length_cons]; omega
  | .plus a, st => by
    have h1 := bld_len a st
    show (link _ _ _).beh.length ≤ _
    rw [link_len, T.pre, List.length_cons]; omega
  | .opt a, st => by
    have h1 := bld_len a st
    show (bld a st).1.beh.length ≤ _
    rw [T.pre, List.length_cons]; omega
theorem mok_of {t : T} {p : Pat} (h : Is t p) (hl : t.pre.length ≤ 2000) : MOk (matOf (bld t B.start)) := by
  have b := bld_ok h B.start start_wf
  have l := bld_len t B.start
  refine ⟨Nat.le_trans l (by show 0 + _ ≤ _; omega), b.ext.wf.alen, b.ext.wf.len, fun x => lt_of_bits fun q hq => b.ext.wf.lab q x hq, lt_of_bits fun q hq => (b.aut.fIn q hq).2, lt_of_bits fun q hq => (b.aut.lIn q hq).2, fun p q => b.ext.wf.rev p q⟩
end Mx

-- MxWords
/- The piece at a place by what was scanned; words from a place on. -/
namespace Mx
open Sq17

def bmGStep (m : Nat) (st : Option (Nat × Nat) × Nat) (k : Nat) (x : Rule × (Nat × Nat)) : Option (Nat × Nat) × Nat :=
  if x.1.mode = m then (pickStep st.1 (k, x.2.1), max st.2 x.2.2) else st
def bmG (m : Nat) : Nat → List (Rule × (Nat × Nat)) → Option (Nat × Nat) × Nat → Option (Nat × Nat) × Nat
  | _, [], st => st
  | k, x :: rs, st => bmG m (k + 1) rs (bmGStep m st k x)
/-- each rule's scan of a row told by what fits -/
def scans (at_ : Nat) (xs : List (Rule × Mat)) (fs : List (List Nat)) : List (Rule × (Nat × Nat)) := List.zipWith (fun x f => (x.1, x.2.scanF (f.drop at_) x.2.first 0 0)) xs fs
def bmZ (m at_ : Nat) (xs : List (Rule × Mat)) (fs : List (List Nat)) : Option (Nat × Nat) × Nat := bmG m 0 (scans at_ xs fs) (none, 1)

theorem bmG_append (m : Nat) : ∀ (a b : List (Rule × (Nat × Nat))) (k : Nat) (st : Option (Nat × Nat) × Nat), bmG m k (a ++ b) st = bmG m (k + a.length) b (bmG m k a st)
  | [], b, k, st => rfl
  | x :: a, b, k, st => by
    rw [List.cons_append, bmG, bmG, bmG_append m a b (k + 1), List.length_cons]
    congr 1; omega
theorem bmG_from (m : Nat) (l : List Nat) : ∀ (xs : List (Rule × Mat)) (k : Nat) (st : Option (Nat × Nat) × Nat), bmG m k (xs.map fun x => (x.1, x.2.scan l x.2.first 0 0)) st = bmFrom m l k xs st
  | [], _, _ => rfl
  | x :: xs, k, st => by rw [List.map_cons, bmG, bmG_from m l xs, bmFrom]; rfl
theorem bmZ_fits (m at_ : Nat) (xs : List (Rule × Mat)) (row : List Nat) : bmZ m at_ xs (xs.map fun x => x.2.fits row) = bm m (row.drop at_) xs := by
  unfold bmZ bm scans
  rw [← bmG_from]
  congr 1
  rw [List.zipWith_map_right]
  induction xs with
  | nil => rfl
  | cons x xs ih => rw [List.zipWith_cons_cons, ih, List.map_cons, fits_drop, scanF_fits]
theorem bmG_one (m : Nat) : ∀ (a b : List (Rule × (Nat × Nat))) (k : Nat) (st st' : Option (Nat × Nat) × Nat), st.1 = st'.1 → a.map (fun x => (x.1, x.2.1)) = b.map (fun x => (x.1, x.2.1)) → (bmG m k a st).1 = (bmG m k b st').1
  | [], [], _, _, _, h, _ => h
  | [], _ :: _, _, _, _, _, h => by simp at h
  | _ :: _, [], _, _, _, _, h => by simp at h
  | x :: a, y :: b, k, st, st', h, e => by
    rw [List.map_cons, List.map_cons] at e
    injection e with e1 e2
    injection e1 with e3 e4
    rw [bmG, bmG]
    refine bmG_one m a b (k + 1) _ _ ?_ e2
    unfold bmGStep
    rw [e3]
    split
    · simp only [h, e4]
    · exact h
theorem bmZ_prom (m at_ : Nat) (xs : List (Rule × Mat)) (h : ∀ x ∈ xs, RevOk x.2) (row : List Nat) : (bmZ m at_ xs (xs.map fun x => x.2.prom row)).1 = (bm m (row.drop at_) xs).1 := by
  rw [← bmZ_fits]
  unfold bmZ
  refine bmG_one m _ _ 0 _ _ rfl ?_
  unfold scans
  rw [List.zipWith_map_right, List.zipWith_map_right]
  induction xs with
  | nil => rfl
  | cons x xs ih =>
    rw [List.zipWith_cons_cons, List.zipWith_cons_cons, List.map_cons, List.map_cons, ih (fun y hy => h y (by simp [hy])), prom_drop, prom_first (h x (by simp)), fits_drop, scanF_fits]

/-- the piece of what was found at a place, how far one looked for it alone; the modes behind it -/
def pieceOf (rules : List Rule) (b : Option (Nat × Nat) × Nat) (at_ : Nat) (ms : List Nat) : Piece × List Nat :=
  match b.1 with
  | none => (⟨65, at_, 1, ms.headD 0, at_ + b.2⟩, ms)
  | some y => match rules[y.1]? with
    | none => (⟨65, at_, 1, ms.headD 0, at_ + b.2⟩, ms)
    | some r => match modesBehind r ms with
      | none => (⟨65, at_, y.2, ms.headD 0, at_ + b.2⟩, ms)
      | some q => (⟨r.kind, at_, y.2, ms.headD 0, at_ + b.2⟩, q)

theorem pieceAt_of {xs : List (Rule × Mat)} (h : ∀ x ∈ xs, okR x) (i far : Nat) (l ms : List Nat) :
    pieceAt (xs.map (·.1)) i far l ms = ({ (pieceOf (xs.map (·.1)) (bm (ms.headD 0) l xs) i ms).1 with reach := max far (i + (bm (ms.headD 0) l xs).2) }, (pieceOf (xs.map (·.1)) (bm (ms.headD 0) l xs) i ms).2) := by
  rw [bm_look _ _ _ h]
  unfold pieceAt pieceOf
  simp only []
  generalize look l 0 (inMode (xs.map (·.1)) (ms.headD 0)) none = x
  obtain ⟨a, b⟩ := x
  cases b with
  | none => rfl
  | some y =>
    simp only []
    cases (xs.map (·.1))[y.1]? with
    | none => rfl
    | some r =>
      simp only []
      cases modesBehind r ms <;> rfl
theorem pieceOf_one (rules : List Rule) {b b' : Option (Nat × Nat) × Nat} (h : b.1 = b'.1) (at_ : Nat) (ms : List Nat) : (pieceOf rules b at_ ms).1.kind = (pieceOf rules b' at_ ms).1.kind ∧ (pieceOf rules b at_ ms).1.n = (pieceOf rules b' at_ ms).1.n ∧ (pieceOf rules b at_ ms).2 = (pieceOf rules b' at_ ms).2 := by
  unfold pieceOf
  rw [h]
  split
  · exact ⟨rfl, rfl, rfl⟩
  · split
    · exact ⟨rfl, rfl, rfl⟩
    · split <;> exact ⟨rfl, rfl, rfl⟩
theorem pieceOf_i (rules : List Rule) (b : Option (Nat × Nat) × Nat) (at_ : Nat) (ms : List Nat) : (pieceOf rules b at_ ms).1.i = at_ ∧ (pieceOf rules b at_ ms).1.mode = ms.headD 0 ∧ (pieceOf rules b at_ ms).1.reach = at_ + b.2 := by
  unfold pieceOf
  split
  · exact ⟨rfl, rfl, rfl⟩
  · split
    · exact ⟨rfl, rfl, rfl⟩
    · split <;> exact ⟨rfl, rfl, rfl⟩
theorem pieceOf_at (rules : List Rule) (b : Option (Nat × Nat) × Nat) (i j : Nat) (ms : List Nat) : (pieceOf rules b i ms).1.kind = (pieceOf rules b j ms).1.kind ∧ (pieceOf rules b i ms).1.n = (pieceOf rules b j ms).1.n ∧ (pieceOf rules b i ms).2 = (pieceOf rules b j ms).2 := by
  unfold pieceOf
  split
  · exact ⟨rfl, rfl, rfl⟩
  · split
    · exact ⟨rfl, rfl, rfl⟩
    · split <;> exact ⟨rfl, rfl, rfl⟩

/-! ### words from a place on -/
def wordHere (x : Piece × List Nat) (l ms : List Nat) : List Word := if x.1.kind = 64 then [] else [(x.1.kind, ms.headD 0, l.take x.1.n)]
def wds (rules : List Rule) : Nat → List Nat → List Nat → List Word
  | 0, _, _ => []
  | f + 1, l, ms => if l.isEmpty = true then [] else wordHere (pieceAt rules 0 0 l ms) l ms ++ wds rules f (l.drop (pieceAt rules 0 0 l ms).1.n) (pieceAt rules 0 0 l ms).2
def W (rules : List Rule) (l ms : List Nat) : List Word := wds rules l.length l ms

theorem pieceAt_far {xs : List (Rule × Mat)} (h : ∀ x ∈ xs, okR x) (i far j far' : Nat) (l ms : List Nat) :
    (pieceAt (xs.map (·.1)) i far l ms).1.kind = (pieceAt (xs.map (·.1)) j far' l ms).1.kind ∧ (pieceAt (xs.map (·.1)) i far l ms).1.n = (pieceAt (xs.map (·.1)) j far' l ms).1.n ∧ (pieceAt (xs.map (·.1)) i far l ms).2 = (pieceAt (xs.map (·.1)) j far' l ms).2 := by
  rw [pieceAt_of h, pieceAt_of h]
  exact pieceOf_at _ _ _ _ _

theorem W_nil (rules : List Rule) (ms : List Nat) : W rules [] ms = [] := rfl
theorem wds_fuel {xs : List (Rule × Mat)} (h : ∀ x ∈ xs, okR x) : ∀ (f g : Nat) (l ms : List Nat), l.length ≤ f → l.length ≤ g → wds (xs.map (·.1)) f l ms = wds (xs.map (·.1)) g l ms
  | 0, g, l, ms, h1, _ => by
    have : l = [] := List.length_eq_zero_iff.mp (by omega)
    subst this; cases g <;> rfl
  | f + 1, 0, l, ms, _, h2 => by
    have : l = [] := List.length_eq_zero_iff.mp (by omega)
    subst this; rfl
  | f + 1, g + 1, l, ms, h1, h2 => by
    rw [wds, wds]
    by_cases hl : l = []
    · subst hl; rfl
    · have := pieceAt_n h 0 0 hl ms
      rw [wds_fuel h f g _ _ (by rw [List.length_drop]; omega) (by rw [List.length_drop]; omega)]
theorem W_cons {xs : List (Rule × Mat)} (h : ∀ x ∈ xs, okR x) {l : List Nat} (hl : l ≠ []) (ms : List Nat) :
    W (xs.map (·.1)) l ms = wordHere (pieceAt (xs.map (·.1)) 0 0 l ms) l ms ++ W (xs.map (·.1)) (l.drop (pieceAt (xs.map (·.1)) 0 0 l ms).1.n) (pieceAt (xs.map (·.1)) 0 0 l ms).2 := by
  have hp : 0 < l.length := List.length_pos_iff.mpr hl
  have hn := pieceAt_n h 0 0 hl ms
  unfold W
  obtain ⟨f, hf⟩ : ∃ f, l.length = f + 1 := ⟨l.length - 1, by omega⟩
  have he : l.isEmpty = false := by simpa using hl
  rw [hf, wds]
  simp only [he, Bool.false_eq_true, if_false]
  rw [wds_fuel h f _ _ _ (by rw [List.length_drop]; omega) (Nat.le_refl _)]

theorem words_W {xs : List (Rule × Mat)} (h : ∀ x ∈ xs, okR x) (L : List Nat) : words (xs.map (·.1)) L = W (xs.map (·.1)) L [0] := by
  have : ∀ (f i far : Nat) (l ms : List Nat), l = L.drop i → l.length ≤ f → ((cut (xs.map (·.1)) f i far l ms).filter fun x => x.1.kind != 64).map (fun x => (x.1.kind, x.1.mode, bytesOf L x.1)) = W (xs.map (·.1)) l ms := by
    intro f; induction f with
    | zero =>
      intro i far l ms e hf
      have : l = [] := List.length_eq_zero_iff.mp (by omega)
      subst this; rfl
    | succ f ih =>
      intro i far l ms e hf
      by_cases hl : l = []
      · subst hl; rw [cut_nil]; rfl
      · have hn := pieceAt_n h i far hl ms
        obtain ⟨e1, e2, e3⟩ := pieceAt_far h i far 0 0 l ms
        rw [cut_cons _ _ _ _ hl, W_cons h hl, List.filter_cons, ← e2, ← e3]
        have ih' := ih (i + (pieceAt (xs.map (·.1)) i far l ms).1.n) (pieceAt (xs.map (·.1)) i far l ms).1.reach (l.drop (pieceAt (xs.map (·.1)) i far l ms).1.n) (pieceAt (xs.map (·.1)) i far l ms).2 (by rw [e, List.drop_drop]) (by rw [List.length_drop]; omega)
        unfold wordHere
        rw [← e1, ← e2]
        by_cases hk : (pieceAt (xs.map (·.1)) i far l ms).1.kind = 64
        · rw [if_neg (by simp [hk]), if_pos hk, ih']; rfl
        · rw [if_pos (by simp [hk]), if_neg hk, List.map_cons, ih']
          have : bytesOf L (pieceAt (xs.map (·.1)) i far l ms).1 = l.take (pieceAt (xs.map (·.1)) i far l ms).1.n := by
            unfold bytesOf; rw [pieceAt_i, e]
          rw [this, pieceAt_mode]; rfl
  exact this L.length 0 0 L [0] rfl (Nat.le_refl _)

theorem look_ext : ∀ (l e : List Nat) (k : Nat) (rs : List (Nat × List Pat)) (best : Option (Nat × Nat)), (look l k rs best).1 ≤ k + l.length → look (l ++ e) k rs best = look l k rs best
  | [], e, k, rs, best, h => by
    have hr : rs.isEmpty = true := by
      cases hr : rs.isEmpty with
      | true => rfl
      | false => simp [look, hr] at h; omega
    rw [List.nil_append]
    cases e with
    | nil => rfl
    | cons b e => simp [look, hr]
  | b :: l, e, k, rs, best, h => by
    rw [List.cons_append, look, look]
    by_cases hr : rs.isEmpty = true
    · rw [if_pos hr, if_pos hr]
    · rw [if_neg hr, if_neg hr]
      rw [look, if_neg hr] at h
      exact look_ext l e (k + 1) _ _ (by simp only [List.length_cons] at h; simpa [Nat.add_assoc, Nat.add_comm 1] using h)

/-- what was looked at lies within the row: whatever comes behind it changes nothing -/
theorem bm_ext {xs : List (Rule × Mat)} (h : ∀ x ∈ xs, okR x) {m : Nat} {l : List Nat} (e : List Nat) (hl : (bm m l xs).2 ≤ l.length) : bm m (l ++ e) xs = bm m l xs := by
  rw [bm_look _ _ _ h] at hl ⊢
  rw [bm_look _ _ _ h, look_ext l e 0 _ _ (by simp only [] at hl; omega)]

/-- a step of cutting: what is certain of the row, then the rest -/
theorem W_step {xs : List (Rule × Mat)} (h : ∀ x ∈ xs, okR x) {l : List Nat} (hl : l ≠ []) (ms e : List Nat) (he : (bm (ms.headD 0) l xs).2 ≤ l.length ∨ e = []) (i : Nat) :
    W (xs.map (·.1)) (l ++ e) ms = wordHere (pieceOf (xs.map (·.1)) (bm (ms.headD 0) l xs) i ms) l ms ++ W (xs.map (·.1)) (l.drop (pieceOf (xs.map (·.1)) (bm (ms.headD 0) l xs) i ms).1.n ++ e) (pieceOf (xs.map (·.1)) (bm (ms.headD 0) l xs) i ms).2 := by
  have hb : bm (ms.headD 0) (l ++ e) xs = bm (ms.headD 0) l xs := by
    rcases he with he | he
    · exact bm_ext h e he
    · subst he; rw [List.append_nil]
  have hn := pieceAt_n h 0 0 hl ms
  rw [pieceAt_of h] at hn
  have hn : (pieceOf (xs.map (·.1)) (bm (ms.headD 0) l xs) 0 ms).1.n ≤ l.length := hn.2
  obtain ⟨e1, e2, e3⟩ := pieceOf_at (xs.map (·.1)) (bm (ms.headD 0) l xs) i 0 ms
  rw [W_cons h (by simp [hl]), pieceAt_of h, hb, e2, e3]
  unfold wordHere
  rw [e1, e2]
  simp only []
  rw [List.take_append_of_le_length hn, List.drop_append_of_le_length hn]

/-- the piece that's cut -/
theorem pieceOf_n {xs : List (Rule × Mat)} (h : ∀ x ∈ xs, okR x) {l : List Nat} (hl : l ≠ []) (ms : List Nat) (i : Nat) :
    0 < (pieceOf (xs.map (·.1)) (bm (ms.headD 0) l xs) i ms).1.n ∧ (pieceOf (xs.map (·.1)) (bm (ms.headD 0) l xs) i ms).1.n ≤ l.length := by
  have hn := pieceAt_n h i 0 hl ms
  rw [pieceAt_of h] at hn
  exact hn
end Mx

-- MxTight
/- Words written tight: ways, and that the best of them is what's due. -/
namespace Mx
open Sq17

/-! ### which places are better -/
def lexLe : List Nat → List Nat → Prop
  | [], _ => True
  | _ :: _, [] => False
  | x :: a, y :: b => x < y ∨ (x = y ∧ lexLe a b)
def lexLt : List Nat → List Nat → Prop
  | x :: a, y :: b => x < y ∨ (x = y ∧ lexLt a b)
  | _, _ => False
def rle (a b : List Nat) : Prop := a.length < b.length ∨ (a.length = b.length ∧ lexLe a b)
def rlt (a b : List Nat) : Prop := a.length < b.length ∨ (a.length = b.length ∧ lexLt a b)

theorem lexLe_refl : ∀ a, lexLe a a
  | [] => trivial
  | _ :: a => .inr ⟨rfl, lexLe_refl a⟩
theorem lexLe_trans : ∀ a b c, lexLe a b → lexLe b c → lexLe a c
  | [], _, _, _, _ => trivial
  | _ :: _, [], _, h, _ => h.elim
  | _ :: _, _ :: _, [], _, h => h.elim
  | x :: a, y :: b, z :: c, h1, h2 => by
    rcases h1 with h1 | ⟨h1, h1'⟩
    · rcases h2 with h2 | ⟨h2, _⟩
      · exact .inl (by omega)
      · exact .inl (by omega)
    · rcases h2 with h2 | ⟨h2, h2'⟩
      · exact .inl (by omega)
      · exact .inr ⟨by omega, lexLe_trans a b c h1' h2'⟩
theorem lexLe_lt : ∀ a b, lexLe a b → lexLt b a → False
  | [], [], _, h => h
  | [], _ :: _, _, h => h
  | _ :: _, [], h, _ => h
  | x :: a, y :: b, h1, h2 => by
    rcases h1 with h1 | ⟨h1, h1'⟩
    · rcases h2 with h2 | ⟨h2, _⟩ <;> omega
    · rcases h2 with h2 | ⟨_, h2'⟩
      · omega
      · exact lexLe_lt a b h1' h2'
theorem lexLe_append (s : List Nat) : ∀ a b, a.length = b.length → lexLe a b → lexLe (a ++ s) (b ++ s)
  | [], [], _, _ => lexLe_refl _
  | [], _ :: _, h, _ => by simp at h
  | _ :: _, [], h, _ => by simp at h
  | x :: a, y :: b, h, h1 => by
    rcases h1 with h1 | ⟨h1, h1'⟩
    · exact .inl h1
    · exact .inr ⟨h1, lexLe_append s a b (by simpa using h) h1'⟩
theorem rle_refl (a : List Nat) : rle a a := .inr ⟨rfl, lexLe_refl a⟩
theorem rle_trans {a b c : List Nat} (h1 : rle a b) (h2 : rle b c) : rle a c := by
  rcases h1 with h1 | ⟨h1, h1'⟩
  · rcases h2 with h2 | ⟨h2, _⟩
    · exact .inl (by omega)
    · exact .inl (by omega)
  · rcases h2 with h2 | ⟨h2, h2'⟩
    · exact .inl (by omega)
    · exact .inr ⟨by omega, lexLe_trans _ _ _ h1' h2'⟩
theorem rle_rlt {a b : List Nat} (h1 : rle a b) (h2 : rlt b a) : False := by
  rcases h1 with h1 | ⟨h1, h1'⟩
  · rcases h2 with h2 | ⟨h2, _⟩ <;> omega
  · rcases h2 with h2 | ⟨_, h2'⟩
    · omega
    · exact lexLe_lt _ _ h1' h2'
theorem rle_append (s : List Nat) {a b : List Nat} (h : rle a b) : rle (a ++ s) (b ++ s) := by
  rcases h with h | ⟨h, h'⟩
  · exact .inl (by simp only [List.length_append]; omega)
  · exact .inr ⟨by simp only [List.length_append]; omega, lexLe_append s a b h h'⟩

/-! ### choices -/
def IsCh (n : Nat) (c : List Nat) : Prop := c.Pairwise (· < ·) ∧ ∀ x ∈ c, 1 ≤ x ∧ x < n

theorem choices_mem : ∀ (m a k : Nat) (c : List Nat), c ∈ choices k (List.range' a m) ↔ c.length = k ∧ c.Pairwise (· < ·) ∧ ∀ x ∈ c, a ≤ x ∧ x < a + m
  | m, a, 0, c => by
    rw [choices]
    constructor
    · intro h; simp at h; subst h; simp
    · rintro ⟨h, _⟩; simp [List.length_eq_zero_iff.mp h]
  | 0, a, k + 1, c => by
    rw [List.range'_zero, choices]
    constructor
    · intro h; simp at h
    · rintro ⟨h, _, h2⟩
      cases c with
      | nil => simp at h
      | cons x c => have := h2 x (by simp); omega
  | m + 1, a, k + 1, c => by
    rw [List.range'_succ, choices, List.mem_append, List.mem_map, choices_mem m (a + 1) (k + 1) c]
    constructor
    · rintro (⟨d, hd, rfl⟩ | ⟨h1, h2, h3⟩)
      · obtain ⟨h1, h2, h3⟩ := (choices_mem m (a + 1) k d).mp hd
        refine ⟨by rw [List.length_cons, h1], List.pairwise_cons.mpr ⟨fun x hx => by have := h3 x hx; omega, h2⟩, fun x hx => ?_⟩
        rcases List.mem_cons.mp hx with rfl | hx
        · omega
        · have := h3 x hx; omega
      · exact ⟨h1, h2, fun x hx => by have := h3 x hx; omega⟩
    · rintro ⟨h1, h2, h3⟩
      cases c with
      | nil => simp at h1
      | cons x d =>
        obtain ⟨h4, h5⟩ := List.pairwise_cons.mp h2
        have hx := h3 x (by simp)
        by_cases e : x = a
        · subst e
          refine .inl ⟨d, (choices_mem m (x + 1) k d).mpr ⟨by simpa using h1, h5, fun y hy => ?_⟩, rfl⟩
          have h6 := h4 y hy
          have h7 := h3 y (by simp [hy])
          omega
        · refine .inr ⟨h1, h2, fun y hy => ?_⟩
          have h7 := h3 y hy
          rcases List.mem_cons.mp hy with rfl | hy
          · omega
          · have := h4 y hy; omega

theorem choices_sorted : ∀ (m a k : Nat), (choices k (List.range' a m)).Pairwise lexLt
  | m, a, 0 => by rw [choices]; simp
  | 0, a, k + 1 => by rw [List.range'_zero, choices]; exact List.Pairwise.nil
  | m + 1, a, k + 1 => by
    rw [List.range'_succ, choices, List.pairwise_append]
    refine ⟨?_, choices_sorted m (a + 1) (k + 1), fun c hc d hd => ?_⟩
    · rw [List.pairwise_map]
      exact (choices_sorted m (a + 1) k).imp fun h => .inr ⟨rfl, h⟩
    · obtain ⟨e, _, rfl⟩ := List.mem_map.mp hc
      obtain ⟨h1, _, h3⟩ := (choices_mem m (a + 1) (k + 1) d).mp hd
      cases d with
      | nil => simp at h1
      | cons y d => exact .inl (by have := h3 y (by simp); omega)

theorem ch_len : ∀ (m a : Nat) (c : List Nat), c.Pairwise (· < ·) → (∀ x ∈ c, a ≤ x ∧ x < a + m) → c.length ≤ m
  | m, a, [], _, _ => Nat.zero_le _
  | 0, a, x :: c, _, h => by have := h x (by simp); omega
  | m + 1, a, x :: c, h1, h2 => by
    obtain ⟨h4, h5⟩ := List.pairwise_cons.mp h1
    have := ch_len m (a + 1) c h5 (fun y hy => by have := h4 y hy; have := h2 x (by simp); have := h2 y (by simp [hy]); omega)
    rw [List.length_cons]; omega

def allChoices (n : Nat) : List (List Nat) := (List.range (n + 1)).flatMap fun k => choices k ((List.range (n - 1)).map fun i => i + 1)
theorem range_one (n : Nat) : ((List.range n).map fun i => i + 1) = List.range' 1 n := by
  rw [List.range'_eq_map_range]
  exact List.map_congr_left fun x _ => Nat.add_comm x 1
theorem all_mem (n : Nat) (c : List Nat) : c ∈ allChoices n ↔ IsCh n c := by
  unfold allChoices
  rw [List.mem_flatMap, range_one]
  constructor
  · rintro ⟨k, _, h⟩
    obtain ⟨_, h2, h3⟩ := (choices_mem _ _ _ _).mp h
    exact ⟨h2, fun x hx => by have := h3 x hx; omega⟩
  · rintro ⟨h1, h2⟩
    have h3 : ∀ x ∈ c, 1 ≤ x ∧ x < 1 + (n - 1) := fun x hx => by have := h2 x hx; omega
    have := ch_len (n - 1) 1 c h1 h3
    exact ⟨c.length, by rw [List.mem_range]; omega, (choices_mem _ _ _ _).mpr ⟨rfl, h1, h3⟩⟩
theorem all_sorted (n : Nat) : (allChoices n).Pairwise rlt := by
  unfold allChoices
  rw [List.pairwise_flatMap, range_one]
  refine ⟨fun k _ => (choices_sorted (n - 1) 1 k).imp_of_mem fun ha hb h => ?_, ?_⟩
  · exact .inr ⟨by rw [((choices_mem _ _ _ _).mp ha).1, ((choices_mem _ _ _ _).mp hb).1], h⟩
  · refine (List.pairwise_lt_range).imp fun {a b} h => fun c hc d hd => .inl ?_
    rw [((choices_mem _ _ _ _).mp hc).1, ((choices_mem _ _ _ _).mp hd).1]; exact h

def goodC (rules : List Rule) (sep : List Nat) (ws : List Word) (c : List Nat) : Prop := words rules (written sep c ws) = ws
theorem tight_some {rules : List Rule} {sep : List Nat} {ws : List Word} {c : List Nat} (h1 : IsCh ws.length c) (h2 : goodC rules sep ws c) (h3 : ∀ d, IsCh ws.length d → goodC rules sep ws d → rle c d) : Sq17.tight rules sep ws = some c := by
  have e : Sq17.tight rules sep ws = (allChoices ws.length).find? fun c => words rules (written sep c ws) == ws := rfl
  rw [e]
  have hm := (all_mem _ _).mpr h1
  have hs := all_sorted ws.length
  cases hf : (allChoices ws.length).find? fun c => words rules (written sep c ws) == ws with
  | none =>
    have := List.find?_eq_none.mp hf c hm
    unfold goodC at h2
    rw [h2] at this; simp at this
  | some d =>
    obtain ⟨hd, as, bs, e2, hno⟩ := List.find?_eq_some_iff_append.mp hf
    have hd' : goodC rules sep ws d := eq_of_beq hd
    have hdc : IsCh ws.length d := (all_mem _ _).mp (by rw [e2]; simp)
    rw [e2] at hm hs
    rcases List.mem_append.mp hm with hm | hm
    · have := hno c hm
      unfold goodC at h2
      rw [h2] at this; simp at this
    · rcases List.mem_cons.mp hm with rfl | hm
      · rfl
      · have := (List.pairwise_cons.mp (List.pairwise_append.mp hs).2.1).1 c hm
        exact (rle_rlt (h3 d hdc hd') this).elim
theorem tight_none {rules : List Rule} {sep : List Nat} {ws : List Word} (h : ∀ d, IsCh ws.length d → ¬ goodC rules sep ws d) : Sq17.tight rules sep ws = none := by
  have e : Sq17.tight rules sep ws = (allChoices ws.length).find? fun c => words rules (written sep c ws) == ws := rfl
  rw [e, List.find?_eq_none]
  intro c hc hz
  exact h c ((all_mem _ _).mp hc) (eq_of_beq hz)

/-! ### what is written -/
def wrt (sep c : List Nat) : Nat → List Word → List Nat
  | _, [] => []
  | i, w :: ws => (if c.contains i = true then sep else []) ++ (w.2.2 ++ wrt sep c (i + 1) ws)
theorem written_wrt (sep c : List Nat) (ws : List Word) : written sep c ws = wrt sep c 0 ws := by
  have : ∀ (ws : List Word) (i : Nat), (((List.range' i ws.length).zip ws).flatMap fun x => (if c.contains x.1 = true then sep else []) ++ x.2.2.2) = wrt sep c i ws := by
    intro ws; induction ws with
    | nil => intro i; rfl
    | cons w ws ih =>
      intro i
      rw [List.length_cons, List.range'_succ, List.zip_cons_cons, List.flatMap_cons, ih (i + 1), wrt, List.append_assoc]
  unfold written
  rw [List.range_eq_range']
  exact this ws 0
theorem wrt_append (sep c : List Nat) : ∀ (a b : List Word) (i : Nat), wrt sep c i (a ++ b) = wrt sep c i a ++ wrt sep c (i + a.length) b
  | [], b, i => rfl
  | w :: a, b, i => by
    rw [List.cons_append, wrt, wrt, wrt_append sep c a b (i + 1), List.length_cons, List.append_assoc, List.append_assoc]
    congr 4; omega
theorem wrt_congr (sep : List Nat) {c d : List Nat} : ∀ (a : List Word) (i : Nat), (∀ j, i ≤ j → j < i + a.length → (c.contains j = d.contains j)) → wrt sep c i a = wrt sep d i a
  | [], i, _ => rfl
  | w :: a, i, h => by
    rw [wrt, wrt, h i (Nat.le_refl _) (by simp), wrt_congr sep a (i + 1) (fun j h1 h2 => h j (by omega) (by simp only [List.length_cons]; omega))]

structure Wy where
  places : List Nat
  tail : List Nat
  modes : List Nat
  done : Nat

section
variable {rules : List Rule} {sep : List Nat} {ws : List Word}

/-- what comes of a way if these bytes come behind it -/
def Ends (rules : List Rule) (ws : List Word) (w : Wy) (ext : List Nat) : Prop := W rules (w.tail ++ ext) w.modes = ws.drop w.done
structure Rep (rules : List Rule) (sep : List Nat) (ws : List Word) (k : Nat) (w : Wy) : Prop where
  ch : IsCh k w.places
  iff : ∀ ext, Ends rules ws w ext ↔ W rules (wrt sep w.places 0 (ws.take k) ++ ext) [0] = ws
/-- the same comes of two ways -/
structure Fol (rules : List Rule) (ws : List Word) (w v : Wy) : Prop where
  p : v.places = w.places
  iff : ∀ ext, Ends rules ws w ext ↔ Ends rules ws v ext
def Cmp (rules : List Rule) (sep : List Nat) (ws : List Word) (ways : List Wy) (k : Nat) : Prop :=
  ∀ c, IsCh ws.length c → goodC rules sep ws c → ∃ w ∈ ways, Ends rules ws w (wrt sep c k (ws.drop k)) ∧ rle w.places (c.filter fun x => decide (x < k))

theorem Rep.fol {k : Nat} {w v : Wy} (h : Rep rules sep ws k w) (f : Fol rules ws w v) : Rep rules sep ws k v :=
  ⟨by rw [f.p]; exact h.ch, fun ext => by rw [← f.iff, h.iff, f.p]⟩
def way0 : Wy := ⟨[], [], [0], 0⟩
theorem rep0 : Rep rules sep ws 0 way0 := ⟨⟨List.Pairwise.nil, by intro x hx; cases hx⟩, fun _ => Iff.rfl⟩
theorem cmp0 {xs : List (Rule × Mat)} (h : ∀ x ∈ xs, okR x) : Cmp (xs.map (·.1)) sep ws [way0] 0 := by
  intro c hc hg
  have e : c.filter (fun x => decide (x < 0)) = [] := List.filter_eq_nil_iff.mpr fun x _ => by simp
  refine ⟨way0, by simp, ?_, by rw [e]; exact rle_refl _⟩
  show W _ ([] ++ wrt sep c 0 ws) [0] = ws
  rw [List.nil_append, ← words_W h, ← written_wrt]; exact hg

def ext0 (row : List Nat) (w : Wy) : Wy := { w with tail := w.tail ++ row }
def ext1 (k : Nat) (sep row : List Nat) (w : Wy) : Wy := { w with places := w.places ++ [k], tail := w.tail ++ sep ++ row }
def longer_ (k : Nat) (sep row : List Nat) (ways : List Wy) : List Wy := ways.map (ext0 row) ++ (if 0 < k then ways.map (ext1 k sep row) else [])

theorem take_more {k : Nat} {wd : Word} (h : ws[k]? = some wd) : ws.take (k + 1) = ws.take k ++ [wd] := by
  obtain ⟨hlt, rfl⟩ := List.getElem?_eq_some_iff.mp h
  exact List.take_succ_eq_append_getElem hlt
theorem take_len {k : Nat} {wd : Word} (h : ws[k]? = some wd) : (ws.take k).length = k := by
  obtain ⟨hlt, rfl⟩ := List.getElem?_eq_some_iff.mp h
  rw [List.length_take]; omega
theorem not_in {k : Nat} {c : List Nat} (h : IsCh k c) : c.contains k = false := by
  rw [Bool.eq_false_iff]
  intro z
  have := h.2 k (List.contains_iff_mem.mp z)
  omega
theorem rep_ext0 {k : Nat} {w : Wy} {wd : Word} (h : Rep rules sep ws k w) (hk : ws[k]? = some wd) : Rep rules sep ws (k + 1) (ext0 wd.2.2 w) where
  ch := ⟨h.ch.1, fun x hx => by have := h.ch.2 x hx; omega⟩
  iff := fun ext => by
    have := h.iff (wd.2.2 ++ ext)
    unfold Ends at this ⊢
    show W rules (w.tail ++ wd.2.2 ++ ext) w.modes = ws.drop w.done ↔ W rules (wrt sep w.places 0 (ws.take (k + 1)) ++ ext) [0] = ws
    rw [List.append_assoc, this, take_more hk, wrt_append, take_len hk, Nat.zero_add, wrt, wrt, not_in h.ch]
    simp
theorem rep_ext1 {k : Nat} {w : Wy} {wd : Word} (h : Rep rules sep ws k w) (hk : ws[k]? = some wd) (h0 : 0 < k) : Rep rules sep ws (k + 1) (ext1 k sep wd.2.2 w) where
  ch := by
    refine ⟨List.pairwise_append.mpr ⟨h.ch.1, by simp, fun x hx y hy => ?_⟩, fun x hx => ?_⟩
    · simp at hy; subst hy; exact (h.ch.2 x hx).2
    · rcases List.mem_append.mp hx with hx | hx
      · have := h.ch.2 x hx; omega
      · simp at hx; omega
  iff := fun ext => by
    have := h.iff (sep ++ (wd.2.2 ++ ext))
    unfold Ends at this ⊢
    show W rules (w.tail ++ sep ++ wd.2.2 ++ ext) w.modes = ws.drop w.done ↔ W rules (wrt sep (w.places ++ [k]) 0 (ws.take (k + 1)) ++ ext) [0] = ws
    have e : wrt sep (w.places ++ [k]) 0 (ws.take k) = wrt sep w.places 0 (ws.take k) := wrt_congr sep _ _ (fun j _ h2 => by
      rw [take_len hk] at h2
      rw [Bool.eq_iff_iff, List.contains_iff_mem, List.contains_iff_mem, List.mem_append]
      constructor
      · rintro (h | h)
        · exact h
        · simp at h; omega
      · exact .inl)
    have e2 : (w.places ++ [k]).contains k = true := List.contains_iff_mem.mpr (by simp)
    rw [List.append_assoc, List.append_assoc, this, take_more hk, wrt_append, take_len hk, Nat.zero_add, e, wrt, wrt, e2]
    simp
theorem filter_more {n k : Nat} {c : List Nat} (h : IsCh n c) : c.filter (fun x => decide (x < k + 1)) = c.filter (fun x => decide (x < k)) ++ (if c.contains k = true then [k] else []) := by
  have : ∀ c : List Nat, c.Pairwise (· < ·) → c.filter (fun x => decide (x < k + 1)) = c.filter (fun x => decide (x < k)) ++ (if c.contains k = true then [k] else []) := by
    intro c; induction c with
    | nil => intro _; rfl
    | cons x c ih =>
      intro hp
      obtain ⟨h1, h2⟩ := List.pairwise_cons.mp hp
      have ih := ih h2
      rcases Nat.lt_trichotomy x k with hx | hx | hx
      · rw [List.filter_cons, List.filter_cons, if_pos (by simp; omega), if_pos (by simp; omega), ih, List.cons_append]
        congr 2
        have : ((x :: c).contains k = true) = (c.contains k = true) := by
          rw [List.contains_iff_mem, List.contains_iff_mem, List.mem_cons, eq_iff_iff]
          exact ⟨fun h => h.resolve_left (by omega), .inr⟩
        simp only [this]
      · subst hx
        have e1 : c.filter (fun y => decide (y < x + 1)) = [] := List.filter_eq_nil_iff.mpr fun y hy => by have := h1 y hy; simp; omega
        have e2 : c.filter (fun y => decide (y < x)) = [] := List.filter_eq_nil_iff.mpr fun y hy => by have := h1 y hy; simp; omega
        rw [List.filter_cons, List.filter_cons, if_pos (by simp), if_neg (by simp), e1, e2, if_pos (List.contains_iff_mem.mpr (by simp))]; rfl
      · have e1 : c.filter (fun y => decide (y < k + 1)) = [] := List.filter_eq_nil_iff.mpr fun y hy => by have := h1 y hy; simp; omega
        have e2 : c.filter (fun y => decide (y < k)) = [] := List.filter_eq_nil_iff.mpr fun y hy => by have := h1 y hy; simp; omega
        rw [List.filter_cons, List.filter_cons, if_neg (by simp; omega), if_neg (by simp; omega), e1, e2, if_neg]; rfl
        rw [List.contains_iff_mem]
        intro hm
        rcases List.mem_cons.mp hm with rfl | hm
        · omega
        · have := h1 k hm; omega
  exact this c h.1

theorem cmp_longer {ways : List Wy} {k : Nat} {wd : Word} (h : Cmp rules sep ws ways k) (hk : ws[k]? = some wd) : Cmp rules sep ws (longer_ k sep wd.2.2 ways) (k + 1) := by
  intro c hc hg
  obtain ⟨w, hw, he, hr⟩ := h c hc hg
  have hd : ws.drop k = wd :: ws.drop (k + 1) := by
    obtain ⟨hlt, rfl⟩ := List.getElem?_eq_some_iff.mp hk
    exact List.drop_eq_getElem_cons hlt
  rw [hd, wrt] at he
  rw [filter_more hc]
  unfold longer_
  by_cases hck : c.contains k = true
  · have h0 : 0 < k := (hc.2 k (List.contains_iff_mem.mp hck)).1
    rw [if_pos hck] at he ⊢
    rw [if_pos h0]
    refine ⟨ext1 k sep wd.2.2 w, List.mem_append.mpr (.inr (List.mem_map.mpr ⟨w, hw, rfl⟩)), ?_, rle_append [k] hr⟩
    unfold Ends at he ⊢
    show W rules (w.tail ++ sep ++ wd.2.2 ++ _) w.modes = _
    rw [List.append_assoc, List.append_assoc]; exact he
  · rw [if_neg hck] at he ⊢
    refine ⟨ext0 wd.2.2 w, List.mem_append.mpr (.inl (List.mem_map.mpr ⟨w, hw, rfl⟩)), ?_, by rw [List.append_nil]; exact hr⟩
    unfold Ends at he ⊢
    show W rules (w.tail ++ wd.2.2 ++ _) w.modes = _
    rw [List.append_assoc]; rw [List.nil_append] at he; exact he
theorem rep_longer {ways : List Wy} {k : Nat} {wd : Word} (h : ∀ w ∈ ways, Rep rules sep ws k w) (hk : ws[k]? = some wd) : ∀ w ∈ longer_ k sep wd.2.2 ways, Rep rules sep ws (k + 1) w := by
  intro w hw
  unfold longer_ at hw
  rcases List.mem_append.mp hw with hw | hw
  · obtain ⟨v, hv, rfl⟩ := List.mem_map.mp hw
    exact rep_ext0 (h v hv) hk
  · split at hw
    · next h0 =>
      obtain ⟨v, hv, rfl⟩ := List.mem_map.mp hw
      exact rep_ext1 (h v hv) hk h0
    · cases hw
theorem Cmp.perm {a b : List Wy} {k : Nat} (h : Cmp rules sep ws a k) (p : ∀ w ∈ a, w ∈ b) : Cmp rules sep ws b k := fun c hc hg => by
  obtain ⟨w, hw, r⟩ := h c hc hg
  exact ⟨w, p w hw, r⟩

/-! ### of the ways, the best ones first, those that do not fail, one of each outlook -/
structure Col (rules : List Rule) (sep : List Nat) (ws : List Word) (k : Nat) (S : List Wy) (i : Nat) (acc : List Wy) : Prop where
  rep : ∀ w ∈ acc, Rep rules sep ws k w
  sub : (acc.map Wy.places).Sublist ((S.take i).map Wy.places)
  cmp : ∀ j w, j < i → S[j]? = some w → ∀ ext, Ends rules ws w ext → ∃ v ∈ acc, Ends rules ws v ext ∧ rle v.places w.places
theorem col_nil {k : Nat} {S : List Wy} : Col rules sep ws k S 0 [] where
  rep := fun w hw => by cases hw
  sub := by simp
  cmp := fun j w h => by omega
theorem map_take {α β : Type} (f : α → β) {S : List α} {i : Nat} {w : α} (h : S[i]? = some w) : (S.take (i + 1)).map f = (S.take i).map f ++ [f w] := by
  obtain ⟨hlt, rfl⟩ := List.getElem?_eq_some_iff.mp h
  rw [List.take_succ_eq_append_getElem hlt, List.map_append]; rfl
theorem col_fail {k : Nat} {S acc : List Wy} {i : Nat} {w : Wy} (h : Col rules sep ws k S i acc) (hi : S[i]? = some w) (hf : ∀ ext, ¬ Ends rules ws w ext) : Col rules sep ws k S (i + 1) acc where
  rep := h.rep
  sub := by rw [map_take _ hi]; exact h.sub.trans (List.sublist_append_left _ _)
  cmp := fun j v hj hv ext he => by
    rcases Nat.lt_succ_iff_lt_or_eq.mp hj with hj | rfl
    · exact h.cmp j v hj hv ext he
    · rw [hi] at hv; cases hv; exact (hf ext he).elim
theorem col_new {k : Nat} {S acc : List Wy} {i : Nat} {w v : Wy} (h : Col rules sep ws k S i acc) (hi : S[i]? = some w) (hr : Rep rules sep ws k w) (f : Fol rules ws w v) : Col rules sep ws k S (i + 1) (acc ++ [v]) where
  rep := fun u hu => by
    rcases List.mem_append.mp hu with hu | hu
    · exact h.rep u hu
    · simp at hu; subst hu; exact hr.fol f
  sub := by
    rw [map_take _ hi, List.map_append, List.map_cons, List.map_nil, f.p]
    exact h.sub.append (List.Sublist.refl _)
  cmp := fun j u hj hu ext he => by
    rcases Nat.lt_succ_iff_lt_or_eq.mp hj with hj | rfl
    · obtain ⟨x, hx, r⟩ := h.cmp j u hj hu ext he
      exact ⟨x, by simp [hx], r⟩
    · rw [hi] at hu; cases hu
      exact ⟨v, by simp, (f.iff ext).mp he, by rw [f.p]; exact rle_refl _⟩
theorem col_dup {k : Nat} {S acc : List Wy} {i : Nat} {w v u : Wy} (h : Col rules sep ws k S i acc) (hs : S.Pairwise fun a b => rle a.places b.places) (hi : S[i]? = some w) (f : Fol rules ws w v) (hu : u ∈ acc) (e1 : u.done = v.done) (e2 : u.modes = v.modes) (e3 : u.tail = v.tail) : Col rules sep ws k S (i + 1) acc where
  rep := h.rep
  sub := by rw [map_take _ hi]; exact h.sub.trans (List.sublist_append_left _ _)
  cmp := fun j x hj hx ext he => by
    rcases Nat.lt_succ_iff_lt_or_eq.mp hj with hj | rfl
    · exact h.cmp j x hj hx ext he
    · rw [hi] at hx; cases hx
      refine ⟨u, hu, ?_, ?_⟩
      · have := (f.iff ext).mp he
        unfold Ends at this ⊢
        rw [e1, e2, e3]; exact this
      · have hm := h.sub.subset (List.mem_map.mpr ⟨u, hu, rfl⟩)
        obtain ⟨y, hy, e⟩ := List.mem_map.mp hm
        obtain ⟨a, ha⟩ := List.mem_iff_getElem?.mp hy
        rw [List.getElem?_take] at ha
        split at ha
        · next hlt =>
          rw [← e]
          obtain ⟨l1, rfl⟩ := List.getElem?_eq_some_iff.mp ha
          obtain ⟨l2, rfl⟩ := List.getElem?_eq_some_iff.mp hi
          exact List.pairwise_iff_getElem.mp hs a j l1 l2 hlt
        · cases ha
theorem Col.done {k : Nat} {S acc : List Wy} (h : Col rules sep ws k S S.length acc) (hs : S.Pairwise fun a b => rle a.places b.places) (hc : Cmp rules sep ws S k) : (∀ w ∈ acc, Rep rules sep ws k w) ∧ (acc.Pairwise fun a b => rle a.places b.places) ∧ Cmp rules sep ws acc k := by
  refine ⟨h.rep, ?_, fun c h1 h2 => ?_⟩
  · have h1 := h.sub
    rw [List.take_length] at h1
    have h2 : (S.map Wy.places).Pairwise rle := List.pairwise_map.mpr hs
    exact List.pairwise_map.mp (h2.sublist h1)
  · obtain ⟨w, hw, he, hr⟩ := hc c h1 h2
    obtain ⟨j, hj⟩ := List.mem_iff_getElem?.mp hw
    obtain ⟨v, hv, h3, h4⟩ := h.cmp j w (List.getElem?_eq_some_iff.mp hj).1 hj _ he
    exact ⟨v, hv, h3, rle_trans h4 hr⟩

/-- the first way of them that ends well tells what is due -/
theorem fin_some {xs : List (Rule × Mat)} (h : ∀ x ∈ xs, okR x) {ways : List Wy} {i : Nat} {w : Wy} (hr : ∀ w ∈ ways, Rep (xs.map (·.1)) sep ws ws.length w) (hs : ways.Pairwise fun a b => rle a.places b.places) (hc : Cmp (xs.map (·.1)) sep ws ways ws.length)
    (hi : ways[i]? = some w) (he : Ends (xs.map (·.1)) ws w []) (hno : ∀ j v, j < i → ways[j]? = some v → ¬ Ends (xs.map (·.1)) ws v []) : Sq17.tight (xs.map (·.1)) sep ws = some w.places := by
  have hw := hr w (List.mem_of_getElem? hi)
  refine tight_some hw.ch ?_ fun d hd hg => ?_
  · have := (hw.iff []).mp he
    rw [List.append_nil, List.take_length, ← written_wrt, ← words_W h] at this
    exact this
  · obtain ⟨v, hv, he', hr'⟩ := hc d hd hg
    rw [List.drop_length, wrt] at he'
    obtain ⟨j, hj⟩ := List.mem_iff_getElem?.mp hv
    have hge : i ≤ j := by
      by_cases hlt : j < i
      · exact (hno j v hlt hj he').elim
      · omega
    have e : d.filter (fun x => decide (x < ws.length)) = d := List.filter_eq_self.mpr fun x hx => by simpa using (hd.2 x hx).2
    rw [e] at hr'
    refine rle_trans ?_ hr'
    obtain ⟨l1, rfl⟩ := List.getElem?_eq_some_iff.mp hi
    obtain ⟨l2, rfl⟩ := List.getElem?_eq_some_iff.mp hj
    rcases Nat.lt_or_eq_of_le hge with hlt | rfl
    · exact List.pairwise_iff_getElem.mp hs i j l1 l2 hlt
    · exact rle_refl _
theorem fin_none {ways : List Wy} (hc : Cmp rules sep ws ways ws.length) (hno : ∀ w ∈ ways, ¬ Ends rules ws w []) : Sq17.tight rules sep ws = none := by
  refine tight_none fun d hd hg => ?_
  obtain ⟨v, hv, he', _⟩ := hc d hd hg
  rw [List.drop_length, wrt] at he'
  exact hno v hv he'
end
end Mx

-- MpRules
set_option maxRecDepth 100000
set_option maxHeartbeats 2000000
/-! Rules of my own over the hand layer. -/
namespace Mp
open PySem PySem.Spec PyProof.Rows L2
section
variable {X : Cx}
/-- xs[i] as a value that is read ahead of a store (xs[i] op= e), i not below 0 -/
def rIxN (K : PySem.W.Frag) : R2 := fun x y H Q => ∃ (p : Addr) (xs : List V) (j : Nat) (v : V), x = .ref p ∧ y = .int (j : Int) ∧ SqL K H p xs ∧ xs[j]? = some v ∧ Q v H
theorem pget_list : PGet X (rIxN X.K) := by
  intro pins s σ H x y ov iv Q inv rx ry h
  obtain ⟨p, xs, j, z, rfl, rfl, lq, hz, q⟩ := h
  cases rx
  obtain ⟨tk, rfl⟩ := ry
  obtain ⟨its, rel, plain, small⟩ := inv.list lq
  obtain ⟨w, ew, rw'⟩ := rel.get hz
  have hlen := rel.length
  have hlt : j < xs.length := (List.getElem?_eq_some_iff.mp hz).1
  have h63 := line63
  refine wpAny_getItem_list plain.isList (Int.natCast_nonneg j) (by omega) ?_ (show EP X pins σ Q w s from ⟨z, H, inv, rw', q⟩)
  rw [Int.toNat_natCast]
  simpa using ew
/-- an operator's in-place rule as the one that a store asks -/
theorem pip_of {op : Operator} {r : R2} (h : OpR X (inplaceOp op) r) : PIp X op r := fun pins s σ H x y v u Q I r1 r2 q => h pins s σ H x y v u Q I r1 r2 q
end

/-! ### max(xs, default=d) -/
section
variable {prog : Program} {w : World} {A : Around}
theorem max_loop_kw {R : Result → Shared → Prop} {it : Addr} {own wr : List Addr} {n : Nat} {P : Nat → Value → Prop} {St : Nat → Heap → Prop} (kw : List (Str × Value))
    (W : Walks prog w A.in1 it own wr n P St) (bt : Nat → Nat → Bool) (cmp : CmpOf prog w A.in1 .Gt P bt) (B : Addr) (hB : B ∉ own) (m : Nat) :
    ∀ (j : Nat) (s : Shared) (best : Value) (ep : Nat), j + 1 + m = n → St (j + 1) s.heap → P (argBest bt j) best →
    s.heap.get? B = some { cls := .type "list", dict := none, data := .seq #[best, best] ep, slots := #[] } →
    (∀ v h' tk, P (argBest bt (n - 1)) v → (∀ b o, b ∉ wr → b ≠ B → s.heap.get? b = some o → h'.get? b = some o) → R (.ok (.ret v)) { s with heap := h', toks := tk }) →
    codeAny (model prog w) A (.builtin "max.loop" ⟨[.ref it, .none, .ref B], kw⟩) R s := by
  have hBw : B ∉ wr := fun z => hB (W.sub _ z)
  have nm : (toString "max" ++ toString ".loop" : String) = "max.loop" := by decide
  induction m with
  | zero =>
    intro j s best ep hjn hst hp hcell fin
    refine codeAny_builtin F.entry_max_loop ?_
    rw [Around.under_plainId F.plain_max_loop _]
    refine wpAny_bind (m := seqItems? (.ref B)) (wpAny_seqItems hcell rfl ?_)
    have hst' : St n s.heap := by rw [← hjn]; exact hst
    refine wpAny_bind (m := tryCatch (pyNext (.ref it)) _) (wpAny_tryCatch (W.done s _ _ hst' fun h' tk hk => ?_))
    refine wpAny_bind (m := updateSeq B (fun _ => #[])) (wpAny_updateSeq (hk B _ hBw hcell) rfl (wpAny_bind (wpAny_letGo (wpAny_pure ?_))))
    refine fin best _ tk (by rw [← hjn]; exact hp) fun b o h1 h2 e => Eq.trans (Heap.get?_update_other _ _ (Ne.symm h2)) (hk b o h1 e)
  | succ m ih =>
    intro j s best ep hjn hst hp hcell fin
    refine codeAny_builtin F.entry_max_loop ?_
    rw [Around.under_plainId F.plain_max_loop _]
    refine wpAny_bind (m := seqItems? (.ref B)) (wpAny_seqItems hcell rfl ?_)
    refine wpAny_bind (m := tryCatch (pyNext (.ref it)) _) (wpAny_tryCatch (W.item (j + 1) s _ _ (by omega) hst fun v h' tk hv hst' hk => ?_))
    have hcell' := hk B _ hBw hcell
    refine wpAny_bind (wpAny_pure ?_)
    refine wpAny_bind (wpAny_tryCatch (wpAny_holding (wpAny_bind (cmp (j + 1) (argBest bt j) v best _ _ _ hv hp (wpAny_bind (wpAny_holding (wpAny_truthy_bool (wpAny_bind (wpAny_letGo (wpAny_pure ?_))))))))))
    cases hb : bt (j + 1) (argBest bt j) with
    | true =>
      simp only [if_true]
      refine wpAny_bind (wpAny_updateSeq hcell' rfl (wpAny_bind (wpAny_letGo ?_)))
      rw [nm]
      refine wpAny_pure ⟨plainId_quiet F.plain_max_loop _, ih (j + 1) _ v _ (by omega) (W.frame _ _ _ hst' fun b hbf o e => ?_) (by simp only [argBest, hb, if_true]; exact hv) (Heap.get?_update_self _ hcell' rfl) fun v2 h2 tk2 hp2 hk2 => ?_⟩
      · exact Eq.trans (Heap.get?_update_other _ _ (fun z : B = b => hB (z ▸ hbf))) e
      · exact fin v2 h2 tk2 hp2 fun b o h1 h3 e => hk2 b o h1 h3 (Eq.trans (Heap.get?_update_other _ _ (Ne.symm h3)) (hk b o h1 e))
    | false =>
      simp only [Bool.false_eq_true, if_false]
      refine wpAny_bind (wpAny_letGo ?_)
      rw [nm]
      refine wpAny_pure ⟨plainId_quiet F.plain_max_loop _, ih (j + 1) _ best ep (by omega) hst' (by simp only [argBest, hb, Bool.false_eq_true, if_false]; exact hp) hcell' fun v2 h2 tk2 hp2 hk2 => ?_⟩
      exact fin v2 h2 tk2 hp2 fun b o h1 h3 e => hk2 b o h1 h3 (hk b o h1 e)
theorem max_first_kw {R : Result → Shared → Prop} {it : Addr} {own wr : List Addr} {n : Nat} {P : Nat → Value → Prop} {St : Nat → Heap → Prop} (kw : List (Str × Value))
    (W : Walks prog w A.in1 it own wr n P St) (bt : Nat → Nat → Bool) (cmp : CmpOf prog w A.in1 .Gt P bt) (B : Addr) (hB : B ∉ own) (hn : 0 < n) {s : Shared} {ep : Nat} (hst : St 0 s.heap)
    (hcell : s.heap.get? B = some { cls := .type "list", dict := none, data := .seq #[] ep, slots := #[] })
    (fin : ∀ v h' tk, P (argBest bt (n - 1)) v → (∀ b o, b ∉ wr → b ≠ B → s.heap.get? b = some o → h'.get? b = some o) → R (.ok (.ret v)) { s with heap := h', toks := tk }) :
    codeAny (model prog w) A (.builtin "max.loop" ⟨[.ref it, .none, .ref B], kw⟩) R s := by
  have hBw : B ∉ wr := fun z => hB (W.sub _ z)
  have nm : (toString "max" ++ toString ".loop" : String) = "max.loop" := by decide
  refine codeAny_builtin F.entry_max_loop ?_
  rw [Around.under_plainId F.plain_max_loop _]
  refine wpAny_bind (m := seqItems? (.ref B)) (wpAny_seqItems hcell rfl ?_)
  refine wpAny_bind (m := tryCatch (pyNext (.ref it)) _) (wpAny_tryCatch (W.item 0 s _ _ hn hst fun v h' tk hv hst' hk => ?_))
  have hcell' := hk B _ hBw hcell
  refine wpAny_bind (wpAny_pure ?_)
  refine wpAny_bind (wpAny_updateSeq hcell' rfl ?_)
  rw [nm]
  refine wpAny_pure ⟨plainId_quiet F.plain_max_loop _, max_loop_kw kw W bt cmp B hB (n - 1) 0 _ v _ (by omega) (W.frame _ _ _ hst' fun b hbf o e => ?_) hv (Heap.get?_update_self _ hcell' rfl) fun v2 h2 tk2 hp2 hk2 => ?_⟩
  · exact Eq.trans (Heap.get?_update_other _ _ (fun z : B = b => hB (z ▸ hbf))) e
  · exact fin v2 h2 tk2 hp2 fun b o h1 h3 e => hk2 b o h1 h3 (Eq.trans (Heap.get?_update_other _ _ (Ne.symm h3)) (hk b o h1 e))

/-- of nothing: the default -/
theorem max_none_kw {R : Result → Shared → Prop} {it : Addr} {own wr : List Addr} {P : Nat → Value → Prop} {St : Nat → Heap → Prop} {k : Str} {d : Value}
    (W : Walks prog w A.in1 it own wr 0 P St) (B : Addr) {s : Shared} {ep : Nat} (hst : St 0 s.heap)
    (hcell : s.heap.get? B = some { cls := .type "list", dict := none, data := .seq #[] ep, slots := #[] })
    (fin : ∀ h' tk, (∀ b o, b ∉ wr → b ≠ B → s.heap.get? b = some o → h'.get? b = some o) → R (.ok (.ret d)) { s with heap := h', toks := tk }) :
    codeAny (model prog w) A (.builtin "max.loop" ⟨[.ref it, .none, .ref B], [(k, d)]⟩) R s := by
  refine codeAny_builtin F.entry_max_loop ?_
  rw [Around.under_plainId F.plain_max_loop _]
  refine wpAny_bind (m := seqItems? (.ref B)) (wpAny_seqItems hcell rfl ?_)
  refine wpAny_bind (m := tryCatch (pyNext (.ref it)) _) (wpAny_tryCatch (W.done s _ _ hst fun h' tk hk => ?_))
  refine wpAny_bind (wpAny_rule ?_)
  exact wpAny_pure (fin h' tk fun b o h1 _ e => hk b o h1 e)

theorem args_maxD (a d : Value) : argsOk "max" ⟨[a], [("default", d)]⟩ := by unfold argsOk; kernel_rfl
theorem bind_maxD (d : Value) : Builtin.Builtins.bindParams "max" ["key", "default"] 0 ⟨[], [("default", d)]⟩ = pure [none, some d] := by rfl

theorem call_maxD {x d : Value} {E : Value → Shared → Prop} {s : Shared} {Q : Value → Shared → Prop}
    (h : wpAny (model prog w) A.in1 (pyIter x) (fun it s2 => ∃ I own wr n P St bt, it = .ref I ∧ Walks prog w A.in1 I own wr n P St ∧ St 0 s2.heap ∧ (∀ b ∈ own, b < s2.heap.objs.size) ∧ CmpOf prog w A.in1 .Gt P bt ∧
      (0 < n → ∀ v h' tk, P (argBest bt (n - 1)) v → (∀ b o, b ∉ wr → s2.heap.get? b = some o → h'.get? b = some o) → Q v { s2 with heap := h', toks := tk }) ∧
      (n = 0 → ∀ h' tk, (∀ b o, b ∉ wr → s2.heap.get? b = some o → h'.get? b = some o) → Q d { s2 with heap := h', toks := tk })) E s) :
    wpAny (model prog w) A (call (.builtin "max") [x] [("default", d)]) Q E s := by
  have nm : (toString "max" ++ toString ".loop" : String) = "max.loop" := by decide
  refine wpAny_call (codeAny_call_builtin F.plain_max F.entry_max ?_)
  have tree : wpAny (model prog w) A.in1 (Builtin.«max» ⟨[x], [("default", d)]⟩) (fun fin s' => match fin with
      | .done z => (match (Except.ok z : Result) with | .ok (.ret u) => Q u s' | .ok _ => False | .error e => E e s')
      | .again c => c.quiet = true ∧ codeAny (model prog w) A c (fun z s' => match z with | .ok (.ret u) => Q u s' | .ok _ => False | .error e => E e s') s') E s := by
    refine wpAny_bind (m := Builtin.Builtins.bindParams "max" ["key", "default"] 0 ⟨[], [("default", d)]⟩) (wpAny_of_eq (bind_maxD d) ?_)
    refine wpAny_bind (wpAny_pure ?_)
    refine wpAny_bind (wpAny_mono h (fun it s2 k => ?_) fun _ _ e => e)
    obtain ⟨I, own, wr, n, P, St, bt, rfl, W, hst, hown, cmp, some_, none_⟩ := k
    refine wpAny_bind (wpAny_newObj_type ?_)
    have hB : s2.heap.objs.size ∉ own := fun z => Nat.lt_irrefl _ (hown _ z)
    rw [nm]
    refine wpAny_pure ⟨plainId_quiet F.plain_max_loop _, ?_⟩
    have old : ∀ {h' : Heap} {b : Addr} {o : Obj}, (∀ b o, b ∉ wr → b ≠ s2.heap.objs.size → (s2.heap.push (seqObj "list" #[] 0)).get? b = some o → h'.get? b = some o) → b ∉ wr → s2.heap.get? b = some o → h'.get? b = some o :=
      fun k hb e => k _ _ hb (Nat.ne_of_lt (Heap.lt_size e)) (Heap.get?_push_of_some _ e)
    by_cases hn : 0 < n
    · exact max_first_kw _ W bt cmp _ hB hn (W.frame _ _ _ hst fun b _ o e => Heap.get?_push_of_some _ e) (Heap.get?_push_size _ rfl) fun v h' tk hp hk => some_ hn v h' tk hp fun b o hb e => old hk hb e
    · have hn : n = 0 := by omega
      subst hn
      exact max_none_kw W _ (W.frame _ _ _ hst fun b _ o e => Heap.get?_push_of_some _ e) (Heap.get?_push_size _ rfl) fun h' tk hk => none_ rfl h' tk fun b o hb e => old hk hb e
  simp only [checkBuiltinCall, F.kind_max]
  cases hsig : Manifest.signature? "max" with
  | none => exact wpAny_pure tree
  | some sig =>
    have ok := args_maxD x d
    simp only [argsOk, hsig] at ok
    show wpAny _ A.in1 (Bind.checkArgs "max" sig ⟨[x], [("default", d)]⟩) _ _ s
    rw [show Bind.checkArgs "max" sig ⟨[x], [("default", d)]⟩ = pure () from ok]
    exact wpAny_pure tree
end
section
variable {X : Cx}
/-- max(xs, default=d), ints -/
def rMaxD (K : PySem.W.Frag) : List V → List V → Hp → VK → Prop := fun xs zs H Q => ∃ (a : Addr) (ns : List Int) (d : Int), xs = [V.ref a] ∧ zs = [V.int d] ∧ SqL K H a (ns.map V.int) ∧
  ∀ m, (ns = [] → m = d) → (ns ≠ [] → m ∈ ns ∧ ∀ y ∈ ns, y ≤ m) → Q (.int m) H
theorem cr_maxD (hc : X.calm = true) : CallRK X (.builtin "max") ["default"] (rMaxD X.K) := by
  intro pins s σ H xs zs us ws Q I r1 r2 h
  obtain ⟨a, ns, d, rfl, rfl, lq, q⟩ := h
  obtain ⟨its, rel, plain, _⟩ := I.list lq
  rw [Vals.ref1 r1]
  obtain ⟨td, rfl⟩ : ∃ t, ws = [Value.int d t] := by
    cases r2 with
    | cons r t => cases t; obtain ⟨t, rfl⟩ := r; exact ⟨t, rfl⟩
  obtain ⟨ys, ey⟩ := rel.ints.allInts.items
  have num : numsOf (intItems ys).toList = ns := by rw [← ey]; exact rel.ints.numsOf
  rw [nums_intItems] at num
  have here : s.heap.IsList a (intItems ys) := by rw [← ey]; exact plain.isList
  have size : (intItems ys).size = ns.length := by rw [← num]; simp [intItems]
  refine call_maxD (iter_intList here fun s2 e st own itl => ?_)
  subst e
  refine ⟨_, _, _, _, _, _, _, rfl, Walks.list (A := X.A.in1) (I.ok.hd hc) _ a itl (intItems ys), st, own, CmpOf.ints_gt (numAt ys) (fun _ _ => intItems_at), fun hn v h' tk hv hk => ?_, fun hn h' tk hk => ?_⟩
  · obtain ⟨t, rfl⟩ := intItems_at (by simpa using hv)
    obtain ⟨g1, g2⟩ := argBest_gt (numAt ys) ((intItems ys).size - 1)
    refine ⟨.int _, H, I.kept (old_kept hk), ⟨_, rfl⟩, q _ (fun z => ?_) fun _ => ⟨?_, fun y hy => ?_⟩⟩
    · rw [size, z] at hn; simp at hn
    · rw [← num, numAt_eq]; exact PySem.getD_mem (by rw [List.length_map, Array.length_toList]; simp [intItems] at hn g1 ⊢; omega)
    · rw [← num] at hy
      obtain ⟨j, hj, rfl⟩ := mem_getD hy
      rw [List.length_map, Array.length_toList] at hj
      rw [← numAt_eq]; exact g2 j (by simp [intItems]; omega)
  · have z : ns = [] := List.length_eq_zero_iff.mp (by omega)
    exact ⟨.int d, H, I.kept (old_kept hk), ⟨_, rfl⟩, q d (fun _ => rfl) fun ne => absurd z ne⟩
end
/-! ### d[i], a dict of the top, its keys numbers -/
section
variable {X : Cx}
/-- at a the top has written a dict with these entries, its keys numbers -/
def DInt (K : PySem.W.Frag) (a : Addr) (es : List DictEntry) : Prop := (∃ n, K.lookup a = some ⟨.type "dict", none, .dict es.toArray n, #[]⟩) ∧ ∀ e ∈ es, ∃ (i : Int) (t : Tok), e.key = .int i t ∧ e.hash = hashInt i
def rDInt (K : PySem.W.Frag) : R2 := fun x y H Q => ∃ (p : Addr) (i : Int) (es : List DictEntry) (v : V) (u : Value), x = .ref p ∧ y = .int i ∧ DInt K p es ∧ (es.find? fun e => keyIs (.inl i) e.key).map (·.val) = some u ∧ RelV v u ∧ Q v H
theorem ix_dint : IxR X (rDInt X.K) := by
  intro value slice pins s σ H x y ov iv Q inv rx ry h hs
  obtain ⟨p, i, es, v, u, rfl, rfl, ⟨⟨n, look⟩, keys⟩, found, rel, q⟩ := h
  cases rx
  obtain ⟨t, rfl⟩ := ry
  have map : s.heap.MapOf (mixKind X.prog X.w) p (fun k => findBy (mixKind X.prog X.w).is es.toArray k) :=
    ⟨_, es.toArray, n, inv.kIn _ _ look, ⟨rfl, rfl, rfl⟩, rfl, fun e he => by
      obtain ⟨j, t', e1, e2⟩ := keys e (by simpa using he)
      exact ⟨.inl j, by rw [e1]; exact mixKind_int _ _ j t', e2⟩, fun _ => rfl⟩
  refine tail_any map.typeIs slot_dict_getitem.lookup (wpAny_getItem_of (k := (.inl i : L2.Key)) (mixKind_int _ _ i t) map (v := u) ?_ ⟨v, H, inv.tok _, rel, q⟩) hs
  show findBy (mixKind X.prog X.w).is es.toArray (.inl i) = some u
  unfold findBy
  rw [List.find?_toArray]; exact found
end
end Mp

-- MpBase
set_option maxRecDepth 100000
set_option maxHeartbeats 2000000
/-! The text by places, what its top has written, the heap. -/
namespace Mp
open PySem PySem.Spec PyProof.Rows L2

/-- a def of the top: where it stands -/
structure Df (K : PySem.W.Frag) (mg : Str → Option Value) (x : Str) (st : Stmt) (ps : List Str) (f : Addr) (fd : FuncData) : Prop where
  F : Fun K x x st f fd
  b : Binds K fd ps []
  g : mg x = some (.ref f)
theorem if_true_of {c : Bool} {A B : Prop} (hc : c = true) (h : A) : if c = true then A else B := by
  rw [if_pos hc]; exact h
theorem if_false_of {c : Bool} {A B : Prop} (hc : c = false) (h : B) : if c = true then A else B := by
  rw [hc, if_neg Bool.false_ne_true]; exact h
/-- nothing more in this branch: on with what's behind -/
theorem onward {n : L2.St → Hp → Prop} {rt : VK} {bk ct : L2.St → Hp → Prop} {σ : L2.St} {H : Hp} (h : n σ H) : tNext ⟨n, rt, bk, ct⟩ σ H := h
/-- a test whose answer is known, whatever it's asked for: first its reading, then the way -/
theorem if_ev {c : TT} {t u v : TS} {D : Ends} {σ : L2.St} {H : Hp} (b : Bool) (H' : Hp) (ev : ∀ Q : Bool → Hp → Prop, Q b H' → c σ H Q) (k : if b = true then t { D with nx := v D } σ H' else u { D with nx := v D } σ H') : tSeq (tIfS c t u) v D σ H := ev _ k
/-- an assignment of an expression whose value is known -/
theorem asg_ev {te : TE} {g : TG} {v : TS} {D : Ends} {σ : L2.St} {H : Hp} (x : V) (H' : Hp) (ev : ∀ Q : VK, Q x H' → te σ H Q) (k : g x σ H' (v D)) : tSeq (tAsg te g) v D σ H := ev _ k
theorem ret_ev {te : TE} {D : Ends} {σ : L2.St} {H : Hp} (x : V) (H' : Hp) (ev : ∀ Q : VK, Q x H' → te σ H Q) (k : D.rt x H') : tRet te D σ H := ev _ k
/-- the i-th statement of the program -/
def top (i : Nat) : Stmt := PySem.Challenge.pw_modedpieces_s01_answers.main.body.getD i (.Pass ⟨0, 0, 0, 0⟩)
abbrev sReadSpan : Stmt := top 36
abbrev sReadMembers : Stmt := top 35
abbrev sReadPart : Stmt := top 34
abbrev sReadPattern : Stmt := top 33
abbrev sNothing : Stmt := top 42
abbrev sEither : Stmt := top 43
abbrev sStepsIn : Stmt := top 44

/-- built-in names are built-in, constants have their numbers -/
structure Txt (K : PySem.W.Frag) (mg : Str → Option Value) : Prop where
  INNER : ∃ a, mg "INNER" = some (.ref a) ∧ ∀ H, SqT K H a (([0, 0, 0, 2, 2, 1, 1, 1, 0] : List Nat).map fun n : Nat => V.int (n : Int))
  len : mg "len" = none
  max : mg "max" = none
  min : mg "min" = none
  range : mg "range" = none
  list : mg "list" = none
  reversed : mg "reversed" = none
  zip : mg "zip" = none
  tuple : mg "tuple" = none
  sorted : mg "sorted" = none
  enumerate : mg "enumerate" = none
  TOP_LEVEL : ∃ t, mg "TOP_LEVEL" = some (.int 40 t)
  TOP_BYTE : ∃ t, mg "TOP_BYTE" = some (.int 255 t)
  NO_BYTE : ∃ t, mg "NO_BYTE" = some (.int 0 t)
  ONE_BYTE : ∃ t, mg "ONE_BYTE" = some (.int 1 t)
  NONE_OF : ∃ t, mg "NONE_OF" = some (.int 2 t)
  ONE_BEHIND_OTHER : ∃ t, mg "ONE_BEHIND_OTHER" = some (.int 3 t)
  EITHER : ∃ t, mg "EITHER" = some (.int 4 t)
  ANY_TIMES : ∃ t, mg "ANY_TIMES" = some (.int 5 t)
  ONCE_OR_MORE : ∃ t, mg "ONCE_OR_MORE" = some (.int 6 t)
  ONCE_OR_NOT : ∃ t, mg "ONCE_OR_NOT" = some (.int 7 t)
  FROM_TO : ∃ t, mg "FROM_TO" = some (.int 8 t)
  CHUNK_BITS : ∃ t, mg "CHUNK_BITS" = some (.int 8 t)
  CHUNK_MASK : ∃ t, mg "CHUNK_MASK" = some (.int 255 t)

/-- numbers as values -/
abbrev iv (n : Nat) : V := .int (n : Int)
abbrev ivs (l : List Nat) : List V := l.map iv

theorem ivs_len (l : List Nat) : (ivs l).length = l.length := List.length_map _
theorem ivs_at {l : List Nat} {j n : Nat} (h : l[j]? = some n) : (ivs l)[j]? = some (iv n) := by
  rw [List.getElem?_map, h]; rfl
theorem cut_from (l : List V) (i : Nat) : cutV l (some (i : Int)) none = l.drop i := by
  unfold cutV
  rw [HT.sIx_none, HT.sIx_nat]
  by_cases h : i ≤ l.length
  · rw [Nat.min_eq_left h, List.take_of_length_le (by simp)]
  · rw [Nat.min_eq_right (by omega), List.drop_length, List.drop_of_length_le (by omega)]; simp
theorem cut_upto (l : List V) (j : Nat) : cutV l none (some (j : Int)) = l.take j := by
  unfold cutV
  rw [HT.sIx_none, HT.sIx_nat, List.drop_zero, Nat.sub_zero]
  by_cases h : j ≤ l.length
  · rw [Nat.min_eq_left h]
  · rw [Nat.min_eq_right (by omega), List.take_length, List.take_of_length_le (by omega)]
theorem cut_both (l : List V) (i j : Nat) : cutV l (some (i : Int)) (some (j : Int)) = (l.drop i).take (j - i) := by
  unfold cutV
  rw [HT.sIx_nat, HT.sIx_nat]
  by_cases h : i ≤ l.length
  · rw [Nat.min_eq_left h]
    by_cases h2 : j ≤ l.length
    · rw [Nat.min_eq_left h2]
    · rw [Nat.min_eq_right (by omega), List.take_of_length_le (by simp), List.take_of_length_le (by simp; omega)]
  · rw [Nat.min_eq_right (a := i) (by omega), List.drop_length, List.drop_of_length_le (i := i) (by omega)]; simp

/-- a constant of the top -/
theorem pgc {X : Cx} {x : Str} {n : Int} {t : Tok} {pos : Pos} (hm : X.mg x = some (.int n t)) (hg : Gl X x := by rfl) (hd : (x == ("__debug__" : Str)) = false := by decide) : PE X (.Name x pos) (tC (.int n)) := pe_glob hg hm ⟨_, rfl⟩ hd
theorem ivs_ints (l : List Nat) : ivs l = (l.map fun n : Nat => (n : Int)).map V.int := by rw [List.map_map]; rfl
theorem ivs_flat (l : List Nat) : (ivs l).all flatV = true := by
  rw [List.all_eq_true]; intro x hx
  obtain ⟨n, _, rfl⟩ := List.mem_map.mp hx; rfl
theorem ivs_in (n : Nat) (l : List Nat) : inV (iv n) (ivs l) = l.contains n := by
  unfold inV ivs
  rw [List.any_map, Bool.eq_iff_iff, List.contains_iff_mem, List.any_eq_true]
  constructor
  · rintro ⟨m, hm, e⟩
    have e : ((m : Int) == (n : Int)) = true := e
    have e := Int.ofNat.inj (eq_of_beq e)
    subst e; exact hm
  · intro h; exact ⟨n, h, (beq_self_eq_true ((n : Int)) : _)⟩
theorem ivs_drop (l : List Nat) (i : Nat) : (ivs l).drop i = ivs (l.drop i) := (List.map_drop).symm
theorem ivs_take (l : List Nat) (i : Nat) : (ivs l).take i = ivs (l.take i) := (List.map_take).symm
theorem Same.upd {H : Hp} {p : Addr} (o : HO) (h : H p = none) : Same H (upd H p o) := fun b x e => by rw [upd_ne (ne_of_none e h)]; exact e
theorem sqL_of {K : PySem.W.Frag} {H : Hp} {p : Addr} {xs : List V} (h : H p = some (.lst xs)) : SqL K H p xs := SqL.of h

/-! ### the dicts of chunks: what's in them is right; all else stands -/
open Mx (stepsIn orAt)
/-- the ends of a chunk's steps: place and bits -/
def chunkOf (tab : List Nat) (i j : Nat) : Nat := orAt tab ((stepsIn j).map fun s => 8 * i + s)
def ckey (i j : Nat) : List L2.Key := [.inl ((8 * i : Nat) : Int), .inl ((j : Nat) : Int)]
/-- what's known of chunks is right -/
structure CacheOk (tab : List Nat) (kvs : List (List L2.Key × V)) : Prop where
  nd : (kvs.map (·.1)).Nodup
  ok : ∀ p ∈ kvs, ∃ i j : Nat, i < 512 ∧ j < 256 ∧ p.1 = ckey i j ∧ p.2 = iv (chunkOf tab i j)
/-- which dicts are such, and of which table; and which things are others', that nothing here is one of -/
structure Gh where
  d : Addr → Option (List Nat)
  f : Addr → Prop
def Wld (G : Gh) (H : Hp) : Prop := ∀ d tab, G.d d = some tab → ∃ kvs, H d = some (.dT kvs) ∧ CacheOk tab kvs
/-- all but those dicts and some more things stands -/
structure Go (G : Gh) (xs : List Addr) (H H' : Hp) : Prop where
  w : Wld G H
  w' : Wld G H'
  k : ∀ b o, H b = some o → G.d b = none → b ∉ xs → H' b = some o
  x : ∀ b ∈ xs, H b ≠ none → H' b ≠ none
theorem Go.refl {G : Gh} {H : Hp} (w : Wld G H) (xs : List Addr) : Go G xs H H := ⟨w, w, fun _ _ e _ _ => e, fun _ _ e => e⟩
theorem Go.trans {G : Gh} {xs : List Addr} {H H1 H2 : Hp} (a : Go G xs H H1) (b : Go G xs H1 H2) : Go G xs H H2 := ⟨a.w, b.w', fun p o e n m => b.k p o (a.k p o e n m) n m, fun p hp e => b.x p hp (a.x p hp e)⟩
theorem Wld.same {G : Gh} {H H' : Hp} (w : Wld G H) (s : Same H H') : Wld G H' := fun d tab e => by
  obtain ⟨kvs, h1, h2⟩ := w d tab e
  exact ⟨kvs, s _ _ h1, h2⟩
theorem Go.of {G : Gh} {xs : List Addr} {H H' : Hp} (w : Wld G H) (s : Same H H') : Go G xs H H' := ⟨w, w.same s, fun p o e _ _ => s p o e, fun p _ e => by
  cases q : H p with
  | none => exact absurd q e
  | some o => rw [s p o q]; simp⟩
theorem Go.more {G : Gh} {xs : List Addr} {H H' : Hp} (ys : List Addr) (a : Go G [] H H') (hy : ∀ y ∈ ys, ∀ o, H y = some o → H' y ≠ none) : Go G ys H H' := ⟨a.w, a.w', fun b o e n _ => a.k b o e n (by simp), fun b hb e => by
  cases q : H b with
  | none => exact absurd q e
  | some o => exact hy b hb o q⟩
theorem Wld.no {G : Gh} {H : Hp} (w : Wld G H) {b : Addr} {o : HO} (e : H b = some o) (n : ∀ y, o ≠ .dT y) : G.d b = none := by
  cases q : G.d b with
  | none => rfl
  | some tab =>
    obtain ⟨kvs, h1, _⟩ := w b tab q
    rw [e] at h1; exact absurd (Option.some.inj h1) (n kvs)
theorem Wld.new {G : Gh} {H : Hp} (w : Wld G H) {b : Addr} (e : H b = none) : G.d b = none := by
  cases q : G.d b with
  | none => rfl
  | some tab =>
    obtain ⟨kvs, h1, _⟩ := w b tab q
    rw [e] at h1; cases h1
/-- what isn't a dict stands -/
theorem Go.at {G : Gh} {xs : List Addr} {H H' : Hp} (a : Go G xs H H') {b : Addr} {o : HO} (e : H b = some o) (m : b ∉ xs) (n : ∀ y, o ≠ .dT y := by intro _ z; cases z) : H' b = some o := a.k b o e (a.w.no e n) m
theorem Go.at0 {G : Gh} {H H' : Hp} (a : Go G [] H H') {b : Addr} {o : HO} (e : H b = some o) (n : ∀ y, o ≠ .dT y := by intro _ z; cases z) : H' b = some o := a.at e (by simp) n
theorem Go.seq {G : Gh} {H H' : Hp} (a : Go G [] H H') {K : PySem.W.Frag} {b : Addr} {ys : List V} (h : SqL K H b ys) : SqL K H' b ys := by
  rcases h with (h | ⟨o, h⟩) | h
  · exact .inl (.inl (a.at0 h))
  · exact .inl (.inr ⟨o, a.at0 h⟩)
  · exact .inr h
theorem Go.free {G : Gh} {xs : List Addr} {H H' : Hp} (a : Go G xs H H') {b : Addr} (h : H' b = none) : H b = none := by
  cases q : H b with
  | none => rfl
  | some o =>
    cases g : G.d b with
    | some tab =>
      obtain ⟨kvs, h1, _⟩ := a.w' b tab g
      rw [h] at h1; cases h1
    | none =>
      by_cases m : b ∈ xs
      · exact absurd h (a.x b m (by rw [q]; simp))
      · rw [a.k b o q g m] at h; cases h
/-- a thing that's new is put in -/
theorem Go.put {G : Gh} {xs : List Addr} {H H' : Hp} (a : Go G xs H H') {p : Addr} (o : HO) (h : H' p = none) : Go G xs H (upd H' p o) := a.trans (.of a.w' (Same.upd o h))
/-- a thing of ours, no dict of chunks, is written on -/
theorem Wld.upd {G : Gh} {H : Hp} (w : Wld G H) {p : Addr} (o : HO) (h : G.d p = none) : Wld G (L2.upd H p o) := fun d tab e => by
  obtain ⟨kvs, h1, h2⟩ := w d tab e
  exact ⟨kvs, by rw [upd_ne (fun z => by rw [z, h] at e; cases e)]; exact h1, h2⟩
theorem Go.write {G : Gh} {xs : List Addr} {H H' : Hp} (a : Go G xs H H') {p : Addr} (o : HO) (h : G.d p = none) (hx : p ∈ xs ∨ H p = none) : Go G xs H (L2.upd H' p o) :=
  ⟨a.w, a.w'.upd o h, fun b u e n m => by
    rw [upd_ne (fun z => by
      subst z
      rcases hx with hx | hx
      · exact m hx
      · rw [hx] at e; cases e)]
    exact a.k b u e n m, fun b hb e => by
    by_cases z : b = p
    · subst z; rw [upd_same]; simp
    · rw [upd_ne z]; exact a.x b hb e⟩

/-- fewer things may be written on -/
theorem Go.wide {G : Gh} {H H' : Hp} (a : Go G [] H H') (xs : List Addr) : Go G xs H H' := ⟨a.w, a.w', fun b o e n _ => a.k b o e n (by simp), fun b _ e z => e (a.free z)⟩
/-- what's no instance stands, if but an instance is written on -/
theorem Go.atx {G : Gh} {H H' : Hp} {x : Addr} (a : Go G [x] H H') (hx : ∃ c d f, H x = some (.ins c d f)) {b : Addr} {o : HO} (e : H b = some o) (n : ∀ y, o ≠ .dT y := by intro _ z; cases z) (n2 : ∀ c d f, o ≠ .ins c d f := by intro _ _ _ z; cases z) : H' b = some o := a.at e (fun m => by
  obtain ⟨c, d, f, hx⟩ := hx
  simp at m; subst m
  rw [e] at hx; exact n2 _ _ _ (Option.some.inj hx)) n

/-! ### what's fixed: lists of ours, tuples, instances but ways and sessions -/
def Fix (G : Gh) (b : Addr) : HO → Prop
  | .lst _ => ¬ G.f b
  | .tup _ => True
  | .ins _ _ ((k, _) :: _) => ¬ k = ("places" : Str) ∧ ¬ k = ("modes_there" : Str)
  | _ => False
def Std (G : Gh) (H H' : Hp) : Prop := ∀ b o, H b = some o → Fix G b o → H' b = some o
/-- such are ways -/
def Ways (H : Hp) (xs : List Addr) : Prop := ∀ b ∈ xs, ∃ c d v r, H b = some (.ins c d (("places", v) :: r))
theorem Ways.nil {H : Hp} : Ways H [] := fun b hb => by cases hb
theorem Std.of {G : Gh} {H H' : Hp} (s : Same H H') : Std G H H' := fun b o e _ => s b o e
theorem Std.trans {G : Gh} {H H1 H2 : Hp} (a : Std G H H1) (b : Std G H1 H2) : Std G H H2 := fun p o e f => b p o (a p o e f) f
theorem Go.std {G : Gh} {xs : List Addr} {H H' : Hp} (a : Go G xs H H') (hx : Ways H xs := by exact Ways.nil) : Std G H H' := fun b o e f => a.k b o e (a.w.no e (fun y z => by subst z; exact f)) (fun m => by
  obtain ⟨c, d, v, r, h⟩ := hx b m
  rw [e] at h
  have h := Option.some.inj h
  subst h
  exact f.1 rfl)
/-- a foreign list, or a session, is written on -/
theorem Std.upd {G : Gh} {H : Hp} {p : Addr} (o' : HO) (h : ∀ o, H p = some o → ¬ Fix G p o) : Std G H (L2.upd H p o') := fun b o e f => by
  rw [upd_ne (fun z => by subst z; exact h o e f)]; exact e
end Mp

-- MpPat
set_option maxRecDepth 100000
set_option maxHeartbeats 2000000
/-! Patterns read from a list. -/
namespace Mp
open PySem PySem.Spec PyProof.Rows L2
open Mx (readSpan readMembers readPart readLoop readPattern innerOf)

/-- a part as it is told: its sort, its bytes, how many numbers -/
def PartAt (H0 H : Hp) (p : Addr) (x : Nat × List Nat × Nat) : Prop := ∃ m, H0 m = none ∧ H p = some (.tup [iv x.1, .ref m, iv x.2.2]) ∧ H m = some (.lst (ivs x.2.1))
/-- none, or the part in a new tuple -/
def spPart (K : PySem.W.Frag) (f : List Nat → Nat → Option (Nat × List Nat × Nat)) (ok : List Nat → Nat → Prop) : Sp := fun vs H Q _ => ∃ (a : Addr) (row : List Nat) (i : Nat), vs = [.ref a, iv i] ∧ SqL K H a (ivs row) ∧ row.length ≤ 1024 ∧ ok row i ∧
  (f row i = none → ∀ H', Same H H' → Q .non H') ∧ (∀ x, f row i = some x → ∀ H' p, Same H H' → PartAt H H' p x → Q (.ref p) H')
def spReadSpan (K : PySem.W.Frag) : Sp := spPart K (fun row i => readSpan (row.drop (i + 1))) (fun _ _ => True)

theorem drop_at {l : List Nat} {i n : Nat} (h : l[i]? = some n) : l.drop i = n :: l.drop (i + 1) := by
  obtain ⟨hlt, rfl⟩ := List.getElem?_eq_some_iff.mp h
  exact List.drop_eq_getElem_cons hlt
theorem some_at {l : List Nat} {i : Nat} (h : i < l.length) : ∃ n, l[i]? = some n := ⟨_, List.getElem?_eq_getElem h⟩

theorem rgV_ivs (a b : Nat) : rgV (a : Int) (b : Int) = ivs (List.range' a (b - a)) := by
  unfold rgV ivs
  rw [List.range'_eq_map_range, List.map_map]
  have e : ((b : Int) - (a : Int)).toNat = b - a := by omega
  rw [e]
  apply List.map_congr_left
  intro i _
  show V.int ((a : Int) + (i : Int)) = V.int (((a + i : Nat) : Int))
  rw [Int.natCast_add]

section
variable {P : Program} {w : World} {K : PySem.W.Frag} {mg : Str → Option Value} {base : Heap}
theorem scReadSpan : FnScope ["row", "at", "low", "high"] ["row", "at"] (defScope sReadSpan) := ⟨rfl, rfl, rfl, by decide +kernel, rfl, by decide +kernel, by decide +kernel⟩
theorem ok_readSpan {f : Addr} {fd : FuncData} (F : Fun K "read_span" "read_span" sReadSpan f fd) (T : Txt K mg) : FnOk P w K mg base CX0 1 f fd ["row", "at"] (spReadSpan K) := by
  obtain ⟨t1, m1⟩ := T.TOP_BYTE
  obtain ⟨t2, m2⟩ := T.ONE_BYTE
  refine F.ok scReadSpan (fun vs H Q E h => ?_) (fun cdv A outer s H vs Q E hr h => ?_)
  · obtain ⟨a, row, i, rfl, _⟩ := h; rfl
  · obtain ⟨a, row, i, rfl, lq, len, _, kN, kS⟩ := h
    simp only [] at kN kS
    refine ⟨_, pss_cons (ps_if ((L2.pt_cmpR op_ge (pe_op op_add (pv 1) pe_int) (L2.pe_callB L2.call_len_seq (by rfl) T.len PySem.boot_len (L2.pa_cons (pv 0) L2.pa_nil)) (L2.nomark _))) (pss_one (ps_ret pe_non)) pss_nil)
      (pss_cons ((L2.ps_set (i := 2) scReadSpan.nd rfl (Or.inl rfl) (L2.pe_ix L2.ix_list (pv 0) (pe_op op_add (pv 1) pe_int) (fun _ _ => rfl))))
      (pss_cons ((L2.ps_set (i := 3) scReadSpan.nd rfl (Or.inl rfl) (L2.pe_ix L2.ix_list (pv 0) (pe_op op_add (pv 1) pe_int) (fun _ _ => rfl))))
      (pss_cons (ps_if (PW.pt (pw_or ((L2.pt_cmpR op_gt (pv 2) (pv 3) (L2.nomark _))) (pw_or1 ((L2.pt_cmpR op_gt (pv 3) (pgc m1) (L2.nomark _)))))) (pss_one (ps_ret pe_non)) pss_nil)
      (pss_one (ps_ret (pe_tup (pa_cons (pgc m2) (pa_cons (pe_listRg rfl (by rfl) T.list (prg_2 (by rfl) T.range (pv 2) (pe_op op_add (pv 3) pe_int))) (pa_cons pe_int pa_nil))))))))), ?_⟩
    refine ⟨_, rfl, _, _, rfl, rfl, _, rfl, a, _, rfl, .inl lq, _, _, rfl, rfl, _, rfl, ?_⟩
    rw [ivs_len]
    refine ite2 (fun c => ?_) (fun c => ?_)
    · have c : row.length ≤ i + 2 := by simp at c; omega
      refine kN ?_ _ (Same.refl _)
      by_cases h1 : row.length ≤ i + 1
      · rw [List.drop_of_length_le h1]; rfl
      · obtain ⟨n, hn⟩ := some_at (l := row) (i := i + 1) (by omega)
        rw [drop_at hn, List.drop_of_length_le c]; rfl
    · have c : i + 2 < row.length := by simp at c; omega
      obtain ⟨lo, hlo⟩ := some_at (l := row) (i := i + 1) (by omega)
      obtain ⟨hi, hhi⟩ := some_at (l := row) (i := i + 2) c
      have e : readSpan (row.drop (i + 1)) = if hi < lo ∨ 255 < hi then none else some (1, List.range' lo (hi + 1 - lo), 3) := by
        rw [drop_at hlo, drop_at hhi]; rfl
      refine ⟨_, rfl, _, rfl, _, _, rfl, rfl, a, _, _, _, rfl, rfl, lq, at_of (j := i + 1) (by omega) (ivs_at hlo), ?_⟩
      refine ⟨_, rfl, _, rfl, _, _, rfl, rfl, a, _, _, _, rfl, rfl, lq, at_of (j := i + 2) (by omega) (ivs_at hhi), ?_⟩
      refine ⟨_, rfl, _, rfl, _, _, rfl, rfl, _, rfl, ?_⟩
      by_cases h1 : hi < lo
      · rw [decide_eq_true (by omega)]
        refine iteT (iteT ?_)
        exact kN (by rw [e, if_pos (.inl h1)]) _ (Same.refl _)
      · rw [decide_eq_false (by omega)]
        refine iteF ⟨_, rfl, _, _, rfl, rfl, _, rfl, ?_⟩
        by_cases h2 : 255 < hi
        · rw [decide_eq_true (by omega)]
          refine iteT ?_
          exact kN (by rw [e, if_pos (.inr h2)]) _ (Same.refl _)
        · rw [decide_eq_false (by omega)]
          refine iteF ?_
          refine ⟨_, rfl, _, rfl, _, _, rfl, rfl, _, _, rfl, rfl, ⟨by omega, by omega, by omega, by omega, by omega⟩, fun m hm => ⟨by show 3 ≤ sizeLine; decide, fun p hp => ?_⟩⟩
          refine kS _ (by rw [e, if_neg (by omega)]) _ _ ((Same.upd _ hm).trans (Same.upd _ hp)) ⟨m, hm, upd_same, ?_⟩
          rw [upd_ne (ne_of_none upd_same hp), upd_same]
          rw [show ((hi : Int) + 1) = ((hi + 1 : Nat) : Int) from rfl, rgV_ivs]

def spReadMembers (K : PySem.W.Frag) : Sp := spPart K (fun row i => readMembers (row.getD i 0) (row.drop (i + 1))) (fun row i => i < row.length)
theorem scReadMembers : FnScope ["row", "at", "size", "told", "others", "byte"] ["row", "at"] (defScope sReadMembers) := ⟨rfl, rfl, rfl, by decide +kernel, rfl, by decide +kernel, by decide +kernel⟩
theorem ok_readMembers {f : Addr} {fd : FuncData} (F : Fun K "read_members" "read_members" sReadMembers f fd) (T : Txt K mg) : FnOk P w K mg base CX0 1 f fd ["row", "at"] (spReadMembers K) := by
  obtain ⟨t1, m1⟩ := T.TOP_BYTE
  obtain ⟨t2, m2⟩ := T.ONE_BYTE
  refine F.ok scReadMembers (fun vs H Q E h => ?_) (fun cdv A outer s H vs Q E hr h => ?_)
  · obtain ⟨a, row, i, rfl, _⟩ := h; rfl
  · obtain ⟨a, row, i, rfl, lq, len, hi, kN, kS⟩ := h
    simp only [] at kN kS hi
    have nd := scReadMembers.nd
    refine ⟨_, (L2.pss_cons (L2.ps_if (L2.pt_cmpR op_ge (pe_op op_add (pv 1) pe_int) (L2.pe_callB L2.call_len_seq (by rfl) T.len PySem.boot_len (L2.pa_cons (pv 0) L2.pa_nil)) (L2.nomark _)) (L2.pss_one (ps_ret pe_non)) L2.pss_nil)
      (L2.pss_cons (L2.ps_set (i := 2) nd rfl (Or.inl rfl) (L2.pe_ix L2.ix_list (pv 0) (pe_op op_add (pv 1) pe_int) (fun _ _ => rfl)))
      (L2.pss_cons (ps_set (i := 3) nd rfl (Or.inr rfl) (pe_slice sl_list (pv 0) (po_some (pe_op op_add (pv 1) pe_int)) po_none))
      (L2.pss_cons (L2.ps_if (L2.pt_cmpR op_gt (pv 2) (L2.pe_callB L2.call_len_seq (by rfl) T.len PySem.boot_len (L2.pa_cons (pv 3) L2.pa_nil)) (L2.nomark _)) (L2.pss_one (ps_ret pe_non)) L2.pss_nil)
      (L2.pss_cons (ps_set (i := 3) nd rfl (Or.inr rfl) (pe_slice sl_list (pv 3) po_none (po_some (pv 2))))
      (L2.pss_cons (L2.ps_if (PW.pt (pw_and ((L2.pt_cmpR op_gt (pv 2) pe_int (L2.nomark _))) (pw_and1 ((L2.pt_cmpR op_gt (pe_callB (cr_max rfl) (by rfl) T.max (by decide +kernel) ((L2.pa_cons (pv 3) L2.pa_nil))) (pgc m1) (L2.nomark _)))))) (L2.pss_one (ps_ret pe_non)) L2.pss_nil)
      (L2.pss_cons (L2.ps_if (L2.pt_cmpR op_eq (L2.pe_ix L2.ix_list (pv 0) (pv 1) (fun _ _ => rfl)) (pgc m2) (L2.nomark _)) (L2.pss_one (ps_ret (pe_ifExp ((L2.pt_cmpR op_eq (pv 2) pe_int (L2.nomark _))) pe_non (pe_tup ((L2.pa_cons (pgc m2) (L2.pa_cons (pv 3) (L2.pa_cons (pe_op op_add pe_int (pv 2)) L2.pa_nil)))))))) L2.pss_nil)
      (L2.pss_cons (ps_setLc (i := 4) (own := [("byte", 5)]) (g := gName 5) rfl nd rfl rfl (sw_true rfl rfl rfl (by decide +kernel)) (pi_range1 (by rfl) T.range ((L2.pa_cons (pe_op op_add (pgc m1) pe_int) L2.pa_nil))) (blkOk_by (N := ["row", "at", "size", "told", "others", "byte"]) (sc := defScope sReadMembers) (by decide +kernel))
          (fun _ _ _ _ _ => pg_name (i := 5) nd rfl (Or.inl rfl)) (fun _ _ _ _ _ => pts_one (pt_cmpR (show OpR _ (compareOp .NotIn) (rIn K true) from op_notIn_seq) (pv 5) (pv 3) (by rfl))) (fun _ _ _ _ _ => pv 5))
      (L2.pss_one (ps_ret (pe_tup ((L2.pa_cons (pgc m2) (L2.pa_cons (pv 4) (L2.pa_cons (pe_op op_add pe_int (pv 2)) L2.pa_nil))))))))))))))), ?_⟩
    refine ⟨_, rfl, _, _, rfl, rfl, _, rfl, a, _, rfl, .inl lq, _, _, rfl, rfl, _, rfl, ?_⟩
    rw [ivs_len]
    refine ite2 (fun c => ?_) (fun c => ?_)
    · have c : row.length ≤ i + 1 := by simp at c; omega
      exact kN (by rw [List.drop_of_length_le c]; rfl) _ (Same.refl _)
    · have c : i + 1 < row.length := by simp at c; omega
      obtain ⟨k, hk⟩ := some_at (l := row) (i := i + 1) c
      obtain ⟨n, hn⟩ := some_at (l := row) (i := i) hi
      have en : row.getD i 0 = n := by rw [List.getD_eq_getElem?_getD, hn]; rfl
      rw [en] at kN kS
      rw [drop_at hk] at kN kS
      refine ⟨_, rfl, _, rfl, _, _, rfl, rfl, a, _, _, _, rfl, rfl, lq, at_of (j := i + 1) (by omega) (ivs_at hk), ?_⟩
      refine ⟨_, rfl, _, rfl, _, _, rfl, rfl, _, rfl, a, _, rfl, lq, fun p1 hp1 => ?_⟩
      have e1 : cutV (ivs row) (some ((i : Int) + 2)) none = ivs (row.drop (i + 2)) := by
        rw [show ((i : Int) + 2) = ((i + 2 : Nat) : Int) from rfl, cut_from, ivs_drop]
      rw [e1]
      have l1 : SqL K (upd H p1 (.lst (ivs (row.drop (i + 2))))) p1 (ivs (row.drop (i + 2))) := sqL_of upd_same
      have s1 := Same.upd (.lst (ivs (row.drop (i + 2)))) hp1
      generalize upd H p1 (.lst (ivs (row.drop (i + 2)))) = H1 at *
      generalize row.drop (i + 2) = r at *
      refine ⟨_, rfl, _, rfl, p1, _, rfl, .inl l1, _, _, rfl, rfl, _, rfl, ?_⟩
      rw [ivs_len]
      refine ite2 (fun c2 => ?_) (fun c2 => ?_)
      · have c2 : r.length < k := by simp at c2; omega
        exact kN (by rw [Mx.rm, if_pos (.inl c2)]) _ s1
      · have c2 : ¬ r.length < k := by simp at c2; omega
        refine ⟨_, rfl, _, rfl, _, rfl, p1, _, rfl, l1, fun p2 hp2 => ?_⟩
        rw [cut_upto, ivs_take]
        have l2 : SqL K (upd H1 p2 (.lst (ivs (r.take k)))) p2 (ivs (r.take k)) := sqL_of upd_same
        have h2 : upd H1 p2 (.lst (ivs (r.take k))) p2 = some (.lst (ivs (r.take k))) := upd_same
        have s2 := s1.trans (Same.upd (.lst (ivs (r.take k))) hp2)
        generalize upd H1 p2 (.lst (ivs (r.take k))) = H2 at *
        have ltk : (r.take k).length = k := by rw [List.length_take]; omega
        have l2' := l2
        rw [ivs_ints] at l2'
        apply onward
        apply if_ev ((r.take k).any fun b => decide (255 < b)) H2
        · intro Q' q
          refine ⟨_, rfl, _, _, rfl, rfl, _, rfl, ?_⟩
          by_cases k0 : 0 < k
          · rw [decide_eq_true (show (0 : Int) < (k : Int) by omega)]
            refine iteT ⟨_, rfl, p2, _, rfl, l2', by rw [List.length_map, ltk]; exact k0, fun m hm hle => ⟨_, _, rfl, rfl, _, rfl, ?_⟩⟩
            have e : decide ((255 : Int) < m) = (r.take k).any fun b => decide (255 < b) := by
              obtain ⟨b, hb1, rfl⟩ := List.mem_map.mp hm
              rw [Bool.eq_iff_iff, List.any_eq_true, decide_eq_true_eq]
              constructor
              · intro h; exact ⟨b, hb1, decide_eq_true (by omega)⟩
              · rintro ⟨c, hc, h⟩
                have := hle _ (List.mem_map.mpr ⟨c, hc, rfl⟩)
                have := of_decide_eq_true h; omega
            rw [e]; exact q
          · rw [decide_eq_false (show ¬ (0 : Int) < (k : Int) by omega)]
            have e : k = 0 := by omega
            subst e; exact iteF q
        refine ite2 (fun hb => kN (by rw [Mx.rm, if_pos (.inr hb)]) _ s2) (fun hb => ?_)
        have small := Mx.any_big.mp hb
        have e : readMembers n (k :: r) = if n = 1 then (if k = 0 then none else some (1, r.take k, 2 + k)) else some (1, Mx.others (r.take k), 2 + k) := by
          rw [Mx.rm, if_neg (not_or.mpr ⟨c2, Mx.any_big.mpr small⟩)]
        refine ⟨_, rfl, _, rfl, a, _, _, _, rfl, rfl, s2.seq lq, atI_nat (ivs_at hn), rfl, _, rfl, ?_⟩
        by_cases n1 : n = 1
        · subst n1
          rw [if_pos rfl] at e
          refine if_true_of (decide_eq_true rfl) ⟨_, rfl, rfl, _, rfl, ?_⟩
          by_cases k0 : k = 0
          · subst k0
            exact if_true_of (decide_eq_true rfl) (kN (by rw [e, if_pos rfl]) _ s2)
          · rw [if_neg k0] at e
            refine if_false_of (decide_eq_false (fun z => by injection z with z; omega)) ⟨_, rfl, _, rfl, _, _, rfl, rfl, by show 3 ≤ sizeLine; decide, fun p hp => ?_⟩
            refine kS _ e _ _ (s2.trans (Same.upd _ hp)) ⟨p2, s1.free hp2, upd_same, ?_⟩
            rw [upd_ne (ne_of_none h2 hp)]; exact h2
        · rw [if_neg n1] at e
          refine if_false_of (decide_eq_false (fun z => by injection z with z; omega)) ?_
          refine ⟨_, _, rfl, rfl, 256, rfl, by decide, by decide, fun D hD => ?_⟩
          refine lc_range (lo := 0) (n := 256) (fun i H' => H' = upd H2 D (.lst (ivs ((List.range i).filter fun b => !(r.take k).contains b)))) rfl ?_ ?_
          · rintro j H' hj rfl
            have l3 : SqL K (upd H2 D (.lst (ivs ((List.range j).filter fun b => !(r.take k).contains b)))) p2 (ivs (r.take k)) := (Same.upd _ hD).seq l2
            refine ⟨rfl, _, rfl, _, rfl, p2, _, rfl, .inl l3, rfl, ivs_flat _, _, rfl, ?_⟩
            rw [Int.zero_add]
            show (if (!inV (iv j) (ivs (r.take k))) = true then _ else _)
            rw [ivs_in]
            refine ite2 (fun hb => ?_) (fun hb => ?_)
            · refine ⟨_, rfl, _, upd_same, ?_, ?_⟩
              · rw [ivs_len]; exact Nat.lt_of_le_of_lt (List.length_filter_le _ _) (by rw [List.length_range]; exact Nat.lt_of_lt_of_le hj (by decide))
              · rw [upd_upd, List.range_succ, List.filter_append]
                simp only [List.filter_cons, hb, if_true, List.filter_nil, ivs, List.map_append]; rfl
            · rw [List.range_succ, List.filter_append]
              simp only [List.filter_cons, hb, List.filter_nil, Bool.false_eq_true, if_false, List.append_nil]
          · rintro H' rfl
            refine ⟨_, rfl, _, rfl, _, _, rfl, rfl, by show 3 ≤ sizeLine; decide, fun p hp => ?_⟩
            refine kS _ e _ _ ((s2.trans (Same.upd _ hD)).trans (Same.upd _ hp)) ⟨D, s2.free hD, upd_same, ?_⟩
            rw [upd_ne (ne_of_none upd_same hp), upd_same]; rfl

def spReadPart (K : PySem.W.Frag) : Sp := spPart K (fun row i => readPart (row.drop i)) (fun _ _ => True)
theorem scReadPart : FnScope ["row", "at", "sort"] ["row", "at"] (defScope sReadPart) := ⟨rfl, rfl, rfl, by decide +kernel, rfl, by decide +kernel, by decide +kernel⟩
theorem ok_readPart {f f1 f2 : Addr} {fd fd1 fd2 : FuncData} (F : Fun K "read_part" "read_part" sReadPart f fd) (T : Txt K mg)
    (D1 : Df K mg "read_members" sReadMembers ["row", "at"] f1 fd1) (D2 : Df K mg "read_span" sReadSpan ["row", "at"] f2 fd2) : FnOk P w K mg base CX0 2 f fd ["row", "at"] (spReadPart K) := by
  obtain ⟨t1, m1⟩ := T.FROM_TO
  obtain ⟨t2, m2⟩ := T.ONE_BYTE
  obtain ⟨t3, m3⟩ := T.NONE_OF
  have G1 : FnOk P w K mg base CX0 1 f1 fd1 ["row", "at"] (spReadMembers K) := ok_readMembers D1.F T
  have G2 : FnOk P w K mg base CX0 1 f2 fd2 ["row", "at"] (spReadSpan K) := ok_readSpan D2.F T
  refine F.ok scReadPart (fun vs H Q E h => ?_) (fun cdv A outer s H vs Q E hr h => ?_)
  · obtain ⟨a, row, i, rfl, _⟩ := h; rfl
  · obtain ⟨a, row, i, rfl, lq, len, _, kN, kS⟩ := h
    simp only [] at kN kS
    have nd := scReadPart.nd
    refine ⟨_, (L2.pss_cons (L2.ps_if (PW.pt (pw_or ((L2.pt_cmpR op_ge (pv 1) (L2.pe_callB L2.call_len_seq (by rfl) T.len PySem.boot_len (L2.pa_cons (pv 0) L2.pa_nil)) (L2.nomark _))) (pw_or1 ((L2.pt_cmpR op_gt (L2.pe_ix L2.ix_list (pv 0) (pv 1) (fun _ _ => rfl)) (pgc m1) (L2.nomark _)))))) (L2.pss_one (ps_ret pe_non)) L2.pss_nil)
      (L2.pss_cons (L2.ps_set (i := 2) nd rfl (Or.inl rfl) (L2.pe_ix L2.ix_list (pv 0) (pv 1) (fun _ _ => rfl)))
      (L2.pss_cons (L2.ps_if (PW.pt (pw_or ((L2.pt_cmpR op_eq (pv 2) (pgc m2) (L2.nomark _))) (pw_or1 ((L2.pt_cmpR op_eq (pv 2) (pgc m3) (L2.nomark _)))))) (L2.pss_one (ps_ret ((L2.pe_call G1 hr (by rfl) (Mp.Df.g D1) (Mp.Df.F D1).kp (Mp.Df.b D1) .nil L2.pass0 (L2.pa_cons (pv 0) (L2.pa_cons (pv 1) L2.pa_nil)))))) L2.pss_nil)
      (L2.pss_cons (L2.ps_if (L2.pt_cmpR op_eq (pv 2) (pgc m1) (L2.nomark _)) (L2.pss_one (ps_ret ((L2.pe_call G2 hr (by rfl) (Mp.Df.g D2) (Mp.Df.F D2).kp (Mp.Df.b D2) .nil L2.pass0 (L2.pa_cons (pv 0) (L2.pa_cons (pv 1) L2.pa_nil)))))) L2.pss_nil)
      (L2.pss_one (ps_ret (pe_tup ((L2.pa_cons (pv 2) (L2.pa_cons (pe_lst L2.pa_nil) (L2.pa_cons pe_int L2.pa_nil))))))))))), ?_⟩
    refine ⟨_, rfl, _, rfl, a, _, rfl, .inl lq, _, _, rfl, rfl, _, rfl, ?_⟩
    rw [ivs_len]
    by_cases c : row.length ≤ i
    · rw [decide_eq_true (by omega)]
      exact iteT (iteT (kN (by rw [List.drop_of_length_le c]; rfl) _ (Same.refl _)))
    · obtain ⟨n, hn⟩ := some_at (l := row) (i := i) (by omega)
      rw [drop_at hn, Mx.rp] at kN kS
      rw [decide_eq_false (by omega)]
      refine iteF ⟨_, rfl, _, rfl, a, _, _, _, rfl, rfl, lq, atI_nat (ivs_at hn), _, _, rfl, rfl, _, rfl, ?_⟩
      by_cases c8 : 8 < n
      · rw [decide_eq_true (by omega)]
        exact iteT (kN (by rw [if_pos c8]) _ (Same.refl _))
      · rw [if_neg c8] at kN kS
        rw [decide_eq_false (by omega)]
        refine iteF ⟨_, rfl, _, rfl, a, _, _, _, rfl, rfl, lq, atI_nat (ivs_at hn), ?_⟩
        have en : row.getD i 0 = n := by rw [List.getD_eq_getElem?_getD, hn]; rfl
        have eqd : ∀ m : Nat, decide (V.int (n : Int) = V.int (m : Int)) = decide (n = m) := fun m => by
          rw [decide_eq_decide]; constructor
          · intro z; injection z with z; omega
          · rintro rfl; rfl
        dsimp only [gName]
        apply if_ev (decide (n = 1 ∨ n = 2)) H
        · intro Q' q
          refine ⟨_, rfl, rfl, _, rfl, ?_⟩
          rw [show decide (V.int (n : Int) = V.int 1) = decide (n = 1) from eqd 1]
          by_cases n1 : n = 1
          · rw [decide_eq_true n1]; rw [decide_eq_true (.inl n1)] at q; exact iteT q
          · rw [decide_eq_false n1]
            refine iteF ⟨_, rfl, rfl, _, rfl, ?_⟩
            rw [show decide (V.int (n : Int) = V.int 2) = decide (n = 2) from eqd 2]
            have e : decide (n = 1 ∨ n = 2) = decide (n = 2) := by rw [decide_eq_decide]; simp [n1]
            rw [e] at q; exact q
        refine ite2 (fun c12 => ?_) (fun c12 => ?_)
        · have c12 := of_decide_eq_true c12
          rw [if_pos c12] at kN kS
          refine ⟨_, rfl, _, rfl, a, row, i, rfl, lq, len, by omega, ?_, ?_⟩
          · simp only [en]; exact kN
          · simp only [en]; exact kS
        · have c12 : ¬ (n = 1 ∨ n = 2) := fun z => c12 (decide_eq_true z)
          rw [if_neg c12] at kN kS
          refine ⟨_, rfl, rfl, _, rfl, ?_⟩
          rw [show decide (V.int (n : Int) = V.int 8) = decide (n = 8) from eqd 8]
          by_cases c8 : n = 8
          · rw [if_pos c8] at kN kS
            refine if_true_of (decide_eq_true c8) ⟨_, rfl, _, rfl, a, row, i, rfl, lq, len, trivial, kN, kS⟩
          · rw [if_neg c8] at kN kS
            refine if_false_of (decide_eq_false c8) ⟨_, rfl, Nat.zero_le _, fun m hm => ⟨by show 3 ≤ sizeLine; decide, fun p hp => ?_⟩⟩
            refine kS _ rfl _ _ ((Same.upd _ hm).trans (Same.upd _ hp)) ⟨m, hm, upd_same, ?_⟩
            rw [upd_ne (ne_of_none upd_same hp), upd_same]; rfl
end
end Mp

-- MpPat2
set_option maxRecDepth 100000
set_option maxHeartbeats 2000000
/-! A pattern read from a list, part by part. -/
namespace Mp
open PySem PySem.Spec PyProof.Rows L2
open Mx (readSpan readMembers readPart readLoop readPattern innerOf)

/-- the parts' tuples, their bytes in lists that were not there in H0 -/
def PartsIn (H0 H : Hp) : List Addr → List (Nat × List Nat) → Prop
  | [], [] => True
  | t :: ts, x :: xs => (∃ m, H0 m = none ∧ H t = some (.tup [iv x.1, .ref m]) ∧ H m = some (.lst (ivs x.2))) ∧ PartsIn H0 H ts xs
  | _, _ => False
theorem PartsIn.mono {H0 H H' : Hp} : ∀ {ts : List Addr} {xs : List (Nat × List Nat)}, PartsIn H0 H ts xs →
    (∀ t y, H t = some (.tup y) → H' t = some (.tup y)) → (∀ m y, H0 m = none → H m = some (.lst y) → H' m = some (.lst y)) → PartsIn H0 H' ts xs
  | [], [], _, _, _ => trivial
  | _ :: _, _ :: _, ⟨⟨m, h0, h1, h2⟩, r⟩, kt, kl => ⟨⟨m, h0, kt _ _ h1, kl _ _ h0 h2⟩, PartsIn.mono r kt kl⟩
  | [], _ :: _, h, _, _ => h.elim
  | _ :: _, [], h, _, _ => h.elim
theorem PartsIn.snoc {H0 H : Hp} {t m : Addr} {x : Nat × List Nat} (h0 : H0 m = none) (h1 : H t = some (.tup [iv x.1, .ref m])) (h2 : H m = some (.lst (ivs x.2))) :
    ∀ {ts : List Addr} {xs : List (Nat × List Nat)}, PartsIn H0 H ts xs → PartsIn H0 H (ts ++ [t]) (xs ++ [x])
  | [], [], _ => ⟨⟨m, h0, h1, h2⟩, trivial⟩
  | _ :: _, _ :: _, ⟨a, r⟩ => ⟨a, PartsIn.snoc h0 h1 h2 r⟩
  | [], _ :: _, h => h.elim
  | _ :: _, [], h => h.elim
theorem PartsIn.base {H0 H1 H : Hp} (k : ∀ m, H0 m = none → H1 m = none) : ∀ {ts : List Addr} {xs : List (Nat × List Nat)}, PartsIn H0 H ts xs → PartsIn H1 H ts xs
  | [], [], _ => trivial
  | _ :: _, _ :: _, ⟨⟨m, h0, h1, h2⟩, r⟩ => ⟨⟨m, k m h0, h1, h2⟩, PartsIn.base k r⟩
  | [], _ :: _, h => h.elim
  | _ :: _, [], h => h.elim
theorem PartsIn.len {H0 H : Hp} : ∀ {ts : List Addr} {xs : List (Nat × List Nat)}, PartsIn H0 H ts xs → ts.length = xs.length
  | [], [], _ => rfl
  | _ :: _, _ :: _, ⟨_, r⟩ => by rw [List.length_cons, List.length_cons, PartsIn.len r]
  | [], _ :: _, h => h.elim
  | _ :: _, [], h => h.elim

theorem readPart_sort {l : List Nat} {x : Nat × List Nat × Nat} (h : readPart l = some x) : x.1 < 9 := by
  cases l with
  | nil => cases h
  | cons n r =>
    rw [Mx.rp] at h
    split at h
    · cases h
    · split at h
      · cases r with
        | nil => cases h
        | cons k r =>
          rw [Mx.rm] at h
          split at h
          · cases h
          · split at h
            · split at h
              · cases h
              · cases h; show 1 < 9; decide
            · cases h; show 1 < 9; decide
      · split at h
        · match r with
          | [] => cases h
          | [_] => cases h
          | a :: b :: r =>
            rw [Mx.rs] at h
            split at h
            · cases h
            · cases h; show 1 < 9; decide
        · cases h; show n < 9; omega
theorem inner_at {n : Nat} (h : n < 9) : ([0, 0, 0, 2, 2, 1, 1, 1, 0] : List Nat)[n]? = some (innerOf n) := by
  have : ∀ m : Fin 9, ([0, 0, 0, 2, 2, 1, 1, 1, 0] : List Nat)[m.1]? = some (innerOf m.1) := by decide
  exact this ⟨n, h⟩

def spReadPattern (K : PySem.W.Frag) : Sp := fun vs H Q _ => ∃ (a : Addr) (row : List Nat), vs = [.ref a] ∧ SqL K H a (ivs row) ∧ row.length ≤ 1024 ∧
  (readPattern row = none → ∀ H', Same H H' → Q .non H') ∧
  (∀ parts, readPattern row = some parts → ∀ H' p ts, Same H H' → H p = none → H' p = some (.lst (ts.map V.ref)) → PartsIn H H' ts parts → parts.length ≤ 1024 → Q (.ref p) H')

/-- the place, from the slots -/
def atMu (row : List Nat) (σ : L2.St) (_ : Hp) : Nat := match σ[3]? with
  | some (some (V.int z)) => row.length - z.toNat
  | _ => 0

section
variable {P : Program} {w : World} {K : PySem.W.Frag} {mg : Str → Option Value} {base : Heap}
theorem scReadPattern : FnScope ["row", "parts", "levels", "at", "level", "part", "sort", "members", "size"] ["row"] (defScope sReadPattern) := ⟨rfl, rfl, rfl, by decide +kernel, rfl, by decide +kernel, by decide +kernel⟩
/-- what holds at the loop's head -/
def LoopAt (H0 Hb : Hp) (a pL lL : Addr) (row : List Nat) (σ : L2.St) (H' : Hp) : Prop := ∃ (lv : List Nat) (i : Nat) (parts : List (Nat × List Nat)) (ts : List Addr) (v4 v5 v6 v7 v8 : Option V),
  σ = [some (.ref a), some (.ref pL), some (.ref lL), some (iv i), v4, v5, v6, v7, v8] ∧ Same H0 H' ∧ H' pL = some (.lst (ts.map V.ref)) ∧ H' lL = some (.lst (ivs lv.reverse)) ∧ PartsIn Hb H' ts parts ∧
  i ≤ row.length ∧ parts.length ≤ i ∧ lv.length ≤ i + 1 ∧ readLoop [0] row [] = readLoop lv (row.drop i) parts ∧ (∀ l ∈ lv, l ≤ 41)

theorem ok_readPattern {f f1 : Addr} {fd fd1 : FuncData} (F : Fun K "read_pattern" "read_pattern" sReadPattern f fd) (T : Txt K mg)
    (D1 : Df K mg "read_part" sReadPart ["row", "at"] f1 fd1) (G1 : FnOk P w K mg base CX0 2 f1 fd1 ["row", "at"] (spReadPart K)) : FnOk P w K mg base CX0 3 f fd ["row"] (spReadPattern K) := by
  obtain ⟨t1, m1⟩ := T.TOP_LEVEL
  obtain ⟨aI, mI, tI⟩ := T.INNER
  refine F.ok scReadPattern (fun vs H Q E h => ?_) (fun cdv A outer s H vs Q E hr h => ?_)
  · obtain ⟨a, row, rfl, _⟩ := h; rfl
  · obtain ⟨a, row, rfl, lq, len, kN, kS⟩ := h
    have nd := scReadPattern.nd
    have small : (1024 : Nat) + 1030 < sizeLine := by decide
    refine ⟨_, (L2.pss_cons (L2.ps_set (i := 1) nd rfl (Or.inl rfl) (pe_lst L2.pa_nil))
      (L2.pss_cons (L2.ps_set (i := 2) nd rfl (Or.inl rfl) (pe_lst (L2.pa_cons pe_int L2.pa_nil)))
      (L2.pss_cons (L2.ps_set (i := 3) nd rfl (Or.inl rfl) pe_int)
      (L2.pss_cons (ps_while PassesOwn.never (pt_truth (pv 2) (by intro _; rfl)) (L2.pss_cons (L2.ps_set (i := 4) nd rfl (Or.inl rfl) (pe_bm0 PySem.F.plainAttrs_list PySem.F.slot_list_pop PySem.F.type_list_pop mt_pop (pv 2)))
      (L2.pss_cons (L2.ps_set (i := 5) nd rfl (Or.inl rfl) (L2.pe_call G1 hr (by rfl) (Mp.Df.g D1) (Mp.Df.F D1).kp (Mp.Df.b D1) .nil L2.pass0 (L2.pa_cons (pv 0) (L2.pa_cons (pv 3) L2.pa_nil))))
      (L2.pss_cons (L2.ps_if (PW.pt (pw_or (pt_cmpR op_isN (pv 5) pe_non (nomark _)) (pw_or1 ((L2.pt_cmpR op_gt (pv 4) (pgc m1) (L2.nomark _)))))) (L2.pss_one (ps_ret pe_non)) L2.pss_nil)
      (L2.pss_cons (ps_asg (pv 5) (pg_tup rfl (pgs_cons (pg_name (i := 6) nd rfl (Or.inl rfl)) (pgs_cons (pg_name (i := 7) nd rfl (Or.inl rfl)) (pgs_cons (pg_name (i := 8) nd rfl (Or.inl rfl)) pgs_nil)))))
      (L2.pss_cons (ps_expr (pe_bm PySem.F.plainAttrs_list PySem.F.slot_list_append PySem.F.type_list_append mt_append (pv 1) (L2.pa_cons (pe_tup (L2.pa_cons (pv 6) (L2.pa_cons (pv 7) L2.pa_nil))) L2.pa_nil)))
      (L2.pss_cons (ps_expr (pe_bm PySem.F.plainAttrs_list PySem.F.slot_list_extend PySem.F.type_list_extend mt_extend (pv 2) (L2.pa_cons (pe_op op_rep (pe_lst (L2.pa_cons (pe_op op_add (pv 4) pe_int) L2.pa_nil)) ((L2.pe_ix L2.ix_tup (pe_glob (v := .ref aI) rfl mI rfl) (pv 6) (fun _ _ => rfl)))) L2.pa_nil)))
      (L2.pss_one (ps_aug (i := 3) nd rfl (Or.inl rfl) (pv 8) ip_add)))))))))
      (L2.pss_cons (L2.ps_if (L2.pt_cmpR op_lt (pv 3) (L2.pe_callB L2.call_len_seq (by rfl) T.len PySem.boot_len (L2.pa_cons (pv 0) L2.pa_nil)) (L2.nomark _)) (L2.pss_one (ps_ret pe_non)) L2.pss_nil)
      (L2.pss_one (ps_ret (pv 1)))))))), ?_⟩
    refine ⟨Nat.zero_le _, fun pL hpL => ⟨by show 1 ≤ sizeLine; decide, fun lL hlL => ?_⟩⟩
    have npl : pL ≠ lL := ne_of_none upd_same hlL
    have hlL0 : H lL = none := by rw [upd_ne npl.symm] at hlL; exact hlL
    have hbH : Same H (upd (upd H pL (.lst [])) lL (.lst [.int 0])) := (Same.upd _ hpL).trans (Same.upd _ hlL)
    have hbp : upd (upd H pL (.lst [])) lL (.lst [.int 0]) pL = some (.lst []) := by rw [upd_ne npl, upd_same]
    have hbl : upd (upd H pL (.lst [])) lL (.lst [.int 0]) lL = some (.lst [.int 0]) := upd_same
    have hbn : ∀ m, H m = none → m ≠ pL → m ≠ lL → upd (upd H pL (.lst [])) lL (.lst [.int 0]) m = none := fun m h1 h2 h3 => by rw [upd_ne h3, upd_ne h2]; exact h1
    dsimp only [gName, tSeq, tAsg, tC]
    show tWhile _ _ _ _ (upd (upd H pL (.lst [])) lL (.lst [.int 0]))
    generalize hHb : upd (upd H pL (.lst [])) lL (.lst [.int 0]) = Hb at *
    refine while_by (LoopAt H Hb a pL lL row) (atMu row) ?_ ?_ (fun σ H Q Q' m ⟨v, hv, k, t, q⟩ => ⟨v, hv, k, t, m _ _ q⟩)
    · refine ⟨[0], 0, [], [], none, none, none, none, none, rfl, hbH, hbp, hbl, trivial, Nat.zero_le _, Nat.zero_le _, Nat.le_refl _, by rw [List.drop_zero], by simp⟩
    · rintro σ H1 ⟨lv, i, parts, ts, v4, v5, v6, v7, v8, rfl, s1, h1, h2, hp, hi, hpi, hli, hL, h41⟩
      refine ⟨_, rfl, !(ivs lv.reverse).isEmpty, .inl ⟨_, sqL_of h2, rfl⟩, ?_⟩
      cases lv with
      | nil =>
        refine iteF ?_
        rw [Mx.readLoop_nil] at hL
        refine ⟨_, rfl, _, rfl, a, _, rfl, .inl (s1.seq lq), _, _, rfl, rfl, _, rfl, ?_⟩
        rw [ivs_len]
        refine ite2 (fun c => ?_) (fun c => ?_)
        · have c : i < row.length := by simp at c; omega
          refine kN ?_ _ s1
          unfold readPattern
          obtain ⟨n, hn⟩ := some_at c
          rw [hL, drop_at hn]
        · have c : row.length ≤ i := by simp at c; omega
          refine ⟨_, rfl, kS parts ?_ _ _ ts s1 hpL h1 (hp.base fun m e => hbH.free e) (by omega)⟩
          unfold readPattern
          rw [hL, List.drop_of_length_le c]
      | cons lev rest =>
        have ne : (!(ivs (lev :: rest).reverse).isEmpty) = true := by simp [ivs]
        rw [ne]
        refine iteT ?_
        have hl41 := h41 lev (by simp)
        have e2 : ivs (lev :: rest).reverse = ivs rest.reverse ++ [iv lev] := by simp [ivs]
        rw [e2] at h2
        refine ⟨_, rfl, .inl ⟨rfl, _, sqL_of h2⟩, lL, _, iv lev, rfl, rfl, h2, by simp, ?_⟩
        rw [List.dropLast_concat]
        have s2 : Same H (upd H1 lL (.lst (ivs rest.reverse))) := fun b o e => by rw [upd_ne (ne_of_none e hlL0)]; exact s1 b o e
        have g1 : upd H1 lL (.lst (ivs rest.reverse)) pL = some (.lst (ts.map V.ref)) := by rw [upd_ne npl]; exact h1
        have g2 : upd H1 lL (.lst (ivs rest.reverse)) lL = some (.lst (ivs rest.reverse)) := upd_same
        have gp : PartsIn Hb (upd H1 lL (.lst (ivs rest.reverse))) ts parts := hp.mono
          (fun t y e => by rw [upd_ne (ne_of e h2 (by intro z; cases z))]; exact e)
          (fun m y e0 e => by
            rw [upd_ne (fun z => by rw [z, hbl] at e0; cases e0)]; exact e)
        generalize upd H1 lL (.lst (ivs rest.reverse)) = H2 at *
        refine ⟨_, rfl, _, rfl, a, row, i, rfl, s2.seq lq, len, trivial, ?_, ?_⟩
        · intro hn H3 s3
          refine ⟨_, rfl, rfl, _, rfl, iteT (iteT (kN ?_ _ (s2.trans s3)))⟩
          unfold readPattern
          rw [hL, Mx.readLoop_none hn]
        · rintro ⟨n, ms, k⟩ hx H3 p s3 ⟨m, hm0, hp3, hm3⟩
          refine ⟨_, rfl, rfl, _, rfl, iteF ⟨_, rfl, _, _, rfl, rfl, _, rfl, ?_⟩⟩
          by_cases hd : 40 < lev
          · rw [decide_eq_true (by omega)]
            refine iteT (kN ?_ _ (s2.trans s3))
            unfold readPattern
            rw [hL, Mx.readLoop_deep hd]
          · rw [decide_eq_false (by omega)]
            refine iteF ⟨_, rfl, p, _, rfl, .inl (.inl hp3), rfl, _, _, rfl, _, _, rfl, _, _, rfl, rfl, ?_⟩
            have hs9 := readPart_sort hx
            have hsz := Mx.readPart_size hx
            rw [List.length_drop] at hsz
            simp only [] at hsz hs9
            refine ⟨_, rfl, .inl ⟨rfl, _, sqL_of (s3 _ _ g1)⟩, _, rfl, _, rfl, by show 2 ≤ sizeLine; decide, fun t ht => ?_⟩
            have s4 := s3.trans (Same.upd (.tup [iv n, .ref m]) ht)
            have tt : upd H3 t (.tup [iv n, .ref m]) t = some (.tup [iv n, .ref m]) := upd_same
            have tm : upd H3 t (.tup [iv n, .ref m]) m = some (.lst (ivs ms)) := by rw [upd_ne (ne_of_none hm3 ht)]; exact hm3
            have hlp := PartsIn.len gp
            generalize upd H3 t (.tup [iv n, .ref m]) = H4 at *
            refine ⟨pL, _, _, rfl, rfl, s4 _ _ g1, by rw [List.length_map]; omega, ?_⟩
            have mpL : m ≠ pL := fun z => by rw [z, g1] at hm0; cases hm0
            have mlL : m ≠ lL := fun z => by rw [z, g2] at hm0; cases hm0
            have h5p : upd H4 pL (.lst (ts.map V.ref ++ [.ref t])) pL = some (.lst ((ts ++ [t]).map V.ref)) := by rw [upd_same, List.map_append]; rfl
            have h5l : upd H4 pL (.lst (ts.map V.ref ++ [.ref t])) lL = some (.lst (ivs rest.reverse)) := by rw [upd_ne npl.symm]; exact s4 _ _ g2
            have h5t : upd H4 pL (.lst (ts.map V.ref ++ [.ref t])) t = some (.tup [iv n, .ref m]) := by rw [upd_ne (ne_of tt (s4 _ _ g1) (by intro z; cases z))]; exact tt
            have h5m : upd H4 pL (.lst (ts.map V.ref ++ [.ref t])) m = some (.lst (ivs ms)) := by rw [upd_ne mpL]; exact tm
            have s5 : Same H (upd H4 pL (.lst (ts.map V.ref ++ [.ref t]))) := fun b o e => by rw [upd_ne (ne_of_none e hpL)]; exact s4 b o (s2 b o e)
            have p5 : PartsIn Hb (upd H4 pL (.lst (ts.map V.ref ++ [.ref t]))) ts parts := gp.mono
              (fun t' y e => by rw [upd_ne (ne_of (s4 _ _ e) (s4 _ _ g1) (by intro z; cases z))]; exact s4 _ _ e)
              (fun m' y e0 e => by rw [upd_ne (fun z => by rw [z, hbp] at e0; cases e0)]; exact s4 _ _ e)
            generalize upd H4 pL (.lst (ts.map V.ref ++ [.ref t])) = H5 at *
            refine ⟨_, rfl, .inl ⟨rfl, _, sqL_of h5l⟩, _, rfl, _, _, rfl, rfl, by show 1 ≤ sizeLine; decide, fun q hq => ?_⟩
            refine ⟨_, rfl, aI, _, _, _, rfl, rfl, tI _, atI_nat (by rw [List.getElem?_map, inner_at hs9]; rfl), ?_⟩
            have hin : innerOf n ≤ 2 := by unfold innerOf; split <;> (try split) <;> omega
            refine ⟨q, _, _, rfl, rfl, upd_same, by omega, by omega, by rw [Int.toNat_natCast]; show 1 * innerOf n ≤ sizeLine; omega, fun u hu => ?_⟩
            rw [Int.toNat_natCast]
            have s6 := (Same.upd (.lst [V.int ((lev : Int) + 1)]) hq).trans (Same.upd (.lst (List.replicate (innerOf n) [V.int ((lev : Int) + 1)]).flatten) hu)
            have eu : upd (upd H5 q (.lst [V.int ((lev : Int) + 1)])) u (.lst (List.replicate (innerOf n) [V.int ((lev : Int) + 1)]).flatten) u = some (.lst (List.replicate (innerOf n) [V.int ((lev : Int) + 1)]).flatten) := upd_same
            generalize upd (upd H5 q (.lst [V.int ((lev : Int) + 1)])) u (.lst (List.replicate (innerOf n) [V.int ((lev : Int) + 1)]).flatten) = H6 at *
            have efl : (List.replicate (innerOf n) [V.int ((lev : Int) + 1)]).flatten = ivs (List.replicate (innerOf n) (lev + 1)) := by
              unfold ivs; rw [List.map_replicate]
              generalize innerOf n = z
              induction z with
              | zero => rfl
              | succ z ih => rw [List.replicate_succ, List.flatten_cons, ih, List.replicate_succ]; rfl
            rw [efl] at eu
            simp only [List.length_cons] at hli
            refine ⟨lL, u, _, _, rfl, rfl, s6 _ _ h5l, eu, by rw [ivs_len, ivs_len, List.length_reverse, List.length_replicate]; omega, ?_⟩
            refine ⟨_, rfl, _, rfl, _, _, rfl, rfl, ?_⟩
            refine ⟨⟨List.replicate (innerOf n) (lev + 1) ++ rest, i + k, parts ++ [(n, ms)], ts ++ [t], _, _, _, _, _, rfl, ?_, ?_, ?_, ?_, by omega, ?_, ?_, ?_, ?_⟩, ?_⟩
            · exact fun b o e => by rw [upd_ne (ne_of_none e hlL0)]; exact s6 _ _ (s5 b o e)
            · rw [upd_ne npl]; exact s6 _ _ h5p
            · rw [upd_same, List.reverse_append, List.reverse_replicate]
              unfold ivs; rw [List.map_append]
            · have h0 : Hb m = none := hbn m (s2.free hm0) mpL mlL
              refine (PartsIn.snoc (x := (n, ms)) h0 h5t h5m p5).mono (fun t' y e => ?_) (fun m' y e0 e => ?_)
              · rw [upd_ne (ne_of (s6 _ _ e) (s6 _ _ h5l) (by intro z; cases z))]; exact s6 _ _ e
              · rw [upd_ne (fun z => by rw [z, hbl] at e0; cases e0)]; exact s6 _ _ e
            · rw [List.length_append]; show parts.length + 1 ≤ i + k; omega
            · rw [List.length_append, List.length_replicate]; omega
            · rw [hL, Mx.readLoop_some hx (by omega), List.drop_drop]
            · intro l hl
              rcases List.mem_append.mp hl with hl | hl
              · rw [List.mem_replicate] at hl; omega
              · exact h41 l (by simp [hl])
            · show row.length - (((i : Int) + (k : Int))).toNat < row.length - ((i : Int)).toNat
              omega
end
end Mp

-- MpMat
set_option maxRecDepth 100000
set_option maxHeartbeats 2000000
set_option exponentiation.threshold 3000
/-! Sets of steps, shapes. -/
namespace Mp
open PySem PySem.Spec PyProof.Rows L2
open Mx (stepsIn nothing eitherS)

theorem bor (a b : Nat) : Builtin.bitOr (a : Int) (b : Int) = ((a ||| b : Nat) : Int) := by
  rw [bitOr_nn (Int.natCast_nonneg a) (Int.natCast_nonneg b), Int.toNat_natCast, Int.toNat_natCast]
theorem bxor (a b : Nat) : Builtin.bitXor (a : Int) (b : Int) = ((a ^^^ b : Nat) : Int) := by
  rw [Bits.bitXor_pp (Int.natCast_nonneg a) (Int.natCast_nonneg b), Int.toNat_natCast, Int.toNat_natCast]
theorem band (a b : Nat) : Builtin.bitAnd (a : Int) (b : Int) = ((a &&& b : Nat) : Int) := by
  rw [bitAnd_pp (Int.natCast_nonneg a) (Int.natCast_nonneg b), Int.toNat_natCast, Int.toNat_natCast]
theorem bits_of {n : Nat} (h : n ≠ 0) : (Builtin.Int.intBits (n : Int) : Nat) = n.log2 + 1 := by
  unfold Builtin.Int.intBits
  rw [if_neg (by simpa using h), Int.natAbs_natCast]
theorem one_shl (k : Nat) : (1 : Int) * 2 ^ ((k : Int)).toNat = ((2 ^ k : Nat) : Int) := by
  rw [Int.toNat_natCast, Int.one_mul, Int.natCast_pow]; rfl

/-- a shape as values -/
abbrev shv (s : Mx.Shape) : List V := [.bl s.1, iv s.2.1, iv s.2.2]
theorem shv0 (s : Mx.Shape) : atI (shv s) 0 = some (.bl s.1) := rfl
theorem shv1 (s : Mx.Shape) : atI (shv s) 1 = some (iv s.2.1) := rfl
theorem shv2 (s : Mx.Shape) : atI (shv s) 2 = some (iv s.2.2) := rfl
theorem dec_iv (a b : Nat) : decide (V.int (a : Int) = V.int (b : Int)) = decide (a = b) := by
  rw [decide_eq_decide]; constructor
  · intro z; injection z with z; omega
  · rintro rfl; rfl

theorem stepsIn_le (k : Nat) : ∀ n, n < 2 ^ k → (stepsIn n).length ≤ k ∧ ∀ s ∈ stepsIn n, s < k := by
  intro n h
  have mem : ∀ s ∈ stepsIn n, s < k := fun s hs => by
    have := Mx.mem_stepsIn.mp hs
    by_cases hk : s < k
    · exact hk
    · rw [Nat.testBit_lt_two_pow (Nat.lt_of_lt_of_le h (Nat.pow_le_pow_right (by omega) (by omega)))] at this; cases this
  refine ⟨?_, mem⟩
  clear mem
  revert n
  induction k using Nat.strongRecOn with
  | _ k ih =>
    intro n h
    by_cases h0 : n = 0
    · subst h0; rw [Mx.stepsIn_zero]; exact Nat.zero_le _
    · rw [Mx.stepsIn_pos h0, List.length_cons]
      have h1 : 2 ^ n.log2 ≤ n := Nat.log2_self_le h0
      have h2 : n < 2 ^ (n.log2 + 1) := Nat.lt_log2_self
      have h3 : n.log2 < k := (Nat.pow_lt_pow_iff_right (a := 2) (by omega)).mp (Nat.lt_of_le_of_lt h1 h)
      have := ih n.log2 h3 (n - 2 ^ n.log2) (by rw [Nat.pow_succ] at h2; omega)
      omega

def spNothing : Sp := fun vs H Q _ => ∃ (p : Addr) (x : Mx.Shape), vs = [.ref p] ∧ H p = some (.tup (shv x)) ∧ Q (.bl (nothing x)) H
def spEither : Sp := fun vs H Q _ => ∃ (p q : Addr) (x y : Mx.Shape), vs = [.ref p, .ref q] ∧ H p = some (.tup (shv x)) ∧ H q = some (.tup (shv y)) ∧ ∀ r, H r = none → Q (.ref r) (upd H r (.tup (shv (eitherS x y))))
def spStepsIn : Sp := fun vs H Q _ => ∃ n : Nat, vs = [iv n] ∧ n < 2 ^ 2048 ∧ ∀ H' p, Same H H' → H p = none → H' p = some (.lst (ivs (stepsIn n))) → Q (.ref p) H'

section
variable {P : Program} {w : World} {K : PySem.W.Frag} {mg : Str → Option Value} {base : Heap}
theorem scNothing : FnScope ["shape"] ["shape"] (defScope sNothing) := ⟨rfl, rfl, rfl, by decide +kernel, rfl, by decide +kernel, by decide +kernel⟩
theorem ok_nothing {f : Addr} {fd : FuncData} (F : Fun K "matches_nothing" "matches_nothing" sNothing f fd) : FnOk P w K mg base CX0 1 f fd ["shape"] spNothing := by
  refine F.ok scNothing (fun vs H Q E h => ?_) (fun cdv A outer s H vs Q E hr h => ?_)
  · obtain ⟨p, x, rfl, _⟩ := h; rfl
  · obtain ⟨p, x, rfl, hp, q⟩ := h
    refine ⟨_, (L2.pss_one (ps_ret (pe_and (pe_not ((L2.pe_ix L2.ix_tup (pv 0) pe_int (fun _ _ => rfl)))) (pe_one (pe_cmpR op_eq ((L2.pe_ix L2.ix_tup (pv 0) pe_int (fun _ _ => rfl))) pe_int (nomark _)))))), ?_⟩
    refine ⟨_, rfl, p, _, _, _, rfl, rfl, SqT.of hp, shv0 x, _, rfl, _, rfl, ?_⟩
    unfold nothing at q
    cases hx : x.1 with
    | true => rw [hx] at q; exact iteF q
    | false =>
      rw [hx] at q
      refine iteT ⟨_, rfl, p, _, _, _, rfl, rfl, SqT.of hp, shv1 x, rfl, ?_⟩
      have e : decide (V.int ((x.2.1 : Nat) : Int) = V.int 0) = (x.2.1 == 0) := by
        rw [show (V.int 0) = iv 0 from rfl, dec_iv]; rfl
      rw [e]; exact q

theorem scEither : FnScope ["left", "right"] ["left", "right"] (defScope sEither) := ⟨rfl, rfl, rfl, by decide +kernel, rfl, by decide +kernel, by decide +kernel⟩
theorem ok_either {f : Addr} {fd : FuncData} (F : Fun K "either" "either" sEither f fd) : FnOk P w K mg base CX0 1 f fd ["left", "right"] spEither := by
  refine F.ok scEither (fun vs H Q E h => ?_) (fun cdv A outer s H vs Q E hr h => ?_)
  · obtain ⟨p, q, x, y, rfl, _⟩ := h; rfl
  · obtain ⟨p, q, x, y, rfl, hp, hq, k⟩ := h
    refine ⟨_, (L2.pss_one (ps_ret (pe_tup (L2.pa_cons (pe_or ((L2.pe_ix L2.ix_tup (pv 0) pe_int (fun _ _ => rfl))) (pe_one ((L2.pe_ix L2.ix_tup (pv 1) pe_int (fun _ _ => rfl))))) (L2.pa_cons (pe_op op_or ((L2.pe_ix L2.ix_tup (pv 0) pe_int (fun _ _ => rfl))) ((L2.pe_ix L2.ix_tup (pv 1) pe_int (fun _ _ => rfl)))) (L2.pa_cons (pe_op op_or ((L2.pe_ix L2.ix_tup (pv 0) pe_int (fun _ _ => rfl))) ((L2.pe_ix L2.ix_tup (pv 1) pe_int (fun _ _ => rfl)))) L2.pa_nil)))))), ?_⟩
    refine ⟨_, rfl, p, _, _, _, rfl, rfl, SqT.of hp, shv0 x, _, rfl, ?_⟩
    have fin : ∀ b, b = (x.1 || y.1) → ∀ r, H r = none → Q (.ref r) (upd H r (.tup [.bl b, .int (Builtin.bitOr (x.2.1 : Nat) (y.2.1 : Nat)), .int (Builtin.bitOr (x.2.2 : Nat) (y.2.2 : Nat))])) := fun b hb r hr => by
      rw [bor, bor, hb]; exact k r hr
    cases hx : x.1 with
    | true =>
      refine iteT ⟨_, rfl, p, _, _, _, rfl, rfl, SqT.of hp, shv1 x, _, rfl, q, _, _, _, rfl, rfl, SqT.of hq, shv1 y, _, _, rfl, rfl,
        _, rfl, p, _, _, _, rfl, rfl, SqT.of hp, shv2 x, _, rfl, q, _, _, _, rfl, rfl, SqT.of hq, shv2 y, _, _, rfl, rfl, by show 3 ≤ sizeLine; decide, ?_⟩
      exact fin true (by rw [hx]; rfl)
    | false =>
      refine iteF ⟨_, rfl, q, _, _, _, rfl, rfl, SqT.of hq, shv0 y, ?_⟩
      refine ⟨_, rfl, p, _, _, _, rfl, rfl, SqT.of hp, shv1 x, _, rfl, q, _, _, _, rfl, rfl, SqT.of hq, shv1 y, _, _, rfl, rfl,
        _, rfl, p, _, _, _, rfl, rfl, SqT.of hp, shv2 x, _, rfl, q, _, _, _, rfl, rfl, SqT.of hq, shv2 y, _, _, rfl, rfl, by show 3 ≤ sizeLine; decide, ?_⟩
      exact fin y.1 (by rw [hx]; rfl)

theorem scStepsIn : FnScope ["steps", "listed", "top"] ["steps"] (defScope sStepsIn) := ⟨rfl, rfl, rfl, by decide +kernel, rfl, by decide +kernel, by decide +kernel⟩
def stepMu (σ : L2.St) (_ : Hp) : Nat := match σ[0]? with
  | some (some (V.int z)) => z.toNat
  | _ => 0
theorem ok_stepsIn {f : Addr} {fd : FuncData} (F : Fun K "steps_in" "steps_in" sStepsIn f fd) : FnOk P w K mg base CX0 1 f fd ["steps"] spStepsIn := by
  refine F.ok scStepsIn (fun vs H Q E h => ?_) (fun cdv A outer s H vs Q E hr h => ?_)
  · obtain ⟨n, rfl, _⟩ := h; rfl
  · obtain ⟨n, rfl, hn, k⟩ := h
    have nd := scStepsIn.nd
    have big : (2048 : Nat) < sizeLine := by decide
    have hle := stepsIn_le 2048 n hn
    refine ⟨_, (L2.pss_cons (L2.ps_set (i := 1) nd rfl (Or.inl rfl) (pe_lst L2.pa_nil))
      (L2.pss_cons (ps_while PassesOwn.never (pt_truth (pv 0) (by intro _; rfl)) (L2.pss_cons (L2.ps_set (i := 2) nd rfl (Or.inl rfl) (pe_op op_sub (pe_bits (pv 0)) pe_int))
      (L2.pss_cons (ps_expr (pe_bm PySem.F.plainAttrs_list PySem.F.slot_list_append PySem.F.type_list_append mt_append (pv 1) (L2.pa_cons (pv 2) L2.pa_nil)))
      (L2.pss_one (ps_aug (i := 0) nd rfl (Or.inl rfl) (pe_op op_shl pe_int (pv 2)) (pip_of iop_xor))))))
      (L2.pss_one (ps_ret (pv 1))))), ?_⟩
    refine ⟨Nat.zero_le _, fun p hp => ?_⟩
    dsimp only [gName, tSeq, tAsg, tC]
    refine while_by (fun σ H' => ∃ (m : Nat) (done : List Nat) (v : Option V), σ = [some (iv m), some (.ref p), v] ∧ stepsIn n = done ++ stepsIn m ∧ m ≤ n ∧ H' p = some (.lst (ivs done)) ∧ Same H H') stepMu
      ⟨n, [], none, rfl, rfl, Nat.le_refl _, upd_same, Same.upd _ hp⟩ ?_ (fun σ H Q Q' m ⟨v, hv, k, t, q⟩ => ⟨v, hv, k, t, m _ _ q⟩)
    rintro σ H1 ⟨m, done, v, rfl, hd, hm, h1, s1⟩
    refine ⟨_, rfl, ((m : Int) != 0), rfl, ?_⟩
    by_cases m0 : m = 0
    · subst m0
      rw [Mx.stepsIn_zero, List.append_nil] at hd
      refine iteF ⟨_, rfl, k _ _ s1 hp (by rw [hd]; exact h1)⟩
    · have e : ((m : Int) != 0) = true := by simpa using m0
      rw [e]
      refine iteT ⟨_, rfl, _, rfl, _, _, rfl, rfl, ?_⟩
      have eb : ((Builtin.Int.intBits (m : Int) : Nat) : Int) - 1 = ((m.log2 : Nat) : Int) := by rw [bits_of m0]; omega
      dsimp only [gName]
      rw [eb]
      have hlog : m.log2 < 2048 := hle.2 m.log2 (by rw [hd, Mx.stepsIn_pos m0]; simp)
      have hlen : done.length < 2048 := by
        have := hle.1; rw [hd, Mx.stepsIn_pos m0] at this; simp at this; omega
      refine ⟨_, rfl, .inl ⟨rfl, _, sqL_of h1⟩, _, rfl, p, _, _, rfl, rfl, h1, by rw [ivs_len]; omega, ?_⟩
      refine ⟨_, rfl, _, rfl, _, _, rfl, rfl, ⟨by omega, by omega, by decide⟩, _, _, rfl, rfl, ?_⟩
      dsimp only []
      rw [one_shl, bxor, Mx.rest_xor m0]
      refine ⟨⟨m - 2 ^ m.log2, done ++ [m.log2], _, rfl, by rw [hd, Mx.stepsIn_pos m0]; simp, Nat.le_trans (Nat.sub_le _ _) hm, ?_, fun b o q => by rw [upd_ne (ne_of_none q hp)]; exact s1 b o q⟩, ?_⟩
      · rw [upd_same]; unfold ivs; rw [List.map_append]; rfl
      · show (((m - 2 ^ m.log2 : Nat) : Int)).toNat < ((m : Int)).toNat
        have := Nat.two_pow_pos m.log2
        rw [Int.toNat_natCast, Int.toNat_natCast]; omega
end
end Mp

-- MpLinks
set_option maxRecDepth 100000
set_option maxHeartbeats 4000000
set_option exponentiation.threshold 3000
/-! Where one comes to from each step. -/
namespace Mp
open PySem PySem.Spec PyProof.Rows L2
open Mx (stepsIn nothing eitherS orInto orAt)

abbrev sLinks : Stmt := top 41
abbrev sLInit : Stmt := inClass sLinks 0
abbrev sAddStep : Stmt := inClass sLinks 1
abbrev sLead : Stmt := inClass sLinks 2
abbrev sReached : Stmt := inClass sLinks 3
abbrev sChunk : Stmt := inClass sLinks 4

/-- a method -/
structure Dm (K : PySem.W.Frag) (C : Addr) (x qual : Str) (st : Stmt) (ps : List Str) (f : Addr) (fd : FuncData) : Prop where
  F : Fun K x qual st f fd
  b : Binds K fd ps []
  m : Meth K C x f
/-- o.m(args), o.m() -/

theorem lk_here {k : Str} {v : V} {r : List (Str × V)} : List.lookup k ((k, v) :: r) = some v := by
  have e : (k == k) = true := beq_self_eq_true k
  simp only [List.lookup, e]
theorem lk_past {k g : Str} {v : V} {r : List (Str × V)} (h : (k == g) = false) : List.lookup k ((g, v) :: r) = List.lookup k r := by
  simp only [List.lookup, h]

theorem put_here {f : Str} {v x : V} {r : List (Str × V)} : putF f v ((f, x) :: r) = (f, v) :: r := if_pos rfl
theorem put_past {f g : Str} {v x : V} {r : List (Str × V)} (h : ¬ g = f) : putF f v ((g, x) :: r) = (g, x) :: putF f v r := if_neg h
theorem orInto_take {F : Nat} {l beh : List Nat} {i s : Nat} (h : l[i]? = some s) : orInto F (l.take (i + 1)) beh = (orInto F (l.take i) beh).set s ((orInto F (l.take i) beh).getD s 0 ||| F) := by
  unfold orInto
  have e : l.take (i + 1) = l.take i ++ [s] := by
    obtain ⟨hlt, rfl⟩ := List.getElem?_eq_some_iff.mp h
    exact List.take_succ_eq_append_getElem hlt
  rw [e, List.foldl_append]; rfl
theorem ivs_set (l : List Nat) (i n : Nat) : (ivs l).set i (iv n) = ivs (l.set i n) := (List.map_set).symm
theorem ixN_nat {n j : Nat} (h : j < n) : ixN n (j : Int) = some j := by
  unfold ixN; rw [if_pos (by omega), if_pos (by omega), Int.toNat_natCast]
theorem getD_at {l : List Nat} {j : Nat} (h : j < l.length) : (ivs l)[j]? = some (iv (l.getD j 0)) := by
  refine ivs_at ?_
  rw [List.getD_eq_getElem?_getD, List.getElem?_eq_getElem h]; rfl

/-- all that was tracked but x -/
def Aside (x : Addr) (H H' : Hp) : Prop := ∀ b o, H b = some o → b ≠ x → H' b = some o
theorem Aside.free {x : Addr} {H H' : Hp} {p : Addr} (k : Aside x H H') (h : H' p = none) (hx : ∃ o, H' x = some o) : H p = none := by
  obtain ⟨o1, hx⟩ := hx
  cases q : H p with
  | none => rfl
  | some o => rw [k p o q (fun z => by rw [z, hx] at h; cases h)] at h; cases h

theorem Aside.refl (x : Addr) (H : Hp) : Aside x H H := fun _ _ e _ => e
theorem Aside.trans {x : Addr} {H H1 H2 : Hp} (a : Aside x H H1) (b : Aside x H1 H2) : Aside x H H2 := fun p o e n => b p o (a p o e n) n
theorem Aside.of {x : Addr} {H H1 : Hp} (a : Same H H1) : Aside x H H1 := fun p o e _ => a p o e
/-! ### few chunks -/
theorem nodup_lt : ∀ (n : Nat) (l : List Nat), l.Nodup → (∀ x ∈ l, x < n) → l.length ≤ n
  | 0, l, _, h => by
    cases l with
    | nil => exact Nat.le_refl _
    | cons a l => exact absurd (h a (by simp)) (by omega)
  | n + 1, l, nd, h => by
    have ih := nodup_lt n (l.erase n) (nd.erase n) (fun x hx => by
      have h1 := h x (List.mem_of_mem_erase hx)
      have h2 : x ≠ n := fun e => by rw [e] at hx; exact nd.not_mem_erase hx
      omega)
    by_cases hm : n ∈ l
    · rw [List.length_erase_of_mem hm] at ih; omega
    · rw [List.erase_of_not_mem hm] at ih; omega
def keyNo : List L2.Key → Nat
  | [.inl a, .inl b] => a.toNat / 8 * 256 + b.toNat
  | _ => 0
theorem keyNo_ckey (i j : Nat) : keyNo (ckey i j) = i * 256 + j := by
  show ((8 * i : Nat) : Int).toNat / 8 * 256 + ((j : Nat) : Int).toNat = _
  rw [Int.toNat_natCast, Int.toNat_natCast, Nat.mul_div_cancel_left i (by omega)]
theorem ckey_inj {i j a b : Nat} (h : ckey i j = ckey a b) : i = a ∧ j = b := by
  unfold ckey at h
  injection h with h1 h2
  injection h1 with h1
  injection h2 with h2
  injection h2 with h2
  exact ⟨by omega, by omega⟩
theorem CacheOk.len {M : List Nat} {kvs : List (List L2.Key × V)} (h : CacheOk M kvs) : kvs.length ≤ 131072 := by
  have h1 : (kvs.map fun p => keyNo p.1).Nodup := by
    have := h.nd
    rw [List.nodup_iff_pairwise_ne, List.pairwise_map] at this ⊢
    refine this.imp_of_mem ?_
    intro p q hp hq ne e
    obtain ⟨i, j, hi, hj, e1, _⟩ := h.ok p hp
    obtain ⟨a, b, ha, hb, e2, _⟩ := h.ok q hq
    rw [e1, e2, keyNo_ckey, keyNo_ckey] at e
    apply ne
    have : i = a := by omega
    have : j = b := by omega
    rw [e1, e2]; subst_vars; rfl
  have := nodup_lt 131072 _ h1 (fun x hx => by
    obtain ⟨p, hp, rfl⟩ := List.mem_map.mp hx
    obtain ⟨i, j, hi, hj, e1, _⟩ := h.ok p hp
    rw [e1, keyNo_ckey]; omega)
  rwa [List.length_map] at this
theorem valV_mem {κ : Type} [DecidableEq κ] {kvs : List (κ × V)} {k : κ} {v : V} (h : valV kvs k = some v) : (k, v) ∈ kvs := by
  unfold valV at h
  obtain ⟨p, hp, rfl⟩ := Option.map_eq_some_iff.mp h
  have h1 := List.mem_of_find?_eq_some hp
  have h2 := List.find?_some hp
  have h2 : p.1 = k := of_decide_eq_true h2
  rw [← h2]; exact h1
theorem CacheOk.get {M : List Nat} {kvs : List (List L2.Key × V)} (h : CacheOk M kvs) {i j : Nat} {v : V} (e : valV kvs (ckey i j) = some v) : v = iv (chunkOf M i j) := by
  obtain ⟨a, b, _, _, e1, e2⟩ := h.ok _ (valV_mem e)
  obtain ⟨rfl, rfl⟩ := ckey_inj e1
  exact e2
theorem CacheOk.put {M : List Nat} {kvs : List (List L2.Key × V)} (h : CacheOk M kvs) {i j : Nat} (hi : i < 512) (hj : j < 256) (e : valV kvs (ckey i j) = none) : CacheOk M (putK kvs (ckey i j) (iv (chunkOf M i j))) := by
  have hany : ¬ (kvs.any fun kv => decide (kv.1 = ckey i j)) = true := by rw [valV_any, e]; simp
  unfold putK
  rw [if_neg hany]
  refine ⟨?_, fun p hp => ?_⟩
  · rw [List.map_append, List.nodup_append]
    refine ⟨h.nd, by simp, ?_⟩
    intro a ha b hb
    simp at hb; subst hb
    obtain ⟨p, hp, rfl⟩ := List.mem_map.mp ha
    intro z
    exact hany (List.any_eq_true.mpr ⟨p, hp, decide_eq_true z⟩)
  · rcases List.mem_append.mp hp with hp | hp
    · exact h.ok p hp
    · simp at hp; subst hp; exact ⟨i, j, hi, hj, rfl, rfl⟩

theorem nx_chunk (M : List Nat) (d i : Nat) : orAt M (stepsIn (d % 2 ^ (8 * i))) ||| chunkOf M i (d / 2 ^ (8 * i) % 256) = orAt M (stepsIn (d % 2 ^ (8 * (i + 1)))) := by
  apply Nat.eq_of_testBit_eq
  intro q
  rw [Bool.eq_iff_iff, Nat.testBit_or, Bool.or_eq_true, Mx.orAt_bit, Mx.orAt_bit]
  unfold chunkOf
  rw [Mx.orAt_bit]
  simp only [Mx.mem_stepsIn, List.mem_map, Nat.testBit_mod_two_pow, Bool.and_eq_true, decide_eq_true_eq]
  have e256 : ∀ s, (d / 2 ^ (8 * i) % 256).testBit s = (decide (s < 8) && d.testBit (8 * i + s)) := fun s => by
    rw [show (256 : Nat) = 2 ^ 8 from rfl, Nat.testBit_mod_two_pow, Nat.testBit_div_two_pow, Nat.add_comm s]
  constructor
  · rintro (⟨p, ⟨h1, h2⟩, h3⟩ | ⟨p, ⟨s, h1, rfl⟩, h3⟩)
    · exact ⟨p, ⟨by omega, h2⟩, h3⟩
    · rw [e256, Bool.and_eq_true, decide_eq_true_eq] at h1
      exact ⟨8 * i + s, ⟨by omega, h1.2⟩, h3⟩
  · rintro ⟨p, ⟨h1, h2⟩, h3⟩
    by_cases hp : p < 8 * i
    · exact .inl ⟨p, ⟨hp, h2⟩, h3⟩
    · refine .inr ⟨p, ⟨p - 8 * i, ?_, by omega⟩, h3⟩
      rw [e256, Bool.and_eq_true, decide_eq_true_eq]
      exact ⟨by omega, by rw [show 8 * i + (p - 8 * i) = p by omega]; exact h2⟩


structure Cl (K : PySem.W.Frag) (C : Addr) : Prop where
  cl : Cls K C
  nT : NoAttr K C "table"
  nC : NoAttr K C "chunks"
def lf (lt dc : Addr) : List (Str × V) := [("table", .ref lt), ("chunks", .ref dc)]
theorem lf_T {lt dc : Addr} : (lf lt dc).lookup ("table" : Str) = some (.ref lt) := lk_here
theorem lf_C {lt dc : Addr} : (lf lt dc).lookup ("chunks" : Str) = some (.ref dc) := (lk_past (by decide +kernel)).trans lk_here
theorem lf_no {lt dc : Addr} {m : Str} (h1 : (m == ("table" : Str)) = false) (h2 : (m == ("chunks" : Str)) = false) : (lf lt dc).lookup m = none := (lk_past h1).trans ((lk_past h2).trans rfl)
theorem lf_new (lt dc : Addr) : putF "chunks" (.ref dc) (putF "table" (.ref lt) []) = lf lt dc := by
  show putF "chunks" (.ref dc) [(("table" : Str), V.ref lt)] = _
  rw [put_past (by decide +kernel)]; rfl

/-- links that are being built -/
structure LB (C : Addr) (H : Hp) (x dx lt dc : Addr) (tab : List Nat) : Prop where
  o : H x = some (.ins C dx (lf lt dc))
  t : H lt = some (.lst (ivs tab))
def LinkAt (G : Gh) (C : Addr) (H : Hp) (x : Addr) (tab : List Nat) : Prop := ∃ dx lt dc, LB C H x dx lt dc tab ∧ G.d dc = some tab ∧ ¬ G.f lt
theorem LinkAt.std {G : Gh} {C : Addr} {H H' : Hp} {x : Addr} {tab : List Nat} (h : LinkAt G C H x tab) (s : Std G H H') : LinkAt G C H' x tab := by
  obtain ⟨dx, lt, dc, ⟨h1, h2⟩, h3, h4⟩ := h
  exact ⟨dx, lt, dc, ⟨s _ _ h1 ⟨by decide +kernel, by decide +kernel⟩, s _ _ h2 h4⟩, h3, h4⟩

def spLInit (C : Addr) : Sp := fun vs H Q _ => ∃ (x dx : Addr), vs = [.ref x] ∧ H x = some (.ins C dx []) ∧ ∀ H' lt dc, LB C H' x dx lt dc [] → H' dc = some (.dT []) → H lt = none → H dc = none → Aside x H H' → Q .non H'
def spAddStep (C : Addr) : Sp := fun vs H Q _ => ∃ (x dx lt dc : Addr) (tab : List Nat), vs = [.ref x] ∧ LB C H x dx lt dc tab ∧ tab.length ≤ 2000 ∧ Q (iv (2 ^ tab.length)) (upd H lt (.lst (ivs (tab ++ [0]))))
def spLead (C : Addr) : Sp := fun vs H Q _ => ∃ (x dx lt dc : Addr) (tab : List Nat) (L F : Nat), vs = [.ref x, iv L, iv F] ∧ LB C H x dx lt dc tab ∧ L < 2 ^ 2048 ∧ (∀ s ∈ stepsIn L, s < tab.length) ∧
  ∀ H', H' lt = some (.lst (ivs (orInto F (stepsIn L) tab))) → Aside lt H H' → Q .non H'
def spChunk (C : Addr) : Sp := fun vs H Q _ => ∃ (G : Gh) (x dx lt dc i j : Nat) (tab : List Nat), vs = [.ref x, iv (8 * i), iv j] ∧ Wld G H ∧ LB C H x dx lt dc tab ∧ G.d dc = some tab ∧ i < 512 ∧ j < 256 ∧ (∀ s ∈ stepsIn j, 8 * i + s < tab.length) ∧
  (∀ kvs, H dc = some (.dT kvs) → valV kvs (ckey i j) = none) ∧ ∀ H', Go G [] H H' → Q (iv (chunkOf tab i j)) H'
def spReached (C : Addr) : Sp := fun vs H Q _ => ∃ (G : Gh) (x d : Nat) (tab : List Nat), vs = [.ref x, iv d] ∧ Wld G H ∧ LinkAt G C H x tab ∧ tab.length ≤ 2000 ∧ d < 2 ^ tab.length ∧
  ∀ H', Go G [] H H' → Q (iv (orAt tab (stepsIn d))) H'
def doneMu (σ : L2.St) (_ : Hp) : Nat := match σ[1]? with
  | some (some (V.int z)) => z.toNat
  | _ => 0

section
variable {P : Program} {w : World} {K : PySem.W.Frag} {mg : Str → Option Value} {base : Heap} {C : Addr}
theorem scLInit : FnScope ["self"] ["self"] (defScope sLInit) := ⟨rfl, rfl, rfl, by decide +kernel, rfl, by decide +kernel, by decide +kernel⟩
theorem ok_lInit {f : Addr} {fd : FuncData} (F : Fun K "__init__" "Links.__init__" sLInit f fd) (T : Cl K C) : FnOk P w K mg base CX0 1 f fd ["self"] (spLInit C) := by
  refine F.ok scLInit (fun vs H Q E h => ?_) (fun cdv A outer s H vs Q E hr h => ?_)
  · obtain ⟨x, dx, rfl, _⟩ := h; rfl
  · obtain ⟨x, dx, rfl, hx, k⟩ := h
    refine ⟨_, (L2.pss_cons (ps_fld (pv 0) (pe_lst L2.pa_nil) rfl)
      (L2.pss_one (ps_fld (pv 0) pe_dnewT rfl))), ?_⟩
    refine ⟨Nat.zero_le _, fun lb hlb => ?_⟩
    have xlb : x ≠ lb := ne_of_none hx hlb
    refine ⟨_, rfl, x, C, dx, [], rfl, (by rw [upd_ne xlb]; exact hx), T.cl, T.nT, (by show 0 < 1000; decide), ?_⟩
    have a1 : Aside x H (upd (upd H lb (.lst [])) x (.ins C dx (putF "table" (.ref lb) []))) := fun b o e n => by rw [upd_ne n, upd_ne (ne_of_none e hlb)]; exact e
    have b1 : upd (upd H lb (.lst [])) x (.ins C dx (putF "table" (.ref lb) [])) lb = some (.lst []) := by rw [upd_ne xlb.symm]; exact upd_same
    have x1 : upd (upd H lb (.lst [])) x (.ins C dx (putF "table" (.ref lb) [])) x = some (.ins C dx (putF "table" (.ref lb) [])) := upd_same
    generalize upd (upd H lb (.lst [])) x (.ins C dx (putF "table" (.ref lb) [])) = H1 at *
    refine fun dc hdc => ?_
    have xdc : x ≠ dc := ne_of_none x1 hdc
    have lbdc : lb ≠ dc := ne_of_none b1 hdc
    refine ⟨_, rfl, x, C, dx, _, rfl, (by rw [upd_ne xdc]; exact x1), T.cl, T.nC, (by show 1 < 1000; decide), ?_⟩
    rw [lf_new]
    refine k _ lb dc ⟨upd_same, ?_⟩ ?_ hlb (a1.free hdc ⟨_, x1⟩) (fun b o e n => ?_)
    · rw [upd_ne xlb.symm, upd_ne lbdc]; exact b1
    · rw [upd_ne xdc.symm]; exact upd_same
    · rw [upd_ne n, upd_ne (ne_of_none (a1 b o e n) hdc)]; exact a1 b o e n

theorem scAddStep : FnScope ["self"] ["self"] (defScope sAddStep) := ⟨rfl, rfl, rfl, by decide +kernel, rfl, by decide +kernel, by decide +kernel⟩
theorem ok_addStep {f : Addr} {fd : FuncData} (F : Fun K "add_step" "Links.add_step" sAddStep f fd) (T : Cl K C) (TX : Txt K mg) : FnOk P w K mg base CX0 1 f fd ["self"] (spAddStep C) := by
  refine F.ok scAddStep (fun vs H Q E h => ?_) (fun cdv A outer s H vs Q E hr h => ?_)
  · obtain ⟨x, dx, lt, dc, tab, rfl, _⟩ := h; rfl
  · obtain ⟨x, dx, lt, dc, tab, rfl, m, hlen, k⟩ := h
    refine ⟨_, (L2.pss_cons (ps_expr (pe_bm PySem.F.plainAttrs_list PySem.F.slot_list_append PySem.F.type_list_append mt_append (pe_fld (pv 0) rfl) (L2.pa_cons pe_int L2.pa_nil)))
      (L2.pss_one (ps_ret (pe_op op_shl pe_int (pe_op op_sub ((L2.pe_callB L2.call_len_seq (by rfl) TX.len PySem.boot_len (L2.pa_cons (pe_fld (pv 0) rfl) L2.pa_nil))) pe_int))))), ?_⟩
    refine ⟨_, rfl, x, C, dx, _, _, rfl, m.o, T.cl, T.nT, lf_T, .inl ⟨rfl, _, sqL_of m.t⟩, lt, _, _, rfl, rfl, m.t, by rw [ivs_len]; exact Nat.lt_of_le_of_lt hlen (by decide), ?_⟩
    have eb : ivs tab ++ [V.int 0] = ivs (tab ++ [0]) := by unfold ivs; rw [List.map_append]; rfl
    rw [eb]
    have xlt : x ≠ lt := ne_of m.o m.t (by intro z; cases z)
    refine ⟨_, rfl, x, C, dx, _, _, rfl, (by rw [upd_ne xlt]; exact m.o), T.cl, T.nT, lf_T, lt, _, rfl, .inl (sqL_of upd_same), _, _, rfl, rfl, ?_⟩
    dsimp only []
    have el : (((ivs (tab ++ [0])).length : Nat) : Int) - 1 = ((tab.length : Nat) : Int) := by rw [ivs_len, List.length_append]; simp
    rw [el]
    refine ⟨_, _, rfl, rfl, ⟨by omega, by omega, by decide⟩, ?_⟩
    dsimp only []
    rw [one_shl]; exact k

theorem scLead : FnScope ["self", "starts", "ends", "step"] ["self", "starts", "ends"] (defScope sLead) := ⟨rfl, rfl, rfl, by decide +kernel, rfl, by decide +kernel, by decide +kernel⟩
theorem ok_lead {f f1 : Addr} {fd fd1 : FuncData} (F : Fun K "lead" "Links.lead" sLead f fd) (T : Cl K C) (D1 : Df K mg "steps_in" sStepsIn ["steps"] f1 fd1) : FnOk P w K mg base CX0 2 f fd ["self", "starts", "ends"] (spLead C) := by
  have G1 : FnOk P w K mg base CX0 1 f1 fd1 ["steps"] spStepsIn := ok_stepsIn D1.F
  refine F.ok scLead (fun vs H Q E h => ?_) (fun cdv A outer s H vs Q E hr h => ?_)
  · obtain ⟨x, dx, lt, dc, tab, L, F, rfl, _⟩ := h; rfl
  · obtain ⟨x, dx, lt, dc, tab, L, F, rfl, m, hL, hin, k⟩ := h
    have nd := scLead.nd
    refine ⟨_, (L2.pss_one (ps_for PassesOwn.never rfl (pi_list ((L2.pe_call G1 hr (by rfl) (Mp.Df.g D1) (Mp.Df.F D1).kp (Mp.Df.b D1) .nil L2.pass0 (L2.pa_cons (pv 1) L2.pa_nil)))) (pg_name (i := 3) nd rfl (Or.inl rfl)) (L2.pss_one (ps_augS (pe_fld (pv 0) rfl) (pv 3) pget_list (pv 2) (pip_of iop_or) set_list)))), ?_⟩
    have xlt : x ≠ lt := ne_of m.o m.t (by intro z; cases z)
    refine ⟨_, rfl, L, rfl, hL, fun H1 p s1 np e1 => ⟨p, rfl, ⟨_, sqL_of e1⟩, for_list (K := K) (a := p) (xs := ivs (stepsIn L))
      (fun i σ H' => ∃ v : Option V, σ = [some (.ref x), some (iv L), some (iv F), v] ∧ H' p = some (.lst (ivs (stepsIn L))) ∧ H' lt = some (.lst (ivs (orInto F ((stepsIn L).take i) tab))) ∧ Aside lt H H')
      ⟨none, rfl, e1, s1 _ _ m.t, .of s1⟩ (fun i σ H' _ ⟨_, _, h, _⟩ => sqL_of h) ?_ ?_⟩⟩
    · rintro i y σ H' hi ⟨v, rfl, hp, m1, k1⟩
      obtain ⟨n, hn, rfl⟩ : ∃ n, (stepsIn L)[i]? = some n ∧ y = iv n := by
        rw [List.getElem?_map] at hi
        obtain ⟨n, hn, e⟩ := Option.map_eq_some_iff.mp hi
        exact ⟨n, hn, e.symm⟩
      have hlen : (orInto F ((stepsIn L).take i) tab).length = tab.length := Mx.orInto_length _ _ _
      have hnl : n < (orInto F ((stepsIn L).take i) tab).length := by rw [hlen]; exact hin n (List.mem_of_getElem? hn)
      have plb : lt ≠ p := fun z => by rw [← z, m.t] at np; cases np
      refine ⟨_, rfl, x, C, dx, _, _, rfl, k1 _ _ m.o xlt, T.cl, T.nT, lf_T, _, rfl, lt, _, n, _, rfl, rfl, sqL_of m1, getD_at hnl, _, rfl, _, _, rfl, rfl, lt, _, _, n, rfl, rfl, m1, ?_, ?_⟩
      · rw [ivs_len]; exact ixN_nat hnl
      · dsimp only []
        rw [bor, ivs_set, ← orInto_take hn]
        refine ⟨_, rfl, ?_, upd_same, fun b o e h1 => ?_⟩
        · rw [upd_ne plb.symm]; exact hp
        · rw [upd_ne h1]; exact k1 b o e h1
    · rintro σ H' ⟨v, rfl, _, m1, k1⟩
      rw [ivs_len, List.take_length] at m1
      exact k H' m1 k1

theorem scChunk : FnScope ["self", "start", "chunk", "ends", "step"] ["self", "start", "chunk"] (defScope sChunk) := ⟨rfl, rfl, rfl, by decide +kernel, rfl, by decide +kernel, by decide +kernel⟩
theorem ok_chunk {f f1 : Addr} {fd fd1 : FuncData} (F : Fun K "reached_from_chunk" "Links.reached_from_chunk" sChunk f fd) (T : Cl K C) (D1 : Df K mg "steps_in" sStepsIn ["steps"] f1 fd1) : FnOk P w K mg base CX0 2 f fd ["self", "start", "chunk"] (spChunk C) := by
  have G1 : FnOk P w K mg base CX0 1 f1 fd1 ["steps"] spStepsIn := ok_stepsIn D1.F
  refine F.ok scChunk (fun vs H Q E h => ?_) (fun cdv A outer s H vs Q E hr h => ?_)
  · obtain ⟨G, x, dx, lt, dc, i, j, tab, rfl, _⟩ := h; rfl
  · obtain ⟨G, x, dx, lt, dc, i, j, tab, rfl, wl, ⟨h1, h2⟩, hg, hi, hj, hin, hno, k⟩ := h
    obtain ⟨kvs, h4, h5⟩ := wl dc tab hg
    have nd := scChunk.nd
    have hu := hu_of hr
    have hno1 := hno kvs h4
    refine ⟨_, (L2.pss_cons (L2.ps_set (i := 3) nd rfl (Or.inl rfl) pe_int)
      (L2.pss_cons (ps_for PassesOwn.never rfl (pi_list ((L2.pe_call G1 hr (by rfl) (Mp.Df.g D1) (Mp.Df.F D1).kp (Mp.Df.b D1) .nil L2.pass0 (L2.pa_cons (pv 2) L2.pa_nil)))) (pg_name (i := 4) nd rfl (Or.inl rfl)) (L2.pss_one (ps_aug (i := 3) nd rfl (Or.inl rfl) ((L2.pe_ix L2.ix_list (pe_fld (pv 0) rfl) (pe_op op_add (pv 1) (pv 4)) (fun _ _ => rfl))) (pip_of iop_or))))
      (L2.pss_cons (ps_dput hu (pe_fld (pv 0) rfl) (pe_tup (L2.pa_cons (pv 1) (L2.pa_cons (pv 2) L2.pa_nil))) (pv 3) rfl)
      (L2.pss_one (ps_ret (pv 3)))))), ?_⟩
    refine ⟨_, rfl, j, rfl, Nat.lt_of_lt_of_le hj (by decide), fun H1 p s1 np e1 => ⟨p, rfl, ⟨_, sqL_of e1⟩, for_list (K := K) (a := p) (xs := ivs (stepsIn j))
      (fun n σ H' => H' = H1 ∧ ∃ v : Option V, σ = [some (.ref x), some (iv (8 * i)), some (iv j), some (iv (orAt tab (((stepsIn j).take n).map fun s => 8 * i + s))), v])
      ⟨rfl, none, rfl⟩ (fun n σ H' _ h => by rw [h.1]; exact sqL_of e1) ?_ ?_⟩⟩
    · rintro n y σ H' hy ⟨rfl, v, rfl⟩
      obtain ⟨z, hz, rfl⟩ : ∃ z, (stepsIn j)[n]? = some z ∧ y = iv z := by
        rw [List.getElem?_map] at hy
        obtain ⟨z, hz, e⟩ := Option.map_eq_some_iff.mp hy
        exact ⟨z, hz, e.symm⟩
      have hzl := hin z (List.mem_of_getElem? hz)
      refine ⟨_, rfl, _, rfl, x, C, dx, _, _, rfl, s1 _ _ h1, T.cl, T.nT, lf_T, _, rfl, _, rfl, _, _, rfl, rfl, lt, _, _, _, rfl, rfl, sqL_of (s1 _ _ h2), at_of (j := 8 * i + z) (Int.natCast_add _ _).symm (getD_at hzl), _, _, rfl, rfl, ?_⟩
      dsimp only []
      rw [bor]
      refine ⟨rfl, some (iv z), ?_⟩
      have e : ((stepsIn j).take (n + 1)).map (fun s => 8 * i + s) = ((stepsIn j).take n).map (fun s => 8 * i + s) ++ [8 * i + z] := by
        obtain ⟨hlt, e⟩ := List.getElem?_eq_some_iff.mp hz
        rw [List.take_succ_eq_append_getElem hlt, List.map_append, e]; rfl
      have e2 : orAt tab (((stepsIn j).take (n + 1)).map fun s => 8 * i + s) = orAt tab (((stepsIn j).take n).map fun s => 8 * i + s) ||| tab.getD (8 * i + z) 0 := by
        rw [e]; unfold orAt; rw [List.foldl_append]; rfl
      rw [e2]; rfl
    · rintro σ H' ⟨rfl, v, rfl⟩
      rw [ivs_len, List.take_length]
      refine ⟨_, rfl, _, rfl, x, C, dx, _, _, rfl, s1 _ _ h1, T.cl, T.nC, lf_C, _, rfl, _, rfl, by show 2 ≤ sizeLine; decide, fun b hb => ?_⟩
      have s2 := s1.trans (Same.upd (.tup [iv (8 * i), iv j]) hb)
      have eb : upd H' b (.tup [iv (8 * i), iv j]) b = some (.tup ((ckey i j).map kV)) := upd_same
      generalize upd H' b (.tup [iv (8 * i), iv j]) = H2 at *
      refine ⟨dc, _, rfl, DPut.t (s2 _ _ h4) eb (Nat.lt_of_le_of_lt h5.len (by decide)), _, rfl, ?_⟩
      refine k _ ⟨wl, fun d tab' e => ?_, fun b o e n _ => ?_, fun b hb => absurd hb (by simp)⟩
      · by_cases z : d = dc
        · subst z
          rw [hg] at e; cases e
          exact ⟨_, upd_same, h5.put hi hj hno1⟩
        · obtain ⟨kv, q1, q2⟩ := wl d tab' e
          exact ⟨kv, by rw [upd_ne z]; exact s2 _ _ q1, q2⟩
      · rw [upd_ne (fun z => by rw [z, hg] at n; cases n)]; exact s2 _ _ e

theorem scSteps : FnScope ["self", "steps", "ends", "start", "chunk", "found"] ["self", "steps"] (defScope sReached) := ⟨rfl, rfl, rfl, by decide +kernel, rfl, by decide +kernel, by decide +kernel⟩
theorem ok_steps {f f1 : Addr} {fd fd1 : FuncData} (F : Fun K "reached" "Links.reached" sReached f fd) (T : Cl K C) (TX : Txt K mg)
    (D1 : Dm K C "reached_from_chunk" "Links.reached_from_chunk" sChunk ["self", "start", "chunk"] f1 fd1) (G1 : FnOk P w K mg base CX0 2 f1 fd1 ["self", "start", "chunk"] (spChunk C)) : FnOk P w K mg base CX0 3 f fd ["self", "steps"] (spReached C) := by
  obtain ⟨t1, m1⟩ := TX.CHUNK_MASK
  obtain ⟨t2, m2⟩ := TX.CHUNK_BITS
  refine F.ok scSteps (fun vs H Q E h => ?_) (fun cdv A outer s H vs Q E hr h => ?_)
  · obtain ⟨G, x, d, tab, rfl, _⟩ := h; rfl
  · obtain ⟨G, x, d, tab, rfl, wl, ⟨dx, lt, dc, m, hg, _⟩, hlen, hd, k⟩ := h
    have nd := scSteps.nd
    have hu := hu_of hr
    refine ⟨_, (L2.pss_cons (L2.ps_set (i := 2) nd rfl (Or.inl rfl) pe_int)
      (L2.pss_cons (L2.ps_set (i := 3) nd rfl (Or.inl rfl) pe_int)
      (L2.pss_cons (ps_while PassesOwn.never (pt_truth (pv 1) (by intro _; rfl)) (L2.pss_cons (L2.ps_set (i := 4) nd rfl (Or.inl rfl) (pe_op op_and (pv 1) (pgc m1)))
      (L2.pss_cons (L2.ps_if (pt_truth (pv 4) (by intro _; rfl)) (L2.pss_cons (L2.ps_set (i := 5) nd rfl (Or.inl rfl) (pe_dget1 hu (pe_fld (pv 0) rfl) (pe_tup (L2.pa_cons (pv 3) (L2.pa_cons (pv 4) L2.pa_nil))) ⟨rfl, rfl, rfl, rfl⟩))
      (L2.pss_one (ps_aug (i := 2) nd rfl (Or.inl rfl) (pe_ifExp (pt_cmpR op_isN (pv 5) pe_non (nomark _)) ((L2.pe_meth (pv 0) T.cl (Mp.Dm.m D1) G1 hr (Mp.Dm.b D1) .nil L2.pass0 (L2.pa_cons (pv 3) (L2.pa_cons (pv 4) L2.pa_nil)))) (pv 5)) (pip_of iop_or)))) L2.pss_nil)
      (L2.pss_cons (ps_aug (i := 1) nd rfl (Or.inl rfl) (pgc m2) (pip_of iop_shr))
      (L2.pss_one (ps_aug (i := 3) nd rfl (Or.inl rfl) (pgc m2) ip_add))))))
      (L2.pss_one (ps_ret (pv 2)))))), ?_⟩
    dsimp only [gName, tSeq, tAsg, tC]
    refine while_by (fun σ H' => ∃ (i : Nat) (v4 v5 : Option V), σ = [some (.ref x), some (iv (d / 2 ^ (8 * i))), some (iv (orAt tab (stepsIn (d % 2 ^ (8 * i))))), some (iv (8 * i)), v4, v5] ∧ Go G [] H H') doneMu
      ⟨0, none, none, ?_, .refl wl _⟩ ?_ (fun σ H Q Q' m ⟨v, hv, k, t, q⟩ => ⟨v, hv, k, t, m _ _ q⟩)
    · rw [Nat.mul_zero, Nat.pow_zero, Nat.div_one, Nat.mod_one, Mx.stepsIn_zero]; rfl
    · rintro σ H1 ⟨i, v4, v5, rfl, a1⟩
      refine ⟨_, rfl, (((d / 2 ^ (8 * i) : Nat) : Int) != 0), rfl, ?_⟩
      by_cases h0 : d / 2 ^ (8 * i) = 0
      · rw [h0]
        refine iteF ⟨_, rfl, ?_⟩
        have hlt : d < 2 ^ (8 * i) := (Nat.div_eq_zero_iff_lt (Nat.two_pow_pos _)).mp h0
        rw [Nat.mod_eq_of_lt hlt]
        exact k H1 a1
      · have e : (((d / 2 ^ (8 * i) : Nat) : Int) != 0) = true := by
          generalize d / 2 ^ (8 * i) = n at h0
          rw [bne_iff_ne]; omega
        refine if_true_of e ⟨_, rfl, _, _, rfl, rfl, ?_⟩
        have hi8 : 8 * i < tab.length := by
          have h1 : 2 ^ (8 * i) ≤ d := by
            by_cases hc : 2 ^ (8 * i) ≤ d
            · exact hc
            · exact absurd ((Nat.div_eq_zero_iff_lt (Nat.two_pow_pos _)).mpr (by omega)) h0
          exact (Nat.pow_lt_pow_iff_right (a := 2) (by omega)).mp (Nat.lt_of_le_of_lt h1 hd)
        have eand : Builtin.bitAnd ((d / 2 ^ (8 * i) : Nat) : Int) 255 = ((d / 2 ^ (8 * i) % 256 : Nat) : Int) := by
          rw [show (255 : Int) = ((255 : Nat) : Int) from rfl, band, show (255 : Nat) = 2 ^ 8 - 1 from rfl, Nat.and_two_pow_sub_one_eq_mod]
        dsimp only [gName]
        rw [eand]
        have hc256 : d / 2 ^ (8 * i) % 256 < 256 := Nat.mod_lt _ (by omega)
        have nxc := nx_chunk tab d i
        have inC : ∀ s ∈ stepsIn (d / 2 ^ (8 * i) % 256), 8 * i + s < tab.length := fun s hs => by
          have hs := Mx.mem_stepsIn.mp hs
          rw [show (256 : Nat) = 2 ^ 8 from rfl, Nat.testBit_mod_two_pow, Nat.testBit_div_two_pow, Bool.and_eq_true] at hs
          by_cases hc : 8 * i + s < tab.length
          · exact hc
          · have := hs.2
            rw [Nat.add_comm, Nat.testBit_lt_two_pow (Nat.lt_of_lt_of_le hd (Nat.pow_le_pow_right (by omega) (by omega)))] at this; cases this
        have hdiv : d / 2 ^ (8 * (i + 1)) = d / 2 ^ (8 * i) / 256 := by
          rw [Nat.div_div_eq_div_mul, show 8 * (i + 1) = 8 * i + 8 by omega, Nat.pow_add]
        have ediv : ∀ n : Nat, (n : Int) / 2 ^ ((8 : Int)).toNat = ((n / 256 : Nat) : Int) := fun n => (Int.natCast_ediv n 256).symm
        have esum : ((8 * i : Nat) : Int) + 8 = ((8 * (i + 1) : Nat) : Int) := by omega
        have emu : d / 2 ^ (8 * (i + 1)) < d / 2 ^ (8 * i) := by
          rw [hdiv]; exact Nat.div_lt_self (Nat.pos_of_ne_zero h0) (by decide)
        have go : ∀ (H2 : Hp) (v5' : Option V) (z : Nat), z = orAt tab (stepsIn (d % 2 ^ (8 * (i + 1)))) → Go G [] H1 H2 →
            (∃ (i' : Nat) (v4 v5 : Option V), [some (.ref x), some (V.int (((d / 2 ^ (8 * i) : Nat) : Int) / 2 ^ ((8 : Int)).toNat)), some (iv z), some (V.int (((8 * i : Nat) : Int) + 8)), some (iv (d / 2 ^ (8 * i) % 256)), v5'] = [some (.ref x), some (iv (d / 2 ^ (8 * i'))), some (iv (orAt tab (stepsIn (d % 2 ^ (8 * i'))))), some (iv (8 * i')), v4, v5] ∧ Go G [] H H2) := fun H2 v5' z hz a2 => by
          refine ⟨i + 1, some (iv (d / 2 ^ (8 * i) % 256)), v5', ?_, a1.trans a2⟩
          rw [ediv, ← hdiv, esum, hz]
        have mu : (V.int (((d / 2 ^ (8 * i) : Nat) : Int) / 2 ^ ((8 : Int)).toNat)) = iv (d / 2 ^ (8 * (i + 1))) := by rw [ediv, ← hdiv]
        refine ⟨_, rfl, (((d / 2 ^ (8 * i) % 256 : Nat) : Int) != 0), rfl, ?_⟩
        have h1 := a1.at0 m.o
        have h2 := a1.at0 m.t
        obtain ⟨kvs, h4, h5⟩ := a1.w' dc tab hg
        by_cases hc0 : d / 2 ^ (8 * i) % 256 = 0
        · rw [hc0] at nxc
          have en : chunkOf tab i 0 = 0 := by unfold chunkOf; rw [Mx.stepsIn_zero]; rfl
          rw [en, Nat.or_zero] at nxc
          refine if_false_of (by rw [hc0]; rfl) ⟨_, rfl, _, _, rfl, rfl, by show (0 : Int) ≤ 8; decide, _, rfl, _, _, rfl, rfl, go H1 v5 _ nxc (.refl a1.w' _), ?_⟩
          show (((d / 2 ^ (8 * i) : Nat) : Int) / 2 ^ ((8 : Int)).toNat).toNat < (((d / 2 ^ (8 * i) : Nat) : Int)).toNat
          rw [ediv, ← hdiv, Int.toNat_natCast, Int.toNat_natCast]; exact emu
        · have e2 : (((d / 2 ^ (8 * i) % 256 : Nat) : Int) != 0) = true := by
            generalize d / 2 ^ (8 * i) % 256 = n at hc0
            rw [bne_iff_ne]; omega
          refine if_true_of e2 ⟨_, rfl, x, C, dx, _, _, rfl, h1, T.cl, T.nC, lf_C, dc, rfl, .inr ⟨kvs, .inl h4⟩, _, rfl, _, rfl, by show 2 ≤ sizeLine; decide, fun b hb => ?_⟩
          have s2 := Same.upd (.tup [iv (8 * i), iv (d / 2 ^ (8 * i) % 256)]) hb
          have eb : upd H1 b (.tup [iv (8 * i), iv (d / 2 ^ (8 * i) % 256)]) b = some (.tup ((ckey i (d / 2 ^ (8 * i) % 256)).map kV)) := upd_same
          generalize upd H1 b (.tup [iv (8 * i), iv (d / 2 ^ (8 * i) % 256)]) = H2 at *
          refine ⟨_, DGet.t (s2 _ _ h4) eb, ?_⟩
          cases hv : valV kvs (ckey i (d / 2 ^ (8 * i) % 256)) with
          | none =>
            refine ⟨_, rfl, _, rfl, rfl, _, rfl, iteT ⟨_, rfl, x, dx, _, rfl, s2 _ _ h1, lf_no (by decide +kernel) (by decide +kernel), _, rfl, _, rfl, ?_⟩⟩
            refine ⟨G, x, dx, lt, dc, i, d / 2 ^ (8 * i) % 256, tab, rfl, a1.w'.same s2, ⟨s2 _ _ h1, s2 _ _ h2⟩, hg, by omega, hc256, inC, fun kvs' e' => ?_, fun H3 a3 => ⟨_, _, rfl, rfl, ?_⟩⟩
            · rw [s2 _ _ h4] at e'; cases e'; exact hv
            · dsimp only []
              rw [bor, nxc]
              refine ⟨_, rfl, _, _, rfl, rfl, by show (0 : Int) ≤ 8; decide, _, rfl, _, _, rfl, rfl, go H3 _ _ rfl ((Go.of a1.w' s2).trans a3), ?_⟩
              show (((d / 2 ^ (8 * i) : Nat) : Int) / 2 ^ ((8 : Int)).toNat).toNat < (((d / 2 ^ (8 * i) : Nat) : Int)).toNat
              rw [ediv, ← hdiv, Int.toNat_natCast, Int.toNat_natCast]; exact emu
          | some v =>
            have ev := h5.get hv
            subst ev
            refine ⟨_, rfl, _, rfl, rfl, _, rfl, iteF ⟨_, rfl, _, _, rfl, rfl, ?_⟩⟩
            dsimp only []
            rw [bor, nxc]
            refine ⟨_, rfl, _, _, rfl, rfl, by show (0 : Int) ≤ 8; decide, _, rfl, _, _, rfl, rfl, go H2 _ _ rfl (.of a1.w' s2), ?_⟩
            show (((d / 2 ^ (8 * i) : Nat) : Int) / 2 ^ ((8 : Int)).toNat).toNat < (((d / 2 ^ (8 * i) : Nat) : Int)).toNat
            rw [ediv, ← hdiv, Int.toNat_natCast, Int.toNat_natCast]; exact emu

end
end Mp

-- MpBuild
set_option maxRecDepth 100000
set_option maxHeartbeats 4000000
set_option exponentiation.threshold 3000
/-! A pattern's steps are built. -/
namespace Mp
open PySem PySem.Spec PyProof.Rows L2
open Mx (stepsIn nothing eitherS orInto orAt)

abbrev sMatcher : Stmt := top 40
abbrev sMInit : Stmt := inClass sMatcher 0
abbrev sShapeOf : Stmt := inClass sMatcher 1
abbrev sSingle : Stmt := inClass sMatcher 2
abbrev sSequence : Stmt := inClass sMatcher 3
abbrev sRepeated : Stmt := inClass sMatcher 4
abbrev sLink : Stmt := inClass sMatcher 5
abbrev sFitting : Stmt := inClass sMatcher 6
abbrev sPromising : Stmt := inClass sMatcher 7
abbrev sScan : Stmt := inClass sMatcher 8


/-- the class of the matchers -/
structure Cm (K : PySem.W.Frag) (C : Addr) : Prop where
  cl : Cls K C
  nB : NoAttr K C "behind"
  nA : NoAttr K C "ahead"
  nY : NoAttr K C "by_byte"
  nE : NoAttr K C "empty"
  nF : NoAttr K C "first"
  nL : NoAttr K C "last"

/-- a matcher's attributes: the links to what is behind each step, to what is ahead, the steps by byte; later whether it matches no byte, its first and last ones -/
def mf (xb xa ly : Addr) (r : List (Str × V)) : List (Str × V) := ("behind", .ref xb) :: ("ahead", .ref xa) :: ("by_byte", .ref ly) :: r
theorem mf_B {lb ly dc : Addr} {r : List (Str × V)} : (mf lb ly dc r).lookup ("behind" : Str) = some (.ref lb) := lk_here
theorem mf_A {lb ly dc : Addr} {r : List (Str × V)} : (mf lb ly dc r).lookup ("ahead" : Str) = some (.ref ly) := (lk_past (by decide +kernel)).trans lk_here
theorem mf_Y {lb ly dc : Addr} {r : List (Str × V)} : (mf lb ly dc r).lookup ("by_byte" : Str) = some (.ref dc) := (lk_past (by decide +kernel)).trans ((lk_past (by decide +kernel)).trans lk_here)
theorem mf_no {lb ly dc : Addr} {r : List (Str × V)} {m : Str} (h1 : (m == ("behind" : Str)) = false) (h2 : (m == ("ahead" : Str)) = false) (h3 : (m == ("by_byte" : Str)) = false) (h : r.lookup m = none) : (mf lb ly dc r).lookup m = none :=
  (lk_past h1).trans ((lk_past h2).trans ((lk_past h3).trans h))

/-- a matcher that is being built: where its things are -/
structure Ad where
  x : Addr
  dx : Addr
  xb : Addr
  dxb : Addr
  xa : Addr
  dxa : Addr
  lb : Addr
  la : Addr
  ly : Addr
  db : Addr
  da : Addr
structure MB (C CL : Addr) (H : Hp) (a : Ad) (st : Mx.B) : Prop where
  o : H a.x = some (.ins C a.dx (mf a.xb a.xa a.ly []))
  bb : LB CL H a.xb a.dxb a.lb a.db st.beh
  aa : LB CL H a.xa a.dxa a.la a.da st.ahd
  y : H a.ly = some (.lst (ivs st.byb))
  n1 : a.lb ≠ a.la
  n2 : a.lb ≠ a.ly
  n3 : a.la ≠ a.ly
/-- all but the three lists stands -/
def KeepB (a : Ad) (H H' : Hp) : Prop := ∀ b o, H b = some o → b ≠ a.lb → b ≠ a.la → b ≠ a.ly → H' b = some o
theorem KeepB.refl (a : Ad) (H : Hp) : KeepB a H H := fun _ _ h _ _ _ => h
theorem KeepB.trans {a : Ad} {H H1 H2 : Hp} (k : KeepB a H H1) (l : KeepB a H1 H2) : KeepB a H H2 := fun c o h h1 h2 h3 => l c o (k c o h h1 h2 h3) h1 h2 h3
theorem KeepB.of {a : Ad} {H H1 : Hp} (k : Same H H1) : KeepB a H H1 := fun c o h _ _ _ => k c o h
theorem LB.same {C : Addr} {H H' : Hp} {x dx lt dc : Addr} {tab : List Nat} (m : LB C H x dx lt dc tab) (s : Same H H') : LB C H' x dx lt dc tab := ⟨s _ _ m.o, s _ _ m.t⟩
theorem MB.same {C CL : Addr} {H H' : Hp} {a : Ad} {st : Mx.B} (m : MB C CL H a st) (s : Same H H') : MB C CL H' a st := ⟨s _ _ m.o, m.bb.same s, m.aa.same s, s _ _ m.y, m.n1, m.n2, m.n3⟩
theorem KeepB.free {C CL : Addr} {a : Ad} {H H' : Hp} {b : Addr} {st : Mx.B} (k : KeepB a H H') (h : H' b = none) (m : MB C CL H' a st) : H b = none := by
  cases q : H b with
  | none => rfl
  | some o => rw [k b o q (fun z => by rw [z, m.bb.t] at h; cases h) (fun z => by rw [z, m.aa.t] at h; cases h) (fun z => by rw [z, m.y] at h; cases h)] at h; cases h
theorem KeepB.at {C CL : Addr} {a : Ad} {H H' : Hp} {p : Addr} {st : Mx.B} {o : HO} (k : KeepB a H H') (m : MB C CL H a st) (h : H p = some o) (n : ∀ y, o ≠ .lst y := by intro _ z; cases z) : H' p = some o :=
  k p _ h (ne_of h m.bb.t (n _)) (ne_of h m.aa.t (n _)) (ne_of h m.y (n _))

def spLink (C CL : Addr) : Sp := fun vs H Q _ => ∃ (a : Ad) (st : Mx.B) (L F : Nat), vs = [.ref a.x, iv L, iv F] ∧ MB C CL H a st ∧ L < 2 ^ 2048 ∧ F < 2 ^ 2048 ∧ (∀ s ∈ stepsIn L, s < st.beh.length) ∧ (∀ s ∈ stepsIn F, s < st.ahd.length) ∧
  ∀ H', MB C CL H' a (Mx.link st L F) → KeepB a H H' → Q .non H'

section
variable {P : Program} {w : World} {K : PySem.W.Frag} {mg : Str → Option Value} {base : Heap} {C CL : Addr}
theorem scLink : FnScope ["self", "last", "first"] ["self", "last", "first"] (defScope sLink) := ⟨rfl, rfl, rfl, by decide +kernel, rfl, by decide +kernel, by decide +kernel⟩
theorem ok_link {f f1 : Addr} {fd fd1 : FuncData} (F : Fun K "link" "Matcher.link" sLink f fd) (T : Cm K C) (TL : Cl K CL) (D1 : Dm K CL "lead" "Links.lead" sLead ["self", "starts", "ends"] f1 fd1) (G1 : FnOk P w K mg base CX0 2 f1 fd1 ["self", "starts", "ends"] (spLead CL)) : FnOk P w K mg base CX0 3 f fd ["self", "last", "first"] (spLink C CL) := by
  refine F.ok scLink (fun vs H Q E h => ?_) (fun cdv A outer s H vs Q E hr h => ?_)
  · obtain ⟨a, st, L, F, rfl, _⟩ := h; rfl
  · obtain ⟨a, st, L, F, rfl, m, hL, hF, hin, hin2, k⟩ := h
    refine ⟨_, (L2.pss_cons (ps_expr ((L2.pe_meth (pe_fld (pv 0) rfl) TL.cl (Mp.Dm.m D1) G1 hr (Mp.Dm.b D1) .nil L2.pass0 (L2.pa_cons (pv 1) (L2.pa_cons (pv 2) L2.pa_nil)))))
      (L2.pss_one (ps_expr ((L2.pe_meth (pe_fld (pv 0) rfl) TL.cl (Mp.Dm.m D1) G1 hr (Mp.Dm.b D1) .nil L2.pass0 (L2.pa_cons (pv 2) (L2.pa_cons (pv 1) L2.pa_nil))))))), ?_⟩
    refine ⟨_, rfl, a.x, C, a.dx, _, _, rfl, m.o, T.cl, T.nB, mf_B, a.xb, a.dxb, _, rfl, m.bb.o, lf_no (by decide +kernel) (by decide +kernel), _, rfl, _, rfl, ?_⟩
    refine ⟨a.xb, a.dxb, a.lb, a.db, st.beh, L, F, rfl, m.bb, hL, hin, fun H1 e1 a1 => ?_⟩
    have up : ∀ {b : Addr} {o : HO}, H b = some o → (∀ y, o ≠ .lst y) → H1 b = some o := fun e n => a1 _ _ e (ne_of e m.bb.t (n _))
    have xo := up m.o (by intro _ z; cases z)
    have ao := up m.aa.o (by intro _ z; cases z)
    refine ⟨_, rfl, a.x, C, a.dx, _, _, rfl, xo, T.cl, T.nA, mf_A, a.xa, a.dxa, _, rfl, ao, lf_no (by decide +kernel) (by decide +kernel), _, rfl, _, rfl, ?_⟩
    refine ⟨a.xa, a.dxa, a.la, a.da, st.ahd, F, L, rfl, ⟨ao, a1 _ _ m.aa.t m.n1.symm⟩, hF, hin2, fun H2 e2 a2 => ?_⟩
    have up2 : ∀ {b : Addr} {o : HO}, H b = some o → (∀ y, o ≠ .lst y) → H2 b = some o := fun e n => a2 _ _ (up e n) (ne_of e m.aa.t (n _))
    refine k H2 ⟨up2 m.o (by intro _ z; cases z), ⟨up2 m.bb.o (by intro _ z; cases z), a2 _ _ e1 m.n1⟩, ⟨up2 m.aa.o (by intro _ z; cases z), e2⟩, a2 _ _ (a1 _ _ m.y m.n2.symm) m.n3.symm, m.n1, m.n2, m.n3⟩ (fun b o e h1 h2 h3 => a2 _ _ (a1 _ _ e h1) h2)

def spSingle (C CL : Addr) : Sp := fun vs H Q _ => ∃ (a : Ad) (am : Addr) (st : Mx.B) (ms : List Nat), vs = [.ref a.x, .ref am] ∧ MB C CL H a st ∧ H am = some (.lst (ivs ms)) ∧ am ≠ a.lb ∧ am ≠ a.la ∧ am ≠ a.ly ∧ st.beh.length ≤ 2000 ∧ st.ahd.length = st.beh.length ∧ (∀ b ∈ ms, b < st.byb.length) ∧
  ∀ H' p, MB C CL H' a (Mx.single st ms).1 → KeepB a H H' → H p = none → H' p = some (.tup (shv (Mx.single st ms).2)) → Q (.ref p) H'
theorem scSingle : FnScope ["self", "members", "step", "byte"] ["self", "members"] (defScope sSingle) := ⟨rfl, rfl, rfl, by decide +kernel, rfl, by decide +kernel, by decide +kernel⟩
theorem ok_single {f f1 : Addr} {fd fd1 : FuncData} (F : Fun K "single" "Matcher.single" sSingle f fd) (T : Cm K C) (TL : Cl K CL) (TX : Txt K mg) (D1 : Dm K CL "add_step" "Links.add_step" sAddStep ["self"] f1 fd1) : FnOk P w K mg base CX0 2 f fd ["self", "members"] (spSingle C CL) := by
  have G1 : FnOk P w K mg base CX0 1 f1 fd1 ["self"] (spAddStep CL) := ok_addStep D1.F TL TX
  refine F.ok scSingle (fun vs H Q E h => ?_) (fun cdv A outer s H vs Q E hr h => ?_)
  · obtain ⟨a, am, st, ms, rfl, _⟩ := h; rfl
  · obtain ⟨a, am, st, ms, rfl, m, hm, nlb, nla, nly, hlen, hal, hms, k⟩ := h
    have nd := scSingle.nd
    refine ⟨_, (L2.pss_cons (L2.ps_if (pt_not (pt_truth (pv 1) (by intro _; rfl))) (L2.pss_one (ps_ret (pe_tup (L2.pa_cons pe_bl (L2.pa_cons pe_int (L2.pa_cons pe_int L2.pa_nil)))))) L2.pss_nil)
      (L2.pss_cons (L2.ps_set (i := 2) nd rfl (Or.inl rfl) (L2.pe_meth0 (pe_fld (pv 0) rfl) TL.cl (Mp.Dm.m D1) G1 hr (Mp.Dm.b D1) .nil L2.pass0))
      (L2.pss_cons (ps_expr ((L2.pe_meth0 (pe_fld (pv 0) rfl) TL.cl (Mp.Dm.m D1) G1 hr (Mp.Dm.b D1) .nil L2.pass0)))
      (L2.pss_cons (ps_for PassesOwn.never rfl (pi_list (pv 1)) (pg_name (i := 3) nd rfl (Or.inl rfl)) (L2.pss_one (ps_augS (pe_fld (pv 0) rfl) (pv 3) pget_list (pv 2) (pip_of iop_or) set_list)))
      (L2.pss_one (ps_ret (pe_tup (L2.pa_cons pe_bl (L2.pa_cons (pv 2) (L2.pa_cons (pv 2) L2.pa_nil)))))))))), ?_⟩
    refine ⟨_, rfl, !(ivs ms).isEmpty, .inl ⟨_, sqL_of hm, rfl⟩, ?_⟩
    have s3 : (3 : Nat) ≤ sizeLine := by decide
    by_cases h0 : ms = []
    · subst h0
      refine iteT ⟨s3, fun p hp => ?_⟩
      have e : Mx.single st [] = (st, false, 0, 0) := rfl
      rw [e] at k
      exact k _ p (m.same (Same.upd _ hp)) (.of (Same.upd _ hp)) hp upd_same
    · have e0 : (!(!(ivs ms).isEmpty)) = false := by cases ms with
        | nil => exact absurd rfl h0
        | cons a l => rfl
      have e : Mx.single st ms = (⟨st.beh ++ [0], st.ahd ++ [0], orInto (2 ^ st.beh.length) ms st.byb⟩, false, 2 ^ st.beh.length, 2 ^ st.beh.length) := by
        unfold Mx.single; rw [if_neg h0]
      rw [e] at k
      refine if_false_of e0 ⟨_, rfl, a.x, C, a.dx, _, _, rfl, m.o, T.cl, T.nB, mf_B, a.xb, a.dxb, _, rfl, m.bb.o, lf_no (by decide +kernel) (by decide +kernel), ?_⟩
      refine ⟨a.xb, a.dxb, a.lb, a.db, st.beh, rfl, m.bb, hlen, ?_⟩
      have up : ∀ {b : Addr} {o : HO}, H b = some o → (∀ y, o ≠ .lst y) → upd H a.lb (.lst (ivs (st.beh ++ [0]))) b = some o := fun e n => by rw [upd_ne (ne_of e m.bb.t (n _))]; exact e
      have xo := up m.o (by intro _ z; cases z)
      have ao := up m.aa.o (by intro _ z; cases z)
      have at' : upd H a.lb (.lst (ivs (st.beh ++ [0]))) a.la = some (.lst (ivs st.ahd)) := by rw [upd_ne m.n1.symm]; exact m.aa.t
      refine ⟨_, rfl, a.x, C, a.dx, _, _, rfl, xo, T.cl, T.nA, mf_A, a.xa, a.dxa, _, rfl, ao, lf_no (by decide +kernel) (by decide +kernel), ?_⟩
      refine ⟨a.xa, a.dxa, a.la, a.da, st.ahd, rfl, ⟨ao, at'⟩, by rw [hal]; exact hlen, ?_⟩
      have up2 : ∀ {b : Addr} {o : HO}, H b = some o → (∀ y, o ≠ .lst y) → upd (upd H a.lb (.lst (ivs (st.beh ++ [0])))) a.la (.lst (ivs (st.ahd ++ [0]))) b = some o := fun e n => by rw [upd_ne (ne_of e m.aa.t (n _))]; exact up e n
      have m1 : MB C CL (upd (upd H a.lb (.lst (ivs (st.beh ++ [0])))) a.la (.lst (ivs (st.ahd ++ [0])))) a ⟨st.beh ++ [0], st.ahd ++ [0], st.byb⟩ :=
        ⟨up2 m.o (by intro _ z; cases z), ⟨up2 m.bb.o (by intro _ z; cases z), by rw [upd_ne m.n1]; exact upd_same⟩, ⟨up2 m.aa.o (by intro _ z; cases z), upd_same⟩, by rw [upd_ne m.n3.symm, upd_ne m.n2.symm]; exact m.y, m.n1, m.n2, m.n3⟩
      have k1 : KeepB a H (upd (upd H a.lb (.lst (ivs (st.beh ++ [0])))) a.la (.lst (ivs (st.ahd ++ [0])))) := fun b o e h1 h2 _ => by rw [upd_ne h2, upd_ne h1]; exact e
      generalize upd (upd H a.lb (.lst (ivs (st.beh ++ [0])))) a.la (.lst (ivs (st.ahd ++ [0]))) = H1 at *
      refine ⟨_, rfl, am, rfl, ⟨_, sqL_of (k1 _ _ hm nlb nla nly)⟩, for_list (K := K) (a := am) (xs := ivs ms)
        (fun i σ H' => ∃ v : Option V, σ = [some (.ref a.x), some (.ref am), some (iv (2 ^ st.beh.length)), v] ∧ MB C CL H' a ⟨st.beh ++ [0], st.ahd ++ [0], orInto (2 ^ st.beh.length) (ms.take i) st.byb⟩ ∧ KeepB a H H')
        ⟨none, rfl, m1, k1⟩ (fun i σ H' _ ⟨_, _, _, kk⟩ => sqL_of (kk _ _ hm nlb nla nly)) ?_ ?_⟩
      · rintro i y σ H' hi ⟨v, rfl, m2, k2⟩
        obtain ⟨n, hn, rfl⟩ : ∃ n, ms[i]? = some n ∧ y = iv n := by
          rw [List.getElem?_map] at hi
          obtain ⟨n, hn, e⟩ := Option.map_eq_some_iff.mp hi
          exact ⟨n, hn, e.symm⟩
        have hnl : n < (orInto (2 ^ st.beh.length) (ms.take i) st.byb).length := by rw [Mx.orInto_length]; exact hms n (List.mem_of_getElem? hn)
        refine ⟨_, rfl, a.x, C, a.dx, _, _, rfl, m2.o, T.cl, T.nY, mf_Y, _, rfl, a.ly, _, n, _, rfl, rfl, sqL_of m2.y, getD_at hnl, _, rfl, _, _, rfl, rfl, a.ly, _, _, n, rfl, rfl, m2.y, ?_, ?_⟩
        · rw [ivs_len]; exact ixN_nat hnl
        · dsimp only []
          rw [bor, ivs_set, ← orInto_take hn]
          have up3 : ∀ {b : Addr} {o o' : HO}, H' b = some o → (∀ y, o ≠ .lst y) → upd H' a.ly o' b = some o := fun e n => by rw [upd_ne (ne_of e m2.y (n _))]; exact e
          refine ⟨_, rfl, ⟨up3 m2.o (by intro _ z; cases z), ⟨up3 m2.bb.o (by intro _ z; cases z), ?_⟩, ⟨up3 m2.aa.o (by intro _ z; cases z), ?_⟩, upd_same, m.n1, m.n2, m.n3⟩, fun b o e h1 h2 h3 => ?_⟩
          · rw [upd_ne m.n2]; exact m2.bb.t
          · rw [upd_ne m.n3]; exact m2.aa.t
          · rw [upd_ne h3]; exact k2 b o e h1 h2 h3
      · rintro σ H' ⟨v, rfl, m2, k2⟩
        rw [ivs_len, List.take_length] at m2
        refine ⟨_, rfl, _, rfl, s3, fun p hp => ?_⟩
        exact k _ p (m2.same (Same.upd _ hp)) (k2.trans (.of (Same.upd _ hp))) (k2.free hp m2) upd_same

def spSequence (C CL : Addr) : Sp := fun vs H Q _ => ∃ (a : Ad) (pl pr : Addr) (st : Mx.B) (l r : Mx.Shape), vs = [.ref a.x, .ref pl, .ref pr] ∧ MB C CL H a st ∧ H pl = some (.tup (shv l)) ∧ H pr = some (.tup (shv r)) ∧ l.2.2 < 2 ^ 2048 ∧ r.2.1 < 2 ^ 2048 ∧ (∀ s ∈ stepsIn l.2.2, s < st.beh.length) ∧ (∀ s ∈ stepsIn r.2.1, s < st.ahd.length) ∧
  ∀ H' p, MB C CL H' a (Mx.sequence st l r).1 → KeepB a H H' → H p = none → H' p = some (.tup (shv (Mx.sequence st l r).2)) → Q (.ref p) H'
theorem scSequence : FnScope ["self", "left", "right", "first", "last"] ["self", "left", "right"] (defScope sSequence) := ⟨rfl, rfl, rfl, by decide +kernel, rfl, by decide +kernel, by decide +kernel⟩
theorem ok_sequence {f f1 f2 : Addr} {fd fd1 fd2 : FuncData} (F : Fun K "sequence" "Matcher.sequence" sSequence f fd) (T : Cm K C) (D1 : Df K mg "matches_nothing" sNothing ["shape"] f1 fd1)
    (D2 : Dm K C "link" "Matcher.link" sLink ["self", "last", "first"] f2 fd2) (G2 : FnOk P w K mg base CX0 3 f2 fd2 ["self", "last", "first"] (spLink C CL)) : FnOk P w K mg base CX0 4 f fd ["self", "left", "right"] (spSequence C CL) := by
  have G1 : FnOk P w K mg base CX0 1 f1 fd1 ["shape"] spNothing := ok_nothing D1.F
  refine F.ok scSequence (fun vs H Q E h => ?_) (fun cdv A outer s H vs Q E hr h => ?_)
  · obtain ⟨a, pl, pr, st, l, r, rfl, _⟩ := h; rfl
  · obtain ⟨a, pl, pr, st, l, r, rfl, m, hl, hrr, hL, hF, hin, hin2, k⟩ := h
    have nd := scSequence.nd
    have hr1 : Room 1 _ := hr.mono (by decide)
    have s3 : (3 : Nat) ≤ sizeLine := by decide
    refine ⟨_, (L2.pss_cons (L2.ps_if (PW.pt (pw_or (pt_val ((L2.pe_call G1 hr1 (by rfl) (Mp.Df.g D1) (Mp.Df.F D1).kp (Mp.Df.b D1) .nil L2.pass0 (L2.pa_cons (pv 1) L2.pa_nil)))) (pw_or1 (pt_val ((L2.pe_call G1 hr1 (by rfl) (Mp.Df.g D1) (Mp.Df.F D1).kp (Mp.Df.b D1) .nil L2.pass0 (L2.pa_cons (pv 2) L2.pa_nil))))))) (L2.pss_one (ps_ret (pe_tup (L2.pa_cons pe_bl (L2.pa_cons pe_int (L2.pa_cons pe_int L2.pa_nil)))))) L2.pss_nil)
      (L2.pss_cons (ps_expr ((L2.pe_meth (pv 0) T.cl (Mp.Dm.m D2) G2 hr (Mp.Dm.b D2) .nil L2.pass0 (L2.pa_cons (L2.pe_ix L2.ix_tup (pv 1) pe_int (fun _ _ => rfl)) (L2.pa_cons (L2.pe_ix L2.ix_tup (pv 2) pe_int (fun _ _ => rfl)) L2.pa_nil)))))
      (L2.pss_cons (L2.ps_set (i := 3) nd rfl (Or.inl rfl) (pe_ifExp (pt_truth ((L2.pe_ix L2.ix_tup (pv 1) pe_int (fun _ _ => rfl))) (by intro _; rfl)) (pe_op op_or ((L2.pe_ix L2.ix_tup (pv 1) pe_int (fun _ _ => rfl))) ((L2.pe_ix L2.ix_tup (pv 2) pe_int (fun _ _ => rfl)))) ((L2.pe_ix L2.ix_tup (pv 1) pe_int (fun _ _ => rfl)))))
      (L2.pss_cons (L2.ps_set (i := 4) nd rfl (Or.inl rfl) (pe_ifExp (pt_truth ((L2.pe_ix L2.ix_tup (pv 2) pe_int (fun _ _ => rfl))) (by intro _; rfl)) (pe_op op_or ((L2.pe_ix L2.ix_tup (pv 1) pe_int (fun _ _ => rfl))) ((L2.pe_ix L2.ix_tup (pv 2) pe_int (fun _ _ => rfl)))) ((L2.pe_ix L2.ix_tup (pv 2) pe_int (fun _ _ => rfl)))))
      (L2.pss_one (ps_ret (pe_tup (L2.pa_cons (pe_and ((L2.pe_ix L2.ix_tup (pv 1) pe_int (fun _ _ => rfl))) (pe_one ((L2.pe_ix L2.ix_tup (pv 2) pe_int (fun _ _ => rfl))))) (L2.pa_cons (pv 3) (L2.pa_cons (pv 4) L2.pa_nil)))))))))), ?_⟩
    apply if_ev (nothing l || nothing r) H
    · intro Q' q
      refine ⟨_, rfl, pl, l, rfl, hl, _, rfl, ?_⟩
      cases hn : nothing l with
      | true => rw [hn] at q; exact iteT q
      | false => rw [hn] at q; exact iteF ⟨_, rfl, pr, r, rfl, hrr, _, rfl, q⟩
    refine ite2 (fun c => ?_) (fun c => ?_)
    · have e : Mx.sequence st l r = (st, false, 0, 0) := by unfold Mx.sequence; rw [if_pos c]
      rw [e] at k
      refine ⟨s3, fun p hp => k _ p (m.same (Same.upd _ hp)) (.of (Same.upd _ hp)) hp upd_same⟩
    · have e : Mx.sequence st l r = (Mx.link st l.2.2 r.2.1, l.1 && r.1, (if l.1 then l.2.1 ||| r.2.1 else l.2.1), (if r.1 then l.2.2 ||| r.2.2 else r.2.2)) := by unfold Mx.sequence; rw [if_neg c]
      rw [e] at k
      refine ⟨_, rfl, a.x, a.dx, _, rfl, m.o, mf_no (by decide +kernel) (by decide +kernel) (by decide +kernel) rfl, _, rfl, pl, _, _, _, rfl, rfl, SqT.of hl, shv2 l, _, rfl, pr, _, _, _, rfl, rfl, SqT.of hrr, shv1 r, ?_⟩
      refine ⟨a, st, l.2.2, r.2.1, rfl, m, hL, hF, hin, hin2, fun H1 m1 k1 => ?_⟩
      have hl1 : SqT K H1 pl (shv l) := SqT.of (k1.at m hl)
      have hr1 : SqT K H1 pr (shv r) := SqT.of (k1.at m hrr)
      apply onward
      apply asg_ev (iv (if l.1 then l.2.1 ||| r.2.1 else l.2.1)) H1
      · intro Q' q
        refine ⟨_, rfl, pl, _, _, _, rfl, rfl, hl1, shv0 l, l.1, rfl, ?_⟩
        cases hx : l.1 with
        | true =>
          rw [hx] at q
          refine iteT ⟨_, rfl, pl, _, _, _, rfl, rfl, hl1, shv1 l, _, rfl, pr, _, _, _, rfl, rfl, hr1, shv1 r, _, _, rfl, rfl, ?_⟩
          dsimp only []; rw [bor]; exact q
        | false => rw [hx] at q; exact iteF ⟨_, rfl, pl, _, _, _, rfl, rfl, hl1, shv1 l, q⟩
      dsimp only [gName]
      apply asg_ev (iv (if r.1 then l.2.2 ||| r.2.2 else r.2.2)) H1
      · intro Q' q
        refine ⟨_, rfl, pr, _, _, _, rfl, rfl, hr1, shv0 r, r.1, rfl, ?_⟩
        cases hx : r.1 with
        | true =>
          rw [hx] at q
          refine iteT ⟨_, rfl, pl, _, _, _, rfl, rfl, hl1, shv2 l, _, rfl, pr, _, _, _, rfl, rfl, hr1, shv2 r, _, _, rfl, rfl, ?_⟩
          dsimp only []; rw [bor]; exact q
        | false => rw [hx] at q; exact iteF ⟨_, rfl, pr, _, _, _, rfl, rfl, hr1, shv2 r, q⟩
      dsimp only [gName]
      refine ⟨_, rfl, pl, _, _, _, rfl, rfl, hl1, shv0 l, l.1, rfl, ?_⟩
      have fin : ∀ p, H1 p = none → Q (.ref p) (upd H1 p (.tup (shv (l.1 && r.1, (if l.1 then l.2.1 ||| r.2.1 else l.2.1), (if r.1 then l.2.2 ||| r.2.2 else r.2.2))))) := fun p hp =>
        k _ p (m1.same (Same.upd _ hp)) (k1.trans (.of (Same.upd _ hp))) (k1.free hp m1) upd_same
      generalize (if l.1 = true then l.2.1 ||| r.2.1 else l.2.1) = a1 at *
      generalize (if r.1 = true then l.2.2 ||| r.2.2 else r.2.2) = a2 at *
      cases hx : l.1 with
      | true =>
        rw [hx] at fin
        exact iteT ⟨_, rfl, pr, _, _, _, rfl, rfl, hr1, shv0 r, _, rfl, _, rfl, s3, fin⟩
      | false =>
        rw [hx] at fin
        exact iteF ⟨_, rfl, _, rfl, s3, fin⟩

/-- a part that repeats: its steps, its shape -/
def rep (st : Mx.B) (sort : Nat) (s : Mx.Shape) : Mx.B × Mx.Shape := (if sort = 5 ∨ sort = 6 then Mx.link st s.2.2 s.2.1 else st, s.1 || (decide (sort = 5) || decide (sort = 7)), s.2)
def spRepeated (C CL : Addr) : Sp := fun vs H Q _ => ∃ (a : Ad) (pi sort : Nat) (st : Mx.B) (s : Mx.Shape), vs = [.ref a.x, iv sort, .ref pi] ∧ MB C CL H a st ∧ H pi = some (.tup (shv s)) ∧ s.2.2 < 2 ^ 2048 ∧ s.2.1 < 2 ^ 2048 ∧ (∀ n ∈ stepsIn s.2.2, n < st.beh.length) ∧ (∀ n ∈ stepsIn s.2.1, n < st.ahd.length) ∧
  ∀ H' p, MB C CL H' a (rep st sort s).1 → KeepB a H H' → H p = none → H' p = some (.tup (shv (rep st sort s).2)) → Q (.ref p) H'
theorem scRepeated : FnScope ["self", "sort", "inner", "empty", "first", "last"] ["self", "sort", "inner"] (defScope sRepeated) := ⟨rfl, rfl, rfl, by decide +kernel, rfl, by decide +kernel, by decide +kernel⟩
theorem ok_repeated {f f2 : Addr} {fd fd2 : FuncData} (F : Fun K "repeated" "Matcher.repeated" sRepeated f fd) (T : Cm K C) (TX : Txt K mg)
    (D2 : Dm K C "link" "Matcher.link" sLink ["self", "last", "first"] f2 fd2) (G2 : FnOk P w K mg base CX0 3 f2 fd2 ["self", "last", "first"] (spLink C CL)) : FnOk P w K mg base CX0 4 f fd ["self", "sort", "inner"] (spRepeated C CL) := by
  obtain ⟨t1, m1⟩ := TX.ANY_TIMES
  obtain ⟨t2, m2⟩ := TX.ONCE_OR_MORE
  obtain ⟨t3, m3⟩ := TX.ONCE_OR_NOT
  refine F.ok scRepeated (fun vs H Q E h => ?_) (fun cdv A outer s H vs Q E hr h => ?_)
  · obtain ⟨a, pi, sort, st, s, rfl, _⟩ := h; rfl
  · obtain ⟨a, pi, sort, st, ⟨e, a1, a2⟩, rfl, m, hp, hL, hF, hin, hin2, k⟩ := h
    have nd := scRepeated.nd
    have s3 : (3 : Nat) ≤ sizeLine := by decide
    refine ⟨_, (L2.pss_cons (ps_asg (pv 2) (pg_tup rfl (pgs_cons (pg_name (i := 3) nd rfl (Or.inl rfl)) (pgs_cons (pg_name (i := 4) nd rfl (Or.inl rfl)) (pgs_cons (pg_name (i := 5) nd rfl (Or.inl rfl)) pgs_nil)))))
      (L2.pss_cons (L2.ps_if (PW.pt (pw_or ((L2.pt_cmpR op_eq (pv 1) (pgc m1) (L2.nomark _))) (pw_or1 ((L2.pt_cmpR op_eq (pv 1) (pgc m2) (L2.nomark _)))))) (L2.pss_one (ps_expr ((L2.pe_meth (pv 0) T.cl (Mp.Dm.m D2) G2 hr (Mp.Dm.b D2) .nil L2.pass0 (L2.pa_cons (pv 5) (L2.pa_cons (pv 4) L2.pa_nil)))))) L2.pss_nil)
      (L2.pss_one (ps_ret (pe_tup (L2.pa_cons (pe_or (pv 3) (pe_or (pe_cmpR op_eq (pv 1) (pgc m1) (nomark _)) (pe_one (pe_cmpR op_eq (pv 1) (pgc m3) (nomark _))))) (L2.pa_cons (pv 4) (L2.pa_cons (pv 5) L2.pa_nil)))))))), ?_⟩
    have q5 : decide (V.int (sort : Int) = V.int 5) = decide (sort = 5) := dec_iv sort 5
    have q6 : decide (V.int (sort : Int) = V.int 6) = decide (sort = 6) := dec_iv sort 6
    have q7 : decide (V.int (sort : Int) = V.int 7) = decide (sort = 7) := dec_iv sort 7
    refine ⟨_, rfl, pi, _, rfl, .inl (.inl hp), rfl, _, _, rfl, _, _, rfl, _, _, rfl, rfl, ?_⟩
    dsimp only []
    apply if_ev (decide (sort = 5 ∨ sort = 6)) H
    · intro Q' q
      refine ⟨_, rfl, rfl, _, rfl, ?_⟩
      rw [q5]
      by_cases h5 : sort = 5
      · rw [decide_eq_true (.inl h5)] at q; rw [decide_eq_true h5]; exact iteT q
      · rw [decide_eq_false h5]
        refine iteF ⟨_, rfl, rfl, _, rfl, ?_⟩
        rw [q6]
        have e : decide (sort = 5 ∨ sort = 6) = decide (sort = 6) := by rw [decide_eq_decide]; simp [h5]
        rw [e] at q; exact q
    have tail : ∀ H1 : Hp, MB C CL H1 a (rep st sort (e, a1, a2)).1 → KeepB a H H1 → ∀ p, H1 p = none → Q (.ref p) (upd H1 p (.tup [.bl (e || (decide (sort = 5) || decide (sort = 7))), iv a1, iv a2])) := fun H1 m1 k1 p hp =>
      k _ p (m1.same (Same.upd _ hp)) (k1.trans (.of (Same.upd _ hp))) (k1.free hp m1) upd_same
    refine ite2 (fun c => ?_) (fun c => ?_)
    · have er : (rep st sort (e, a1, a2)).1 = Mx.link st a2 a1 := by unfold rep; rw [if_pos (of_decide_eq_true c)]
      rw [er] at tail
      refine ⟨_, rfl, a.x, a.dx, _, rfl, m.o, mf_no (by decide +kernel) (by decide +kernel) (by decide +kernel) rfl, _, rfl, _, rfl, a, st, a2, a1, rfl, m, hL, hF, hin, hin2, fun H1 m1 k1 => ?_⟩
      refine ⟨_, rfl, e, rfl, ?_⟩
      cases e with
      | true => exact iteT ⟨_, rfl, _, rfl, s3, tail H1 m1 k1⟩
      | false =>
        refine iteF ⟨_, rfl, rfl, _, rfl, ?_⟩
        rw [q5]
        cases h5 : decide (sort = 5) with
        | true => rw [h5] at tail; exact iteT ⟨_, rfl, _, rfl, s3, tail H1 m1 k1⟩
        | false =>
          rw [h5] at tail
          refine iteF ⟨_, rfl, rfl, ?_⟩
          rw [q7]
          exact ⟨_, rfl, _, rfl, s3, tail H1 m1 k1⟩
    · have er : (rep st sort (e, a1, a2)).1 = st := by unfold rep; rw [if_neg (fun z => c (decide_eq_true z))]
      rw [er] at tail
      have tl := tail H m (KeepB.refl _ _)
      refine ⟨_, rfl, e, rfl, ?_⟩
      cases e with
      | true => exact iteT ⟨_, rfl, _, rfl, s3, tl⟩
      | false =>
        refine iteF ⟨_, rfl, rfl, _, rfl, ?_⟩
        rw [q5]
        cases h5 : decide (sort = 5) with
        | true => rw [h5] at tl; exact iteT ⟨_, rfl, _, rfl, s3, tl⟩
        | false =>
          rw [h5] at tl
          refine iteF ⟨_, rfl, rfl, ?_⟩
          rw [q7]
          exact ⟨_, rfl, _, rfl, s3, tl⟩
end
end Mp

-- MpBuild2
set_option maxRecDepth 100000
set_option maxHeartbeats 4000000
set_option exponentiation.threshold 3000
/-! A pattern's steps are built, part by part. -/
namespace Mp
open PySem PySem.Spec PyProof.Rows L2
open Mx (stepsIn nothing eitherS orInto partStep)

/-- how many shapes a part takes -/
def ar (sort : Nat) : Nat := if sort = 0 ∨ sort = 1 then 0 else if sort = 3 ∨ sort = 4 then 2 else 1
/-- a part's steps and its shape, of the shapes that it takes (the last one first) -/
def stepOf (st : Mx.B) (sort : Nat) (ms : List Nat) (us : List Mx.Shape) : Mx.B × Mx.Shape :=
  if sort = 0 then (st, true, 0, 0) else if sort = 1 then Mx.single st ms else match us with
  | [l, r] => if sort = 3 then Mx.sequence st l r else (st, eitherS l r)
  | [s] => rep st sort s
  | _ => (st, false, 0, 0)
theorem step_part {st : Mx.B} {sort : Nat} {ms : List Nat} {us rest : List Mx.Shape} (h : us.length = ar sort) : partStep (st, us ++ rest) (sort, ms) = ((stepOf st sort ms us).1, (stepOf st sort ms us).2 :: rest) := by
  unfold partStep stepOf
  by_cases h0 : sort = 0
  · have : us = [] := List.length_eq_zero_iff.mp (by rw [h]; unfold ar; rw [if_pos (.inl h0)])
    subst this; simp [h0]
  · by_cases h1 : sort = 1
    · have : us = [] := List.length_eq_zero_iff.mp (by rw [h]; unfold ar; rw [if_pos (.inr h1)])
      subst this; simp [h1]
    · simp only [h0, h1, if_false]
      by_cases h34 : sort = 3 ∨ sort = 4
      · have : us.length = 2 := by rw [h]; unfold ar; rw [if_neg (by omega), if_pos h34]
        match us, this with
        | [l, r], _ =>
          rcases h34 with h3 | h4
          · simp [h3]
          · simp [h4]
      · have : us.length = 1 := by rw [h]; unfold ar; rw [if_neg (by omega), if_neg h34]
        match us, this with
        | [s], _ =>
          have h3 : ¬ sort = 3 := fun z => h34 (.inl z)
          have h4 : ¬ sort = 4 := fun z => h34 (.inr z)
          simp [h3, h4, rep]

/-- shapes in their tuples -/
def ShapesAt (H : Hp) : List Addr → List Mx.Shape → Prop
  | [], [] => True
  | p :: ps, s :: ss => H p = some (.tup (shv s)) ∧ ShapesAt H ps ss
  | _, _ => False
theorem ShapesAt.mono {H H' : Hp} (k : ∀ p y, H p = some (.tup y) → H' p = some (.tup y)) : ∀ {ps : List Addr} {ss : List Mx.Shape}, ShapesAt H ps ss → ShapesAt H' ps ss
  | [], [], _ => trivial
  | _ :: _, _ :: _, h => ⟨k _ _ h.1, ShapesAt.mono k h.2⟩
  | [], _ :: _, h => h.elim
  | _ :: _, [], h => h.elim
theorem ShapesAt.len {H : Hp} : ∀ {ps : List Addr} {ss : List Mx.Shape}, ShapesAt H ps ss → ps.length = ss.length
  | [], [], _ => rfl
  | _ :: _, _ :: _, h => by rw [List.length_cons, List.length_cons, ShapesAt.len h.2]
  | [], _ :: _, h => h.elim
  | _ :: _, [], h => h.elim
/-- a shape's first and last steps are there -/
def ShOk (st : Mx.B) (s : Mx.Shape) : Prop := s.2.1 < 2 ^ st.beh.length ∧ s.2.2 < 2 ^ st.beh.length
theorem ShOk.use {st : Mx.B} {s : Mx.Shape} (h : ShOk st s) (hl : st.beh.length ≤ 2048) : s.2.2 < 2 ^ 2048 ∧ ∀ n ∈ stepsIn s.2.2, n < st.beh.length :=
  ⟨Nat.lt_of_lt_of_le h.2 (Nat.pow_le_pow_right (by omega) (by omega)), (stepsIn_le _ _ h.2).2⟩
theorem ShOk.use1 {st : Mx.B} {s : Mx.Shape} (h : ShOk st s) (hl : st.beh.length ≤ 2048) : s.2.1 < 2 ^ 2048 ∧ ∀ n ∈ stepsIn s.2.1, n < st.beh.length :=
  ⟨Nat.lt_of_lt_of_le h.1 (Nat.pow_le_pow_right (by omega) (by omega)), (stepsIn_le _ _ h.1).2⟩

/-- all but the three lists and one more stands -/
def KeepC (a : Ad) (c : Addr) (H H' : Hp) : Prop := ∀ p o, H p = some o → p ≠ a.lb → p ≠ a.la → p ≠ a.ly → p ≠ c → H' p = some o

def spShapeOf (C CL : Addr) : Sp := fun vs H Q _ => ∃ (a : Ad) (am aS sort : Nat) (st : Mx.B) (ms : List Nat) (ss0 : List Addr) (ts : List Addr) (us : List Mx.Shape), vs = [.ref a.x, iv sort, .ref am, .ref aS] ∧ MB C CL H a st ∧
  H am = some (.lst (ivs ms)) ∧ (am ≠ a.lb ∧ am ≠ a.la ∧ am ≠ a.ly) ∧ (aS ≠ a.lb ∧ aS ≠ a.la ∧ aS ≠ a.ly) ∧ am ≠ aS ∧ H aS = some (.lst ((ss0 ++ ts.reverse).map V.ref)) ∧ ShapesAt H ts us ∧ us.length = ar sort ∧ (∀ u ∈ us, ShOk st u) ∧ st.beh.length ≤ 2000 ∧ st.ahd.length = st.beh.length ∧ (∀ b ∈ ms, b < st.byb.length) ∧
  ∀ H' p, MB C CL H' a (stepOf st sort ms us).1 → H' aS = some (.lst (ss0.map V.ref)) → KeepC a aS H H' → H p = none → H' p = some (.tup (shv (stepOf st sort ms us).2)) → Q (.ref p) H'

section
variable {P : Program} {w : World} {K : PySem.W.Frag} {mg : Str → Option Value} {base : Heap} {C CL : Addr}
theorem scShapeOf : FnScope ["self", "sort", "members", "shapes", "inner"] ["self", "sort", "members", "shapes"] (defScope sShapeOf) := ⟨rfl, rfl, rfl, by decide +kernel, rfl, by decide +kernel, by decide +kernel⟩
theorem ok_shapeOf {f f1 f2 f3 f4 : Addr} {fd fd1 fd2 fd3 fd4 : FuncData} (F : Fun K "shape_of" "Matcher.shape_of" sShapeOf f fd) (T : Cm K C) (TX : Txt K mg)
    (D1 : Dm K C "single" "Matcher.single" sSingle ["self", "members"] f1 fd1) (G1 : FnOk P w K mg base CX0 2 f1 fd1 ["self", "members"] (spSingle C CL))
    (D2 : Dm K C "sequence" "Matcher.sequence" sSequence ["self", "left", "right"] f2 fd2) (G2 : FnOk P w K mg base CX0 4 f2 fd2 ["self", "left", "right"] (spSequence C CL))
    (D3 : Df K mg "either" sEither ["left", "right"] f3 fd3)
    (D4 : Dm K C "repeated" "Matcher.repeated" sRepeated ["self", "sort", "inner"] f4 fd4) (G4 : FnOk P w K mg base CX0 4 f4 fd4 ["self", "sort", "inner"] (spRepeated C CL)) :
    FnOk P w K mg base CX0 5 f fd ["self", "sort", "members", "shapes"] (spShapeOf C CL) := by
  obtain ⟨t1, m1⟩ := TX.NO_BYTE
  obtain ⟨t2, m2⟩ := TX.ONE_BYTE
  obtain ⟨t3, m3⟩ := TX.ONE_BEHIND_OTHER
  obtain ⟨t4, m4⟩ := TX.EITHER
  have G3 : FnOk P w K mg base CX0 1 f3 fd3 ["left", "right"] spEither := ok_either D3.F
  refine F.ok scShapeOf (fun vs H Q E h => ?_) (fun cdv A outer s H vs Q E hr h => ?_)
  · obtain ⟨a, am, aS, sort, st, ms, ss0, ts, us, rfl, _⟩ := h; rfl
  · obtain ⟨a, am, aS, sort, st, ms, ss0, ts, us, rfl, m, hm, nm, nS, n3, hS, hsh, hus, hok, hlen, hal, hms, k⟩ := h
    have nd := scShapeOf.nd
    have s3 : (3 : Nat) ≤ sizeLine := by decide
    have hr1 : Room 1 _ := hr.mono (by decide)
    have hr2 : Room 2 _ := hr.mono (by decide)
    have mnoS : ∀ {m : Str}, (m == ("behind" : Str)) = false → (m == ("ahead" : Str)) = false → (m == ("by_byte" : Str)) = false → (mf a.xb a.xa a.ly []).lookup m = none := fun h1 h2 h3 => mf_no h1 h2 h3 rfl
    have q0 : decide (V.int (sort : Int) = V.int 0) = decide (sort = 0) := dec_iv sort 0
    have q1 : decide (V.int (sort : Int) = V.int 1) = decide (sort = 1) := dec_iv sort 1
    have q3 : decide (V.int (sort : Int) = V.int 3) = decide (sort = 3) := dec_iv sort 3
    have q4 : decide (V.int (sort : Int) = V.int 4) = decide (sort = 4) := dec_iv sort 4
    refine ⟨_, (L2.pss_cons (L2.ps_if (L2.pt_cmpR op_eq (pv 1) (pgc m1) (L2.nomark _)) (L2.pss_one (ps_ret (pe_tup (L2.pa_cons pe_bl (L2.pa_cons pe_int (L2.pa_cons pe_int L2.pa_nil)))))) L2.pss_nil)
      (L2.pss_cons (L2.ps_if (L2.pt_cmpR op_eq (pv 1) (pgc m2) (L2.nomark _)) (L2.pss_one (ps_ret ((L2.pe_meth (pv 0) T.cl (Mp.Dm.m D1) G1 hr2 (Mp.Dm.b D1) .nil L2.pass0 (L2.pa_cons (pv 2) L2.pa_nil))))) L2.pss_nil)
      (L2.pss_cons (L2.ps_set (i := 4) nd rfl (Or.inl rfl) (pe_bm0 PySem.F.plainAttrs_list PySem.F.slot_list_pop PySem.F.type_list_pop mt_pop (pv 3)))
      (L2.pss_cons (L2.ps_if (L2.pt_cmpR op_eq (pv 1) (pgc m3) (L2.nomark _)) (L2.pss_one (ps_ret ((L2.pe_meth (pv 0) T.cl (Mp.Dm.m D2) G2 hr (Mp.Dm.b D2) .nil L2.pass0 (L2.pa_cons (pv 4) (L2.pa_cons (pe_bm0 PySem.F.plainAttrs_list PySem.F.slot_list_pop PySem.F.type_list_pop mt_pop (pv 3)) L2.pa_nil)))))) L2.pss_nil)
      (L2.pss_cons (L2.ps_if (L2.pt_cmpR op_eq (pv 1) (pgc m4) (L2.nomark _)) (L2.pss_one (ps_ret ((L2.pe_call G3 hr1 (by rfl) (Mp.Df.g D3) (Mp.Df.F D3).kp (Mp.Df.b D3) .nil L2.pass0 (L2.pa_cons (pv 4) (L2.pa_cons (pe_bm0 PySem.F.plainAttrs_list PySem.F.slot_list_pop PySem.F.type_list_pop mt_pop (pv 3)) L2.pa_nil)))))) L2.pss_nil)
      (L2.pss_one (ps_ret ((L2.pe_meth (pv 0) T.cl (Mp.Dm.m D4) G4 hr (Mp.Dm.b D4) .nil L2.pass0 (L2.pa_cons (pv 1) (L2.pa_cons (pv 4) L2.pa_nil))))))))))), ?_⟩
    refine ⟨_, rfl, rfl, _, rfl, ?_⟩
    rw [q0]
    by_cases h0 : sort = 0
    · rw [decide_eq_true h0]
      have e : stepOf st sort ms us = (st, true, 0, 0) := by unfold stepOf; rw [if_pos h0]
      have e2 : ts = [] := by
        have := hsh.len; rw [hus] at this; unfold ar at this; rw [if_pos (.inl h0)] at this; exact List.length_eq_zero_iff.mp this
      rw [e] at k
      subst e2
      rw [List.reverse_nil, List.append_nil] at hS
      exact iteT ⟨s3, fun p hp => k _ p (m.same (Same.upd _ hp)) (Same.upd _ hp _ _ hS) (fun b o q _ _ _ _ => Same.upd _ hp b o q) hp upd_same⟩
    · rw [decide_eq_false h0]
      refine iteF ⟨_, rfl, rfl, _, rfl, ?_⟩
      rw [q1]
      by_cases h1 : sort = 1
      · rw [decide_eq_true h1]
        have e : stepOf st sort ms us = Mx.single st ms := by unfold stepOf; rw [if_neg h0, if_pos h1]
        have e2 : ts = [] := by
          have := hsh.len; rw [hus] at this; unfold ar at this; rw [if_pos (.inr h1)] at this; exact List.length_eq_zero_iff.mp this
        rw [e] at k
        subst e2
        rw [List.reverse_nil, List.append_nil] at hS
        refine iteT ⟨_, rfl, a.x, a.dx, _, rfl, m.o, mnoS (by decide +kernel) (by decide +kernel) (by decide +kernel), _, rfl, a, am, st, ms, rfl, m, hm, nm.1, nm.2.1, nm.2.2, hlen, hal, hms, fun H' p m' k' hp hp' => ?_⟩
        exact k H' p m' (k' _ _ hS nS.1 nS.2.1 nS.2.2) (fun b o q z1 z2 z3 _ => k' b o q z1 z2 z3) hp hp'
      · rw [decide_eq_false h1]
        refine iteF ?_
        have hpos : ts ≠ [] := by
          intro z; have := hsh.len; rw [z, hus] at this; unfold ar at this; rw [if_neg (by omega)] at this; split at this <;> simp at this
        obtain ⟨q, ts, rfl⟩ : ∃ q ts', ts = q :: ts' := by
          cases ts with
          | nil => exact absurd rfl hpos
          | cons q ts => exact ⟨q, ts, rfl⟩
        obtain ⟨u, us, rfl⟩ : ∃ u us', us = u :: us' := by
          cases us with
          | nil => exact hsh.elim
          | cons u us => exact ⟨u, us, rfl⟩
        have hq := hsh.1
        have hSp : (ss0 ++ (q :: ts).reverse).map V.ref = (ss0 ++ ts.reverse).map V.ref ++ [.ref q] := by simp
        rw [hSp] at hS
        refine ⟨_, rfl, .inl ⟨rfl, _, sqL_of hS⟩, aS, _, .ref q, rfl, rfl, hS, by simp, ?_⟩
        rw [List.dropLast_concat]
        have tupS : ∀ {p : Addr} {o : HO} {y : List V}, H p = some (.tup y) → upd H aS o p = some (.tup y) := fun e => by rw [upd_ne (ne_of e hS (by intro z; cases z))]; exact e
        have upS : ∀ {b : Addr} {o o' : HO}, H b = some o → (∀ y, o ≠ .lst y) → upd H aS o' b = some o := fun e n => by rw [upd_ne (ne_of e hS (n _))]; exact e
        have mA : ∀ o, MB C CL (upd H aS o) a st := fun o => ⟨upS m.o (by intro _ z; cases z), ⟨upS m.bb.o (by intro _ z; cases z), by rw [upd_ne nS.1.symm]; exact m.bb.t⟩, ⟨upS m.aa.o (by intro _ z; cases z), by rw [upd_ne nS.2.1.symm]; exact m.aa.t⟩, by rw [upd_ne nS.2.2.symm]; exact m.y, m.n1, m.n2, m.n3⟩
        refine ⟨_, rfl, rfl, _, rfl, ?_⟩
        rw [q3]
        have hu := hok u (by simp)
        have two : sort = 3 ∨ sort = 4 → ∃ q2 u2, ts = [q2] ∧ us = [u2] ∧ H q2 = some (.tup (shv u2)) := fun z => by
          have l1 := hsh.len
          rw [hus] at l1
          unfold ar at hus l1; rw [if_neg (by omega), if_pos z] at hus l1
          simp only [List.length_cons] at hus l1
          match ts, us, hsh.2, l1, hus with
          | [q2], [u2], hz, _, _ => exact ⟨q2, u2, rfl, rfl, hz.1⟩
        by_cases h3 : sort = 3
        · rw [decide_eq_true h3]
          obtain ⟨q2, u2, rfl, rfl, hq2⟩ := two (.inl h3)
          have e : stepOf st sort ms [u, u2] = Mx.sequence st u u2 := by unfold stepOf; rw [if_neg h0, if_neg h1]; simp only [h3, if_true]
          rw [e] at k
          have e2 : (ss0 ++ [q2].reverse).map V.ref = ss0.map V.ref ++ [.ref q2] := by simp
          rw [e2]
          refine iteT ⟨_, rfl, a.x, a.dx, _, rfl, (mA _).o, mnoS (by decide +kernel) (by decide +kernel) (by decide +kernel), _, rfl, _, rfl, .inl ⟨rfl, _, sqL_of upd_same⟩, aS, _, .ref q2, rfl, rfl, upd_same, by simp, ?_⟩
          rw [List.dropLast_concat, upd_upd]
          have hu2 := hok u2 (by simp)
          refine ⟨a, q, q2, st, u, u2, rfl, mA _, tupS hq, tupS hq2, (hu.use (by omega)).1, (hu2.use1 (by omega)).1, (hu.use (by omega)).2, by rw [hal]; exact (hu2.use1 (by omega)).2, fun H' p m' k' hp hp' => ?_⟩
          refine k H' p m' (k' _ _ upd_same nS.1 nS.2.1 nS.2.2) (fun b o z z1 z2 z3 z4 => k' b o (by rw [upd_ne z4]; exact z) z1 z2 z3) ?_ hp'
          by_cases z : p = aS
          · rw [z, upd_same] at hp; cases hp
          · rw [upd_ne z] at hp; exact hp
        · rw [decide_eq_false h3]
          refine iteF ⟨_, rfl, rfl, _, rfl, ?_⟩
          rw [q4]
          by_cases h4 : sort = 4
          · rw [decide_eq_true h4]
            obtain ⟨q2, u2, rfl, rfl, hq2⟩ := two (.inr h4)
            have e : stepOf st sort ms [u, u2] = (st, eitherS u u2) := by unfold stepOf; rw [if_neg h0, if_neg h1]; simp only [h3, if_false]
            rw [e] at k
            have e2 : (ss0 ++ [q2].reverse).map V.ref = ss0.map V.ref ++ [.ref q2] := by simp
            rw [e2]
            refine iteT ⟨_, rfl, _, rfl, .inl ⟨rfl, _, sqL_of upd_same⟩, aS, _, .ref q2, rfl, rfl, upd_same, by simp, ?_⟩
            rw [List.dropLast_concat, upd_upd]
            refine ⟨q, q2, u, u2, rfl, tupS hq, tupS hq2, fun p hp => ?_⟩
            refine k _ p ((mA _).same (Same.upd _ hp)) (by rw [upd_ne (ne_of_none upd_same hp)]; exact upd_same) (fun b o z _ _ _ z3 => Same.upd _ hp b o (by rw [upd_ne z3]; exact z)) ?_ upd_same
            by_cases z : p = aS
            · rw [z, upd_same] at hp; cases hp
            · rw [upd_ne z] at hp; exact hp
          · rw [decide_eq_false h4]
            have one : ts = [] ∧ us = [] := by
              have l1 := hsh.len
              rw [hus] at l1
              unfold ar at hus l1; rw [if_neg (by omega), if_neg (by omega)] at hus l1
              simp only [List.length_cons] at hus l1
              exact ⟨List.length_eq_zero_iff.mp (by omega), List.length_eq_zero_iff.mp (by omega)⟩
            obtain ⟨rfl, rfl⟩ := one
            have e : stepOf st sort ms [u] = rep st sort u := by unfold stepOf; rw [if_neg h0, if_neg h1]
            rw [e] at k
            have e2 : (ss0 ++ ([] : List Addr).reverse).map V.ref = ss0.map V.ref := by simp
            rw [e2]
            refine iteF ⟨_, rfl, a.x, a.dx, _, rfl, (mA _).o, mnoS (by decide +kernel) (by decide +kernel) (by decide +kernel), _, rfl, _, rfl, ?_⟩
            refine ⟨a, q, sort, st, u, rfl, mA _, tupS hq, (hu.use (by omega)).1, (hu.use1 (by omega)).1, (hu.use (by omega)).2, by rw [hal]; exact (hu.use1 (by omega)).2, fun H' p m' k' hp hp' => ?_⟩
            refine k H' p m' (k' _ _ upd_same nS.1 nS.2.1 nS.2.2) (fun b o z z1 z2 z3 z4 => k' b o (by rw [upd_ne z4]; exact z) z1 z2 z3) ?_ hp'
            by_cases z : p = aS
            · rw [z, upd_same] at hp; cases hp
            · rw [upd_ne z] at hp; exact hp
end
end Mp

-- MpMake
set_option maxRecDepth 100000
set_option maxHeartbeats 4000000
set_option exponentiation.threshold 3000
/-! A matcher is made. -/
namespace Mp
open PySem PySem.Spec PyProof.Rows L2
open Mx (stepsIn nothing eitherS orInto partStep orAt)

/-! ### the parts from the last to the first: shapes enough, their steps there -/
def Need : Nat → List (Nat × List Nat) → Prop
  | _, [] => True
  | n, x :: l => ar x.1 ≤ n ∧ Need (n - ar x.1 + 1) l
theorem need_pre : ∀ (t : Mx.T) (n : Nat) (l : List (Nat × List Nat)), Need (n + 1) l → Need n (t.pre.reverse ++ l)
  | .eps, n, l, h => ⟨Nat.zero_le _, h⟩
  | .byt _, n, l, h => ⟨Nat.zero_le _, h⟩
  | .seq a b, n, l, h => by
    rw [Mx.T.pre, List.reverse_cons, List.reverse_append, List.append_assoc, List.append_assoc]
    exact need_pre b n _ (need_pre a (n + 1) _ ⟨by show 2 ≤ n + 1 + 1; omega, h⟩)
  | .alt a b, n, l, h => by
    rw [Mx.T.pre, List.reverse_cons, List.reverse_append, List.append_assoc, List.append_assoc]
    exact need_pre b n _ (need_pre a (n + 1) _ ⟨by show 2 ≤ n + 1 + 1; omega, h⟩)
  | .star a, n, l, h => by
    rw [Mx.T.pre, List.reverse_cons, List.append_assoc]
    exact need_pre a n _ ⟨by show 1 ≤ n + 1; omega, h⟩
  | .plus a, n, l, h => by
    rw [Mx.T.pre, List.reverse_cons, List.append_assoc]
    exact need_pre a n _ ⟨by show 1 ≤ n + 1; omega, h⟩
  | .opt a, n, l, h => by
    rw [Mx.T.pre, List.reverse_cons, List.append_assoc]
    exact need_pre a n _ ⟨by show 1 ≤ n + 1; omega, h⟩
theorem need_all (t : Mx.T) : Need 0 t.pre.reverse := by
  have := need_pre t 0 [] trivial
  rwa [List.append_nil] at this

theorem byte_pre {t : Mx.T} {p : Sq17.Pat} (h : Mx.Is t p) : ∀ x ∈ t.pre, ∀ b ∈ x.2, b < 256 := by
  induction h with
  | eps => intro x hx b hb; simp [Mx.T.pre] at hx; subst hx; simp at hb
  | byt _ _ hb => intro x hx b hb'; simp [Mx.T.pre] at hx; subst hx; exact hb b hb'
  | seq _ _ iha ihb =>
    intro x hx b hb
    rcases List.mem_cons.mp hx with rfl | hx
    · simp at hb
    · rcases List.mem_append.mp hx with hx | hx
      · exact iha x hx b hb
      · exact ihb x hx b hb
  | alt _ _ iha ihb =>
    intro x hx b hb
    rcases List.mem_cons.mp hx with rfl | hx
    · simp at hb
    · rcases List.mem_append.mp hx with hx | hx
      · exact iha x hx b hb
      · exact ihb x hx b hb
  | star _ ih => intro x hx b hb; rcases List.mem_cons.mp hx with rfl | hx; (· simp at hb); (· exact ih x hx b hb)
  | plus _ ih => intro x hx b hb; rcases List.mem_cons.mp hx with rfl | hx; (· simp at hb); (· exact ih x hx b hb)
  | opt _ ih => intro x hx b hb; rcases List.mem_cons.mp hx with rfl | hx; (· simp at hb); (· exact ih x hx b hb)

theorem ShOk.up {st st' : Mx.B} {s : Mx.Shape} (h : ShOk st s) (l : st.beh.length ≤ st'.beh.length) : ShOk st' s := ⟨Nat.lt_of_lt_of_le h.1 (Nat.pow_le_pow_right (by omega) l), Nat.lt_of_lt_of_le h.2 (Nat.pow_le_pow_right (by omega) l)⟩
theorem ShOk.zero (st : Mx.B) (e : Bool) : ShOk st (e, 0, 0) := ⟨Nat.two_pow_pos _, Nat.two_pow_pos _⟩
/-- a building's step: bytes as before, at most one step more -/
structure StepOk (st st' : Mx.B) (s : Mx.Shape) : Prop where
  b : st'.byb.length = 256
  s : ShOk st' s
  le : st.beh.length ≤ st'.beh.length
  ub : st'.beh.length ≤ st.beh.length + 1
  al : st'.ahd.length = st'.beh.length
theorem StepOk.id {st : Mx.B} {s : Mx.Shape} (hb : st.byb.length = 256) (ha : st.ahd.length = st.beh.length) (h : ShOk st s) : StepOk st st s := ⟨hb, h, Nat.le_refl _, Nat.le_succ _, ha⟩
theorem StepOk.link {st : Mx.B} {s : Mx.Shape} (L F : Nat) (hb : st.byb.length = 256) (ha : st.ahd.length = st.beh.length) (h : ShOk st s) : StepOk st (Mx.link st L F) s :=
  ⟨hb, h.up (by rw [Mx.link_len]; exact Nat.le_refl _), by rw [Mx.link_len]; exact Nat.le_refl _, by rw [Mx.link_len]; exact Nat.le_succ _, by rw [Mx.link_len]; exact (Mx.orInto_length _ _ _).trans ha⟩
theorem stepOf_inv {st : Mx.B} {sort : Nat} {ms : List Nat} {us : List Mx.Shape} (hb : st.byb.length = 256) (ha : st.ahd.length = st.beh.length) (h : ∀ u ∈ us, ShOk st u) :
    StepOk st (stepOf st sort ms us).1 (stepOf st sort ms us).2 := by
  unfold stepOf
  split
  · exact .id hb ha (.zero _ _)
  · split
    · unfold Mx.single
      split
      · exact .id hb ha (.zero _ _)
      · have e : 2 ^ st.beh.length < 2 ^ (st.beh ++ [0]).length := by rw [List.length_append]; exact Nat.pow_lt_pow_right (by omega) (by simp)
        exact ⟨by rw [Mx.orInto_length]; exact hb, ⟨e, e⟩, by simp, by simp, by simp [ha]⟩
    · split
      · next l r =>
        have hl := h l (by simp)
        have hr := h r (by simp)
        split
        · unfold Mx.sequence
          split
          · exact .id hb ha (.zero _ _)
          · refine .link _ _ hb ha ⟨?_, ?_⟩
            · show (if l.1 = true then l.2.1 ||| r.2.1 else l.2.1) < 2 ^ st.beh.length
              split
              · exact Nat.or_lt_two_pow hl.1 hr.1
              · exact hl.1
            · show (if r.1 = true then l.2.2 ||| r.2.2 else r.2.2) < 2 ^ st.beh.length
              split
              · exact Nat.or_lt_two_pow hl.2 hr.2
              · exact hr.2
        · exact .id hb ha ⟨Nat.or_lt_two_pow hl.1 hr.1, Nat.or_lt_two_pow hl.2 hr.2⟩
      · next s =>
        have hs := h s (by simp)
        unfold rep
        split
        · exact .link _ _ hb ha hs
        · exact .id hb ha hs
      · exact .id hb ha (.zero _ _)

/-! ### a matcher in the heap -/
def fl (e : Bool) (f l : Nat) : List (Str × V) := [("empty", .bl e), ("first", iv f), ("last", iv l)]
def MatAt (G : Gh) (C CL : Addr) (H : Hp) (x : Addr) (M : Mx.Mat) : Prop := ∃ (dx xb xa ly : Addr), H x = some (.ins C dx (mf xb xa ly (fl M.bare M.first M.last))) ∧
  LinkAt G CL H xb M.behind ∧ LinkAt G CL H xa M.ahead ∧ H ly = some (.lst (ivs M.byb)) ∧ ¬ G.f ly
theorem MatAt.std {G : Gh} {C CL : Addr} {H H' : Hp} {x : Addr} {M : Mx.Mat} (h : MatAt G C CL H x M) (s : Std G H H') : MatAt G C CL H' x M := by
  obtain ⟨dx, xb, xa, ly, h1, h2, h3, h4, h5⟩ := h
  exact ⟨dx, xb, xa, ly, s _ _ h1 ⟨by decide +kernel, by decide +kernel⟩, h2.std s, h3.std s, s _ _ h4 h5, h5⟩
theorem MatAt.go {G : Gh} {C CL : Addr} {H H' : Hp} {x : Addr} {M : Mx.Mat} (h : MatAt G C CL H x M) (g : Go G [] H H') : MatAt G C CL H' x M := h.std g.std
theorem fl_E {e : Bool} {f l : Nat} : (fl e f l).lookup ("empty" : Str) = some (.bl e) := lk_here
theorem fl_F {e : Bool} {f l : Nat} : (fl e f l).lookup ("first" : Str) = some (iv f) := (lk_past (by decide +kernel)).trans lk_here
theorem fl_L {e : Bool} {f l : Nat} : (fl e f l).lookup ("last" : Str) = some (iv l) := (lk_past (by decide +kernel)).trans ((lk_past (by decide +kernel)).trans lk_here)
theorem mf_r {xb xa ly : Addr} {r : List (Str × V)} {m : Str} {o : Option V} (h : r.lookup m = o) (h1 : (m == ("behind" : Str)) = false := by decide +kernel) (h2 : (m == ("ahead" : Str)) = false := by decide +kernel) (h3 : (m == ("by_byte" : Str)) = false := by decide +kernel) : (mf xb xa ly r).lookup m = o :=
  (lk_past h1).trans ((lk_past h2).trans ((lk_past h3).trans h))
theorem fl_no {e : Bool} {f l : Nat} {m : Str} (h1 : (m == ("empty" : Str)) = false) (h2 : (m == ("first" : Str)) = false) (h3 : (m == ("last" : Str)) = false) : (fl e f l).lookup m = none := (lk_past h1).trans ((lk_past h2).trans ((lk_past h3).trans rfl))

theorem mf_new (xb xa ly : Addr) : putF "by_byte" (.ref ly) (putF "ahead" (.ref xa) (putF "behind" (.ref xb) [])) = mf xb xa ly [] := by
  show putF "by_byte" (.ref ly) (putF "ahead" (.ref xa) [(("behind" : Str), V.ref xb)]) = _
  rw [put_past (by decide +kernel)]
  show putF "by_byte" (.ref ly) (_ :: [(("ahead" : Str), V.ref xa)]) = _
  rw [put_past (by decide +kernel), put_past (by decide +kernel)]; rfl
theorem mf_put {xb xa ly : Addr} {r : List (Str × V)} {m : Str} {v : V} (h1 : ¬ ("behind" : Str) = m := by decide +kernel) (h2 : ¬ ("ahead" : Str) = m := by decide +kernel) (h3 : ¬ ("by_byte" : Str) = m := by decide +kernel) : putF m v (mf xb xa ly r) = mf xb xa ly (putF m v r) := by
  unfold mf; rw [put_past h1, put_past h2, put_past h3]
theorem mf_end (xb xa ly : Addr) (e : Bool) (f l : Nat) : putF "last" (iv l) (putF "first" (iv f) (putF "empty" (.bl e) (mf xb xa ly []))) = mf xb xa ly (fl e f l) := by
  rw [mf_put, mf_put, mf_put]
  show mf xb xa ly (putF "last" (iv l) (putF "first" (iv f) [(("empty" : Str), V.bl e)])) = _
  rw [put_past (by decide +kernel)]
  show mf xb xa ly (putF "last" (iv l) (_ :: [(("first" : Str), iv f)])) = _
  rw [put_past (by decide +kernel), put_past (by decide +kernel)]; rfl

def spMInit (C CL : Addr) : Sp := fun vs H Q _ => ∃ (H0 : Hp) (x dx aP : Addr) (ts : List Addr) (t : Mx.T) (p : Sq17.Pat), vs = [.ref x, .ref aP] ∧ H x = some (.ins C dx []) ∧ H aP = some (.lst (ts.map V.ref)) ∧ PartsIn H0 H ts t.pre ∧ Mx.Is t p ∧ t.pre.length ≤ 1024 ∧
  ∀ H' db da, (∀ G : Gh, (∀ a, G.f a → H a ≠ none) → G.d db = some (Mx.matOf (Mx.bld t Mx.B.start)).behind → G.d da = some (Mx.matOf (Mx.bld t Mx.B.start)).ahead → MatAt G C CL H' x (Mx.matOf (Mx.bld t Mx.B.start))) →
    H' db = some (.dT []) → H' da = some (.dT []) → H db = none → H da = none → db ≠ da → Aside x H H' → Q .non H'

theorem reps (n : Nat) : (List.replicate n [V.int 0]).flatten = ivs (List.replicate n 0) := by
  unfold ivs; rw [List.map_replicate]
  induction n with
  | zero => rfl
  | succ z ih => rw [List.replicate_succ, List.flatten_cons, ih, List.replicate_succ]; rfl
theorem PartsIn.get {H0 H : Hp} : ∀ {ts : List Addr} {xs : List (Nat × List Nat)} {i : Nat} {t : Addr}, PartsIn H0 H ts xs → ts[i]? = some t → ∃ x m, xs[i]? = some x ∧ H0 m = none ∧ H t = some (.tup [iv x.1, .ref m]) ∧ H m = some (.lst (ivs x.2))
  | t :: ts, x :: xs, 0, _, ⟨⟨m, h⟩, _⟩, e => by
    simp at e; subst e; exact ⟨x, m, rfl, h⟩
  | t :: ts, x :: xs, i + 1, _, ⟨_, r⟩, e => by
    simp at e
    obtain ⟨y, m, h1, h2⟩ := PartsIn.get r e
    exact ⟨y, m, by simpa using h1, h2⟩
  | [], [], _, _, _, e => by simp at e
  | [], _ :: _, _, _, h, _ => h.elim
  | _ :: _, [], _, _, h, _ => h.elim
theorem ShapesAt.take {H : Hp} : ∀ {ps : List Addr} {ss : List Mx.Shape} (k : Nat), ShapesAt H ps ss → ShapesAt H (ps.take k) (ss.take k)
  | [], [], _, _ => by simp [ShapesAt]
  | _ :: _, _ :: _, 0, _ => trivial
  | _ :: _, _ :: _, k + 1, h => ⟨h.1, ShapesAt.take k h.2⟩
  | [], _ :: _, _, h => h.elim
  | _ :: _, [], _, h => h.elim
theorem ShapesAt.drop {H : Hp} : ∀ {ps : List Addr} {ss : List Mx.Shape} (k : Nat), ShapesAt H ps ss → ShapesAt H (ps.drop k) (ss.drop k)
  | [], [], _, _ => by simp [ShapesAt]
  | _ :: _, _ :: _, 0, h => h
  | _ :: _, _ :: _, k + 1, h => ShapesAt.drop k h.2
  | [], _ :: _, _, h => h.elim
  | _ :: _, [], _, h => h.elim
/-- the built parts: what the stack of shapes tells -/
structure Stk (H : Hp) (aS : Addr) (ss : List Addr) (stack : List Mx.Shape) (st : Mx.B) : Prop where
  S : H aS = some (.lst (ss.reverse.map V.ref))
  sh : ShapesAt H ss stack
  ok : ∀ u ∈ stack, ShOk st u

section
variable {P : Program} {w : World} {K : PySem.W.Frag} {mg : Str → Option Value} {base : Heap} {C CL : Addr}
theorem scMInit : FnScope ["self", "parts", "shapes", "sort", "members"] ["self", "parts"] (defScope sMInit) := ⟨rfl, rfl, rfl, by decide +kernel, rfl, by decide +kernel, by decide +kernel⟩
theorem ok_mInit {f f1 f2 : Addr} {fd fd1 fd2 : FuncData} (F : Fun K "__init__" "Matcher.__init__" sMInit f fd) (T : Cm K C) (TL : Cl K CL) (TX : Txt K mg)
    (gL : mg "Links" = some (.ref CL)) (ML : Mk K CL f2) (FL : Fun K "__init__" "Links.__init__" sLInit f2 fd2) (bL : Binds K fd2 ["self"] [])
    (D1 : Dm K C "shape_of" "Matcher.shape_of" sShapeOf ["self", "sort", "members", "shapes"] f1 fd1) (G1 : FnOk P w K mg base CX0 5 f1 fd1 ["self", "sort", "members", "shapes"] (spShapeOf C CL)) :
    FnOk P w K mg base CX0 6 f fd ["self", "parts"] (spMInit C CL) := by
  obtain ⟨t1, m1⟩ := TX.TOP_BYTE
  have GL : FnOk P w K mg base CX0 1 f2 fd2 ["self"] (spLInit CL) := ok_lInit FL TL
  refine F.ok scMInit (fun vs H Q E h => ?_) (fun cdv A outer s H vs Q E hr h => ?_)
  · obtain ⟨H0, x, dx, aP, ts, t, p, rfl, _⟩ := h; rfl
  · obtain ⟨H0, x, dx, aP, ts, t, p, rfl, hx, hP, hpi, his, hlen, k⟩ := h
    have nd := scMInit.nd
    have hr2 : Room 2 _ := hr.mono (by decide)
    have big : (3000 : Nat) ≤ sizeLine := by decide
    refine ⟨_, (L2.pss_cons (ps_fld (pv 0) (pe_make0 ML GL hr2 (by rfl) gL bL .nil L2.pass0) rfl)
      (L2.pss_cons (ps_fld (pv 0) (pe_make0 ML GL hr2 (by rfl) gL bL .nil L2.pass0) rfl)
      (L2.pss_cons (ps_fld (pv 0) (pe_op op_rep (pe_lst (L2.pa_cons pe_int L2.pa_nil)) (pe_op op_add (pgc m1) pe_int)) rfl)
      (L2.pss_cons (L2.ps_set (i := 2) nd rfl (Or.inl rfl) (pe_lst L2.pa_nil))
      (L2.pss_cons (ps_for PassesOwn.never rfl (pi_reversed (by rfl) TX.reversed (L2.pa_cons (pv 1) L2.pa_nil)) (pg_tup rfl (pgs_cons (pg_name (i := 3) nd rfl (Or.inl rfl)) (pgs_cons (pg_name (i := 4) nd rfl (Or.inl rfl)) pgs_nil))) (L2.pss_one (ps_expr (pe_bm PySem.F.plainAttrs_list PySem.F.slot_list_append PySem.F.type_list_append mt_append (pv 2) (L2.pa_cons (L2.pe_meth (pv 0) T.cl (Mp.Dm.m D1) G1 hr (Mp.Dm.b D1) .nil L2.pass0 (L2.pa_cons (pv 3) (L2.pa_cons (pv 4) (L2.pa_cons (pv 2) L2.pa_nil)))) L2.pa_nil)))))
      (L2.pss_cons (ps_fld (pv 0) ((L2.pe_ix L2.ix_tup (L2.pe_ix L2.ix_list (pv 2) pe_int (fun _ _ => rfl)) pe_int (fun _ _ => rfl))) rfl)
      (L2.pss_cons (ps_fld (pv 0) ((L2.pe_ix L2.ix_tup (L2.pe_ix L2.ix_list (pv 2) pe_int (fun _ _ => rfl)) pe_int (fun _ _ => rfl))) rfl)
      (L2.pss_one (ps_fld (pv 0) ((L2.pe_ix L2.ix_tup (L2.pe_ix L2.ix_list (pv 2) pe_int (fun _ _ => rfl)) pe_int (fun _ _ => rfl))) rfl))))))))), ?_⟩
    -- the two tables of links
    refine fun xb dxb nxb ndxb hne => ?_
    have hmk : ∀ {Hq : Hp} {xb dxb : Addr}, Hq xb = none → Hq dxb = none → Aside xb Hq (upd (upd Hq dxb (.own xb)) xb (.ins CL dxb [])) := fun h1 h2 b o e n => by
      rw [upd_ne n, upd_ne (ne_of_none e h2)]; exact e
    have o1 : upd (upd H dxb (.own xb)) xb (.ins CL dxb []) xb = some (.ins CL dxb []) := upd_same
    have A1 := hmk nxb ndxb
    generalize upd (upd H dxb (.own xb)) xb (.ins CL dxb []) = H1 at *
    refine ⟨xb, dxb, rfl, o1, fun H2 lb db l2 d2 nlb ndb a2 => ⟨rfl, _, rfl, ?_⟩⟩
    have A2 : Same H H2 := fun b o e => a2 _ _ (A1 _ _ e (ne_of_none e nxb)) (ne_of_none e nxb)
    have up1 : ∀ {p : Addr}, H1 p = none → H p = none := fun h => by
      cases q : H _ with
      | none => rfl
      | some o => rw [A1 _ o q (ne_of_none q nxb)] at h; cases h
    have nlb0 := up1 nlb
    have ndb0 := up1 ndb
    refine ⟨x, C, dx, [], rfl, A2 _ _ hx, T.cl, T.nB, (by show 0 < 1000; decide), ?_⟩
    have xlb : x ≠ lb := ne_of_none hx nlb0
    have xdb : x ≠ db := ne_of_none hx ndb0
    have xxb : x ≠ xb := ne_of_none hx nxb
    have A3 : Aside x H (upd H2 x (.ins C dx (putF "behind" (.ref xb) []))) := fun b o e n => by rw [upd_ne n]; exact A2 _ _ e
    have x3 : upd H2 x (.ins C dx (putF "behind" (.ref xb) [])) x = some (.ins C dx (putF "behind" (.ref xb) [])) := upd_same
    have l3 : LB CL (upd H2 x (.ins C dx (putF "behind" (.ref xb) []))) xb dxb lb db [] := ⟨by rw [upd_ne xxb.symm]; exact l2.o, by rw [upd_ne xlb.symm]; exact l2.t⟩
    have d3 : upd H2 x (.ins C dx (putF "behind" (.ref xb) [])) db = some (.dT []) := by rw [upd_ne xdb.symm]; exact d2
    generalize upd H2 x (.ins C dx (putF "behind" (.ref xb) [])) = H3 at *
    refine fun xa dxa nxa ndxa hne2 => ?_
    have o4 : upd (upd H3 dxa (.own xa)) xa (.ins CL dxa []) xa = some (.ins CL dxa []) := upd_same
    have A4 := hmk nxa ndxa
    generalize upd (upd H3 dxa (.own xa)) xa (.ins CL dxa []) = H4 at *
    refine ⟨xa, dxa, rfl, o4, fun H5 la da l5 d5 nla nda a5 => ⟨rfl, _, rfl, ?_⟩⟩
    have A5 : Same H3 H5 := fun b o e => a5 _ _ (A4 _ _ e (ne_of_none e nxa)) (ne_of_none e nxa)
    have up4 : ∀ {p : Addr}, H4 p = none → H3 p = none := fun h => by
      cases q : H3 _ with
      | none => rfl
      | some o => rw [A4 _ o q (ne_of_none q nxa)] at h; cases h
    have nla3 := up4 nla
    have nda3 := up4 nda
    have nla0 := A3.free nla3 ⟨_, x3⟩
    have nda0 := A3.free nda3 ⟨_, x3⟩
    have hlab : lb ≠ la := ne_of_none l3.t nla3
    have hdab : db ≠ da := ne_of_none d3 nda3
    have xla : x ≠ la := ne_of_none x3 nla3
    have xda : x ≠ da := ne_of_none x3 nda3
    have xxa : x ≠ xa := ne_of_none x3 nxa
    refine ⟨x, C, dx, _, rfl, A5 _ _ x3, T.cl, T.nA, (by show 1 < 1000; decide), ?_⟩
    have A6 : Aside x H (upd H5 x (.ins C dx (putF "ahead" (.ref xa) (putF "behind" (.ref xb) [])))) := fun b o e n => by rw [upd_ne n]; exact A5 _ _ (A3 _ _ e n)
    have x6 : upd H5 x (.ins C dx (putF "ahead" (.ref xa) (putF "behind" (.ref xb) []))) x = some (.ins C dx (putF "ahead" (.ref xa) (putF "behind" (.ref xb) []))) := upd_same
    have lb6 : LB CL (upd H5 x (.ins C dx (putF "ahead" (.ref xa) (putF "behind" (.ref xb) [])))) xb dxb lb db [] := ⟨by rw [upd_ne xxb.symm]; exact A5 _ _ l3.o, by rw [upd_ne xlb.symm]; exact A5 _ _ l3.t⟩
    have la6 : LB CL (upd H5 x (.ins C dx (putF "ahead" (.ref xa) (putF "behind" (.ref xb) [])))) xa dxa la da [] := ⟨by rw [upd_ne xxa.symm]; exact l5.o, by rw [upd_ne xla.symm]; exact l5.t⟩
    have db6 : upd H5 x (.ins C dx (putF "ahead" (.ref xa) (putF "behind" (.ref xb) []))) db = some (.dT []) := by rw [upd_ne xdb.symm]; exact A5 _ _ d3
    have da6 : upd H5 x (.ins C dx (putF "ahead" (.ref xa) (putF "behind" (.ref xb) []))) da = some (.dT []) := by rw [upd_ne xda.symm]; exact d5
    generalize upd H5 x (.ins C dx (putF "ahead" (.ref xa) (putF "behind" (.ref xb) []))) = H6 at *
    -- by_byte
    refine ⟨by show 1 ≤ sizeLine; omega, fun q hq => ⟨_, _, rfl, rfl, q, _, _, rfl, rfl, upd_same, by decide, by decide, by show 1 * 256 ≤ sizeLine; omega, fun ly hly => ?_⟩⟩
    have e256 : (List.replicate ((255 : Int) + 1).toNat [V.int 0]).flatten = ivs Mx.B.start.byb := reps 256
    rw [e256]
    have s7 := (Same.upd (.lst [V.int 0]) hq).trans (Same.upd (.lst (ivs Mx.B.start.byb)) hly)
    have ey : upd (upd H6 q (.lst [V.int 0])) ly (.lst (ivs Mx.B.start.byb)) ly = some (.lst (ivs Mx.B.start.byb)) := upd_same
    have nly : H6 ly = none := (Same.upd (.lst [V.int 0]) hq).free hly
    generalize upd (upd H6 q (.lst [V.int 0])) ly (.lst (ivs Mx.B.start.byb)) = H7 at *
    have xly : x ≠ ly := ne_of_none x6 nly
    have lbly : lb ≠ ly := ne_of_none lb6.t nly
    have laly : la ≠ ly := ne_of_none la6.t nly
    have nly0 := A6.free nly ⟨_, x6⟩
    refine ⟨_, rfl, x, C, dx, _, rfl, s7 _ _ x6, T.cl, T.nY, (by show 2 < 1000; decide), ?_⟩
    rw [mf_new]
    have xne : ∀ {b : Addr} {o : HO}, H7 b = some o → b ≠ x → upd H7 x (.ins C dx (mf xb xa ly [])) b = some o := fun e n => by rw [upd_ne n]; exact e
    have A8 : Aside x H (upd H7 x (.ins C dx (mf xb xa ly []))) := fun b o e n => xne (s7 _ _ (A6 _ _ e n)) n
    have m8 : MB C CL (upd H7 x (.ins C dx (mf xb xa ly []))) ⟨x, dx, xb, dxb, xa, dxa, lb, la, ly, db, da⟩ Mx.B.start :=
      ⟨upd_same, ⟨xne (s7 _ _ lb6.o) xxb.symm, xne (s7 _ _ lb6.t) xlb.symm⟩, ⟨xne (s7 _ _ la6.o) xxa.symm, xne (s7 _ _ la6.t) xla.symm⟩, xne ey xly.symm, hlab, lbly, laly⟩
    have db8 := xne (s7 _ _ db6) xdb.symm
    have da8 := xne (s7 _ _ da6) xda.symm
    generalize upd H7 x (.ins C dx (mf xb xa ly [])) = H8 at *
    refine ⟨Nat.zero_le _, fun aS haS => ?_⟩
    have s9 := Same.upd (.lst []) haS
    have e9 : upd H8 aS (.lst []) aS = some (.lst []) := upd_same
    have nS : aS ≠ lb ∧ aS ≠ la ∧ aS ≠ ly := ⟨(ne_of_none m8.bb.t haS).symm, (ne_of_none m8.aa.t haS).symm, (ne_of_none m8.y haS).symm⟩
    have haS0 : H aS = none := A8.free haS ⟨_, m8.o⟩
    generalize upd H8 aS (.lst []) = H9 at *
    -- the loop over the parts, from the last
    have hlp := hpi.len
    have nP := ne_of hP hx (by intro z; cases z)
    refine ⟨_, rfl, aP, _, rfl, sqL_of (s9 _ _ (A8 _ _ hP nP)), RT.for_Itv (K := K) (a := aP) (xs := ts.map V.ref)
      (fun i σ H' => ∃ (v3 v4 : Option V) (st : Mx.B) (stack : List Mx.Shape) (ss : List Addr), σ = [some (.ref x), some (.ref aP), some (.ref aS), v3, v4] ∧ (t.pre.reverse.take i).foldl partStep (Mx.B.start, []) = (st, stack) ∧
        MB C CL H' ⟨x, dx, xb, dxb, xa, dxa, lb, la, ly, db, da⟩ st ∧ Stk H' aS ss stack st ∧ (H' db = some (.dT []) ∧ H' da = some (.dT [])) ∧ Aside x H H' ∧
        st.byb.length = 256 ∧ st.ahd.length = st.beh.length ∧ st.beh.length ≤ i ∧ stack.length ≤ i ∧ Need stack.length (t.pre.reverse.drop i))
      ⟨none, none, Mx.B.start, [], [], rfl, rfl, m8.same s9, ⟨e9, trivial, by simp⟩, ⟨s9 _ _ db8, s9 _ _ da8⟩, fun b o e n => s9 _ _ (A8 b o e n), by show (List.replicate 256 0).length = 256; rw [List.length_replicate], rfl, Nat.zero_le _, Nat.zero_le _, by rw [List.drop_zero]; exact need_all t⟩
      (fun i σ H' ⟨_, _, _, _, _, _, _, _, _, _, kk, _⟩ => sqL_of (kk _ _ hP nP)) ?_ ?_⟩
    · rintro i y σ H' hi hy ⟨v3, v4, st, stack, ss, rfl, hfold, m, ⟨hS, hsh, hok⟩, hd, ka, hb, hal, hbl, hsl, hneed⟩
      rw [List.length_map] at hi hy
      obtain ⟨tt, htt, rfl⟩ : ∃ tt, ts[ts.length - 1 - i]? = some tt ∧ y = V.ref tt := by
        rw [List.getElem?_map] at hy
        obtain ⟨n, hn, e⟩ := Option.map_eq_some_iff.mp hy
        exact ⟨n, hn, e.symm⟩
      obtain ⟨⟨sort, ms⟩, am, hpart, _, ht, hm⟩ := hpi.get htt
      have hget : t.pre.reverse[i]? = some (sort, ms) := by
        rw [List.getElem?_reverse (by rw [← hlp]; exact hi), ← hlp]; exact hpart
      have hdrop : t.pre.reverse.drop i = (sort, ms) :: t.pre.reverse.drop (i + 1) := by
        obtain ⟨hlt, e⟩ := List.getElem?_eq_some_iff.mp hget
        rw [← e]; exact List.drop_eq_getElem_cons hlt
      rw [hdrop] at hneed
      obtain ⟨har, hneed⟩ := hneed
      simp only [] at har hneed hm ht
      have ht' : H' tt = some (.tup [iv sort, .ref am]) := ka _ _ ht (ne_of ht hx (by intro z; cases z))
      have hm' : H' am = some (.lst (ivs ms)) := ka _ _ hm (ne_of hm hx (by intro z; cases z))
      have hss := hsh.len
      refine ⟨tt, _, rfl, .inl (.inl ht'), rfl, _, _, rfl, _, _, rfl, rfl, ?_⟩
      have e0 : ss.reverse.map V.ref = ((ss.drop (ar sort)).reverse ++ (ss.take (ar sort)).reverse).map V.ref := by
        rw [← List.reverse_append, List.take_append_drop]
      have est := step_part (st := st) (sort := sort) (ms := ms) (us := stack.take (ar sort)) (rest := stack.drop (ar sort)) (by rw [List.length_take]; omega)
      rw [List.take_append_drop] at est
      have inv := stepOf_inv (sort := sort) (ms := ms) (us := stack.take (ar sort)) hb hal (fun u hu => hok u (List.mem_of_mem_take hu))
      refine ⟨_, rfl, .inl ⟨rfl, _, sqL_of hS⟩, _, rfl, x, dx, _, rfl, m.o, mf_no (by decide +kernel) (by decide +kernel) (by decide +kernel) rfl, _, rfl, _, rfl, _, rfl, ?_⟩
      refine ⟨_, am, aS, sort, st, ms, (ss.drop (ar sort)).reverse, ss.take (ar sort), stack.take (ar sort), rfl, m, hm', ⟨ne_of_none hm nlb0, ne_of_none hm nla0, ne_of_none hm nly0⟩, nS, ne_of_none hm haS0, by rw [← e0]; exact hS,
        hsh.take _, by rw [List.length_take]; omega, fun u hu => hok u (List.mem_of_mem_take hu), by omega, hal, ?_, fun H'' p m'' hS'' kc np hp'' => ?_⟩
      · intro b hbm
        rw [hb]; exact byte_pre his (sort, ms) (List.mem_of_getElem? hpart) b hbm
      · refine ⟨aS, _, _, rfl, rfl, hS'', ?_, ?_⟩
        · rw [List.length_map, List.length_reverse, List.length_drop]; omega
        · have xaS : ∀ {z : Addr} {o : HO}, H'' z = some o → (∀ xs, o ≠ .lst xs) → upd H'' aS (.lst ((ss.drop (ar sort)).reverse.map V.ref ++ [.ref p])) z = some o := fun e n => by
            rw [upd_ne (ne_of e hS'' (n _))]; exact e
          have dk : ∀ {b : Addr} {o : HO}, H' b = some o → (∀ xs, o ≠ .lst xs) → upd H'' aS (.lst ((ss.drop (ar sort)).reverse.map V.ref ++ [.ref p])) b = some o := fun e n =>
            xaS (kc _ _ e (ne_of e m.bb.t (n _)) (ne_of e m.aa.t (n _)) (ne_of e m.y (n _)) (ne_of e hS (n _))) n
          refine ⟨_, _, (stepOf st sort ms (stack.take (ar sort))).1, (stepOf st sort ms (stack.take (ar sort))).2 :: stack.drop (ar sort), p :: ss.drop (ar sort), rfl, ?_,
            ⟨xaS m''.o (by intro _ z; cases z), ⟨xaS m''.bb.o (by intro _ z; cases z), ?_⟩, ⟨xaS m''.aa.o (by intro _ z; cases z), ?_⟩, ?_, hlab, lbly, laly⟩,
            ⟨?_, ⟨xaS hp'' (by intro _ z; cases z), ?_⟩, ?_⟩, ⟨dk hd.1 (by intro _ z; cases z), dk hd.2 (by intro _ z; cases z)⟩, ?_, inv.b, inv.al, by have := inv.ub; omega, ?_, ?_⟩
          · rw [List.take_succ_eq_append_getElem (by obtain ⟨hlt, _⟩ := List.getElem?_eq_some_iff.mp hget; exact hlt), List.foldl_append, hfold]
            obtain ⟨hlt, e⟩ := List.getElem?_eq_some_iff.mp hget
            rw [e]; exact est
          · rw [upd_ne nS.1.symm]; exact m''.bb.t
          · rw [upd_ne nS.2.1.symm]; exact m''.aa.t
          · rw [upd_ne nS.2.2.symm]; exact m''.y
          · rw [upd_same, List.reverse_cons, List.map_append]; rfl
          · exact (hsh.drop (ar sort)).mono fun q yy e => dk e (by intro _ z; cases z)
          · intro u hu
            rcases List.mem_cons.mp hu with rfl | hu
            · exact inv.s
            · exact (hok u (List.mem_of_mem_drop hu)).up inv.le
          · intro b o e n
            have e' := ka b o e n
            have nb : b ≠ aS := ne_of_none e haS0
            rw [upd_ne nb]
            exact kc _ _ e' (ne_of_none e nlb0) (ne_of_none e nla0) (ne_of_none e nly0) nb
          · rw [List.length_cons, List.length_drop]; omega
          · rw [List.length_cons, List.length_drop]; exact hneed
    · rintro σ H' ⟨v3, v4, st, stack, ss, rfl, hfold, m, ⟨hS, hsh, hok⟩, hd, ka, hb, hal, hbl, hsl, hneed⟩
      rw [List.length_map, hlp, ← List.length_reverse, List.take_length, Mx.pre_fold] at hfold
      obtain ⟨rfl, rfl⟩ := Prod.mk.inj hfold
      obtain ⟨p0, rfl⟩ : ∃ p0, ss = [p0] := by
        have := hsh.len
        simp only [List.length_cons, List.length_nil] at this
        exact List.length_eq_one_iff.mp this
      have hp0 := hsh.1
      have aS1 : H' aS = some (.lst [.ref p0]) := hS
      have xp : p0 ≠ x := ne_of hp0 m.o (by intro z; cases z)
      have Sx : aS ≠ x := ne_of aS1 m.o (by intro z; cases z)
      refine ⟨_, rfl, aS, _, _, _, rfl, rfl, sqL_of aS1, (rfl : atI [V.ref p0] 0 = some (.ref p0)), p0, _, _, _, rfl, rfl, SqT.of hp0, shv0 _, _, rfl, x, C, dx, _, rfl, m.o, T.cl, T.nE, (by show 3 < 1000; decide), ?_⟩
      refine ⟨_, rfl, aS, _, _, _, rfl, rfl, sqL_of (by rw [upd_ne Sx]; exact aS1), (rfl : atI [V.ref p0] 0 = some (.ref p0)), p0, _, _, _, rfl, rfl, SqT.of (by rw [upd_ne xp]; exact hp0), shv1 _, _, rfl, x, C, dx, _, rfl, upd_same, T.cl, T.nF, ?_, ?_⟩
      · rw [mf_put]; show 4 < 1000; decide
      rw [upd_upd]
      refine ⟨_, rfl, aS, _, _, _, rfl, rfl, sqL_of (by rw [upd_ne Sx]; exact aS1), (rfl : atI [V.ref p0] 0 = some (.ref p0)), p0, _, _, _, rfl, rfl, SqT.of (by rw [upd_ne xp]; exact hp0), shv2 _, _, rfl, x, C, dx, _, rfl, upd_same, T.cl, T.nL, ?_, ?_⟩
      · rw [mf_put, mf_put]
        show (putF "first" (iv (Mx.bld t Mx.B.start).2.2.1) [(("empty" : Str), V.bl (Mx.bld t Mx.B.start).2.1)]).length + 3 < 1000
        rw [put_past (by decide +kernel)]; show 5 < 1000; decide
      rw [upd_upd, mf_end]
      have kx : ∀ {b : Addr} {o : HO}, H' b = some o → b ≠ x → upd H' x (.ins C dx (mf xb xa ly (fl (Mx.bld t Mx.B.start).2.1 (Mx.bld t Mx.B.start).2.2.1 (Mx.bld t Mx.B.start).2.2.2))) b = some o := fun e n => by rw [upd_ne n]; exact e
      have lbx := ne_of m.bb.t m.o (by intro z; cases z)
      have lax := ne_of m.aa.t m.o (by intro z; cases z)
      have lyx := ne_of m.y m.o (by intro z; cases z)
      refine k _ db da (fun G hG gb ga => ⟨dx, xb, xa, ly, upd_same, ⟨dxb, lb, db, ⟨kx m.bb.o xxb.symm, kx m.bb.t lbx⟩, gb, fun z => hG _ z nlb0⟩, ⟨dxa, la, da, ⟨kx m.aa.o xxa.symm, kx m.aa.t lax⟩, ga, fun z => hG _ z nla0⟩, kx m.y lyx, fun z => hG _ z nly0⟩)
        (kx hd.1 xdb.symm) (kx hd.2 xda.symm) ndb0 nda0 hdab (fun b o e n => kx (ka b o e n) n)
end
end Mp

-- MpScan
set_option maxRecDepth 100000
set_option maxHeartbeats 4000000
set_option exponentiation.threshold 3000
/-! A row is told by what fits each byte; a matcher's scan. -/
namespace Mp
open PySem PySem.Spec PyProof.Rows L2
open Mx (stepsIn orAt MOk)

def spFitting (K : PySem.W.Frag) (C CL : Addr) : Sp := fun vs H Q _ => ∃ (G : Gh) (x a : Addr) (row : List Nat) (M : Mx.Mat), vs = [.ref x, .ref a] ∧ MatAt G C CL H x M ∧ M.byb.length = 256 ∧ SqL K H a (ivs row) ∧ row.length ≤ 100000 ∧ (∀ b ∈ row, b < 256) ∧
  ∀ H' p, Same H H' → H p = none → H' p = some (.lst (ivs (M.fits row))) → Q (.ref p) H'
def spPromising (K : PySem.W.Frag) (C CL : Addr) : Sp := fun vs H Q _ => ∃ (G : Gh) (x a : Addr) (row : List Nat) (M : Mx.Mat), vs = [.ref x, .ref a] ∧ Wld G H ∧ MatAt G C CL H x M ∧ MOk M ∧ SqL K H a (ivs row) ∧ row.length ≤ 100000 ∧ (∀ b ∈ row, b < 256) ∧
  ∀ H' p, Go G [] H H' → H p = none → H' p = some (.lst (ivs (M.prom row))) → Q (.ref p) H'
def spScan (K : PySem.W.Frag) (C CL : Addr) : Sp := fun vs H Q _ => ∃ (G : Gh) (x a place : Nat) (fs : List Nat) (M : Mx.Mat), vs = [.ref x, .ref a, iv place] ∧ Wld G H ∧ MatAt G C CL H x M ∧ M.behind.length ≤ 2000 ∧ SqL K H a (ivs fs) ∧ (∀ f ∈ fs, f < 2 ^ M.behind.length) ∧ place ≤ fs.length ∧
  ∀ H' p, Go G [] H H' → H p = none → H' p = some (.tup [iv (M.scanF (fs.drop place) M.first 0 0).1, iv (M.scanF (fs.drop place) M.first 0 0).2]) → Q (.ref p) H'
def scanMu (row : List Nat) (σ : L2.St) (_ : Hp) : Nat := match σ[4]? with
  | some (some (V.int z)) => row.length - z.toNat
  | _ => 0
theorem map_at {l : List Nat} {i : Nat} {y : V} (h : (ivs l)[i]? = some y) : ∃ n, l[i]? = some n ∧ y = iv n := by
  rw [List.getElem?_map] at h
  obtain ⟨n, hn, e⟩ := Option.map_eq_some_iff.mp h
  exact ⟨n, hn, e.symm⟩
theorem fits_lt {M : Mx.Mat} (h : MOk M) (row : List Nat) : ∀ f ∈ M.fits row, f < 2 ^ M.behind.length := fun f hf => by
  obtain ⟨b, _, rfl⟩ := List.mem_map.mp hf; exact h.bits b
theorem prom_lt {M : Mx.Mat} (h : MOk M) : ∀ row, ∀ f ∈ M.prom row, f < 2 ^ M.behind.length
  | [], f, hf => by cases hf
  | b :: l, f, hf => by
    rw [Mx.Mat.prom] at hf
    rcases List.mem_cons.mp hf with rfl | hf
    · exact Nat.lt_of_le_of_lt Nat.and_le_left (h.bits b)
    · exact prom_lt h l f hf
theorem prom_head {M : Mx.Mat} (h : MOk M) (row : List Nat) : (M.prom row).headD 0 < 2 ^ M.behind.length := by
  cases e : M.prom row with
  | nil => exact Nat.two_pow_pos _
  | cons f l => exact prom_lt h row f (by rw [e]; simp)

section
variable {P : Program} {w : World} {K : PySem.W.Frag} {mg : Str → Option Value} {base : Heap} {C CL : Addr}
theorem scFitting : FnScope ["self", "row", "byte"] ["self", "row"] (defScope sFitting) := ⟨rfl, rfl, rfl, by decide +kernel, rfl, by decide +kernel, by decide +kernel⟩
theorem ok_fitting {f : Addr} {fd : FuncData} (F : Fun K "fitting" "Matcher.fitting" sFitting f fd) (T : Cm K C) : FnOk P w K mg base CX0 1 f fd ["self", "row"] (spFitting K C CL) := by
  refine F.ok scFitting (fun vs H Q E h => ?_) (fun cdv A outer s H vs Q E hr h => ?_)
  · obtain ⟨G, x, a, row, M, rfl, _⟩ := h; rfl
  · obtain ⟨G, x, a, row, M, rfl, hM, hby, lq, hlen, hb, k⟩ := h
    have nd := scFitting.nd
    obtain ⟨dx, xb, xa, ly, h1, h2, h3, h4, h5⟩ := id hM
    refine ⟨_, (L2.pss_one (ps_ret (pe_lc (own := [("byte", 2)]) (g := gName 2) (te := tOp (rIxL K) (tFld K (tVar 0) "by_byte") (tVar 2)) rfl nd (pi_list (pv 1)) (blkOk_by (N := ["self", "row", "byte"]) (sc := defScope sFitting) (by decide +kernel))
      (fun _ _ _ _ _ => pg_name (i := 2) nd rfl (Or.inl rfl)) (fun _ _ _ _ _ => pts_nil) (fun _ _ _ _ _ => (L2.pe_ix L2.ix_list (pe_fld (pv 0) rfl) (pv 2) (fun _ _ => rfl)))))), ?_⟩
    refine ⟨_, rfl, a, rfl, ⟨_, lq⟩, fun D hD => ?_⟩
    refine lc_list (K := K) (a := a) (xs := ivs row) (fun i H' => H' = upd H D (.lst (ivs (M.fits (row.take i))))) rfl ?_ ?_ ?_
    · rintro i H' _ rfl; exact (Same.upd _ hD).seq lq
    · rintro i y H' hi rfl
      obtain ⟨b, hbi, rfl⟩ := map_at hi
      have hlt := (List.getElem?_eq_some_iff.mp hbi).1
      have up : ∀ {b' : Addr} {o : HO}, H b' = some o → upd H D (.lst (ivs (M.fits (row.take i)))) b' = some o := fun e => Same.upd _ hD _ _ e
      refine ⟨rfl, ?_⟩
      refine iteT (B := upd H D (.lst (ivs (M.fits (row.take i)))) = upd H D (.lst (ivs (M.fits (row.take (i + 1)))))) ?_
      refine ⟨_, rfl, x, C, dx, _, _, rfl, up h1, T.cl, T.nY, mf_Y, _, rfl, ly, _, _, _, rfl, rfl, sqL_of (up h4), atI_nat (getD_at (by rw [hby]; exact hb b (List.mem_of_getElem? hbi))), ivs (M.fits (row.take i)), upd_same, ?_, ?_⟩
      · rw [ivs_len, Mx.fits_len, List.length_take]; exact Nat.lt_of_le_of_lt (Nat.le_trans (Nat.min_le_right _ _) hlen) (by decide)
      · show upd (upd H D _) D _ = upd H D _
        rw [upd_upd]
        congr 2
        obtain ⟨l1, e1⟩ := List.getElem?_eq_some_iff.mp hbi
        rw [List.take_succ_eq_append_getElem l1, e1]
        unfold Mx.Mat.fits ivs
        rw [List.map_append, List.map_append]; rfl
    · rintro H' rfl
      rw [ivs_len, List.take_length]
      exact k _ D (Same.upd _ hD) hD upd_same

theorem scPromising : FnScope ["self", "row", "listed", "coming", "byte", "done"] ["self", "row"] (defScope sPromising) := ⟨rfl, rfl, rfl, by decide +kernel, rfl, by decide +kernel, by decide +kernel⟩
theorem ok_promising {f f1 : Addr} {fd fd1 : FuncData} (F : Fun K "promising" "Matcher.promising" sPromising f fd) (T : Cm K C) (TL : Cl K CL) (TX : Txt K mg)
    (D1 : Dm K CL "reached" "Links.reached" sReached ["self", "steps"] f1 fd1) (G1 : FnOk P w K mg base CX0 3 f1 fd1 ["self", "steps"] (spReached CL)) : FnOk P w K mg base CX0 4 f fd ["self", "row"] (spPromising K C CL) := by
  refine F.ok scPromising (fun vs H Q E h => ?_) (fun cdv A outer s H vs Q E hr h => ?_)
  · obtain ⟨G, x, a, row, M, rfl, _⟩ := h; rfl
  · obtain ⟨G, x, a, row, M, rfl, wl, hM, ok, lq, hlen, hb, k⟩ := h
    have nd := scPromising.nd
    refine ⟨_, (L2.pss_cons (L2.ps_set (i := 2) nd rfl (Or.inl rfl) (pe_lst L2.pa_nil))
      (L2.pss_cons (L2.ps_set (i := 3) nd rfl (Or.inl rfl) pe_int)
      (L2.pss_cons (ps_for PassesOwn.never rfl (pi_reversed (by rfl) TX.reversed (L2.pa_cons (pv 1) L2.pa_nil)) (pg_name (i := 4) nd rfl (Or.inl rfl)) (L2.pss_cons (L2.ps_set (i := 5) nd rfl (Or.inl rfl) (pe_op op_and ((L2.pe_ix L2.ix_list (pe_fld (pv 0) rfl) (pv 4) (fun _ _ => rfl))) (pe_op op_or (pe_fld (pv 0) rfl) ((L2.pe_meth (pe_fld (pv 0) rfl) TL.cl (Mp.Dm.m D1) G1 hr (Mp.Dm.b D1) .nil L2.pass0 (L2.pa_cons (pv 3) L2.pa_nil))))))
      (L2.pss_cons (ps_expr (pe_bm PySem.F.plainAttrs_list PySem.F.slot_list_append PySem.F.type_list_append mt_append (pv 2) (L2.pa_cons (pv 5) L2.pa_nil)))
      (L2.pss_one (L2.ps_set (i := 3) nd rfl (Or.inl rfl) (pv 5))))))
      (L2.pss_cons (ps_expr (pe_bm0 PySem.F.plainAttrs_list PySem.F.slot_list_reverse PySem.F.type_list_reverse mt_reverse (pv 2)))
      (L2.pss_one (ps_ret (pv 2))))))), ?_⟩
    refine ⟨Nat.zero_le _, fun aL haL => ?_⟩
    have s1 := Same.upd (.lst []) haL
    have e1 : upd H aL (.lst []) aL = some (.lst []) := upd_same
    generalize upd H aL (.lst []) = H1 at *
    have p0 : M.prom (row.drop (row.length - 0)) = [] := by rw [Nat.sub_zero, List.drop_length]; rfl
    refine ⟨_, rfl, a, _, rfl, s1.seq lq, RT.for_Itv (K := K) (a := a) (xs := ivs row)
      (fun i σ H' => ∃ (v4 v5 : Option V), σ = [some (.ref x), some (.ref a), some (.ref aL), some (iv ((M.prom (row.drop (row.length - i))).headD 0)), v4, v5] ∧ H' aL = some (.lst (ivs (M.prom (row.drop (row.length - i))).reverse)) ∧ Go G [] H H')
      ⟨none, none, by rw [p0]; rfl, by rw [p0]; exact e1, .of wl s1⟩ (fun i σ H' ⟨_, _, _, _, g⟩ => g.seq lq) ?_ ?_⟩
    · rintro i y σ H2 hi hy ⟨v4, v5, rfl, hL, g⟩
      rw [ivs_len] at hi hy
      obtain ⟨b, hbi, rfl⟩ := map_at hy
      have hM2 := hM.go g
      obtain ⟨dx, xb, xa, ly, h1, h2, h3, h4, h5⟩ := id hM2
      obtain ⟨dxa, la, da, hla, hg, nf⟩ := id h3
      have hlt := (List.getElem?_eq_some_iff.mp hbi).1
      have edrop : row.drop (row.length - (i + 1)) = b :: row.drop (row.length - i) := by
        obtain ⟨l1, e1⟩ := List.getElem?_eq_some_iff.mp hbi
        rw [show row.length - (i + 1) = row.length - 1 - i by omega, List.drop_eq_getElem_cons l1, e1]
        congr 2; omega
      have hhd := prom_head ok (row.drop (row.length - i))
      have hpl := Mx.prom_len M (row.drop (row.length - i))
      have eprom : M.prom (row.drop (row.length - (i + 1))) = (M.byb.getD b 0 &&& (M.last ||| M.bk ((M.prom (row.drop (row.length - i))).headD 0))) :: M.prom (row.drop (row.length - i)) := by rw [edrop]; rfl
      rw [List.length_drop] at hpl
      generalize M.prom (row.drop (row.length - i)) = pr at *
      refine ⟨_, rfl, x, C, dx, _, _, rfl, h1, T.cl, T.nY, mf_Y, _, rfl, ly, _, _, _, rfl, rfl, sqL_of h4, atI_nat (getD_at (by rw [ok.byb]; exact hb b (List.mem_of_getElem? hbi))), ?_⟩
      refine ⟨_, rfl, x, C, dx, _, _, rfl, h1, T.cl, T.nL, mf_r fl_L, _, rfl, x, C, dx, _, _, rfl, h1, T.cl, T.nA, mf_A, xa, dxa, _, rfl, hla.o, lf_no (by decide +kernel) (by decide +kernel), _, rfl, ?_⟩
      refine ⟨G, xa, pr.headD 0, M.ahead, rfl, g.w', h3, by rw [ok.alen]; exact ok.len, by rw [ok.alen]; exact hhd, fun H3 a3 => ⟨_, _, rfl, rfl, ?_⟩⟩
      dsimp only []
      rw [bor]
      refine ⟨_, _, rfl, rfl, ?_⟩
      dsimp only [gName]
      rw [band]
      have hL3 := a3.at0 hL
      have naL : G.d aL = none := a3.w'.no hL3 (by intro _ z; cases z)
      refine ⟨_, rfl, .inl ⟨rfl, _, sqL_of hL3⟩, _, rfl, aL, _, _, rfl, rfl, hL3, ?_, _, rfl, ?_⟩
      · rw [ivs_len, List.length_reverse, hpl]; exact Nat.lt_of_le_of_lt (by omega : _ ≤ 100000) (by decide)
      · refine ⟨some (iv b), some (iv (M.byb.getD b 0 &&& (M.last ||| orAt M.ahead (stepsIn (pr.headD 0))))), ?_, ?_, (g.trans a3).write _ naL (.inr haL)⟩
        · rw [eprom]; rfl
        · rw [upd_same, eprom, List.reverse_cons]
          unfold ivs; rw [List.map_append]; rfl
    · rintro σ H2 ⟨v4, v5, rfl, hL, g⟩
      rw [ivs_len, Nat.sub_self, List.drop_zero] at hL
      have naL : G.d aL = none := g.w'.no hL (by intro _ z; cases z)
      refine ⟨_, rfl, .inl ⟨rfl, _, sqL_of hL⟩, aL, _, rfl, rfl, hL, _, rfl, ?_⟩
      refine k _ aL (g.write _ naL (.inr haL)) haL ?_
      rw [upd_same]
      unfold ivs; rw [← List.map_reverse, List.reverse_reverse]

theorem scScan : FnScope ["self", "fitting", "place", "coming", "at", "longest", "done"] ["self", "fitting", "place"] (defScope sScan) := ⟨rfl, rfl, rfl, by decide +kernel, rfl, by decide +kernel, by decide +kernel⟩
theorem ok_scan {f f1 : Addr} {fd fd1 : FuncData} (F : Fun K "scan" "Matcher.scan" sScan f fd) (T : Cm K C) (TL : Cl K CL) (TX : Txt K mg)
    (D1 : Dm K CL "reached" "Links.reached" sReached ["self", "steps"] f1 fd1) (G1 : FnOk P w K mg base CX0 3 f1 fd1 ["self", "steps"] (spReached CL)) : FnOk P w K mg base CX0 4 f fd ["self", "fitting", "place"] (spScan K C CL) := by
  refine F.ok scScan (fun vs H Q E h => ?_) (fun cdv A outer s H vs Q E hr h => ?_)
  · obtain ⟨G, x, a, place, fs, M, rfl, _⟩ := h; rfl
  · obtain ⟨G, x, a, place, fs, M, rfl, wl, hM, hlen, lq, hb, hpl, k⟩ := h
    have nd := scScan.nd
    refine ⟨_, (L2.pss_cons (L2.ps_set (i := 3) nd rfl (Or.inl rfl) (pe_fld (pv 0) rfl))
      (L2.pss_cons (L2.ps_set (i := 4) nd rfl (Or.inl rfl) (pv 2))
      (L2.pss_cons (L2.ps_set (i := 5) nd rfl (Or.inl rfl) pe_int)
      (L2.pss_cons (ps_while PassesOwn.never (PW.pt (pw_and (pt_truth (pv 3) (by intro _; rfl)) (pw_and1 ((L2.pt_cmpR op_lt (pv 4) (L2.pe_callB L2.call_len_seq (by rfl) TX.len PySem.boot_len (L2.pa_cons (pv 1) L2.pa_nil)) (L2.nomark _)))))) (L2.pss_cons (L2.ps_set (i := 6) nd rfl (Or.inl rfl) (pe_op op_and (pv 3) ((L2.pe_ix L2.ix_list (pv 1) (pv 4) (fun _ _ => rfl)))))
      (L2.pss_cons (ps_aug (i := 4) nd rfl (Or.inl rfl) pe_int ip_add)
      (L2.pss_cons (L2.ps_if (pt_truth (pe_op op_and (pv 6) (pe_fld (pv 0) rfl)) (by intro _; rfl)) (L2.pss_one (L2.ps_set (i := 5) nd rfl (Or.inl rfl) (pe_op op_sub (pv 4) (pv 2)))) L2.pss_nil)
      (L2.pss_one (L2.ps_set (i := 3) nd rfl (Or.inl rfl) (L2.pe_meth (pe_fld (pv 0) rfl) TL.cl (Mp.Dm.m D1) G1 hr (Mp.Dm.b D1) .nil L2.pass0 (L2.pa_cons (pv 6) L2.pa_nil))))))))
      (L2.pss_cons (L2.ps_if (pt_truth (pv 3) (by intro _; rfl)) (L2.pss_one (ps_ret (pe_tup (L2.pa_cons (pv 5) (L2.pa_cons (pe_op op_add (pe_op op_sub (pv 4) (pv 2)) pe_int) L2.pa_nil))))) L2.pss_nil)
      (L2.pss_one (ps_ret (pe_tup (L2.pa_cons (pv 5) (L2.pa_cons (pe_op op_sub (pv 4) (pv 2)) L2.pa_nil)))))))))), ?_⟩
    obtain ⟨dx, xb, xa, ly, h1, h2, h3, h4, h5⟩ := id hM
    refine ⟨_, rfl, x, C, dx, _, _, rfl, h1, T.cl, T.nF, mf_r fl_F, _, rfl, ?_⟩
    dsimp only [gName, tSeq, tAsg, tC]
    refine while_by (fun σ H' => ∃ (c n lg : Nat) (v6 : Option V), σ = [some (.ref x), some (.ref a), some (iv place), some (iv c), some (iv (place + n)), some (iv lg), v6] ∧ Go G [] H H' ∧ place + n ≤ fs.length ∧
        M.scanF (fs.drop place) M.first 0 0 = M.scanF (fs.drop (place + n)) c n lg) (scanMu fs)
      ⟨M.first, 0, 0, none, rfl, .refl wl _, hpl, rfl⟩ ?_ ?_
    · rintro σ H1 ⟨c, n, lg, v6, rfl, a1, hn, hs⟩
      have lq1 := a1.seq lq
      have m1 := hM.go a1
      obtain ⟨dx1, xb1, xa1, ly1, g1, g2, g3, g4, g5⟩ := id m1
      obtain ⟨dxb, lb, db, hlb, hg, nf⟩ := id g2
      refine ⟨_, rfl, ((c : Int) != 0), rfl, ?_⟩
      by_cases c0 : c = 0
      · subst c0
        refine iteF (iteF ⟨_, rfl, ((0 : Int) != 0), rfl, iteF ⟨_, rfl, _, rfl, _, rfl, _, _, rfl, rfl, by show 2 ≤ sizeLine; decide, fun p hp => ?_⟩⟩)
        rw [Mx.scanF_zero] at hs
        rw [hs] at k
        refine k _ p (a1.put _ hp) (a1.free hp) ?_
        dsimp only []
        rw [upd_same, show ((place + n : Nat) : Int) - (place : Int) = ((n : Nat) : Int) by omega]
      · have e : ((c : Int) != 0) = true := by rw [bne_iff_ne]; omega
        refine if_true_of e ⟨_, rfl, _, rfl, a, _, rfl, .inl lq1, _, _, rfl, rfl, _, rfl, ?_⟩
        rw [ivs_len]
        by_cases hlt : place + n < fs.length
        · rw [decide_eq_true (by omega)]
          obtain ⟨b, hbn⟩ := some_at hlt
          have hbl := hb b (List.mem_of_getElem? hbn)
          rw [drop_at hbn] at hs
          simp only [Mx.Mat.scanF, if_neg c0] at hs
          refine iteT ⟨_, rfl, _, rfl, _, rfl, a, _, _, _, rfl, rfl, lq1, atI_nat (ivs_at hbn), _, _, rfl, rfl, ?_⟩
          dsimp only [gName]
          rw [band]
          have hdl : c &&& b < 2 ^ M.behind.length := Nat.lt_of_le_of_lt Nat.and_le_right hbl
          refine ⟨_, rfl, _, _, rfl, rfl, ?_⟩
          have et : ((place + n : Nat) : Int) + 1 = ((place + (n + 1) : Nat) : Int) := by omega
          dsimp only []
          rw [et]
          refine ⟨_, rfl, _, rfl, x, C, dx1, _, _, rfl, g1, T.cl, T.nL, mf_r fl_L, _, _, rfl, rfl, (((c &&& b &&& M.last : Nat) : Int) != 0), ?_, ?_⟩
          · show _ = (Builtin.bitAnd _ _ != 0); rw [band]
          · have eh : (((c &&& b &&& M.last : Nat) : Int) != 0) = (c &&& b &&& M.last != 0) := by
              rw [Bool.eq_iff_iff, bne_iff_ne, bne_iff_ne]; omega
            rw [eh]
            have step : ∀ lg' : Nat, M.scanF (fs.drop place) M.first 0 0 = M.scanF (fs.drop (place + n + 1)) (M.nx (c &&& b)) (n + 1) lg' →
                spReached CL [.ref xb1, iv (c &&& b)] H1 (fun v H2 => (fun σ H' => ∃ (c n lg : Nat) (v6 : Option V), σ = [some (.ref x), some (.ref a), some (iv place), some (iv c), some (iv (place + n)), some (iv lg), v6] ∧ Go G [] H H' ∧ place + n ≤ fs.length ∧
                  M.scanF (fs.drop place) M.first 0 0 = M.scanF (fs.drop (place + n)) c n lg) [some (.ref x), some (.ref a), some (iv place), some v, some (iv (place + (n + 1))), some (iv lg'), some (iv (c &&& b))] H2 ∧
                  scanMu fs [some (.ref x), some (.ref a), some (iv place), some v, some (iv (place + (n + 1))), some (iv lg'), some (iv (c &&& b))] H2 < scanMu fs [some (.ref x), some (.ref a), some (iv place), some (iv c), some (iv (place + n)), some (iv lg), v6] H1) E := fun lg' hs' =>
              ⟨G, xb1, c &&& b, M.behind, rfl, a1.w', g2, hlen, hdl, fun H2 a2 => ⟨⟨M.nx (c &&& b), n + 1, lg', some (iv (c &&& b)), rfl, a1.trans a2, by omega, hs'⟩, by
                show fs.length - ((((place + (n + 1) : Nat) : Int))).toNat < fs.length - (((place + n : Nat) : Int)).toNat
                omega⟩⟩
            refine ite2 (fun hh => ?_) (fun hh => ?_)
            · rw [if_pos hh] at hs
              refine ⟨_, rfl, _, rfl, _, _, rfl, rfl, _, rfl, x, C, dx1, _, _, rfl, g1, T.cl, T.nB, mf_B, xb1, dxb, _, rfl, hlb.o, lf_no (by decide +kernel) (by decide +kernel), _, rfl, ?_⟩
              dsimp only []
              rw [show ((place + (n + 1) : Nat) : Int) - (place : Int) = ((n + 1 : Nat) : Int) by omega]
              exact step (n + 1) hs
            · rw [if_neg hh] at hs
              refine ⟨_, rfl, x, C, dx1, _, _, rfl, g1, T.cl, T.nB, mf_B, xb1, dxb, _, rfl, hlb.o, lf_no (by decide +kernel) (by decide +kernel), _, rfl, ?_⟩
              exact step lg hs
        · rw [decide_eq_false (by omega)]
          have hge : fs.length ≤ place + n := by omega
          rw [List.drop_of_length_le hge] at hs
          simp only [Mx.Mat.scanF, if_neg c0] at hs
          refine iteF ⟨_, rfl, ((c : Int) != 0), rfl, if_true_of e ⟨_, rfl, _, rfl, _, rfl, _, _, rfl, rfl, _, _, rfl, rfl, by show 2 ≤ sizeLine; decide, fun p hp => ?_⟩⟩
          rw [hs] at k
          refine k _ p (a1.put _ hp) (a1.free hp) ?_
          dsimp only []
          rw [upd_same, show ((place + n : Nat) : Int) - (place : Int) + 1 = ((n + 1 : Nat) : Int) by omega]
    · rintro σ H Q1 Q2 m ⟨v, hv, kk, t, q⟩
      refine ⟨v, hv, kk, t, ?_⟩
      cases kk with
      | true =>
        rw [if_pos rfl] at q ⊢
        obtain ⟨v1, e1, v2, e2, p, ys, e3, sq, i, j, e4, e5, k2, e6, q⟩ := q
        exact ⟨v1, e1, v2, e2, p, ys, e3, sq, i, j, e4, e5, k2, e6, m _ _ q⟩
      | false => exact m _ _ q
end
end Mp

-- MpCut
set_option maxRecDepth 100000
set_option maxHeartbeats 4000000
set_option exponentiation.threshold 3000
/-! Rules and pieces. -/
namespace Mp
open PySem PySem.Spec PyProof.Rows L2
open Sq17 (Piece)

abbrev sRule : Stmt := top 8
abbrev sRInit : Stmt := inClass sRule 0
abbrev sPiece : Stmt := top 9
abbrev sPInit : Stmt := inClass sPiece 0
abbrev sTold : Stmt := inClass sPiece 1
abbrev sCut : Stmt := top 10
abbrev sCutOne : Stmt := top 11
abbrev sBest : Stmt := top 12
abbrev sModes : Stmt := top 13
abbrev sCountOdd : Stmt := top 14
abbrev sAhead : Stmt := top 15
abbrev sBehind : Stmt := top 16
abbrev sSame : Stmt := top 17
abbrev sWordsIn : Stmt := top 18
abbrev sWordOf : Stmt := top 19

structure Cr (K : PySem.W.Frag) (C : Addr) : Prop where
  cl : Cls K C
  nM : NoAttr K C "mode"
  nK : NoAttr K C "kind"
  nD : NoAttr K C "does"
  nT : NoAttr K C "to"
  nX : NoAttr K C "matcher"
structure Cp (K : PySem.W.Frag) (C : Addr) : Prop where
  cl : Cls K C
  nK : NoAttr K C "kind"
  nP : NoAttr K C "place"
  nL : NoAttr K C "length"
  nM : NoAttr K C "modes"
  nF : NoAttr K C "far"
/-- constants of the pieces -/
structure Txc (mg : Str → Option Value) : Prop where
  NOTHING : ∃ t, mg "NOTHING" = some (.int 64 t)
  ODD : ∃ t, mg "ODD" = some (.int 65 t)
  FIRST_MODE : ∃ t, mg "FIRST_MODE" = some (.int 0 t)
  MOST_OPEN : ∃ t, mg "MOST_OPEN" = some (.int 16 t)
  OPENS : ∃ t, mg "OPENS" = some (.int 1 t)
  LEAVES : ∃ t, mg "LEAVES" = some (.int 2 t)
  GOES_OVER : ∃ t, mg "GOES_OVER" = some (.int 3 t)

/-! ### a rule's attributes, a piece's -/
def rf (mode kind does to : Nat) (m : Addr) : List (Str × V) := [("mode", iv mode), ("kind", iv kind), ("does", iv does), ("to", iv to), ("matcher", .ref m)]
theorem rf_M {a b c d m} : (rf a b c d m).lookup ("mode" : Str) = some (iv a) := lk_here
theorem rf_K {a b c d m} : (rf a b c d m).lookup ("kind" : Str) = some (iv b) := (lk_past (by decide +kernel)).trans lk_here
theorem rf_D {a b c d m} : (rf a b c d m).lookup ("does" : Str) = some (iv c) := (lk_past (by decide +kernel)).trans ((lk_past (by decide +kernel)).trans lk_here)
theorem rf_T {a b c d m} : (rf a b c d m).lookup ("to" : Str) = some (iv d) := (lk_past (by decide +kernel)).trans ((lk_past (by decide +kernel)).trans ((lk_past (by decide +kernel)).trans lk_here))
theorem rf_X {a b c d m} : (rf a b c d m).lookup ("matcher" : Str) = some (.ref m) := (lk_past (by decide +kernel)).trans ((lk_past (by decide +kernel)).trans ((lk_past (by decide +kernel)).trans ((lk_past (by decide +kernel)).trans lk_here)))
theorem rf_new (a b c d : Nat) (m : Addr) : putF "matcher" (.ref m) (putF "to" (iv d) (putF "does" (iv c) (putF "kind" (iv b) (putF "mode" (iv a) [])))) = rf a b c d m := by
  have e1 : putF "mode" (iv a) [] = [(("mode" : Str), iv a)] := rfl
  have e2 : putF "kind" (iv b) ([(("mode" : Str), iv a)] : List (Str × V)) = ([("mode", iv a), ("kind", iv b)] : List (Str × V)) := by rw [put_past (by decide +kernel)]; rfl
  have e3 : putF "does" (iv c) ([("mode", iv a), ("kind", iv b)] : List (Str × V)) = ([("mode", iv a), ("kind", iv b), ("does", iv c)] : List (Str × V)) := by rw [put_past (by decide +kernel), put_past (by decide +kernel)]; rfl
  have e4 : putF "to" (iv d) ([("mode", iv a), ("kind", iv b), ("does", iv c)] : List (Str × V)) = ([("mode", iv a), ("kind", iv b), ("does", iv c), ("to", iv d)] : List (Str × V)) := by rw [put_past (by decide +kernel), put_past (by decide +kernel), put_past (by decide +kernel)]; rfl
  rw [e1, e2, e3, e4]
  rw [put_past (by decide +kernel), put_past (by decide +kernel), put_past (by decide +kernel), put_past (by decide +kernel)]; rfl

def pf (kind place length : Nat) (modes : Addr) (far : Nat) : List (Str × V) := [("kind", iv kind), ("place", iv place), ("length", iv length), ("modes", .ref modes), ("far", iv far)]
theorem pf_K {a b c m d} : (pf a b c m d).lookup ("kind" : Str) = some (iv a) := lk_here
theorem pf_P {a b c m d} : (pf a b c m d).lookup ("place" : Str) = some (iv b) := (lk_past (by decide +kernel)).trans lk_here
theorem pf_L {a b c m d} : (pf a b c m d).lookup ("length" : Str) = some (iv c) := (lk_past (by decide +kernel)).trans ((lk_past (by decide +kernel)).trans lk_here)
theorem pf_M {a b c m d} : (pf a b c m d).lookup ("modes" : Str) = some (.ref m) := (lk_past (by decide +kernel)).trans ((lk_past (by decide +kernel)).trans ((lk_past (by decide +kernel)).trans lk_here))
theorem pf_F {a b c m d} : (pf a b c m d).lookup ("far" : Str) = some (iv d) := (lk_past (by decide +kernel)).trans ((lk_past (by decide +kernel)).trans ((lk_past (by decide +kernel)).trans ((lk_past (by decide +kernel)).trans lk_here)))
theorem pf_told {a b c m d} : (pf a b c m d).lookup ("told" : Str) = none := (lk_past (by decide +kernel)).trans ((lk_past (by decide +kernel)).trans ((lk_past (by decide +kernel)).trans ((lk_past (by decide +kernel)).trans ((lk_past (by decide +kernel)).trans rfl))))
theorem pf_new (a b c : Nat) (m : Addr) (d : Nat) : putF "far" (iv d) (putF "modes" (.ref m) (putF "length" (iv c) (putF "place" (iv b) (putF "kind" (iv a) [])))) = pf a b c m d := by
  have e1 : putF "kind" (iv a) [] = [(("kind" : Str), iv a)] := rfl
  have e2 : putF "place" (iv b) ([(("kind" : Str), iv a)] : List (Str × V)) = ([("kind", iv a), ("place", iv b)] : List (Str × V)) := by rw [put_past (by decide +kernel)]; rfl
  have e3 : putF "length" (iv c) ([("kind", iv a), ("place", iv b)] : List (Str × V)) = ([("kind", iv a), ("place", iv b), ("length", iv c)] : List (Str × V)) := by rw [put_past (by decide +kernel), put_past (by decide +kernel)]; rfl
  have e4 : putF "modes" (.ref m) ([("kind", iv a), ("place", iv b), ("length", iv c)] : List (Str × V)) = ([("kind", iv a), ("place", iv b), ("length", iv c), ("modes", .ref m)] : List (Str × V)) := by rw [put_past (by decide +kernel), put_past (by decide +kernel), put_past (by decide +kernel)]; rfl
  rw [e1, e2, e3, e4]
  rw [put_past (by decide +kernel), put_past (by decide +kernel), put_past (by decide +kernel), put_past (by decide +kernel)]; rfl

theorem putF_len (f : Str) (v : V) : ∀ fs : List (Str × V), (putF f v fs).length ≤ fs.length + 1
  | [] => Nat.le_refl _
  | (g, x) :: r => by
    show (if g = f then (g, v) :: r else (g, x) :: putF f v r).length ≤ _
    split
    · simp
    · have := putF_len f v r; simp only [List.length_cons]; omega
theorem len1 (f g h k : Str) (v w y z : V) : (putF k z (putF h y (putF g w (putF f v [])))).length < 1000 := by
  have h1 := putF_len f v []
  have h2 := putF_len g w (putF f v [])
  have h3 := putF_len h y (putF g w (putF f v []))
  have h4 := putF_len k z (putF h y (putF g w (putF f v [])))
  simp only [List.length_nil] at h1; omega
theorem len2 (f g h : Str) (v w y : V) : (putF h y (putF g w (putF f v []))).length < 1000 := by
  have h1 := putF_len f v []
  have h2 := putF_len g w (putF f v [])
  have h3 := putF_len h y (putF g w (putF f v []))
  simp only [List.length_nil] at h1; omega
theorem len3 (f g : Str) (v w : V) : (putF g w (putF f v [])).length < 1000 := by
  have h1 := putF_len f v []
  have h2 := putF_len g w (putF f v [])
  simp only [List.length_nil] at h1; omega
def spRInit (C : Addr) : Sp := fun vs H Q _ => ∃ (x dx a b c d m : Nat), vs = [.ref x, iv a, iv b, iv c, iv d, .ref m] ∧ H x = some (.ins C dx []) ∧ ∀ H', H' x = some (.ins C dx (rf a b c d m)) → Aside x H H' → Q .non H'
def spPInit (C : Addr) : Sp := fun vs H Q _ => ∃ (x dx a b c m d : Nat), vs = [.ref x, iv a, iv b, iv c, .ref m, iv d] ∧ H x = some (.ins C dx []) ∧ ∀ H', H' x = some (.ins C dx (pf a b c m d)) → Aside x H H' → Q .non H'

section
variable {P : Program} {w : World} {K : PySem.W.Frag} {mg : Str → Option Value} {base : Heap} {C : Addr}
theorem scRInit : FnScope ["self", "mode", "kind", "does", "to", "matcher"] ["self", "mode", "kind", "does", "to", "matcher"] (defScope sRInit) := ⟨rfl, rfl, rfl, by decide +kernel, rfl, by decide +kernel, by decide +kernel⟩
theorem ok_rInit {f : Addr} {fd : FuncData} (F : Fun K "__init__" "Rule.__init__" sRInit f fd) (T : Cr K C) : FnOk P w K mg base CX0 1 f fd ["self", "mode", "kind", "does", "to", "matcher"] (spRInit C) := by
  refine F.ok scRInit (fun vs H Q E h => ?_) (fun cdv A outer s H vs Q E hr h => ?_)
  · obtain ⟨x, dx, a, b, c, d, m, rfl, _⟩ := h; rfl
  · obtain ⟨x, dx, a, b, c, d, m, rfl, hx, k⟩ := h
    refine ⟨_, (L2.pss_cons (ps_fld (pv 0) (pv 1) rfl)
      (L2.pss_cons (ps_fld (pv 0) (pv 2) rfl)
      (L2.pss_cons (ps_fld (pv 0) (pv 3) rfl)
      (L2.pss_cons (ps_fld (pv 0) (pv 4) rfl)
      (L2.pss_one (ps_fld (pv 0) (pv 5) rfl)))))), ?_⟩
    refine ⟨_, rfl, _, rfl, x, C, dx, [], rfl, hx, T.cl, T.nM, (by show 0 < 1000; decide), ?_⟩
    refine ⟨_, rfl, _, rfl, x, C, dx, _, rfl, upd_same, T.cl, T.nK, (by show 1 < 1000; decide), ?_⟩
    rw [upd_upd]
    refine ⟨_, rfl, _, rfl, x, C, dx, _, rfl, upd_same, T.cl, T.nD, len3 _ _ _ _, ?_⟩
    rw [upd_upd]
    refine ⟨_, rfl, _, rfl, x, C, dx, _, rfl, upd_same, T.cl, T.nT, len2 _ _ _ _ _ _, ?_⟩
    rw [upd_upd]
    refine ⟨_, rfl, _, rfl, x, C, dx, _, rfl, upd_same, T.cl, T.nX, len1 _ _ _ _ _ _ _ _, ?_⟩
    rw [upd_upd, rf_new]
    exact k _ upd_same (fun p o e n => by rw [upd_ne n]; exact e)
theorem scPInit : FnScope ["self", "kind", "place", "length", "modes", "far"] ["self", "kind", "place", "length", "modes", "far"] (defScope sPInit) := ⟨rfl, rfl, rfl, by decide +kernel, rfl, by decide +kernel, by decide +kernel⟩
theorem ok_pInit {f : Addr} {fd : FuncData} (F : Fun K "__init__" "Piece.__init__" sPInit f fd) (T : Cp K C) : FnOk P w K mg base CX0 1 f fd ["self", "kind", "place", "length", "modes", "far"] (spPInit C) := by
  refine F.ok scPInit (fun vs H Q E h => ?_) (fun cdv A outer s H vs Q E hr h => ?_)
  · obtain ⟨x, dx, a, b, c, m, d, rfl, _⟩ := h; rfl
  · obtain ⟨x, dx, a, b, c, m, d, rfl, hx, k⟩ := h
    refine ⟨_, (L2.pss_cons (ps_fld (pv 0) (pv 1) rfl)
      (L2.pss_cons (ps_fld (pv 0) (pv 2) rfl)
      (L2.pss_cons (ps_fld (pv 0) (pv 3) rfl)
      (L2.pss_cons (ps_fld (pv 0) (pv 4) rfl)
      (L2.pss_one (ps_fld (pv 0) (pv 5) rfl)))))), ?_⟩
    refine ⟨_, rfl, _, rfl, x, C, dx, [], rfl, hx, T.cl, T.nK, (by show 0 < 1000; decide), ?_⟩
    refine ⟨_, rfl, _, rfl, x, C, dx, _, rfl, upd_same, T.cl, T.nP, (by show 1 < 1000; decide), ?_⟩
    rw [upd_upd]
    refine ⟨_, rfl, _, rfl, x, C, dx, _, rfl, upd_same, T.cl, T.nL, len3 _ _ _ _, ?_⟩
    rw [upd_upd]
    refine ⟨_, rfl, _, rfl, x, C, dx, _, rfl, upd_same, T.cl, T.nM, len2 _ _ _ _ _ _, ?_⟩
    rw [upd_upd]
    refine ⟨_, rfl, _, rfl, x, C, dx, _, rfl, upd_same, T.cl, T.nF, len1 _ _ _ _ _ _ _ _, ?_⟩
    rw [upd_upd, pf_new]
    exact k _ upd_same (fun p o e n => by rw [upd_ne n]; exact e)
end
end Mp

-- MpCut2
set_option maxRecDepth 100000
set_option maxHeartbeats 4000000
set_option exponentiation.threshold 3000
/-! The pieces of a text. -/
namespace Mp
open PySem PySem.Spec PyProof.Rows L2
open Sq17 (Piece)
open Mx (okR bm pickStep lenOf MOk)

/-- modes as they lie in a tuple: the innermost last -/
abbrev mt (ms : List Nat) : List V := ivs ms.reverse
/-- a piece, with the modes ahead of it -/
def PieceAt (C : Addr) (H : Hp) (q : Addr) (x : Piece × List Nat) : Prop := ∃ dx am, H q = some (.ins C dx (pf x.1.kind x.1.i x.1.n am x.1.reach)) ∧ H am = some (.tup (mt x.2))
def PiecesIn (C : Addr) (H : Hp) : List Addr → List (Piece × List Nat) → Prop
  | [], [] => True
  | q :: qs, x :: xs => PieceAt C H q x ∧ PiecesIn C H qs xs
  | _, _ => False
/-- a rule and its matcher -/
def RuleAt (G : Gh) (CR CM CL : Addr) (H : Hp) (r : Addr) (x : Sq17.Rule × Mx.Mat) : Prop := ∃ dx m, H r = some (.ins CR dx (rf x.1.mode x.1.kind x.1.act x.1.to m)) ∧ MatAt G CM CL H m x.2
def RulesIn (G : Gh) (CR CM CL : Addr) (H : Hp) : List Addr → List (Sq17.Rule × Mx.Mat) → Prop
  | [], [] => True
  | r :: rs, x :: xs => RuleAt G CR CM CL H r x ∧ RulesIn G CR CM CL H rs xs
  | _, _ => False
theorem RuleAt.std {G : Gh} {CR CM CL : Addr} {H H' : Hp} {r : Addr} {x : Sq17.Rule × Mx.Mat} (h : RuleAt G CR CM CL H r x) (s : Std G H H') : RuleAt G CR CM CL H' r x := by
  obtain ⟨dx, m, h1, h2⟩ := h
  exact ⟨dx, m, s _ _ h1 ⟨by decide +kernel, by decide +kernel⟩, h2.std s⟩
theorem RulesIn.std {G : Gh} {CR CM CL : Addr} {H H' : Hp} (s : Std G H H') : ∀ {rs : List Addr} {xs : List (Sq17.Rule × Mx.Mat)}, RulesIn G CR CM CL H rs xs → RulesIn G CR CM CL H' rs xs
  | [], [], _ => trivial
  | _ :: _, _ :: _, h => ⟨h.1.std s, RulesIn.std s h.2⟩
  | [], _ :: _, h => h.elim
  | _ :: _, [], h => h.elim
theorem RulesIn.len {G : Gh} {CR CM CL : Addr} {H : Hp} : ∀ {rs : List Addr} {xs : List (Sq17.Rule × Mx.Mat)}, RulesIn G CR CM CL H rs xs → rs.length = xs.length
  | [], [], _ => rfl
  | _ :: _, _ :: _, h => by have := RulesIn.len h.2; simp only [List.length_cons]; omega
  | [], _ :: _, h => h.elim
  | _ :: _, [], h => h.elim
theorem RulesIn.get {G : Gh} {CR CM CL : Addr} {H : Hp} : ∀ {rs : List Addr} {xs : List (Sq17.Rule × Mx.Mat)} {i : Nat} {r : Addr}, RulesIn G CR CM CL H rs xs → rs[i]? = some r → ∃ x, xs[i]? = some x ∧ RuleAt G CR CM CL H r x
  | r :: rs, x :: xs, 0, _, h, e => by simp at e; subst e; exact ⟨x, rfl, h.1⟩
  | r :: rs, x :: xs, i + 1, _, h, e => by
    simp at e
    obtain ⟨x', h2, h3⟩ := RulesIn.get h.2 e
    exact ⟨x', by simpa using h2, h3⟩
  | [], [], _, _, _, e => by simp at e
  | [], _ :: _, _, _, h, _ => h.elim
  | _ :: _, [], _, _, h, _ => h.elim
theorem RulesIn.snoc {G : Gh} {CR CM CL : Addr} {H : Hp} {r : Addr} {x : Sq17.Rule × Mx.Mat} (hx : RuleAt G CR CM CL H r x) : ∀ {rs : List Addr} {xs : List (Sq17.Rule × Mx.Mat)}, RulesIn G CR CM CL H rs xs → RulesIn G CR CM CL H (rs ++ [r]) (xs ++ [x])
  | [], [], _ => ⟨hx, trivial⟩
  | _ :: _, _ :: _, ⟨a, r⟩ => ⟨a, RulesIn.snoc hx r⟩
  | [], _ :: _, h => h.elim
  | _ :: _, [], h => h.elim
/-- a row as each rule's matcher tells of it -/
structure FitsIn (H : Hp) (fa : List Addr) (fs : List (List Nat)) : Prop where
  len : fa.length = fs.length
  ix : ∀ (i : Nat) (f : Addr) (l : List Nat), fa[i]? = some f → fs[i]? = some l → H f = some (.lst (ivs l))
theorem FitsIn.mono {H H' : Hp} {fa : List Addr} {fs : List (List Nat)} (h : FitsIn H fa fs) (k : ∀ f l, H f = some (.lst l) → H' f = some (.lst l)) : FitsIn H' fa fs := ⟨h.len, fun i f l e1 e2 => k _ _ (h.ix i f l e1 e2)⟩
theorem FitsIn.snoc {H : Hp} {fa : List Addr} {fs : List (List Nat)} {f : Addr} {l : List Nat} (h : FitsIn H fa fs) (e : H f = some (.lst (ivs l))) : FitsIn H (fa ++ [f]) (fs ++ [l]) := ⟨by simp [h.len], fun i f' l' e1 e2 => by
  have hl := h.len
  by_cases hi : i < fa.length
  · rw [List.getElem?_append_left hi] at e1
    rw [List.getElem?_append_left (by omega)] at e2
    exact h.ix i f' l' e1 e2
  · rw [List.getElem?_append_right (by omega)] at e1 e2
    have hz : i - fa.length = 0 := by
      by_cases z : i - fa.length = 0
      · exact z
      · rw [List.getElem?_eq_none (by simp; omega)] at e1; cases e1
    rw [hz] at e1
    rw [← hl, hz] at e2
    simp at e1 e2; subst e1 e2; exact e⟩
/-- these are sets of each matcher's steps, for a row as long -/
structure FitsFor (n : Nat) (xs : List (Sq17.Rule × Mx.Mat)) (fs : List (List Nat)) : Prop where
  len : fs.length = xs.length
  ix : ∀ (i : Nat) (x : Sq17.Rule × Mx.Mat) (l : List Nat), xs[i]? = some x → fs[i]? = some l → l.length = n ∧ ∀ f ∈ l, f < 2 ^ x.2.behind.length
theorem fitsFor_fits {xs : List (Sq17.Rule × Mx.Mat)} (h : ∀ x ∈ xs, MOk x.2) (row : List Nat) : FitsFor row.length xs (xs.map fun x => x.2.fits row) := ⟨List.length_map _, fun i x l e1 e2 => by
  rw [List.getElem?_map, e1] at e2
  cases e2
  exact ⟨Mx.fits_len _ _, fits_lt (h x (List.mem_of_getElem? e1)) row⟩⟩
theorem fitsFor_prom {xs : List (Sq17.Rule × Mx.Mat)} (h : ∀ x ∈ xs, MOk x.2) (row : List Nat) : FitsFor row.length xs (xs.map fun x => x.2.prom row) := ⟨List.length_map _, fun i x l e1 e2 => by
  rw [List.getElem?_map, e1] at e2
  cases e2
  exact ⟨Mx.prom_len _ _, prom_lt (h x (List.mem_of_getElem? e1)) row⟩⟩
theorem Go.fits {G : Gh} {H H' : Hp} {fa : List Addr} {fs : List (List Nat)} (a : Go G [] H H') (h : FitsIn H fa fs) : FitsIn H' fa fs := h.mono fun _ _ e => a.at0 e
theorem bmG_more {m : Nat} {l : List (Sq17.Rule × (Nat × Nat))} {st : Option (Nat × Nat) × Nat} {i : Nat} {x : Sq17.Rule × (Nat × Nat)} (h : l[i]? = some x) : Mx.bmG m 0 (l.take (i + 1)) st = Mx.bmGStep m (Mx.bmG m 0 (l.take i) st) i x := by
  obtain ⟨hlt, rfl⟩ := List.getElem?_eq_some_iff.mp h
  rw [List.take_succ_eq_append_getElem hlt, Mx.bmG_append, List.length_take, Nat.min_eq_left (Nat.le_of_lt hlt), Nat.zero_add]; rfl
theorem scans_at {at_ : Nat} {xs : List (Sq17.Rule × Mx.Mat)} {fs : List (List Nat)} {i : Nat} {x : Sq17.Rule × Mx.Mat} {f : List Nat} (h1 : xs[i]? = some x) (h2 : fs[i]? = some f) : (Mx.scans at_ xs fs)[i]? = some (x.1, x.2.scanF (f.drop at_) x.2.first 0 0) := by
  unfold Mx.scans
  rw [List.getElem?_zipWith, h1, h2]
/-- the rule at the place that is told, or None -/
def bestV (rs : List Addr) (o : Option (Nat × Nat)) : V := match o with
  | none => .non
  | some y => .ref (rs.getD y.1 0)

/-- how long a piece of the best rule is -/
def lenOr (o : Option (Nat × Nat)) : Nat := match o with | none => 1 | some y => y.2

def spBest (CR CM CL : Addr) : Sp := fun vs H Q _ => ∃ (G : Gh) (aR aF mode at_ n : Nat) (rs fa : List Addr) (xs : List (Sq17.Rule × Mx.Mat)) (fs : List (List Nat)), vs = [.ref aR, .ref aF, iv mode, iv at_] ∧ Wld G H ∧ H aR = some (.lst (rs.map V.ref)) ∧ RulesIn G CR CM CL H rs xs ∧ (∀ x ∈ xs, MOk x.2) ∧
  H aF = some (.lst (fa.map V.ref)) ∧ FitsIn H fa fs ∧ FitsFor n xs fs ∧ at_ ≤ n ∧
  ∀ H' p, Go G [] H H' → H p = none → H' p = some (.tup [bestV rs (Mx.bmZ mode at_ xs fs).1, iv (lenOr (Mx.bmZ mode at_ xs fs).1), iv (Mx.bmZ mode at_ xs fs).2]) → Q (.ref p) H'

theorem dec_iv' (a b : Nat) : decide ((a : Int) < (b : Int)) = decide (a < b) := by rw [decide_eq_decide]; omega
theorem max_iv (a b : Nat) : (if (b : Int) > (a : Int) then (b : Int) else (a : Int)) = ((max a b : Nat) : Int) := by split <;> omega
theorem refs_at {l : List Addr} {i : Nat} {y : V} (h : (l.map V.ref)[i]? = some y) : ∃ r, l[i]? = some r ∧ y = V.ref r := by
  rw [List.getElem?_map] at h
  obtain ⟨n, hn, e⟩ := Option.map_eq_some_iff.mp h
  exact ⟨n, hn, e.symm⟩
section
variable {P : Program} {w : World} {K : PySem.W.Frag} {mg : Str → Option Value} {base : Heap} {CR CM CL CP : Addr}
theorem scBest : FnScope ["rules", "fits", "mode", "at", "best", "length", "looked", "rule", "fitting", "longest", "seen"] ["rules", "fits", "mode", "at"] (defScope sBest) := ⟨rfl, rfl, rfl, by decide +kernel, rfl, by decide +kernel, by decide +kernel⟩
theorem ok_best {f f1 : Addr} {fd fd1 : FuncData} (F : Fun K "best_match" "best_match" sBest f fd) (TX : Txt K mg) (TR : Cr K CR) (TM : Cm K CM)
    (D1 : Dm K CM "scan" "Matcher.scan" sScan ["self", "fitting", "place"] f1 fd1) (G1 : FnOk P w K mg base CX0 4 f1 fd1 ["self", "fitting", "place"] (spScan K CM CL)) : FnOk P w K mg base CX0 5 f fd ["rules", "fits", "mode", "at"] (spBest CR CM CL) := by
  refine F.ok scBest (fun vs H Q E h => ?_) (fun cdv A outer s H vs Q E hr h => ?_)
  · obtain ⟨G, aR, aF, mode, at_, n, rs, fa, xs, fs, rfl, _⟩ := h; rfl
  · obtain ⟨G, aR, aF, mode, at_, n, rs, fa, xs, fs, rfl, wl, hR, hrs, hok, hF, hfa, hff, hat, k⟩ := h
    have nd := scBest.nd
    have hln := hrs.len
    have hlf := hfa.len
    have hlx := hff.len
    refine ⟨_, (L2.pss_cons (L2.ps_set (i := 4) nd rfl (Or.inl rfl) pe_non)
      (L2.pss_cons (L2.ps_set (i := 5) nd rfl (Or.inl rfl) pe_int)
      (L2.pss_cons (L2.ps_set (i := 6) nd rfl (Or.inl rfl) pe_int)
      (L2.pss_cons (ps_for PassesOwn.never rfl (pi_zip (by rfl) TX.zip (L2.pa_cons (pv 0) (L2.pa_cons (pv 1) L2.pa_nil))) (pg_tup rfl (pgs_cons (pg_name (i := 7) nd rfl (Or.inl rfl)) (pgs_cons (pg_name (i := 8) nd rfl (Or.inl rfl)) pgs_nil))) (L2.pss_one (L2.ps_if (L2.pt_cmpR op_eq (pe_fld (pv 7) rfl) (pv 2) (L2.nomark _)) (L2.pss_cons (ps_asg ((L2.pe_meth (pe_fld (pv 7) rfl) TM.cl (Mp.Dm.m D1) G1 hr (Mp.Dm.b D1) .nil L2.pass0 (L2.pa_cons (pv 8) (L2.pa_cons (pv 3) L2.pa_nil)))) (pg_tup rfl (pgs_cons (pg_name (i := 9) nd rfl (Or.inl rfl)) (pgs_cons (pg_name (i := 10) nd rfl (Or.inl rfl)) pgs_nil))))
      (L2.pss_cons (L2.ps_set (i := 6) nd rfl (Or.inl rfl) (pe_callB (call_max2 rfl) (by rfl) TX.max (by decide +kernel) (L2.pa_cons (pv 6) (L2.pa_cons (pv 10) L2.pa_nil))))
      (L2.pss_one (L2.ps_if (L2.pt_cmpR op_gt (pv 9) (pv 5) (L2.nomark _)) (L2.pss_cons (L2.ps_set (i := 4) nd rfl (Or.inl rfl) (pv 7))
      (L2.pss_one (L2.ps_set (i := 5) nd rfl (Or.inl rfl) (pv 9)))) L2.pss_nil)))) L2.pss_nil)))
      (L2.pss_cons (L2.ps_if (pt_cmpR op_isN (pv 4) pe_non (nomark _)) (L2.pss_one (L2.ps_set (i := 5) nd rfl (Or.inl rfl) pe_int)) L2.pss_nil)
      (L2.pss_one (ps_ret (pe_tup (L2.pa_cons (pv 4) (L2.pa_cons (pv 5) (L2.pa_cons (pv 6) L2.pa_nil))))))))))), ?_⟩
    refine ⟨_, rfl, _, rfl, aR, aF, _, _, rfl, sqL_of hR, sqL_of hF, RZ.for_zipL (K := K) (a := aR) (b := aF) (xs := rs.map V.ref) (ys := fa.map V.ref) (by rw [List.length_map, List.length_map]; omega)
      (fun i σ H' => ∃ v7 v8 v9 v10 : Option V, σ = [some (.ref aR), some (.ref aF), some (iv mode), some (iv at_), some (bestV rs (Mx.bmG mode 0 ((Mx.scans at_ xs fs).take i) (none, 1)).1), some (iv (lenOf (Mx.bmG mode 0 ((Mx.scans at_ xs fs).take i) (none, 1)).1)), some (iv (Mx.bmG mode 0 ((Mx.scans at_ xs fs).take i) (none, 1)).2), v7, v8, v9, v10] ∧
        Go G [] H H') ⟨none, none, none, none, rfl, .refl wl _⟩ (fun i σ H' ⟨_, _, _, _, _, g⟩ => ⟨sqL_of (g.at0 hR), sqL_of (g.at0 hF)⟩) ?_ ?_⟩
    · rintro i y y2 T σ H1 hi hi2 ⟨v7, v8, v9, v10, rfl, g0⟩ hT
      obtain ⟨r, hri, rfl⟩ := refs_at hi
      obtain ⟨fz, hfi, rfl⟩ := refs_at hi2
      have hlt := (List.getElem?_eq_some_iff.mp hfi).1
      obtain ⟨l, hli⟩ : ∃ l, fs[i]? = some l := ⟨_, List.getElem?_eq_getElem (by omega)⟩
      have g := g0.put (.tup [.ref r, .ref fz]) hT
      have eT : upd H1 T (.tup [.ref r, .ref fz]) T = some (.tup [.ref r, .ref fz]) := upd_same
      generalize upd H1 T (.tup [.ref r, .ref fz]) = H2 at *
      obtain ⟨x, hxi, dx, m, g1, g2⟩ := (hrs.std g.std).get hri
      obtain ⟨hl1, hl2⟩ := hff.ix i x l hxi hli
      have more := bmG_more (m := mode) (st := (none, 1)) (scans_at (at_ := at_) hxi hli)
      generalize Mx.bmG mode 0 ((Mx.scans at_ xs fs).take i) (none, 1) = b at *
      refine ⟨T, _, rfl, .inl (.inl eT), rfl, _, _, rfl, _, _, rfl, rfl, ?_⟩
      refine ⟨_, rfl, r, CR, dx, _, _, rfl, g1, TR.cl, TR.nM, rf_M, _, rfl, rfl, _, rfl, ?_⟩
      rw [dec_iv]
      by_cases hm : x.1.mode = mode
      · rw [decide_eq_true hm]
        have estep : Mx.bmGStep mode b i (x.1, x.2.scanF (l.drop at_) x.2.first 0 0) = (pickStep b.1 (i, (x.2.scanF (l.drop at_) x.2.first 0 0).1), max b.2 (x.2.scanF (l.drop at_) x.2.first 0 0).2) := by unfold Mx.bmGStep; rw [if_pos hm]
        rw [estep] at more
        obtain ⟨mdx, _, _, _, mo, _⟩ := id g2
        refine iteT ⟨_, rfl, r, CR, dx, _, _, rfl, g1, TR.cl, TR.nX, rf_X, m, mdx, _, rfl, mo, mf_r (fl_no (by decide +kernel) (by decide +kernel) (by decide +kernel)), _, rfl, _, rfl, ?_⟩
        refine ⟨G, m, fz, at_, l, x.2, rfl, g.w', g2, (hok x (List.mem_of_getElem? hxi)).len, sqL_of ((g.fits hfa).ix i _ _ hfi hli), hl2, by omega, fun H3 p a3 np hp3 => ?_⟩
        refine ⟨p, _, rfl, .inl (.inl hp3), rfl, _, _, rfl, _, _, rfl, rfl, ?_⟩
        refine ⟨_, rfl, _, rfl, _, _, rfl, ?_⟩
        dsimp only [gName]
        rw [max_iv]
        refine ⟨_, rfl, _, rfl, _, _, rfl, rfl, _, rfl, ?_⟩
        rw [dec_iv']
        have hget : rs.getD i 0 = r := by rw [List.getD_eq_getElem?_getD, hri]; rfl
        by_cases hlt : lenOf b.1 < (x.2.scanF (l.drop at_) x.2.first 0 0).1
        · rw [decide_eq_true hlt]
          have ep : pickStep b.1 (i, (x.2.scanF (l.drop at_) x.2.first 0 0).1) = some (i, (x.2.scanF (l.drop at_) x.2.first 0 0).1) := by unfold pickStep; rw [if_pos hlt]
          rw [ep] at more
          refine iteT ⟨_, rfl, _, rfl, some (.ref r), some (.ref fz), some (iv (x.2.scanF (l.drop at_) x.2.first 0 0).1), some (iv (x.2.scanF (l.drop at_) x.2.first 0 0).2), ?_, g.trans a3⟩
          rw [more]; unfold bestV; simp only [hget]; rfl
        · rw [decide_eq_false hlt]
          have ep : pickStep b.1 (i, (x.2.scanF (l.drop at_) x.2.first 0 0).1) = b.1 := by unfold pickStep; rw [if_neg hlt]
          rw [ep] at more
          refine iteF ⟨some (.ref r), some (.ref fz), some (iv (x.2.scanF (l.drop at_) x.2.first 0 0).1), some (iv (x.2.scanF (l.drop at_) x.2.first 0 0).2), ?_, g.trans a3⟩
          rw [more]; rfl
      · rw [decide_eq_false hm]
        have estep : Mx.bmGStep mode b i (x.1, x.2.scanF (l.drop at_) x.2.first 0 0) = b := by unfold Mx.bmGStep; rw [if_neg hm]
        rw [estep] at more
        refine iteF ⟨some (.ref r), some (.ref fz), v9, v10, ?_, g⟩
        rw [more]; rfl
    · rintro σ H1 ⟨v7, v8, v9, v10, rfl, g⟩
      have et : (Mx.scans at_ xs fs).take (rs.map V.ref).length = Mx.scans at_ xs fs := List.take_of_length_le (by unfold Mx.scans; rw [List.length_zipWith, List.length_map]; omega)
      rw [et]
      have kk : ∀ p, H1 p = none → ∀ z, z = lenOr (Mx.bmZ mode at_ xs fs).1 → Q (.ref p) (upd H1 p (.tup [bestV rs (Mx.bmZ mode at_ xs fs).1, iv z, iv (Mx.bmZ mode at_ xs fs).2])) := fun p hp z hz => by
        subst hz
        exact k _ p (g.put _ hp) (g.free hp) upd_same
      have eb : Mx.bmG mode 0 (Mx.scans at_ xs fs) (none, 1) = Mx.bmZ mode at_ xs fs := rfl
      rw [eb]
      generalize Mx.bmZ mode at_ xs fs = b at *
      refine ⟨_, rfl, rfl, _, rfl, ?_⟩
      cases hb1 : b.1 with
      | none =>
        rw [hb1] at kk
        exact iteT ⟨_, rfl, _, rfl, _, rfl, by show 3 ≤ sizeLine; decide, fun p hp => kk p hp 1 rfl⟩
      | some y =>
        rw [hb1] at kk
        exact iteF ⟨_, rfl, _, rfl, _, rfl, by show 3 ≤ sizeLine; decide, fun p hp => kk p hp _ rfl⟩
end
end Mp

-- MpCut3
set_option maxRecDepth 100000
set_option maxHeartbeats 4000000
set_option exponentiation.threshold 3000
/-! The modes behind a piece; a text's pieces. -/
namespace Mp
open PySem PySem.Spec PyProof.Rows L2
open Sq17 (Piece modesBehind)
open Mx (okR bm lenOf)

/-- behind a rule, or none: none, or the modes in a tuple -/
def behindOf (r : Option Sq17.Rule) (ms : List Nat) : Option (List Nat) := r.bind fun r => modesBehind r ms
/-- a rule that is there, or None -/
def RuleV (CR : Addr) (H : Hp) (v : V) (r : Option Sq17.Rule) : Prop := match r with
  | none => v = .non
  | some r => ∃ a dx m, v = .ref a ∧ H a = some (.ins CR dx (rf r.mode r.kind r.act r.to m))
def spModes (CR : Addr) : Sp := fun vs H Q _ => ∃ (aM : Addr) (v : V) (r : Option Sq17.Rule) (ms : List Nat), vs = [.ref aM, v] ∧ H aM = some (.tup (mt ms)) ∧ ms ≠ [] ∧ ms.length ≤ 16 ∧ RuleV CR H v r ∧ (∀ x, r = some x → x.act ≤ 3) ∧
  (behindOf r ms = none → ∀ H', Same H H' → Q .non H') ∧ (∀ q, behindOf r ms = some q → ∀ H' p, Same H H' → H' p = some (.tup (mt q)) → Q (.ref p) H')

theorem mt_cons (a : Nat) (ms : List Nat) : mt (a :: ms) = mt ms ++ [iv a] := by unfold mt ivs; rw [List.reverse_cons, List.map_append]; rfl
theorem mt_len (ms : List Nat) : (mt ms).length = ms.length := by unfold mt; rw [ivs_len, List.length_reverse]
theorem mt_all_but (ms : List Nat) : cutV (mt ms) none (some (-1)) = mt ms.tail := by
  cases ms with
  | nil => rfl
  | cons a ms =>
    rw [mt_cons, List.tail_cons]
    unfold cutV
    rw [HT.sIx_none]
    have : HT.sIx (mt ms ++ [iv a]).length (mt ms ++ [iv a]).length (some (-1)) = (mt ms).length := by
      show (if (-1 : Int) < 0 then ((-1 : Int) + ((mt ms ++ [iv a]).length : Int)).toNat else min (-1 : Int).toNat (mt ms ++ [iv a]).length) = _
      rw [if_pos (by decide), List.length_append]; simp only [List.length_cons, List.length_nil]; omega
    rw [this, List.drop_zero, Nat.sub_zero, List.take_left]
section
variable {P : Program} {w : World} {K : PySem.W.Frag} {mg : Str → Option Value} {base : Heap} {CR CM CP : Addr}
theorem scModes : FnScope ["modes", "rule"] ["modes", "rule"] (defScope sModes) := ⟨rfl, rfl, rfl, by decide +kernel, rfl, by decide +kernel, by decide +kernel⟩
theorem ok_modes {f : Addr} {fd : FuncData} (F : Fun K "modes_behind" "modes_behind" sModes f fd) (TX : Txt K mg) (TC : Txc mg) (TR : Cr K CR) : FnOk P w K mg base CX0 1 f fd ["modes", "rule"] (spModes CR) := by
  obtain ⟨t1, m1⟩ := TC.OPENS
  obtain ⟨t2, m2⟩ := TC.LEAVES
  obtain ⟨t3, m3⟩ := TC.GOES_OVER
  obtain ⟨t4, m4⟩ := TC.MOST_OPEN
  refine F.ok scModes (fun vs H Q E h => ?_) (fun cdv A outer s H vs Q E hr h => ?_)
  · obtain ⟨aM, v, r, ms, rfl, _⟩ := h; rfl
  · obtain ⟨aM, v, r, ms, rfl, hM, hne, h16, hv, hact, kN, kS⟩ := h
    refine ⟨_, (L2.pss_cons (L2.ps_if (pt_cmpR op_isN (pv 1) pe_non (nomark _)) (L2.pss_one (ps_ret pe_non)) L2.pss_nil)
      (L2.pss_cons (L2.ps_if (L2.pt_cmpR op_eq (pe_fld (pv 1) rfl) (pgc m1) (L2.nomark _)) (L2.pss_one (ps_ret (pe_ifExp ((L2.pt_cmpR op_eq (L2.pe_callB L2.call_len_seq (by rfl) TX.len PySem.boot_len (L2.pa_cons (pv 0) L2.pa_nil)) (pgc m4) (L2.nomark _))) pe_non (pe_op op_catA (pv 0) (pe_tup (L2.pa_cons (pe_fld (pv 1) rfl) L2.pa_nil)))))) L2.pss_nil)
      (L2.pss_cons (L2.ps_if (L2.pt_cmpR op_eq (pe_fld (pv 1) rfl) (pgc m2) (L2.nomark _)) (L2.pss_one (ps_ret (pe_ifExp ((L2.pt_cmpR op_eq (L2.pe_callB L2.call_len_seq (by rfl) TX.len PySem.boot_len (L2.pa_cons (pv 0) L2.pa_nil)) pe_int (L2.nomark _))) pe_non (pe_slice sl_tupA (pv 0) po_none (po_some (pe_un un_neg pe_int)))))) L2.pss_nil)
      (L2.pss_cons (L2.ps_if (L2.pt_cmpR op_eq (pe_fld (pv 1) rfl) (pgc m3) (L2.nomark _)) (L2.pss_one (ps_ret (pe_op op_catA (pe_slice sl_tupA (pv 0) po_none (po_some (pe_un un_neg pe_int))) (pe_tup (L2.pa_cons (pe_fld (pv 1) rfl) L2.pa_nil))))) L2.pss_nil)
      (L2.pss_one (ps_ret (pv 0))))))), ?_⟩
    cases r with
    | none =>
      have hv : v = .non := hv
      subst hv
      exact ⟨_, rfl, rfl, _, rfl, iteT (kN rfl _ (Same.refl _))⟩
    | some r =>
      obtain ⟨a, dx, m, rfl, ha⟩ := hv
      have hact := hact r rfl
      refine ⟨_, rfl, rfl, _, rfl, iteF ⟨_, rfl, a, CR, dx, _, _, rfl, ha, TR.cl, TR.nD, rf_D, rfl, _, rfl, ?_⟩⟩
      have q1 : decide (V.int (r.act : Int) = V.int 1) = decide (r.act = 1) := dec_iv r.act 1
      have q2 : decide (V.int (r.act : Int) = V.int 2) = decide (r.act = 2) := dec_iv r.act 2
      have q3 : decide (V.int (r.act : Int) = V.int 3) = decide (r.act = 3) := dec_iv r.act 3
      have l1 := mt_len ms
      have hn0 : 0 < ms.length := List.length_pos_iff.mpr hne
      have small : (100 : Nat) ≤ sizeLine := by decide
      -- all but the last of the tuple isn't the whole
      have part : ¬ (HT.sIx (mt ms).length 0 none = 0 ∧ HT.sIx (mt ms).length (mt ms).length (some (-1)) = (mt ms).length) := by
        rintro ⟨_, z⟩
        have z : (if (-1 : Int) < 0 then ((-1 : Int) + ((mt ms).length : Int)).toNat else min (-1 : Int).toNat (mt ms).length) = (mt ms).length := z
        rw [if_pos (by decide), l1] at z; omega
      rw [q1]
      by_cases h1 : r.act = 1
      · rw [decide_eq_true h1]
        have e : behindOf (some r) ms = if 16 ≤ ms.length then none else some (r.to :: ms) := by
          show modesBehind r ms = _
          unfold modesBehind; rw [h1]; rfl
        refine iteT ⟨_, rfl, aM, _, rfl, .inr (SqT.of hM), rfl, _, rfl, ?_⟩
        rw [l1, show decide (V.int (ms.length : Int) = V.int 16) = decide (ms.length = 16) from dec_iv ms.length 16]
        by_cases h2 : ms.length = 16
        · rw [decide_eq_true h2]
          exact iteT (kN (by rw [e, if_pos (by omega)]) _ (Same.refl _))
        · rw [decide_eq_false h2]
          refine iteF ⟨_, rfl, _, rfl, a, CR, dx, _, _, rfl, ha, TR.cl, TR.nT, rf_T, by show 1 ≤ sizeLine; omega, fun p hp => ?_⟩
          have hM' : upd H p (.tup [iv r.to]) aM = some (.tup (mt ms)) := Same.upd _ hp _ _ hM
          refine ⟨aM, p, _, _, rfl, rfl, SqT.of hM', SqT.of upd_same, by rw [l1]; show ms.length + 1 ≤ sizeLine; omega, fun z => ?_, fun _ z => (by cases z), fun _ _ q hq => ?_⟩
          · rw [z] at l1; simp at l1; omega
          · exact kS _ (by rw [e, if_neg (by omega)]) _ _ ((Same.upd _ hp).trans (Same.upd _ hq)) (by rw [upd_same, mt_cons])
      · rw [decide_eq_false h1]
        refine iteF ⟨_, rfl, a, CR, dx, _, _, rfl, ha, TR.cl, TR.nD, rf_D, rfl, _, rfl, ?_⟩
        rw [q2]
        by_cases h2 : r.act = 2
        · rw [decide_eq_true h2]
          have e : behindOf (some r) ms = if ms.length < 2 then none else some ms.tail := by
            show modesBehind r ms = _
            unfold modesBehind; rw [h2]; rfl
          refine iteT ⟨_, rfl, aM, _, rfl, .inr (SqT.of hM), rfl, _, rfl, ?_⟩
          rw [l1, show decide (V.int (ms.length : Int) = V.int 1) = decide (ms.length = 1) from dec_iv ms.length 1]
          by_cases h3 : ms.length = 1
          · rw [decide_eq_true h3]
            exact iteT (kN (by rw [e, if_pos (by omega)]) _ (Same.refl _))
          · rw [decide_eq_false h3]
            refine iteF ⟨_, rfl, _, rfl, _, rfl, aM, _, rfl, SqT.of hM, fun z => absurd z part, fun _ p hp => ?_⟩
            rw [show (-(1 : Int)) = -1 from rfl, mt_all_but]
            exact kS _ (by rw [e, if_neg (by omega)]) _ _ (Same.upd _ hp) upd_same
        · rw [decide_eq_false h2]
          refine iteF ⟨_, rfl, a, CR, dx, _, _, rfl, ha, TR.cl, TR.nD, rf_D, rfl, _, rfl, ?_⟩
          rw [q3]
          by_cases h3 : r.act = 3
          · rw [decide_eq_true h3]
            have e : behindOf (some r) ms = some (r.to :: ms.tail) := by
              show modesBehind r ms = _
              unfold modesBehind; rw [h3]; rfl
            refine iteT ⟨_, rfl, _, rfl, _, rfl, aM, _, rfl, SqT.of hM, fun z => absurd z part, fun _ p hp => ?_⟩
            rw [show (-(1 : Int)) = -1 from rfl, mt_all_but]
            have ha' : upd H p (.tup (mt ms.tail)) a = _ := Same.upd _ hp _ _ ha
            refine ⟨_, rfl, a, CR, dx, _, _, rfl, ha', TR.cl, TR.nT, rf_T, by show 1 ≤ sizeLine; omega, fun q hq => ?_⟩
            have l2 := mt_len ms.tail
            have hp2 : upd (upd H p (.tup (mt ms.tail))) q (.tup [iv r.to]) p = some (.tup (mt ms.tail)) := Same.upd _ hq _ _ upd_same
            have s2 := (Same.upd (.tup (mt ms.tail)) hp).trans (Same.upd (.tup [iv r.to]) hq)
            refine ⟨p, q, _, _, rfl, rfl, SqT.of hp2, SqT.of upd_same, by rw [l2, List.length_tail]; show ms.length - 1 + 1 ≤ sizeLine; omega, fun z => ?_, fun _ z => (by cases z), fun _ _ u hu => ?_⟩
            · refine kS _ e _ _ s2 ?_
              rw [upd_same, mt_cons, z]; rfl
            · refine kS _ e _ _ (s2.trans (Same.upd _ hu)) ?_
              rw [upd_same, mt_cons]
          · rw [decide_eq_false h3]
            have e : behindOf (some r) ms = some ms := by
              show modesBehind r ms = _
              have : r.act = 0 := by omega
              unfold modesBehind; rw [this]; rfl
            exact iteF ⟨_, rfl, kS _ e _ _ (Same.refl _) hM⟩
end
end Mp

-- MpCut4
set_option maxRecDepth 100000
set_option maxHeartbeats 4000000
set_option exponentiation.threshold 3000
/-! A text is cut. -/
namespace Mp
open PySem PySem.Spec PyProof.Rows L2
open Sq17 (Piece modesBehind pieceAt pieces cut look inMode)
open Mx (okR bm lenOf bm_look look_some MOk pieceOf bmZ)

def ruleOf (rules : List Sq17.Rule) (o : Option (Nat × Nat)) : Option Sq17.Rule := o.bind fun y => rules[y.1]?
theorem pieceOf_eq (rules : List Sq17.Rule) (b : Option (Nat × Nat) × Nat) (at_ : Nat) (ms : List Nat) (h : ∀ y, b.1 = some y → y.1 < rules.length) :
    pieceOf rules b at_ ms = match ruleOf rules b.1, behindOf (ruleOf rules b.1) ms with
      | some r, some q => (⟨r.kind, at_, lenOr b.1, ms.headD 0, at_ + b.2⟩, q)
      | _, _ => (⟨65, at_, lenOr b.1, ms.headD 0, at_ + b.2⟩, ms) := by
  unfold pieceOf
  cases hx : b.1 with
  | none => simp [ruleOf, lenOr]
  | some y =>
    obtain ⟨r, e⟩ : ∃ r, rules[y.1]? = some r := ⟨_, List.getElem?_eq_getElem (h y hx)⟩
    simp only [ruleOf, Option.bind_some, e, behindOf, lenOr]
    cases modesBehind r ms <;> rfl
theorem bmG_lt (m : Nat) : ∀ (l : List (Sq17.Rule × (Nat × Nat))) (k n : Nat) (st : Option (Nat × Nat) × Nat), (∀ y, st.1 = some y → y.1 < n) → k + l.length ≤ n → ∀ y, (Mx.bmG m k l st).1 = some y → y.1 < n
  | [], _, _, _, h, _ => h
  | x :: l, k, n, st, h, hl => by
    rw [Mx.bmG]
    refine bmG_lt m l (k + 1) n _ ?_ (by simp only [List.length_cons] at hl; omega)
    intro y hy
    unfold Mx.bmGStep at hy
    split at hy
    · unfold Mx.pickStep at hy
      simp only at hy
      split at hy
      · cases hy; simp only [List.length_cons] at hl; show k < n; omega
      · exact h y hy
    · exact h y hy
theorem bmZ_lt {m at_ : Nat} {xs : List (Sq17.Rule × Mx.Mat)} {fs : List (List Nat)} : ∀ y, (bmZ m at_ xs fs).1 = some y → y.1 < xs.length := by
  refine bmG_lt m _ 0 xs.length _ (fun y h => by cases h) ?_
  unfold Mx.scans
  rw [List.length_zipWith]; omega
theorem modesBehind_ok {r : Sq17.Rule} {ms q : List Nat} (hne : ms ≠ []) (h16 : ms.length ≤ 16) (hq : modesBehind r ms = some q) : q ≠ [] ∧ q.length ≤ 16 := by
  obtain ⟨m0, mt0, rfl⟩ : ∃ m0 t, ms = m0 :: t := by cases ms with
    | nil => exact absurd rfl hne
    | cons m0 t => exact ⟨m0, t, rfl⟩
  unfold modesBehind at hq
  simp only [List.length_cons] at h16
  split at hq
  · cases hq; exact ⟨by simp, by simp only [List.length_cons]; omega⟩
  · split at hq
    · cases hq
    · next hc => cases hq; exact ⟨by simp, by simp only [Sq17.OPEN, List.length_cons] at hc ⊢; omega⟩
  · split at hq
    · cases hq
    · next hc =>
      cases hq
      simp only [List.length_cons] at hc
      refine ⟨fun z => ?_, by simp only [List.tail_cons]; omega⟩
      have z : mt0 = [] := z
      subst z; simp at hc
  · cases hq; exact ⟨by simp, by simp only [List.tail_cons, List.length_cons]; omega⟩
theorem pieceOf_ms {rules : List Sq17.Rule} {b : Option (Nat × Nat) × Nat} {at_ : Nat} {ms : List Nat} (hne : ms ≠ []) (h16 : ms.length ≤ 16) : (pieceOf rules b at_ ms).2 ≠ [] ∧ (pieceOf rules b at_ ms).2.length ≤ 16 := by
  unfold pieceOf
  split
  · exact ⟨hne, h16⟩
  · split
    · exact ⟨hne, h16⟩
    · split
      · exact ⟨hne, h16⟩
      · next q hq => exact modesBehind_ok hne h16 hq
theorem bm_some {xs : List (Sq17.Rule × Mx.Mat)} (h : ∀ x ∈ xs, okR x) {m : Nat} {l : List Nat} {y : Nat × Nat} (e : (bm m l xs).1 = some y) : y.1 < xs.length ∧ 0 < y.2 ∧ y.2 ≤ l.length := by
  rw [bm_look _ _ _ h] at e; exact look_some h e
theorem lenOr_le {xs : List (Sq17.Rule × Mx.Mat)} (h : ∀ x ∈ xs, okR x) {m : Nat} {l : List Nat} (hl : l ≠ []) : 0 < lenOr (bm m l xs).1 ∧ lenOr (bm m l xs).1 ≤ l.length := by
  have := List.length_pos_iff.mpr hl
  cases e : (bm m l xs).1 with
  | none => exact ⟨Nat.one_pos, this⟩
  | some y => exact (bm_some h e).2

theorem PiecesIn.mono {C : Addr} {H H' : Hp} (k : ∀ q o, H q = some o → (∃ c d f, o = .ins c d f) ∨ (∃ y, o = .tup y) → H' q = some o) : ∀ {qs : List Addr} {xs : List (Piece × List Nat)}, PiecesIn C H qs xs → PiecesIn C H' qs xs
  | [], [], _ => trivial
  | _ :: _, _ :: _, ⟨⟨dx, am, h1, h2⟩, h3⟩ => ⟨⟨dx, am, k _ _ h1 (.inl ⟨_, _, _, rfl⟩), k _ _ h2 (.inr ⟨_, rfl⟩)⟩, PiecesIn.mono k h3⟩
  | [], _ :: _, h => h.elim
  | _ :: _, [], h => h.elim
theorem PiecesIn.len {C : Addr} {H : Hp} : ∀ {qs : List Addr} {xs : List (Piece × List Nat)}, PiecesIn C H qs xs → qs.length = xs.length
  | [], [], _ => rfl
  | _ :: _, _ :: _, h => by rw [List.length_cons, List.length_cons, PiecesIn.len h.2]
  | [], _ :: _, h => h.elim
  | _ :: _, [], h => h.elim
theorem PiecesIn.snoc {C : Addr} {H : Hp} {q : Addr} {x : Piece × List Nat} (hx : PieceAt C H q x) : ∀ {qs : List Addr} {xs : List (Piece × List Nat)}, PiecesIn C H qs xs → PiecesIn C H (qs ++ [q]) (xs ++ [x])
  | [], [], _ => ⟨hx, trivial⟩
  | _ :: _, _ :: _, ⟨a, r⟩ => ⟨a, PiecesIn.snoc hx r⟩
  | [], _ :: _, h => h.elim
  | _ :: _, [], h => h.elim


/-- what a rule's matcher keeps -/
structure RuleOk (x : Sq17.Rule × Mx.Mat) : Prop where
  m : MOk x.2
  r : okR x
  a : x.1.act ≤ 3
  b : x.2.bare = x.1.pat.bare

def spCutOne (CR CM CL CP : Addr) : Sp := fun vs H Q _ => ∃ (G : Gh) (aR aF aM at_ n : Nat) (rs fa : List Addr) (xs : List (Sq17.Rule × Mx.Mat)) (fs : List (List Nat)) (ms : List Nat), vs = [.ref aR, .ref aF, .ref aM, iv at_] ∧ Wld G H ∧ H aR = some (.lst (rs.map V.ref)) ∧ RulesIn G CR CM CL H rs xs ∧ (∀ x ∈ xs, RuleOk x) ∧
  H aF = some (.lst (fa.map V.ref)) ∧ FitsIn H fa fs ∧ FitsFor n xs fs ∧ at_ ≤ n ∧ H aM = some (.tup (mt ms)) ∧ ms ≠ [] ∧ ms.length ≤ 16 ∧
  ∀ H' p q dx am, Go G [] H H' → H p = none → H q = none → H' p = some (.tup [.ref q, .ref am]) →
    H' q = some (.ins CP dx (pf (pieceOf (xs.map (·.1)) (bmZ (ms.headD 0) at_ xs fs) at_ ms).1.kind at_ (pieceOf (xs.map (·.1)) (bmZ (ms.headD 0) at_ xs fs) at_ ms).1.n aM (at_ + (bmZ (ms.headD 0) at_ xs fs).2))) →
    H' am = some (.tup (mt (pieceOf (xs.map (·.1)) (bmZ (ms.headD 0) at_ xs fs) at_ ms).2)) → Q (.ref p) H'

section
variable {P : Program} {w : World} {K : PySem.W.Frag} {mg : Str → Option Value} {base : Heap} {CR CM CL CP : Addr}
theorem scCutOne : FnScope ["rules", "fits", "modes", "at", "rule", "length", "looked", "following"] ["rules", "fits", "modes", "at"] (defScope sCutOne) := ⟨rfl, rfl, rfl, by decide +kernel, rfl, by decide +kernel, by decide +kernel⟩
theorem ok_cutOne {f f1 f2 fI : Addr} {fd fd1 fd2 fdI : FuncData} (F : Fun K "cut_one" "cut_one" sCutOne f fd) (TX : Txt K mg) (TC : Txc mg) (TR : Cr K CR) (TP : Cp K CP)
    (D1 : Df K mg "best_match" sBest ["rules", "fits", "mode", "at"] f1 fd1) (G1 : FnOk P w K mg base CX0 5 f1 fd1 ["rules", "fits", "mode", "at"] (spBest CR CM CL))
    (D2 : Df K mg "modes_behind" sModes ["modes", "rule"] f2 fd2) (MP : Mk K CP fI) (FI : Fun K "__init__" "Piece.__init__" sPInit fI fdI) (bI : Binds K fdI ["self", "kind", "place", "length", "modes", "far"] []) (gP : mg "Piece" = some (.ref CP)) :
    FnOk P w K mg base CX0 6 f fd ["rules", "fits", "modes", "at"] (spCutOne CR CM CL CP) := by
  obtain ⟨t1, m1⟩ := TC.ODD
  have G2 : FnOk P w K mg base CX0 1 f2 fd2 ["modes", "rule"] (spModes CR) := ok_modes D2.F TX TC TR
  have GI : FnOk P w K mg base CX0 1 fI fdI ["self", "kind", "place", "length", "modes", "far"] (spPInit CP) := ok_pInit FI TP
  refine F.ok scCutOne (fun vs H Q E h => ?_) (fun cdv A outer s H vs Q E hr h => ?_)
  · obtain ⟨G, aR, aF, aM, at_, n, rs, fa, xs, fs, ms, rfl, _⟩ := h; rfl
  · obtain ⟨G, aR, aF, aM, at_, n, rs, fa, xs, fs, ms, rfl, wl, hR, hrs, hok, hF, hfa, hff, hat, hM, hne, h16, k⟩ := h
    have nd := scCutOne.nd
    have hr1 : Room 1 _ := hr.mono (by decide)
    have hr2 : Room 2 _ := hr.mono (by decide)
    refine ⟨_, (L2.pss_cons (ps_asg ((L2.pe_call G1 hr (by rfl) (Mp.Df.g D1) (Mp.Df.F D1).kp (Mp.Df.b D1) .nil L2.pass0 (L2.pa_cons (pv 0) (L2.pa_cons (pv 1) (L2.pa_cons (L2.pe_ix L2.ix_tup (pv 2) (pe_un un_neg pe_int) (fun _ _ => rfl)) (L2.pa_cons (pv 3) L2.pa_nil)))))) (pg_tup rfl (pgs_cons (pg_name (i := 4) nd rfl (Or.inl rfl)) (pgs_cons (pg_name (i := 5) nd rfl (Or.inl rfl)) (pgs_cons (pg_name (i := 6) nd rfl (Or.inl rfl)) pgs_nil)))))
      (L2.pss_cons (L2.ps_set (i := 7) nd rfl (Or.inl rfl) (L2.pe_call G2 hr1 (by rfl) (Mp.Df.g D2) (Mp.Df.F D2).kp (Mp.Df.b D2) .nil L2.pass0 (L2.pa_cons (pv 2) (L2.pa_cons (pv 4) L2.pa_nil))))
      (L2.pss_cons (L2.ps_if (pt_cmpR op_isN (pv 7) pe_non (nomark _)) (L2.pss_one (ps_ret (pe_tup (L2.pa_cons (pe_make MP GI hr2 rfl gP bI .nil pass0 (L2.pa_cons (pgc m1) (L2.pa_cons (pv 3) (L2.pa_cons (pv 5) (L2.pa_cons (pv 2) (L2.pa_cons (pe_op op_add (pv 3) (pv 6)) L2.pa_nil)))))) (L2.pa_cons (pv 2) L2.pa_nil))))) L2.pss_nil)
      (L2.pss_one (ps_ret (pe_tup (L2.pa_cons (pe_make MP GI hr2 rfl gP bI .nil pass0 (L2.pa_cons (pe_fld (pv 4) rfl) (L2.pa_cons (pv 3) (L2.pa_cons (pv 5) (L2.pa_cons (pv 2) (L2.pa_cons (pe_op op_add (pv 3) (pv 6)) L2.pa_nil)))))) (L2.pa_cons (pv 7) L2.pa_nil)))))))), ?_⟩
    obtain ⟨m0, mt0, rfl⟩ : ∃ m0 t, ms = m0 :: t := by cases ms with
      | nil => exact absurd rfl hne
      | cons m0 t => exact ⟨m0, t, rfl⟩
    have hlr := hrs.len
    have hpe := pieceOf_eq (xs.map (·.1)) (bmZ m0 at_ xs fs) at_ (m0 :: mt0) (fun y hy => by rw [List.length_map]; exact bmZ_lt y hy)
    rw [List.headD_cons] at k
    refine ⟨_, rfl, _, rfl, _, rfl, _, rfl, aM, _, _, _, rfl, rfl, SqT.of hM, (by rw [mt_cons]; exact atI_last _ _), _, rfl, ?_⟩
    refine ⟨G, aR, aF, m0, at_, n, rs, fa, xs, fs, rfl, wl, hR, hrs, fun x hx => (hok x hx).m, hF, hfa, hff, hat, fun H2 p g2 np hp2 => ?_⟩
    have hsome := fun y => bmZ_lt (m := m0) (at_ := at_) (xs := xs) (fs := fs) y
    have hM2 := g2.at0 hM
    have hr2' := hrs.std g2.std
    generalize bmZ m0 at_ xs fs = b at *
    refine ⟨p, _, rfl, .inl (.inl hp2), rfl, _, _, rfl, _, _, rfl, _, _, rfl, rfl, ?_⟩
    have hrv : RuleV CR H2 (bestV rs b.1) (ruleOf (xs.map (·.1)) b.1) := by
      cases hb1 : b.1 with
      | none => rfl
      | some y =>
        have hy := hsome y hb1
        obtain ⟨r, hri⟩ : ∃ r, rs[y.1]? = some r := ⟨_, List.getElem?_eq_getElem (by rw [hlr]; exact hy)⟩
        obtain ⟨x, hxi, dx, m, g1, _⟩ := hr2'.get hri
        have e1 : ruleOf (xs.map (·.1)) (some y) = some x.1 := by
          show (xs.map (·.1))[y.1]? = _
          rw [List.getElem?_map, hxi]; rfl
        rw [e1]
        exact ⟨r, dx, m, by unfold bestV; simp only [List.getD_eq_getElem?_getD, hri]; rfl, g1⟩
    have hact : ∀ x, ruleOf (xs.map (·.1)) b.1 = some x → x.act ≤ 3 := by
      intro x hx
      unfold ruleOf at hx
      obtain ⟨y, _, hy⟩ := Option.bind_eq_some_iff.mp hx
      obtain ⟨z, hz, rfl⟩ := List.mem_map.mp (List.mem_of_getElem? hy)
      exact (hok z hz).a
    -- the piece is made, with it the tuple
    have fin : ∀ (H4 : Hp) (x dx' : Addr) (kind : Nat) (ms' : List Nat) (am : Addr), Same H2 H4 → H2 x = none → H4 x = some (.ins CP dx' (pf kind at_ (lenOr b.1) aM (at_ + b.2))) → H4 am = some (.tup (mt ms')) →
        pieceOf (xs.map (·.1)) b at_ (m0 :: mt0) = (⟨kind, at_, lenOr b.1, m0, at_ + b.2⟩, ms') → ∀ t, H4 t = none → Q (.ref t) (upd H4 t (.tup [.ref x, .ref am])) := by
      intro H4 x dx' kind ms' am s4 nx hx ham hpp t ht
      rw [hpp] at k
      have g4 : Go G [] H H4 := g2.trans (.of g2.w' s4)
      exact k _ t x dx' am (g4.put _ ht) (g4.free ht) (g2.free nx) upd_same (Same.upd _ ht _ _ hx) (Same.upd _ ht _ _ ham)
    refine ⟨_, rfl, _, rfl, aM, bestV rs b.1, ruleOf (xs.map (·.1)) b.1, m0 :: mt0, rfl, hM2, by simp, h16, hrv, hact, ?_, ?_⟩
    · intro hq H3 s3
      have hpp : pieceOf (xs.map (·.1)) b at_ (m0 :: mt0) = (⟨65, at_, lenOr b.1, m0, at_ + b.2⟩, m0 :: mt0) := by
        rw [hpe, hq]
        cases ruleOf (xs.map (·.1)) b.1 <;> rfl
      refine ⟨_, rfl, rfl, _, rfl, iteT ⟨_, rfl, _, rfl, _, rfl, _, rfl, _, rfl, _, _, rfl, rfl, fun x dx nx ndx nex => ?_⟩⟩
      dsimp only []
      rw [← Int.natCast_add]
      refine ⟨x, dx, 65, at_, lenOr b.1, aM, at_ + b.2, rfl, upd_same, fun H4 hx4 a4 => ⟨rfl, ?_⟩⟩
      have s4 : Same H3 H4 := Same.made nx ndx a4
      exact ⟨_, rfl, by show 2 ≤ sizeLine; decide, fin H4 x dx 65 (m0 :: mt0) aM (s3.trans s4) (s3.free nx) hx4 (s4 _ _ (s3 _ _ hM2)) hpp⟩
    · intro q hq H3 p3 s3 hp3
      obtain ⟨r, hr⟩ : ∃ r, ruleOf (xs.map (·.1)) b.1 = some r := by
        cases e : ruleOf (xs.map (·.1)) b.1 with
        | none => rw [e] at hq; cases hq
        | some r => exact ⟨r, rfl⟩
      rw [hr] at hrv hq hpe
      obtain ⟨ra, rdx, rm, hbv, hra⟩ := hrv
      have hpp : pieceOf (xs.map (·.1)) b at_ (m0 :: mt0) = (⟨r.kind, at_, lenOr b.1, m0, at_ + b.2⟩, q) := by
        rw [hpe, hq]; rfl
      refine ⟨_, rfl, rfl, _, rfl, iteF ⟨_, rfl, ra, CR, rdx, _, _, hbv, s3 _ _ hra, TR.cl, TR.nK, rf_K, _, rfl, _, rfl, _, rfl, _, rfl, _, rfl, _, _, rfl, rfl, fun x dx nx ndx nex => ?_⟩⟩
      dsimp only []
      rw [← Int.natCast_add]
      refine ⟨x, dx, r.kind, at_, lenOr b.1, aM, at_ + b.2, rfl, upd_same, fun H4 hx4 a4 => ⟨rfl, ?_⟩⟩
      have s4 : Same H3 H4 := Same.made nx ndx a4
      exact ⟨_, rfl, by show 2 ≤ sizeLine; decide, fin H4 x dx r.kind q p3 (s3.trans s4) (s3.free nx) hx4 (s4 _ _ hp3) hpp⟩
end
end Mp

-- MpCut5
set_option maxRecDepth 100000
set_option maxHeartbeats 4000000
set_option exponentiation.threshold 3000
/-! A text is cut into its pieces. -/
namespace Mp
open PySem PySem.Spec PyProof.Rows L2
open Sq17 (Piece modesBehind pieceAt pieces cut look inMode)
open Mx (okR bm lenOf MOk pieceOf bmZ)

theorem pf_far (a b c : Nat) (m : Addr) (d e : Nat) : putF "far" (iv e) (pf a b c m d) = pf a b c m e := by
  unfold pf
  rw [put_past (by decide +kernel), put_past (by decide +kernel), put_past (by decide +kernel), put_past (by decide +kernel), put_here]

def spCut (K : PySem.W.Frag) (CR CM CL CP : Addr) : Sp := fun vs H Q _ => ∃ (G : Gh) (aR a : Addr) (row : List Nat) (rs : List Addr) (xs : List (Sq17.Rule × Mx.Mat)), vs = [.ref aR, .ref a] ∧ Wld G H ∧ H aR = some (.lst (rs.map V.ref)) ∧ RulesIn G CR CM CL H rs xs ∧ (∀ x ∈ xs, RuleOk x) ∧ rs.length ≤ 1000 ∧
  SqL K H a (ivs row) ∧ row.length ≤ 1000 ∧ (∀ b ∈ row, b < 256) ∧
  ∀ H' p qs, Go G [] H H' → H p = none → H' p = some (.lst (qs.map V.ref)) → PiecesIn CP H' qs (pieces (xs.map (·.1)) row) → qs.length ≤ row.length → Q (.ref p) H'
def cutMu (row : List Nat) (σ : L2.St) (_ : Hp) : Nat := match σ[5]? with
  | some (some (V.int z)) => row.length - z.toNat
  | _ => 0
section
variable {P : Program} {w : World} {K : PySem.W.Frag} {mg : Str → Option Value} {base : Heap} {CR CM CL CP : Addr}
/-- what holds at the loop's head -/
def CutAt (G : Gh) (CP : Addr) (H0 : Hp) (aR a aF pL : Addr) (row : List Nat) (fa : List Addr) (xs : List (Sq17.Rule × Mx.Mat)) (σ : L2.St) (H : Hp) : Prop := ∃ (at_ far f : Nat) (ms : List Nat) (aM : Addr) (qs : List Addr) (done : List (Piece × List Nat)) (v7 v8 : Option V),
  σ = [some (.ref aR), some (.ref a), some (.ref aF), some (.ref pL), some (.ref aM), some (iv at_), some (iv far), v7, v8] ∧ H aM = some (.tup (mt ms)) ∧ H pL = some (.lst (qs.map V.ref)) ∧ H aF = some (.lst (fa.map V.ref)) ∧ FitsIn H fa (xs.map fun x => x.2.fits row) ∧ PiecesIn CP H qs done ∧
  done ++ cut (xs.map (·.1)) f at_ far (row.drop at_) ms = pieces (xs.map (·.1)) row ∧ (row.drop at_).length ≤ f ∧ ms ≠ [] ∧ ms.length ≤ 16 ∧ at_ ≤ row.length ∧ qs.length ≤ at_ ∧ Go G [] H0 H
theorem scCut : FnScope ["rules", "row", "fits", "pieces", "modes", "at", "far", "piece", "rule"] ["rules", "row"] (defScope sCut) := ⟨rfl, rfl, rfl, by decide +kernel, rfl, by decide +kernel, by decide +kernel⟩
theorem ok_cut {f f1 f2 : Addr} {fd fd1 fd2 : FuncData} (F : Fun K "cut" "cut" sCut f fd) (TX : Txt K mg) (TC : Txc mg) (TR : Cr K CR) (TM : Cm K CM) (TP : Cp K CP)
    (D1 : Df K mg "cut_one" sCutOne ["rules", "fits", "modes", "at"] f1 fd1) (G1 : FnOk P w K mg base CX0 6 f1 fd1 ["rules", "fits", "modes", "at"] (spCutOne CR CM CL CP))
    (D2 : Dm K CM "fitting" "Matcher.fitting" sFitting ["self", "row"] f2 fd2) :
    FnOk P w K mg base CX0 7 f fd ["rules", "row"] (spCut K CR CM CL CP) := by
  obtain ⟨t1, m1⟩ := TC.FIRST_MODE
  have G2 : FnOk P w K mg base CX0 1 f2 fd2 ["self", "row"] (spFitting K CM CL) := ok_fitting D2.F TM
  refine F.ok scCut (fun vs H Q E h => ?_) (fun cdv A outer s H vs Q E hr h => ?_)
  · obtain ⟨G, aR, a, row, rs, xs, rfl, _⟩ := h; rfl
  · obtain ⟨G, aR, a, row, rs, xs, rfl, wl, hR, hrs, hok, hrl, lq, hlen, hb, k⟩ := h
    have nd := scCut.nd
    have hr1 : Room 1 _ := hr.mono (by decide)
    have hr6 : Room 6 _ := hr.mono (by decide)
    have hokR : ∀ x ∈ xs, okR x := fun x hx => (hok x hx).r
    have hln := hrs.len
    refine ⟨_, (L2.pss_cons (ps_setLc (i := 2) (own := [("rule", 8)]) (g := gName 8) (te := tMeth CM "fitting" (spFitting K CM CL) [] E (tFld K (tVar 8) "matcher") (tCons (tVar 1) tNil)) (by rfl) nd rfl rfl (sw_true rfl rfl rfl (by decide +kernel)) (pi_list (pv 0)) (blkOk_by (N := ["rules", "row", "fits", "pieces", "modes", "at", "far", "piece", "rule"]) (sc := defScope sCut) (by decide +kernel))
        (fun _ _ _ _ _ => pg_name (i := 8) nd rfl (Or.inl rfl)) (fun _ _ _ _ _ => pts_nil) (fun _ _ _ _ _ => (L2.pe_meth (pe_fld (pv 8) rfl) TM.cl (Mp.Dm.m D2) G2 hr1 (Mp.Dm.b D2) .nil L2.pass0 (L2.pa_cons (pv 1) L2.pa_nil))))
      (L2.pss_cons (L2.ps_set (i := 3) nd rfl (Or.inl rfl) (pe_lst L2.pa_nil))
      (L2.pss_cons (L2.ps_set (i := 4) nd rfl (Or.inl rfl) (pe_tup (L2.pa_cons (pgc m1) L2.pa_nil)))
      (L2.pss_cons (L2.ps_set (i := 5) nd rfl (Or.inl rfl) pe_int)
      (L2.pss_cons (L2.ps_set (i := 6) nd rfl (Or.inl rfl) pe_int)
      (L2.pss_cons (ps_while PassesOwn.never ((L2.pt_cmpR op_lt (pv 5) (L2.pe_callB L2.call_len_seq (by rfl) TX.len PySem.boot_len (L2.pa_cons (pv 1) L2.pa_nil)) (L2.nomark _))) (L2.pss_cons (ps_asg ((L2.pe_call G1 hr6 (by rfl) (Mp.Df.g D1) (Mp.Df.F D1).kp (Mp.Df.b D1) .nil L2.pass0 (L2.pa_cons (pv 0) (L2.pa_cons (pv 2) (L2.pa_cons (pv 4) (L2.pa_cons (pv 5) L2.pa_nil)))))) (pg_tup rfl (pgs_cons (pg_name (i := 7) nd rfl (Or.inl rfl)) (pgs_cons (pg_name (i := 4) nd rfl (Or.inl rfl)) pgs_nil))))
      (L2.pss_cons (ps_fld (pv 7) (pe_callB (call_max2 rfl) (by rfl) TX.max (by decide +kernel) (L2.pa_cons (pv 6) (L2.pa_cons (pe_fld (pv 7) rfl) L2.pa_nil))) rfl)
      (L2.pss_cons (ps_expr (pe_bm PySem.F.plainAttrs_list PySem.F.slot_list_append PySem.F.type_list_append mt_append (pv 3) (L2.pa_cons (pv 7) L2.pa_nil)))
      (L2.pss_cons (L2.ps_set (i := 6) nd rfl (Or.inl rfl) (pe_fld (pv 7) rfl))
      (L2.pss_one (ps_aug (i := 5) nd rfl (Or.inl rfl) (pe_fld (pv 7) rfl) ip_add)))))))
      (L2.pss_one (ps_ret (pv 3))))))))), ?_⟩
    have small : (1001 : Nat) ≤ sizeLine := by decide
    -- what fits each byte, of each rule
    refine ⟨_, rfl, aR, rfl, ⟨_, sqL_of hR⟩, fun D hD => ?_⟩
    refine lc_list (K := K) (a := aR) (xs := rs.map V.ref) (fun i H' => ∃ fa, H' D = some (.lst (fa.map V.ref)) ∧ Go G [] H H' ∧ FitsIn H' fa ((xs.take i).map fun x => x.2.fits row)) ⟨[], upd_same, .of wl (Same.upd _ hD), ⟨rfl, fun i f l e => by simp at e⟩⟩ ?_ ?_ ?_
    · rintro i H' _ ⟨fa, _, g, _⟩; exact sqL_of (g.at0 hR)
    · rintro i y H' hi ⟨fa, hfD, g, hfa⟩
      obtain ⟨r, hri, rfl⟩ := refs_at hi
      have hlt := (List.getElem?_eq_some_iff.mp hri).1
      obtain ⟨x, hxi, dx, m, g1, g2⟩ := (hrs.std g.std).get hri
      obtain ⟨mdx, _, _, _, mo, _⟩ := id g2
      have hx := hok x (List.mem_of_getElem? hxi)
      refine ⟨rfl, ?_⟩
      refine iteT (B := ∃ fa, H' D = some (.lst (fa.map V.ref)) ∧ Go G [] H H' ∧ FitsIn H' fa ((xs.take (i + 1)).map fun x => x.2.fits row)) ?_
      refine ⟨_, rfl, r, CR, dx, _, _, rfl, g1, TR.cl, TR.nX, rf_X, m, mdx, _, rfl, mo, mf_r (fl_no (by decide +kernel) (by decide +kernel) (by decide +kernel)), _, rfl, ?_⟩
      refine ⟨G, m, a, row, x.2, rfl, g2, hx.m.byb, g.seq lq, Nat.le_trans hlen (by decide), hb, fun H2 p s2 np hp => ⟨fa.map V.ref, s2 _ _ hfD, ?_, fa ++ [p], ?_, ?_, ?_⟩⟩
      · have hl := hfa.len
        rw [List.length_map, List.length_take] at hl
        rw [List.length_map, hl]; exact Nat.lt_of_le_of_lt (Nat.le_trans (Nat.min_le_left _ _) (by omega : i ≤ 1000)) small
      · rw [upd_same, List.map_append]; rfl
      · exact (g.trans (.of g.w' s2)).write _ (g.w'.no hfD (by intro _ z; cases z)) (.inr hD)
      · have hDp : p ≠ D := fun z => by rw [z, hfD] at np; cases np
        have e : (xs.take (i + 1)).map (fun x => x.2.fits row) = (xs.take i).map (fun x => x.2.fits row) ++ [x.2.fits row] := by
          obtain ⟨l1, e1⟩ := List.getElem?_eq_some_iff.mp hxi
          rw [List.take_succ_eq_append_getElem l1, List.map_append, e1]; rfl
        rw [e]
        -- none of those before is the list itself
        have hfa2 : FitsIn (upd H2 D (.lst (fa.map V.ref ++ [.ref p]))) fa ((xs.take i).map fun x => x.2.fits row) := ⟨hfa.len, fun j f l e1 e2 => by
          have h3 := hfa.ix j f l e1 e2
          have fD : f ≠ D := fun z => by
            subst z
            rw [hfD] at h3
            have h3 := Option.some.inj h3
            injection h3 with h3
            obtain ⟨l1, e1⟩ := List.getElem?_eq_some_iff.mp e1
            have : (fa.map V.ref)[j]? = (ivs l)[j]? := by rw [h3]
            rw [List.getElem?_map, List.getElem?_eq_getElem l1] at this
            cases hq : (ivs l)[j]? with
            | none => rw [hq] at this; cases this
            | some q =>
              obtain ⟨n, _, rfl⟩ := map_at hq
              rw [hq] at this; cases this
          rw [upd_ne fD]; exact s2 _ _ h3⟩
        exact hfa2.snoc (by rw [upd_ne hDp]; exact hp)
    rintro H1 ⟨fa, hF, g1, hfa⟩
    rw [List.length_map, hln, List.take_length] at hfa
    refine ⟨Nat.zero_le _, fun pL hpL => ⟨by show 1 ≤ sizeLine; decide, fun aM haM => ?_⟩⟩
    dsimp only [gName, tSeq, tAsg, tC]
    have s0 := (Same.upd (.lst []) hpL).trans (Same.upd (.tup [V.int 0]) haM)
    have g2 := g1.trans (.of g1.w' s0)
    have hP2 : upd (upd H1 pL (.lst [])) aM (.tup [V.int 0]) pL = some (.lst []) := Same.upd _ haM _ _ upd_same
    have hM2 : upd (upd H1 pL (.lst [])) aM (.tup [V.int 0]) aM = some (.tup [V.int 0]) := upd_same
    have hpL0 := g1.free hpL
    generalize upd (upd H1 pL (.lst [])) aM (.tup [V.int 0]) = H2 at *
    refine while_by (CutAt G CP H aR a D pL row fa xs) (cutMu row)
      ⟨0, 0, row.length, [0], aM, [], [], none, none, rfl, hM2, hP2, s0 _ _ hF, hfa.mono fun _ _ e => s0 _ _ e, trivial, rfl, Nat.le_refl _, by simp, by simp, Nat.zero_le _, Nat.zero_le _, g2⟩ ?_ ?_
    · rintro σ H3 ⟨at_, far, f, ms, aM1, qs, done, v7, v8, rfl, hM, hP, hF3, hfa3, hps, hcut, hf, hne, h16, hat, hql, g3⟩
      have lq1 := g3.seq lq
      refine ⟨_, rfl, _, rfl, a, _, rfl, .inl lq1, _, _, rfl, rfl, _, rfl, ?_⟩
      rw [ivs_len, dec_iv']
      by_cases hlt : at_ < row.length
      · rw [decide_eq_true hlt]
        have hl : row.drop at_ ≠ [] := fun z => by
          have := congrArg List.length z; simp only [List.length_drop, List.length_nil] at this; omega
        have hll : (row.drop at_).length = row.length - at_ := List.length_drop
        obtain ⟨f, rfl⟩ : ∃ f', f = f' + 1 := ⟨f - 1, by omega⟩
        rw [Mx.cut_cons _ _ _ _ hl, Mx.pieceAt_of hokR] at hcut
        have hn := Mx.pieceOf_n hokR hl ms at_
        have hmz := Mx.bmZ_fits (ms.headD 0) at_ xs row
        have hms := pieceOf_ms (rules := xs.map (·.1)) (b := bm (ms.headD 0) (row.drop at_) xs) (at_ := at_) hne h16
        have hpi := (Mx.pieceOf_i (xs.map (·.1)) (bm (ms.headD 0) (row.drop at_) xs) at_ ms)
        refine iteT ⟨_, rfl, _, rfl, _, rfl, _, rfl, ?_⟩
        refine ⟨G, aR, D, aM1, at_, row.length, rs, fa, xs, _, ms, rfl, g3.w', g3.at0 hR, hrs.std g3.std, hok, hF3, hfa3, fitsFor_fits (fun x hx => (hok x hx).m) row, hat, hM, hne, h16, fun H4 p q dx am g4 np nq hp hq ham => ?_⟩
        rw [hmz] at hq ham
        generalize bm (ms.headD 0) (row.drop at_) xs = b at *
        generalize pieceOf (xs.map (·.1)) b at_ ms = x at *
        refine ⟨p, _, rfl, .inl (.inl hp), rfl, _, _, rfl, _, _, rfl, rfl, ?_⟩
        refine ⟨_, rfl, _, rfl, q, CP, dx, _, _, rfl, hq, TP.cl, TP.nF, pf_F, _, _, rfl, ?_⟩
        dsimp only [gName]
        rw [max_iv]
        refine ⟨_, rfl, q, CP, dx, _, rfl, hq, TP.cl, TP.nF, by show 5 < 1000; decide, ?_⟩
        rw [pf_far]
        have gdq : G.d q = none := g4.w'.no hq (by intro _ z; cases z)
        have hP4 := g4.at0 hP
        have qL : pL ≠ q := ne_of hP4 hq (by intro z; cases z)
        have g5 : Go G [] H3 (upd H4 q (.ins CP dx (pf x.1.kind at_ x.1.n aM1 (max far (at_ + b.2))))) := g4.write _ gdq (.inr nq)
        have e5 : upd H4 q (.ins CP dx (pf x.1.kind at_ x.1.n aM1 (max far (at_ + b.2)))) q = some (.ins CP dx (pf x.1.kind at_ x.1.n aM1 (max far (at_ + b.2)))) := upd_same
        have am5 : upd H4 q (.ins CP dx (pf x.1.kind at_ x.1.n aM1 (max far (at_ + b.2)))) am = some (.tup (mt x.2)) := by rw [upd_ne (ne_of ham hq (by intro z; cases z))]; exact ham
        generalize upd H4 q (.ins CP dx (pf x.1.kind at_ x.1.n aM1 (max far (at_ + b.2)))) = H5 at *
        have hP5 := g5.at0 hP
        have gdP : G.d pL = none := g5.w'.no hP5 (by intro _ z; cases z)
        refine ⟨_, rfl, .inl ⟨rfl, _, sqL_of hP5⟩, _, rfl, pL, _, _, rfl, rfl, hP5, by rw [List.length_map]; omega, ?_⟩
        have up : ∀ {b' : Addr} {o : HO}, H5 b' = some o → (∀ y, o ≠ .lst y) → upd H5 pL (.lst (qs.map V.ref ++ [.ref q])) b' = some o := fun e n => by rw [upd_ne (ne_of e hP5 (n _))]; exact e
        have q6 := up e5 (by intro _ z; cases z)
        have a6 := up am5 (by intro _ z; cases z)
        have m6 := up (g5.at0 hM) (by intro _ z; cases z)
        have g6 : Go G [] H (upd H5 pL (.lst (qs.map V.ref ++ [.ref q]))) := (g3.trans g5).write _ gdP (.inr hpL0)
        have P6 : upd H5 pL (.lst (qs.map V.ref ++ [.ref q])) pL = some (.lst ((qs ++ [q]).map V.ref)) := by rw [upd_same, List.map_append]; rfl
        have fpL : ∀ {f : Addr} {l : List V}, H3 f = some (.lst l) → f ≠ pL → upd H5 pL (.lst (qs.map V.ref ++ [.ref q])) f = some (.lst l) := fun e n => by rw [upd_ne n]; exact g5.at0 e
        have hpL1 : ∀ {f : Addr} {l : List V}, H1 f = some (.lst l) → f ≠ pL := fun e => ne_of_none e hpL
        have hps6 : PiecesIn CP (upd H5 pL (.lst (qs.map V.ref ++ [.ref q]))) qs done := hps.mono fun q' o e ho => up (g5.at0 e (by
          intro y z; subst z; rcases ho with ⟨_, _, _, z⟩ | ⟨_, z⟩ <;> cases z)) (by
          intro y z; subst z; rcases ho with ⟨_, _, _, z⟩ | ⟨_, z⟩ <;> cases z)
        have fa6 : FitsIn (upd H5 pL (.lst (qs.map V.ref ++ [.ref q]))) fa (xs.map fun x => x.2.fits row) := ⟨hfa.len, fun j f' l e1 e2 => fpL (hfa3.ix j f' l e1 e2) (hpL1 (hfa.ix j f' l e1 e2))⟩
        have F6 := fpL hF3 (hpL1 hF)
        generalize upd H5 pL (.lst (qs.map V.ref ++ [.ref q])) = H6 at *
        refine ⟨_, rfl, q, CP, dx, _, _, rfl, q6, TP.cl, TP.nF, pf_F, ?_⟩
        dsimp only [gName]
        refine ⟨_, rfl, _, rfl, q, CP, dx, _, _, rfl, q6, TP.cl, TP.nL, pf_L, _, _, rfl, rfl, ?_, ?_⟩
        · refine ⟨at_ + x.1.n, max far (at_ + b.2), f, x.2, am, qs ++ [q], done ++ [({ x.1 with reach := max far (at_ + b.2) }, ms)], some (.ref q), v8, by dsimp only []; rw [show ((at_ : Int) + (x.1.n : Int)) = ((at_ + x.1.n : Nat) : Int) by omega]; rfl, a6, P6, F6, fa6, ?_, ?_, ?_, hms.1, hms.2, by omega, by rw [List.length_append]; show qs.length + 1 ≤ at_ + x.1.n; omega, g6⟩
          · refine PiecesIn.snoc ⟨dx, aM1, ?_, m6⟩ hps6
            show H6 q = some (.ins CP dx (pf x.1.kind x.1.i x.1.n aM1 (max far (at_ + b.2))))
            rw [hpi.1]; exact q6
          · rw [List.append_assoc, ← hcut, List.drop_drop]; rfl
          · rw [List.length_drop]; omega
        · show row.length - (((at_ : Int) + (x.1.n : Int))).toNat < row.length - ((at_ : Int)).toNat
          omega
      · rw [decide_eq_false hlt]
        have hnil : row.drop at_ = [] := List.drop_of_length_le (by omega)
        rw [hnil, Mx.cut_nil, List.append_nil] at hcut
        subst hcut
        exact iteF ⟨_, rfl, k H3 pL qs g3 hpL0 hP hps (by omega)⟩
    · rintro σ H Q1 Q2 m ⟨v1, e1, v2, e2, p, ys, e3, sq, i, j, e4, e5, k2, e6, q⟩
      exact ⟨v1, e1, v2, e2, p, ys, e3, sq, i, j, e4, e5, k2, e6, m _ _ q⟩
end
end Mp

-- MpCount
set_option maxRecDepth 100000
set_option maxHeartbeats 4000000
/-! Pieces told, counted, compared. -/
namespace Mp
open PySem PySem.Spec PyProof.Rows L2
open Sq17 (Piece)
open Mx (alike)

/-! ### == of tuples of numbers -/
def dI (l : List Nat) : List PyData := l.map fun n : Nat => PyData.int (n : Int)
theorem dpAll (K : PySem.W.Frag) (H : Hp) : ∀ l : List Nat, DpAll K H (ivs l) (dI l)
  | [] => .nil
  | _ :: l => .cons (.int _) (dpAll K H l)
theorem dI_lay : ∀ l : List Nat, PyData.canLayAll0 (dI l) = true ∧ PyData.depthAll (dI l) ≤ 0
  | [] => ⟨rfl, Nat.le_refl _⟩
  | n :: l => by
    have ih := dI_lay l
    refine ⟨?_, ?_⟩
    · show (PyData.canLay0 (.int (n : Int)) && PyData.canLayAll0 (dI l)) = true
      rw [ih.1]; rfl
    · show max (PyData.depth (.int (n : Int))) (PyData.depthAll (dI l)) ≤ 0
      have : PyData.depth (.int (n : Int)) = 0 := by simp [PyData.depth]
      rw [this]; omega
theorem dI_shaped (l : List Nat) : SeqAt.shaped (.tuple (dI l)) = true := by
  have h := dI_lay l
  unfold SeqAt.shaped
  have h1 : PyData.canLay0 (.tuple (dI l)) = true := by simp only [PyData.canLay0]; exact h.1
  have h2 : PyData.depth (.tuple (dI l)) ≤ 64 := by simp only [PyData.depth]; omega
  rw [h1, decide_eq_true h2]; rfl
theorem dI_eqv : ∀ l m : List Nat, PyData.eqvAll (dI l) (dI m) = decide (l = m)
  | [], [] => rfl
  | [], _ :: _ => by simp [dI, PyData.eqvAll]
  | _ :: _, [] => by simp [dI, PyData.eqvAll]
  | a :: l, b :: m => by
    show (PyData.eqv (.int (a : Int)) (.int (b : Int)) && PyData.eqvAll (dI l) (dI m)) = _
    rw [dI_eqv l m]
    have : PyData.eqv (.int (a : Int)) (.int (b : Int)) = decide (a = b) := by
      simp only [PyData.eqv]
      rw [Bool.eq_iff_iff, beq_iff_eq, decide_eq_true_eq]; omega
    rw [this, Bool.eq_iff_iff]; simp
theorem mt_eqv (l m : List Nat) : PyData.eqv (.tuple (dI l.reverse)) (.tuple (dI m.reverse)) = decide (l = m) := by
  show PyData.eqvAll (dI l.reverse) (dI m.reverse) = _
  rw [dI_eqv, decide_eq_decide, List.reverse_inj]

theorem PiecesIn.get {C : Addr} {H : Hp} : ∀ {qs : List Addr} {xs : List (Piece × List Nat)} {i : Nat} {q : Addr}, PiecesIn C H qs xs → qs[i]? = some q → ∃ x, xs[i]? = some x ∧ PieceAt C H q x
  | _ :: _, x :: _, 0, _, h, e => by simp at e; subst e; exact ⟨x, rfl, h.1⟩
  | _ :: _, _ :: _, i + 1, _, h, e => by
    simp at e
    obtain ⟨y, h1, h2⟩ := PiecesIn.get h.2 e
    exact ⟨y, by simpa using h1, h2⟩
  | [], [], _, _, _, e => by simp at e
  | [], _ :: _, _, _, h, _ => h.elim
  | _ :: _, [], _, _, h, _ => h.elim
theorem PiecesIn.same {C : Addr} {H H' : Hp} (s : Same H H') {qs : List Addr} {xs : List (Piece × List Nat)} (h : PiecesIn C H qs xs) : PiecesIn C H' qs xs := h.mono fun _ _ e _ => s _ _ e

/-! ### promises -/
def told5 (x : Piece × List Nat) : List Nat := [x.1.kind, x.1.i, x.1.n, x.2.headD 0, x.1.reach]
def spTold (C : Addr) : Sp := fun vs H Q _ => ∃ (q : Addr) (x : Piece × List Nat), vs = [.ref q] ∧ PieceAt C H q x ∧ x.2 ≠ [] ∧ ∀ p, H p = none → Q (.ref p) (upd H p (.lst (ivs (told5 x))))
def spCountOdd (K : PySem.W.Frag) (C : Addr) : Sp := fun vs H Q _ => ∃ (aP : Addr) (qs : List Addr) (xs : List (Piece × List Nat)), vs = [.ref aP] ∧ SqL K H aP (qs.map V.ref) ∧ PiecesIn C H qs xs ∧ qs.length ≤ 1000 ∧ ∀ H', Same H H' → Q (iv ((xs.filter fun x => x.1.kind == 65).length)) H'
def spSame (C : Addr) : Sp := fun vs H Q _ => ∃ (q r : Addr) (x y : Piece × List Nat), vs = [.ref q, .ref r] ∧ PieceAt C H q x ∧ PieceAt C H r y ∧ Q (.bl (alike x y)) H
def spAhead (K : PySem.W.Frag) (C : Addr) : Sp := fun vs H Q _ => ∃ (aP bP : Addr) (ps qs : List Addr) (xs ys : List (Piece × List Nat)), vs = [.ref aP, .ref bP] ∧ SqL K H aP (ps.map V.ref) ∧ SqL K H bP (qs.map V.ref) ∧ PiecesIn C H ps xs ∧ PiecesIn C H qs ys ∧ Q (iv (Mx.same xs ys)) H
def spBehind (K : PySem.W.Frag) (C : Addr) : Sp := fun vs H Q _ => ∃ (aP bP most : Nat) (ps qs : List Addr) (xs ys : List (Piece × List Nat)), vs = [.ref aP, .ref bP, iv most] ∧ SqL K H aP (ps.map V.ref) ∧ SqL K H bP (qs.map V.ref) ∧ PiecesIn C H ps xs ∧ PiecesIn C H qs ys ∧
  most ≤ xs.length ∧ most ≤ ys.length ∧ Q (iv (min (Mx.same xs.reverse ys.reverse) most)) H

theorem same_drop : ∀ (xs ys : List (Piece × List Nat)) (n : Nat), n ≤ Mx.same xs ys → Mx.same xs ys = n + Mx.same (xs.drop n) (ys.drop n) ∧ n ≤ xs.length ∧ n ≤ ys.length
  | xs, ys, 0, _ => by simp
  | [], ys, n + 1, h => by
    have e : Mx.same [] ys = 0 := by cases ys <;> rfl
    omega
  | x :: xs, [], n + 1, h => by
    have e : Mx.same (x :: xs) [] = 0 := rfl
    omega
  | x :: xs, y :: ys, n + 1, h => by
    rw [Mx.same] at h ⊢
    split at h
    · next hh =>
      have := same_drop xs ys n (by omega)
      rw [if_pos hh, List.drop_succ_cons, List.drop_succ_cons, List.length_cons, List.length_cons]
      omega
    · omega
theorem same_next {xs ys : List (Piece × List Nat)} {x y : Piece × List Nat} {n : Nat} (hn : n ≤ Mx.same xs ys) (hx : xs[n]? = some x) (hy : ys[n]? = some y) : (n + 1 ≤ Mx.same xs ys ↔ alike x y = true) := by
  have h := same_drop xs ys n hn
  obtain ⟨l1, e1⟩ := List.getElem?_eq_some_iff.mp hx
  obtain ⟨l2, e2⟩ := List.getElem?_eq_some_iff.mp hy
  rw [List.drop_eq_getElem_cons l1, List.drop_eq_getElem_cons l2, e1, e2, Mx.same] at h
  split at h
  · next hh => exact ⟨fun _ => hh, fun _ => by omega⟩
  · next hh => exact ⟨fun z => by omega, fun z => absurd z hh⟩
theorem same_end {xs ys : List (Piece × List Nat)} : Mx.same xs ys ≤ xs.length ∧ Mx.same xs ys ≤ ys.length := (same_drop xs ys (Mx.same xs ys) (Nat.le_refl _)).2

section
variable {P : Program} {w : World} {K : PySem.W.Frag} {mg : Str → Option Value} {base : Heap} {C : Addr}
theorem scTold : FnScope ["self"] ["self"] (defScope sTold) := ⟨rfl, rfl, rfl, by decide +kernel, rfl, by decide +kernel, by decide +kernel⟩
theorem ok_told {f : Addr} {fd : FuncData} (F : Fun K "told" "Piece.told" sTold f fd) (T : Cp K C) : FnOk P w K mg base CX0 1 f fd ["self"] (spTold C) := by
  refine F.ok scTold (fun vs H Q E h => ?_) (fun cdv A outer s H vs Q E hr h => ?_)
  · obtain ⟨q, x, rfl, _⟩ := h; rfl
  · obtain ⟨q, x, rfl, ⟨dx, am, h1, h2⟩, hne, k⟩ := h
    refine ⟨_, (L2.pss_one (ps_ret (pe_lst (L2.pa_cons (pe_fld (pv 0) rfl) (L2.pa_cons (pe_fld (pv 0) rfl) (L2.pa_cons (pe_fld (pv 0) rfl) (L2.pa_cons (L2.pe_ix L2.ix_tup (pe_fld (pv 0) rfl) (pe_un un_neg pe_int) (fun _ _ => rfl)) (L2.pa_cons (pe_fld (pv 0) rfl) L2.pa_nil)))))))), ?_⟩
    obtain ⟨m0, mt0, e⟩ : ∃ m0 t, x.2 = m0 :: t := by cases hx : x.2 with
      | nil => exact absurd hx hne
      | cons m0 t => exact ⟨m0, t, rfl⟩
    rw [e, mt_cons] at h2
    refine ⟨_, rfl, q, C, dx, _, _, rfl, h1, T.cl, T.nK, pf_K, _, rfl, q, C, dx, _, _, rfl, h1, T.cl, T.nP, pf_P, _, rfl, q, C, dx, _, _, rfl, h1, T.cl, T.nL, pf_L, _, rfl, q, C, dx, _, _, rfl, h1, T.cl, T.nM, pf_M, _, rfl, am, _, _, _, rfl, rfl, SqT.of h2, atI_last _ _, _, rfl, q, C, dx, _, _, rfl, h1, T.cl, T.nF, pf_F, by show 5 ≤ sizeLine; decide, fun p hp => ?_⟩
    have := k p hp
    unfold told5 at this; rw [e] at this; exact this

theorem scSame : FnScope ["old", "new"] ["old", "new"] (defScope sSame) := ⟨rfl, rfl, rfl, by decide +kernel, rfl, by decide +kernel, by decide +kernel⟩
theorem ok_same {f : Addr} {fd : FuncData} (F : Fun K "same_piece" "same_piece" sSame f fd) (T : Cp K C) : FnOk P w K mg base CX0 1 f fd ["old", "new"] (spSame C) := by
  refine F.ok scSame (fun vs H Q E h => ?_) (fun cdv A outer s H vs Q E hr h => ?_)
  · obtain ⟨q, r, x, y, rfl, _⟩ := h; rfl
  · obtain ⟨q, r, x, y, rfl, ⟨dx, am, h1, h2⟩, ⟨dy, bm, g1, g2⟩, k⟩ := h
    refine ⟨_, (L2.pss_one (ps_ret (pe_and (pe_cmpR op_eq (pe_fld (pv 0) rfl) (pe_fld (pv 1) rfl) (nomark _)) (pe_and (pe_cmpR op_eq (pe_fld (pv 0) rfl) (pe_fld (pv 1) rfl) (nomark _)) (pe_one (pe_cmpR (op_eqD hr.units) (pe_fld (pv 0) rfl) (pe_fld (pv 1) rfl) (nomark _))))))), ?_⟩
    refine ⟨_, rfl, q, C, dx, _, _, rfl, h1, T.cl, T.nK, pf_K, _, rfl, r, C, dy, _, _, rfl, g1, T.cl, T.nK, pf_K, rfl, _, rfl, ?_⟩
    unfold alike at k
    rw [dec_iv]
    cases e1 : decide (x.1.kind = y.1.kind) with
    | false => rw [e1] at k; exact iteF k
    | true =>
      rw [e1] at k
      refine iteT ⟨_, rfl, q, C, dx, _, _, rfl, h1, T.cl, T.nL, pf_L, _, rfl, r, C, dy, _, _, rfl, g1, T.cl, T.nL, pf_L, rfl, _, rfl, ?_⟩
      rw [dec_iv]
      cases e2 : decide (x.1.n = y.1.n) with
      | false => rw [e2] at k; exact iteF k
      | true =>
        rw [e2] at k
        refine iteT ⟨_, rfl, q, C, dx, _, _, rfl, h1, T.cl, T.nM, pf_M, _, rfl, r, C, dy, _, _, rfl, g1, T.cl, T.nM, pf_M, .tuple (dI x.2.reverse), .tuple (dI y.2.reverse), .tup (SqT.of h2) (dpAll _ _ _), .tup (SqT.of g2) (dpAll _ _ _), dI_shaped _, dI_shaped _, ?_⟩
        rw [mt_eqv]; exact k

theorem scCountOdd : FnScope ["pieces", "piece"] ["pieces"] (defScope sCountOdd) := ⟨rfl, rfl, rfl, by decide +kernel, rfl, by decide +kernel, by decide +kernel⟩
theorem ok_countOdd {f : Addr} {fd : FuncData} (F : Fun K "count_odd" "count_odd" sCountOdd f fd) (T : Cp K C) (TX : Txt K mg) (TC : Txc mg) : FnOk P w K mg base CX0 1 f fd ["pieces"] (spCountOdd K C) := by
  obtain ⟨t1, m1⟩ := TC.ODD
  refine F.ok scCountOdd (fun vs H Q E h => ?_) (fun cdv A outer s H vs Q E hr h => ?_)
  · obtain ⟨aP, qs, xs, rfl, _⟩ := h; rfl
  · obtain ⟨aP, qs, xs, rfl, lq, hps, hlen, k⟩ := h
    have nd := scCountOdd.nd
    refine ⟨_, (L2.pss_one (ps_ret ((L2.pe_callB L2.call_len_seq (by rfl) TX.len PySem.boot_len (L2.pa_cons (pe_lc (own := [("piece", 1)]) (g := gName 1) rfl nd (pi_list (pv 0)) (blkOk_by (N := ["pieces", "piece"]) (sc := defScope sCountOdd) (by decide +kernel))
      (fun _ _ _ _ _ => pg_name (i := 1) nd rfl (Or.inl rfl)) (fun _ _ _ _ _ => pts_one (t := tTest (tOp rEq (tFld K (tVar 1) "kind") (tC (.int 65)))) ((L2.pt_cmpR op_eq (pe_fld (pv 1) rfl) (pgc m1) (L2.nomark _)))) (fun _ _ _ _ _ => pv 1)) L2.pa_nil))))), ?_⟩
    refine ⟨_, rfl, aP, rfl, ⟨_, lq⟩, fun D hD => ?_⟩
    refine lc_list (K := K) (a := aP) (xs := qs.map V.ref) (fun i H' => ∃ acc, H' = upd H D (.lst acc) ∧ acc.length = ((xs.take i).filter fun x => x.1.kind == 65).length ∧ acc.length ≤ i) ⟨[], rfl, rfl, Nat.zero_le _⟩ ?_ ?_ ?_
    · rintro i H' _ ⟨acc, rfl, _⟩; exact (Same.upd _ hD).seq lq
    · rintro i y H' hi ⟨acc, rfl, hacc, hle⟩
      obtain ⟨q, hq, rfl⟩ : ∃ q, qs[i]? = some q ∧ y = V.ref q := by
        rw [List.getElem?_map] at hi
        obtain ⟨n, hn, e⟩ := Option.map_eq_some_iff.mp hi
        exact ⟨n, hn, e.symm⟩
      obtain ⟨x, hx, dx, am, h1, h2⟩ := hps.get hq
      have hlt := (List.getElem?_eq_some_iff.mp hq).1
      have h1' : upd H D (.lst acc) q = _ := Same.upd _ hD _ _ h1
      have etake : (xs.take (i + 1)).filter (fun x => x.1.kind == 65) = (xs.take i).filter (fun x => x.1.kind == 65) ++ [x].filter (fun x => x.1.kind == 65) := by
        obtain ⟨l1, e1⟩ := List.getElem?_eq_some_iff.mp hx
        rw [List.take_succ_eq_append_getElem l1, List.filter_append, e1]
      refine ⟨rfl, _, rfl, q, C, dx, _, _, rfl, h1', T.cl, T.nK, pf_K, rfl, _, rfl, ?_⟩
      rw [show decide (V.int (x.1.kind : Int) = V.int 65) = decide (x.1.kind = 65) from dec_iv x.1.kind 65]
      by_cases h65 : x.1.kind = 65
      · rw [decide_eq_true h65]
        refine iteT ⟨_, rfl, acc, upd_same, Nat.lt_of_le_of_lt hle (Nat.lt_of_lt_of_le hlt (Nat.le_trans hlen (by decide))), acc ++ [.ref q], upd_upd, ?_, ?_⟩
        · rw [etake, List.length_append, List.length_append, hacc]; simp [h65]
        · rw [List.length_append]; show acc.length + 1 ≤ i + 1; omega
      · rw [decide_eq_false h65]
        refine iteF ⟨acc, rfl, ?_, by omega⟩
        rw [etake, List.length_append, hacc]; simp [h65]
    · rintro H' ⟨acc, rfl, hacc, _⟩
      rw [List.length_map, hps.len, List.take_length] at hacc
      refine ⟨D, acc, rfl, .inl (sqL_of upd_same), ?_⟩
      rw [hacc]
      exact k _ (Same.upd _ hD)

theorem min_iv (a b : Nat) : (if (b : Int) < (a : Int) then (b : Int) else (a : Int)) = ((min a b : Nat) : Int) := by split <;> omega
theorem scAhead : FnScope ["old", "new", "same"] ["old", "new"] (defScope sAhead) := ⟨rfl, rfl, rfl, by decide +kernel, rfl, by decide +kernel, by decide +kernel⟩
def sameMu (n : Nat) (i : Nat) (σ : L2.St) (_ : Hp) : Nat := match σ[i]? with
  | some (some (V.int z)) => n - z.toNat
  | _ => 0
theorem ok_ahead {f f1 : Addr} {fd fd1 : FuncData} (F : Fun K "count_same_ahead" "count_same_ahead" sAhead f fd) (T : Cp K C) (TX : Txt K mg) (D1 : Df K mg "same_piece" sSame ["old", "new"] f1 fd1) : FnOk P w K mg base CX0 2 f fd ["old", "new"] (spAhead K C) := by
  have G1 : FnOk P w K mg base CX0 1 f1 fd1 ["old", "new"] (spSame C) := ok_same D1.F T
  refine F.ok scAhead (fun vs H Q E h => ?_) (fun cdv A outer s H vs Q E hr h => ?_)
  · obtain ⟨aP, bP, ps, qs, xs, ys, rfl, _⟩ := h; rfl
  · obtain ⟨aP, bP, ps, qs, xs, ys, rfl, la, lb, hx, hy, k⟩ := h
    have nd := scAhead.nd
    have lx := hx.len
    have ly := hy.len
    have hend := same_end (xs := xs) (ys := ys)
    refine ⟨_, (L2.pss_cons (L2.ps_set (i := 2) nd rfl (Or.inl rfl) pe_int)
      (L2.pss_cons (ps_while PassesOwn.never (PW.pt (pw_and ((L2.pt_cmpR op_lt (pv 2) (pe_callB (call_min2 rfl) (by rfl) TX.min (by decide +kernel) (L2.pa_cons (L2.pe_callB L2.call_len_seq (by rfl) TX.len PySem.boot_len (L2.pa_cons (pv 0) L2.pa_nil)) (L2.pa_cons (L2.pe_callB L2.call_len_seq (by rfl) TX.len PySem.boot_len (L2.pa_cons (pv 1) L2.pa_nil)) L2.pa_nil))) (L2.nomark _))) (pw_and1 (pt_val ((L2.pe_call G1 hr (by rfl) (Mp.Df.g D1) (Mp.Df.F D1).kp (Mp.Df.b D1) .nil L2.pass0 (L2.pa_cons (L2.pe_ix L2.ix_list (pv 0) (pv 2) (fun _ _ => rfl)) (L2.pa_cons (L2.pe_ix L2.ix_list (pv 1) (pv 2) (fun _ _ => rfl)) L2.pa_nil)))))))) (L2.pss_one (ps_aug (i := 2) nd rfl (Or.inl rfl) pe_int ip_add)))
      (L2.pss_one (ps_ret (pv 2))))), ?_⟩
    dsimp only [gName, tSeq, tAsg, tC]
    refine while_by (fun σ H' => ∃ n : Nat, σ = [some (.ref aP), some (.ref bP), some (iv n)] ∧ H' = H ∧ n ≤ Mx.same xs ys) (sameMu (xs.length + 1) 2) ⟨0, rfl, rfl, Nat.zero_le _⟩ ?_ ?_
    · rintro σ H' ⟨n, rfl, rfl, hn⟩
      refine ⟨_, rfl, _, rfl, aP, _, rfl, .inl la, _, rfl, bP, _, rfl, .inl lb, _, _, rfl, _, _, rfl, rfl, _, rfl, ?_⟩
      rw [min_iv, dec_iv', List.length_map, List.length_map, lx, ly]
      by_cases hlt : n < min xs.length ys.length
      · rw [decide_eq_true hlt]
        obtain ⟨x, hxn⟩ : ∃ x, xs[n]? = some x := ⟨_, List.getElem?_eq_getElem (by omega)⟩
        obtain ⟨y, hyn⟩ : ∃ y, ys[n]? = some y := ⟨_, List.getElem?_eq_getElem (by omega)⟩
        obtain ⟨p, hp⟩ : ∃ p, ps[n]? = some p := ⟨_, List.getElem?_eq_getElem (by omega)⟩
        obtain ⟨q, hq⟩ : ∃ q, qs[n]? = some q := ⟨_, List.getElem?_eq_getElem (by omega)⟩
        obtain ⟨x', hx', px⟩ := hx.get hp
        obtain ⟨y', hy', py⟩ := hy.get hq
        rw [hxn] at hx'; cases hx'
        rw [hyn] at hy'; cases hy'
        have nxt := same_next hn hxn hyn
        refine iteT ⟨_, rfl, _, rfl, aP, _, _, _, rfl, rfl, la, atI_nat (by rw [List.getElem?_map, hp]; rfl), _, rfl, _, rfl, bP, _, _, _, rfl, rfl, lb, atI_nat (by rw [List.getElem?_map, hq]; rfl), p, q, x, y, rfl, px, py, _, rfl, ?_⟩
        cases ha : alike x y with
        | true =>
          have h1 : n + 1 ≤ Mx.same xs ys := nxt.mpr ha
          refine iteT ⟨_, rfl, _, _, rfl, rfl, ⟨n + 1, rfl, rfl, h1⟩, ?_⟩
          show (xs.length + 1) - (((n : Int) + 1)).toNat < (xs.length + 1) - ((n : Int)).toNat
          omega
        | false =>
          have h1 : ¬ n + 1 ≤ Mx.same xs ys := fun z => by rw [nxt.mp z] at ha; cases ha
          have e : n = Mx.same xs ys := by omega
          subst e
          exact iteF ⟨_, rfl, k⟩
      · rw [decide_eq_false hlt]
        have e : n = Mx.same xs ys := by omega
        subst e
        exact iteF (iteF ⟨_, rfl, k⟩)
    · rintro σ H Q1 Q2 m ⟨v1, e1, v2, e2, p, ys, e3, sq, v3, e7, p2, ys2, e8, sq2, i, j, e4, i2, j2, e5, e9, k2, e6, q⟩
      refine ⟨v1, e1, v2, e2, p, ys, e3, sq, v3, e7, p2, ys2, e8, sq2, i, j, e4, i2, j2, e5, e9, k2, e6, ?_⟩
      cases k2 with
      | true =>
        rw [if_pos rfl] at q ⊢
        obtain ⟨v1, e1, v2, e2, a1, a2, a3, a4, e3, e4, sq, at1, v3, e5, v4, e6, b1, b2, b3, b4, e7, e8, sq2, at2, q, r, x, y, e9, px, py, kk, ek, qq⟩ := q
        exact ⟨v1, e1, v2, e2, a1, a2, a3, a4, e3, e4, sq, at1, v3, e5, v4, e6, b1, b2, b3, b4, e7, e8, sq2, at2, q, r, x, y, e9, px, py, kk, ek, m _ _ qq⟩
      | false => exact m _ _ q

theorem PiecesIn.rev {H : Hp} : ∀ {qs : List Addr} {xs : List (Piece × List Nat)}, PiecesIn C H qs xs → PiecesIn C H qs.reverse xs.reverse
  | [], [], _ => trivial
  | _ :: _, _ :: _, ⟨a, r⟩ => by rw [List.reverse_cons, List.reverse_cons]; exact PiecesIn.snoc a (PiecesIn.rev r)
  | [], _ :: _, h => h.elim
  | _ :: _, [], h => h.elim
theorem at_back {l : List V} {n : Nat} {v : V} (h : l.reverse[n]? = some v) : atI l (-1 - (n : Int)) = some v := by
  have hn : n < l.length := by have := (List.getElem?_eq_some_iff.mp h).1; rwa [List.length_reverse] at this
  have e : ixN l.length (-1 - (n : Int)) = some (l.length - 1 - n) := by
    unfold ixN
    rw [if_neg (by omega), if_pos (by omega)]
    congr 1; omega
  unfold atI
  rw [e]
  show l[l.length - 1 - n]? = some v
  rw [← List.getElem?_reverse hn]; exact h
theorem scBehind : FnScope ["old", "new", "most", "same"] ["old", "new", "most"] (defScope sBehind) := ⟨rfl, rfl, rfl, by decide +kernel, rfl, by decide +kernel, by decide +kernel⟩
theorem ok_behind {f f1 : Addr} {fd fd1 : FuncData} (F : Fun K "count_same_behind" "count_same_behind" sBehind f fd) (T : Cp K C) (D1 : Df K mg "same_piece" sSame ["old", "new"] f1 fd1) : FnOk P w K mg base CX0 2 f fd ["old", "new", "most"] (spBehind K C) := by
  have G1 : FnOk P w K mg base CX0 1 f1 fd1 ["old", "new"] (spSame C) := ok_same D1.F T
  refine F.ok scBehind (fun vs H Q E h => ?_) (fun cdv A outer s H vs Q E hr h => ?_)
  · obtain ⟨aP, bP, most, ps, qs, xs, ys, rfl, _⟩ := h; rfl
  · obtain ⟨aP, bP, most, ps, qs, xs, ys, rfl, la, lb, hx, hy, hmx, hmy, k⟩ := h
    have nd := scBehind.nd
    have lx := hx.len
    have ly := hy.len
    have hx := hx.rev
    have hy := hy.rev
    have lx' : xs.reverse.length = xs.length := List.length_reverse
    have ly' : ys.reverse.length = ys.length := List.length_reverse
    generalize hxr : xs.reverse = xr at *
    generalize hyr : ys.reverse = yr at *
    have hend := same_end (xs := xr) (ys := yr)
    refine ⟨_, (L2.pss_cons (L2.ps_set (i := 3) nd rfl (Or.inl rfl) pe_int)
      (L2.pss_cons (ps_while PassesOwn.never (PW.pt (pw_and ((L2.pt_cmpR op_lt (pv 3) (pv 2) (L2.nomark _))) (pw_and1 (pt_val ((L2.pe_call G1 hr (by rfl) (Mp.Df.g D1) (Mp.Df.F D1).kp (Mp.Df.b D1) .nil L2.pass0 (L2.pa_cons (L2.pe_ix L2.ix_list (pv 0) (pe_op op_sub (pe_un un_neg pe_int) (pv 3)) (fun _ _ => rfl)) (L2.pa_cons (L2.pe_ix L2.ix_list (pv 1) (pe_op op_sub (pe_un un_neg pe_int) (pv 3)) (fun _ _ => rfl)) L2.pa_nil)))))))) (L2.pss_one (ps_aug (i := 3) nd rfl (Or.inl rfl) pe_int ip_add)))
      (L2.pss_one (ps_ret (pv 3))))), ?_⟩
    dsimp only [gName, tSeq, tAsg, tC]
    refine while_by (fun σ H' => ∃ n : Nat, σ = [some (.ref aP), some (.ref bP), some (iv most), some (iv n)] ∧ H' = H ∧ n ≤ min (Mx.same xr yr) most) (sameMu (xs.length + 1) 3) ⟨0, rfl, rfl, Nat.zero_le _⟩ ?_ ?_
    · rintro σ H' ⟨n, rfl, rfl, hn⟩
      refine ⟨_, rfl, _, rfl, _, _, rfl, rfl, _, rfl, ?_⟩
      rw [dec_iv']
      by_cases hlt : n < most
      · rw [decide_eq_true hlt]
        obtain ⟨x, hxn⟩ : ∃ x, xr[n]? = some x := ⟨_, List.getElem?_eq_getElem (by omega)⟩
        obtain ⟨y, hyn⟩ : ∃ y, yr[n]? = some y := ⟨_, List.getElem?_eq_getElem (by omega)⟩
        obtain ⟨p, hp⟩ : ∃ p, ps.reverse[n]? = some p := ⟨_, List.getElem?_eq_getElem (by rw [List.length_reverse]; omega)⟩
        obtain ⟨q, hq⟩ : ∃ q, qs.reverse[n]? = some q := ⟨_, List.getElem?_eq_getElem (by rw [List.length_reverse]; omega)⟩
        obtain ⟨x', hx', px⟩ := hx.get hp
        obtain ⟨y', hy', py⟩ := hy.get hq
        rw [hxn] at hx'; cases hx'
        rw [hyn] at hy'; cases hy'
        have nxt := same_next (xs := xr) (ys := yr) (by omega) hxn hyn
        refine iteT ⟨_, rfl, _, rfl, _, rfl, _, _, rfl, rfl, aP, _, _, _, rfl, rfl, la, at_back (by rw [← List.map_reverse, List.getElem?_map, hp]; rfl), _, rfl, _, rfl, _, rfl, _, _, rfl, rfl, bP, _, _, _, rfl, rfl, lb, at_back (by rw [← List.map_reverse, List.getElem?_map, hq]; rfl), p, q, x, y, rfl, px, py, _, rfl, ?_⟩
        cases ha : alike x y with
        | true =>
          have h1 : n + 1 ≤ Mx.same xr yr := nxt.mpr ha
          refine iteT ⟨_, rfl, _, _, rfl, rfl, ⟨n + 1, rfl, rfl, by omega⟩, ?_⟩
          show (xs.length + 1) - (((n : Int) + 1)).toNat < (xs.length + 1) - ((n : Int)).toNat
          omega
        | false =>
          have h1 : ¬ n + 1 ≤ Mx.same xr yr := fun z => by rw [nxt.mp z] at ha; cases ha
          have e : n = min (Mx.same xr yr) most := by omega
          rw [← e] at k
          exact iteF ⟨_, rfl, k⟩
      · rw [decide_eq_false hlt]
        have e : n = min (Mx.same xr yr) most := by omega
        rw [← e] at k
        exact iteF (iteF ⟨_, rfl, k⟩)
    · rintro σ H Q1 Q2 m ⟨v1, e1, v2, e2, i, j, e3, e4, k2, e6, q⟩
      refine ⟨v1, e1, v2, e2, i, j, e3, e4, k2, e6, ?_⟩
      cases k2 with
      | true =>
        rw [if_pos rfl] at q ⊢
        obtain ⟨v1, e1, n1, en, v2, e2, i1, j1, f1, f2, a1, a2, a3, a4, e3, e4, sq, at1, v3, e5, n2, en2, v4, e6, i2, j2, f3, f4, b1, b2, b3, b4, e7, e8, sq2, at2, q, r, x, y, e9, px, py, kk, ek, qq⟩ := q
        exact ⟨v1, e1, n1, en, v2, e2, i1, j1, f1, f2, a1, a2, a3, a4, e3, e4, sq, at1, v3, e5, n2, en2, v4, e6, i2, j2, f3, f4, b1, b2, b3, b4, e7, e8, sq2, at2, q, r, x, y, e9, px, py, kk, ek, m _ _ qq⟩
      | false => exact m _ _ q
end
end Mp

-- MpWordsIn
set_option maxRecDepth 100000
set_option maxHeartbeats 4000000
/-! The words among the pieces. -/
namespace Mp
open PySem PySem.Spec PyProof.Rows L2
open Sq17 (Piece Word bytesOf)

theorem ivs_refs {l : List Nat} {ws : List Addr} (h : ivs l = ws.map V.ref) : ws = [] := by
  cases ws with
  | nil => rfl
  | cons w ws => cases l with
    | nil => cases h
    | cons n l => rw [List.map_cons] at h; injection h with h; cases h
/-- a word: its kind, its mode, its bytes -/
def WordAt (H : Hp) (q : Addr) (x : Word) : Prop := ∃ b, H q = some (.tup [iv x.1, iv x.2.1, .ref b]) ∧ H b = some (.lst (ivs x.2.2))
structure WordsAre (H : Hp) (qs : List Addr) (xs : List Word) : Prop where
  len : qs.length = xs.length
  ix : ∀ (i : Nat) (q : Addr) (x : Word), qs[i]? = some q → xs[i]? = some x → WordAt H q x
theorem WordAt.mono {H H' : Hp} {q : Addr} {x : Word} (h : WordAt H q x) (k : ∀ b o, H b = some o → (∃ y, o = .tup y) ∨ (∃ y, o = .lst (ivs y)) → H' b = some o) : WordAt H' q x := by
  obtain ⟨b, h1, h2⟩ := h
  exact ⟨b, k _ _ h1 (.inl ⟨_, rfl⟩), k _ _ h2 (.inr ⟨_, rfl⟩)⟩
theorem WordsAre.mono {H H' : Hp} {qs : List Addr} {xs : List Word} (h : WordsAre H qs xs) (k : ∀ b o, H b = some o → (∃ y, o = .tup y) ∨ (∃ y, o = .lst (ivs y)) → H' b = some o) : WordsAre H' qs xs := ⟨h.len, fun i q x e1 e2 => (h.ix i q x e1 e2).mono k⟩
theorem ixsnoc {α β : Type} {as : List α} {bs : List β} {a : α} {b : β} {R : α → β → Prop} (hl : as.length = bs.length) (h : ∀ (i : Nat) (x : α) (y : β), as[i]? = some x → bs[i]? = some y → R x y) (hn : R a b) :
    ∀ (i : Nat) (x : α) (y : β), (as ++ [a])[i]? = some x → (bs ++ [b])[i]? = some y → R x y := fun i x y e1 e2 => by
  by_cases hi : i < as.length
  · rw [List.getElem?_append_left hi] at e1
    rw [List.getElem?_append_left (by omega)] at e2
    exact h i x y e1 e2
  · rw [List.getElem?_append_right (by omega)] at e1 e2
    have hz : i - as.length = 0 := by
      by_cases z : i - as.length = 0
      · exact z
      · rw [List.getElem?_eq_none (by simp; omega)] at e1; cases e1
    rw [hz] at e1
    rw [← hl, hz] at e2
    simp at e1 e2; subst e1 e2; exact hn
theorem WordsAre.snoc {H : Hp} {qs : List Addr} {xs : List Word} {q : Addr} {x : Word} (h : WordsAre H qs xs) (e : WordAt H q x) : WordsAre H (qs ++ [q]) (xs ++ [x]) := ⟨by simp [h.len], ixsnoc h.len h.ix e⟩

def wordOf (row : List Nat) (x : Piece × List Nat) : Word := (x.1.kind, x.2.headD 0, bytesOf row x.1)
def spWordOf (K : PySem.W.Frag) (C : Addr) : Sp := fun vs H Q _ => ∃ (q a : Addr) (x : Piece × List Nat) (row : List Nat), vs = [.ref q, .ref a] ∧ PieceAt C H q x ∧ x.2 ≠ [] ∧ SqL K H a (ivs row) ∧
  ∀ H' p b, Same H H' → H p = none → H b = none → H' p = some (.tup [iv x.1.kind, iv (x.2.headD 0), .ref b]) → H' b = some (.lst (ivs (bytesOf row x.1))) → Q (.ref p) H'
def spWordsIn (K : PySem.W.Frag) (C : Addr) : Sp := fun vs H Q _ => ∃ (aP a : Addr) (qs : List Addr) (xs : List (Piece × List Nat)) (row : List Nat), vs = [.ref aP, .ref a] ∧ SqL K H aP (qs.map V.ref) ∧ PiecesIn C H qs xs ∧ (∀ x ∈ xs, x.2 ≠ []) ∧ qs.length ≤ 1000 ∧ SqL K H a (ivs row) ∧
  ∀ H' p ws, Same H H' → H p = none → H' p = some (.lst (ws.map V.ref)) → WordsAre H' ws ((xs.filter fun x => x.1.kind != 64).map (wordOf row)) → Q (.ref p) H'

section
variable {P : Program} {w : World} {K : PySem.W.Frag} {mg : Str → Option Value} {base : Heap} {C : Addr}
theorem scWordOf : FnScope ["piece", "row"] ["piece", "row"] (defScope sWordOf) := ⟨rfl, rfl, rfl, by decide +kernel, rfl, by decide +kernel, by decide +kernel⟩
theorem ok_wordOf {f : Addr} {fd : FuncData} (F : Fun K "word_of" "word_of" sWordOf f fd) (T : Cp K C) : FnOk P w K mg base CX0 1 f fd ["piece", "row"] (spWordOf K C) := by
  refine F.ok scWordOf (fun vs H Q E h => ?_) (fun cdv A outer s H vs Q E hr h => ?_)
  · obtain ⟨q, a, x, row, rfl, _⟩ := h; rfl
  · obtain ⟨q, a, x, row, rfl, ⟨dx, am, h1, h2⟩, hne, lq, k⟩ := h
    refine ⟨_, (L2.pss_one (ps_ret (pe_tup (L2.pa_cons (pe_fld (pv 0) rfl) (L2.pa_cons (L2.pe_ix L2.ix_tup (pe_fld (pv 0) rfl) (pe_un un_neg pe_int) (fun _ _ => rfl)) (L2.pa_cons (pe_slice sl_list (pv 1) (po_some (pe_fld (pv 0) rfl)) (po_some (pe_op op_add (pe_fld (pv 0) rfl) (pe_fld (pv 0) rfl)))) L2.pa_nil)))))), ?_⟩
    obtain ⟨m0, mt0, e⟩ : ∃ m0 t, x.2 = m0 :: t := by cases hx : x.2 with
      | nil => exact absurd hx hne
      | cons m0 t => exact ⟨m0, t, rfl⟩
    have h2' := h2
    rw [e, mt_cons] at h2'
    refine ⟨_, rfl, q, C, dx, _, _, rfl, h1, T.cl, T.nK, pf_K, _, rfl, q, C, dx, _, _, rfl, h1, T.cl, T.nM, pf_M, _, rfl, am, _, _, _, rfl, rfl, SqT.of h2', atI_last _ _, ?_⟩
    refine ⟨_, rfl, _, rfl, q, C, dx, _, _, rfl, h1, T.cl, T.nP, pf_P, _, rfl, _, rfl, q, C, dx, _, _, rfl, h1, T.cl, T.nP, pf_P, _, rfl, q, C, dx, _, _, rfl, h1, T.cl, T.nL, pf_L, _, _, rfl, rfl, _, rfl, a, _, rfl, lq, fun b hb => ?_⟩
    dsimp only []
    have ec : cutV (ivs row) (some (x.1.i : Int)) (some ((x.1.i : Int) + (x.1.n : Int))) = ivs (bytesOf row x.1) := by
      rw [← Int.natCast_add, cut_both, Nat.add_sub_cancel_left, ivs_drop, ivs_take]; rfl
    rw [ec]
    refine ⟨by show 3 ≤ sizeLine; decide, fun p hp => ?_⟩
    refine k _ p b ((Same.upd _ hb).trans (Same.upd _ hp)) ((Same.upd _ hb).free hp) hb ?_ (Same.upd _ hp _ _ upd_same)
    rw [upd_same, e]; rfl
theorem scWordsIn : FnScope ["pieces", "row", "piece"] ["pieces", "row"] (defScope sWordsIn) := ⟨rfl, rfl, rfl, by decide +kernel, rfl, by decide +kernel, by decide +kernel⟩
theorem ok_wordsIn {f f1 : Addr} {fd fd1 : FuncData} (F : Fun K "words_in" "words_in" sWordsIn f fd) (T : Cp K C) (TC : Txc mg) (D1 : Df K mg "word_of" sWordOf ["piece", "row"] f1 fd1) : FnOk P w K mg base CX0 2 f fd ["pieces", "row"] (spWordsIn K C) := by
  obtain ⟨t1, m1⟩ := TC.NOTHING
  have G1 : FnOk P w K mg base CX0 1 f1 fd1 ["piece", "row"] (spWordOf K C) := ok_wordOf D1.F T
  refine F.ok scWordsIn (fun vs H Q E h => ?_) (fun cdv A outer s H vs Q E hr h => ?_)
  · obtain ⟨aP, a, qs, xs, row, rfl, _⟩ := h; rfl
  · obtain ⟨aP, a, qs, xs, row, rfl, lq, hps, hne, hlen, la, k⟩ := h
    have nd := scWordsIn.nd
    refine ⟨_, (L2.pss_one (ps_ret (pe_lc (own := [("piece", 2)]) (g := gName 2) (te := tCall (spWordOf K C) [] E (tCons (tVar 2) (tCons (tVar 1) tNil))) rfl nd (pi_list (pv 0)) (blkOk_by (N := ["pieces", "row", "piece"]) (sc := defScope sWordsIn) (by decide +kernel))
      (fun _ _ _ _ _ => pg_name (i := 2) nd rfl (Or.inl rfl)) (fun _ _ _ _ _ => pts_one (t := tTest (tOp rNe (tFld K (tVar 2) "kind") (tC (.int 64)))) ((L2.pt_cmpR op_ne (pe_fld (pv 2) rfl) (pgc m1) (L2.nomark _)))) (fun _ _ _ _ _ => (L2.pe_call G1 hr (by rfl) (Mp.Df.g D1) (Mp.Df.F D1).kp (Mp.Df.b D1) .nil L2.pass0 (L2.pa_cons (pv 2) (L2.pa_cons (pv 1) L2.pa_nil))))))), ?_⟩
    refine ⟨_, rfl, aP, rfl, ⟨_, lq⟩, fun D hD => ?_⟩
    refine lc_list (K := K) (a := aP) (xs := qs.map V.ref) (fun i H' => ∃ ws, H' D = some (.lst (ws.map V.ref)) ∧ (∀ b o, H b = some o → H' b = some o) ∧ WordsAre H' ws (((xs.take i).filter fun x => x.1.kind != 64).map (wordOf row)) ∧ ws.length ≤ i) ⟨[], upd_same, Same.upd _ hD, ⟨rfl, fun i q x e => by simp at e⟩, Nat.zero_le _⟩ ?_ ?_ ?_
    · rintro i H' _ ⟨_, _, s, _⟩; exact (show Same H H' from s).seq lq
    · rintro i y H' hi ⟨ws, hD', s, hws, hle⟩
      obtain ⟨q, hq, rfl⟩ := refs_at hi
      obtain ⟨x, hx, hpx⟩ := hps.get hq
      have hpx' : PieceAt C H' q x := by
        obtain ⟨dx, am, h1, h2⟩ := hpx; exact ⟨dx, am, s _ _ h1, s _ _ h2⟩
      obtain ⟨dx, am, h1, h2⟩ := id hpx'
      have hlt := (List.getElem?_eq_some_iff.mp hq).1
      have etake : ((xs.take (i + 1)).filter fun x => x.1.kind != 64).map (wordOf row) = ((xs.take i).filter fun x => x.1.kind != 64).map (wordOf row) ++ ([x].filter fun x => x.1.kind != 64).map (wordOf row) := by
        obtain ⟨l1, e1⟩ := List.getElem?_eq_some_iff.mp hx
        rw [List.take_succ_eq_append_getElem l1, List.filter_append, List.map_append, e1]
      refine ⟨rfl, _, rfl, q, C, dx, _, _, rfl, h1, T.cl, T.nK, pf_K, rfl, _, rfl, ?_⟩
      rw [show decide (V.int (x.1.kind : Int) = V.int 64) = decide (x.1.kind = 64) from dec_iv x.1.kind 64]
      by_cases h64 : x.1.kind = 64
      · rw [decide_eq_true h64]
        refine iteF ⟨ws, hD', s, ?_, by omega⟩
        rw [etake]; simp [h64]; exact hws
      · rw [decide_eq_false h64]
        refine iteT ⟨_, rfl, _, rfl, q, a, x, row, rfl, hpx', hne x (List.mem_of_getElem? hx), (show Same H H' from s).seq la, fun H2 p b s2 np nb hw hwb => ⟨ws.map V.ref, s2 _ _ hD', ?_, ws ++ [p], ?_, ?_, ?_, ?_⟩⟩
        · rw [List.length_map]; exact Nat.lt_of_le_of_lt (Nat.le_trans hle (Nat.le_of_lt hlt)) (Nat.lt_of_le_of_lt hlen (by decide))
        · rw [upd_same, List.map_append]; rfl
        · intro b o e
          rw [upd_ne (ne_of_none e hD)]; exact s2 _ _ (s _ _ e)
        · rw [etake]
          have e1 : ([x].filter fun x => x.1.kind != 64).map (wordOf row) = [wordOf row x] := by simp [h64]
          rw [e1]
          have hbD : b ≠ D := fun z => by rw [z, hD'] at nb; cases nb
          have hpD : p ≠ D := fun z => by rw [z, hD'] at np; cases np
          refine WordsAre.snoc ⟨hws.len, fun j q' x' e1 e2 => ?_⟩ ⟨b, by rw [upd_ne hpD]; exact hw, by rw [upd_ne hbD]; exact hwb⟩
          obtain ⟨b', g1, g2⟩ := hws.ix j q' x' e1 e2
          refine ⟨b', ?_, ?_⟩
          · rw [upd_ne (ne_of g1 hD' (by intro z; cases z))]; exact s2 _ _ g1
          · have : b' ≠ D := fun z => by
              rw [z, hD'] at g2
              have g2 := Option.some.inj g2
              injection g2 with g2
              rw [ivs_refs g2.symm] at e1; simp at e1
            rw [upd_ne this]; exact s2 _ _ g2
        · rw [List.length_append]; show ws.length + 1 ≤ i + 1; omega
    · rintro H' ⟨ws, hD', s, hws, _⟩
      rw [List.length_map, hps.len, List.take_length] at hws
      exact k H' D ws s hD hD' hws
end
end Mp

-- MpWay
set_option maxRecDepth 100000
set_option maxHeartbeats 4000000
set_option exponentiation.threshold 3000
/-! A way to write the first words; what's certain of its tail is cut. -/
namespace Mp
open PySem PySem.Spec PyProof.Rows L2
open Sq17 (Piece Word bytesOf)
open Mx (okR bm MOk pieceOf bmZ Wy Ends W)

abbrev sWay : Stmt := top 46
abbrev sWInit : Stmt := inClass sWay 0
abbrev sOutlook : Stmt := inClass sWay 1
abbrev sFollow : Stmt := inClass sWay 2
abbrev sFinish : Stmt := inClass sWay 3
abbrev sCutOn : Stmt := inClass sWay 4
abbrev sBestPlaces : Stmt := top 47
abbrev sMore : Stmt := top 48
abbrev sRank : Stmt := top 49
abbrev sWrite : Stmt := top 50

structure Cw (K : PySem.W.Frag) (C : Addr) : Prop where
  cl : Cls K C
  nP : NoAttr K C "places"
  nT : NoAttr K C "tail"
  nM : NoAttr K C "modes"
  nD : NoAttr K C "done"

def wf (pa ta ma : Addr) (done : Nat) : List (Str × V) := [("places", .ref pa), ("tail", .ref ta), ("modes", .ref ma), ("done", iv done)]
theorem wf_P {a b c d} : (wf a b c d).lookup ("places" : Str) = some (.ref a) := lk_here
theorem wf_T {a b c d} : (wf a b c d).lookup ("tail" : Str) = some (.ref b) := (lk_past (by decide +kernel)).trans lk_here
theorem wf_M {a b c d} : (wf a b c d).lookup ("modes" : Str) = some (.ref c) := (lk_past (by decide +kernel)).trans ((lk_past (by decide +kernel)).trans lk_here)
theorem wf_D {a b c d} : (wf a b c d).lookup ("done" : Str) = some (iv d) := (lk_past (by decide +kernel)).trans ((lk_past (by decide +kernel)).trans ((lk_past (by decide +kernel)).trans lk_here))
theorem wf_no {a b c d} {m : Str} (h1 : (m == ("places" : Str)) = false := by decide +kernel) (h2 : (m == ("tail" : Str)) = false := by decide +kernel) (h3 : (m == ("modes" : Str)) = false := by decide +kernel) (h4 : (m == ("done" : Str)) = false := by decide +kernel) : (wf a b c d).lookup m = none :=
  (lk_past h1).trans ((lk_past h2).trans ((lk_past h3).trans ((lk_past h4).trans rfl)))
theorem wf_new (a b c : Addr) (d : Nat) : putF "done" (iv d) (putF "modes" (.ref c) (putF "tail" (.ref b) (putF "places" (.ref a) []))) = wf a b c d := by
  have e1 : putF "places" (.ref a) [] = [(("places" : Str), V.ref a)] := rfl
  have e2 : putF "tail" (.ref b) ([(("places" : Str), V.ref a)] : List (Str × V)) = ([("places", .ref a), ("tail", .ref b)] : List (Str × V)) := by rw [put_past (by decide +kernel)]; rfl
  have e3 : putF "modes" (.ref c) ([("places", .ref a), ("tail", .ref b)] : List (Str × V)) = ([("places", .ref a), ("tail", .ref b), ("modes", .ref c)] : List (Str × V)) := by rw [put_past (by decide +kernel), put_past (by decide +kernel)]; rfl
  rw [e1, e2, e3]
  rw [put_past (by decide +kernel), put_past (by decide +kernel), put_past (by decide +kernel)]; rfl
theorem wf_putT {a b c d} (t : Addr) : putF "tail" (.ref t) (wf a b c d) = wf a t c d := by unfold wf; rw [put_past (by decide +kernel), put_here]
theorem wf_putM {a b c d} (t : Addr) : putF "modes" (.ref t) (wf a b c d) = wf a b t d := by unfold wf; rw [put_past (by decide +kernel), put_past (by decide +kernel), put_here]
theorem wf_putD {a b c d} (t : Nat) : putF "done" (iv t) (wf a b c d) = wf a b c t := by unfold wf; rw [put_past (by decide +kernel), put_past (by decide +kernel), put_past (by decide +kernel), put_here]

def WayAt (C : Addr) (H : Hp) (x : Addr) (w : Wy) : Prop := ∃ dx pa ta ma, H x = some (.ins C dx (wf pa ta ma w.done)) ∧ H pa = some (.tup (ivs w.places)) ∧ H ta = some (.lst (ivs w.tail)) ∧ H ma = some (.tup (mt w.modes))
/-- what a way keeps -/
structure WyOk (n b : Nat) (w : Wy) : Prop where
  d : w.done ≤ n
  m : w.modes ≠ []
  m16 : w.modes.length ≤ 16
  t : ∀ x ∈ w.tail, x < 256
  tl : w.tail.length ≤ b

def spWInit (C : Addr) : Sp := fun vs H Q _ => ∃ (x dx a b c d : Nat), vs = [.ref x, .ref a, .ref b, .ref c, iv d] ∧ H x = some (.ins C dx []) ∧ ∀ H', H' x = some (.ins C dx (wf a b c d)) → Aside x H H' → Q .non H'

/-! ### words compared -/
def wData (x : Word) : PyData := .tuple [.int (x.1 : Int), .int (x.2.1 : Int), .list (dI x.2.2)]
theorem dI_depth (l : List Nat) : PyData.depth (.list (dI l)) ≤ 1 := by
  have h := dI_lay l
  simp only [PyData.depth]; omega
theorem wData_lay (x : Word) : PyData.canLay0 (wData x) = true ∧ PyData.depth (wData x) ≤ 2 := by
  have h := dI_lay x.2.2
  unfold wData
  refine ⟨?_, ?_⟩
  · simp only [PyData.canLay0, PyData.canLayAll0, h.1, Bool.and_true]
  · simp only [PyData.depth, PyData.depthAll]; omega
theorem wDatas_lay : ∀ l : List Word, PyData.canLayAll0 (l.map wData) = true ∧ PyData.depthAll (l.map wData) ≤ 2
  | [] => ⟨rfl, Nat.zero_le _⟩
  | x :: l => by
    have h := wData_lay x
    have ih := wDatas_lay l
    refine ⟨?_, ?_⟩
    · simp only [List.map_cons, PyData.canLayAll0, h.1, ih.1, Bool.and_true]
    · simp only [List.map_cons, PyData.depthAll]; omega
theorem wDatas_shaped (l : List Word) : SeqAt.shaped (.list (l.map wData)) = true := by
  have h := wDatas_lay l
  unfold SeqAt.shaped
  have h1 : PyData.canLay0 (.list (l.map wData)) = true := by simp only [PyData.canLay0]; exact h.1
  have h2 : PyData.depth (.list (l.map wData)) ≤ 64 := by simp only [PyData.depth]; omega
  rw [h1, decide_eq_true h2]; rfl
theorem int_eqv (a b : Nat) : PyData.eqv (.int (a : Int)) (.int (b : Int)) = decide (a = b) := by
  simp only [PyData.eqv]
  rw [Bool.eq_iff_iff, beq_iff_eq, decide_eq_true_eq]; omega
theorem wData_eqv (x y : Word) : PyData.eqv (wData x) (wData y) = decide (x = y) := by
  obtain ⟨a, b, c⟩ := x
  obtain ⟨d, e, f⟩ := y
  have h : PyData.eqv (.list (dI c)) (.list (dI f)) = decide (c = f) := by
    show PyData.eqvAll (dI c) (dI f) = _
    rw [dI_eqv]
  show PyData.eqvAll [.int (a : Int), .int (b : Int), .list (dI c)] [.int (d : Int), .int (e : Int), .list (dI f)] = _
  simp only [PyData.eqvAll, int_eqv, h, Bool.and_true]
  rw [Bool.eq_iff_iff]; simp
theorem wDatas_eqv : ∀ l m : List Word, PyData.eqvAll (l.map wData) (m.map wData) = decide (l = m)
  | [], [] => rfl
  | [], _ :: _ => by simp [PyData.eqvAll]
  | _ :: _, [] => by simp [PyData.eqvAll]
  | a :: l, b :: m => by
    show (PyData.eqv (wData a) (wData b) && PyData.eqvAll (l.map wData) (m.map wData)) = _
    rw [wDatas_eqv l m, wData_eqv, Bool.eq_iff_iff]; simp
theorem WordAt.dp {K : PySem.W.Frag} {H : Hp} {q : Addr} {x : Word} (h : WordAt H q x) : Dp K H (.ref q) (wData x) := by
  obtain ⟨b, h1, h2⟩ := h
  exact .tup (SqT.of h1) (.cons (.int _) (.cons (.int _) (.cons (.lst (sqL_of h2) (dpAll K H _)) .nil)))
theorem dpWords {K : PySem.W.Frag} {H : Hp} : ∀ (qs : List Addr) (xs : List Word), WordsAre H qs xs → DpAll K H (qs.map V.ref) (xs.map wData)
  | [], [], _ => .nil
  | q :: qs, x :: xs, h => .cons (h.ix 0 q x rfl rfl).dp (dpWords qs xs ⟨by simpa using h.len, fun i q x e1 e2 => h.ix (i + 1) q x (by simpa using e1) (by simpa using e2)⟩)
  | [], _ :: _, h => by have := h.len; simp at this
  | _ :: _, [], h => by have := h.len; simp at this
theorem WordsAre.part {H : Hp} {qs : List Addr} {xs : List Word} (h : WordsAre H qs xs) (i j : Nat) : WordsAre H ((qs.drop i).take j) ((xs.drop i).take j) := ⟨by simp [h.len], fun k q x e1 e2 => by
  rw [List.getElem?_take] at e1 e2
  split at e1
  · next hk =>
    rw [if_pos hk] at e2
    rw [List.getElem?_drop] at e1 e2
    exact h.ix _ q x e1 e2
  · cases e1⟩
theorem refs_drop (l : List Addr) (i : Nat) : (l.map V.ref).drop i = (l.drop i).map V.ref := (List.map_drop).symm
theorem refs_take (l : List Addr) (i : Nat) : (l.map V.ref).take i = (l.take i).map V.ref := (List.map_take).symm

/-! ### a step of the cutting -/
theorem cons_eq {x : Word} {r d : List Word} : x :: r = d ↔ d.take 1 = [x] ∧ r = d.drop 1 := by
  cases d with
  | nil => simp
  | cons y d => simp [eq_comm, and_comm]
section
variable {P : Program} {w : World} {K : PySem.W.Frag} {mg : Str → Option Value} {base : Heap} {CR CM CL CP C : Addr}
theorem scWInit : FnScope ["self", "places", "tail", "modes", "done"] ["self", "places", "tail", "modes", "done"] (defScope sWInit) := ⟨rfl, rfl, rfl, by decide +kernel, rfl, by decide +kernel, by decide +kernel⟩
theorem ok_wInit {f : Addr} {fd : FuncData} (F : Fun K "__init__" "Way.__init__" sWInit f fd) (T : Cw K C) : FnOk P w K mg base CX0 1 f fd ["self", "places", "tail", "modes", "done"] (spWInit C) := by
  refine F.ok scWInit (fun vs H Q E h => ?_) (fun cdv A outer s H vs Q E hr h => ?_)
  · obtain ⟨x, dx, a, b, c, d, rfl, _⟩ := h; rfl
  · obtain ⟨x, dx, a, b, c, d, rfl, hx, k⟩ := h
    refine ⟨_, (L2.pss_cons (ps_fld (pv 0) (pv 1) rfl)
      (L2.pss_cons (ps_fld (pv 0) (pv 2) rfl)
      (L2.pss_cons (ps_fld (pv 0) (pv 3) rfl)
      (L2.pss_one (ps_fld (pv 0) (pv 4) rfl))))), ?_⟩
    refine ⟨_, rfl, _, rfl, x, C, dx, [], rfl, hx, T.cl, T.nP, (by show 0 < 1000; decide), ?_⟩
    refine ⟨_, rfl, _, rfl, x, C, dx, _, rfl, upd_same, T.cl, T.nT, (by show 1 < 1000; decide), ?_⟩
    rw [upd_upd]
    refine ⟨_, rfl, _, rfl, x, C, dx, _, rfl, upd_same, T.cl, T.nM, len3 _ _ _ _, ?_⟩
    rw [upd_upd]
    refine ⟨_, rfl, _, rfl, x, C, dx, _, rfl, upd_same, T.cl, T.nD, len2 _ _ _ _ _ _, ?_⟩
    rw [upd_upd, wf_new]
    exact k _ upd_same (fun p o e n => by rw [upd_ne n]; exact e)
end
end Mp

-- MpCutOn
set_option maxRecDepth 100000
set_option maxHeartbeats 4000000
set_option exponentiation.threshold 3000
/-! What's certain of a way's tail is cut. -/
namespace Mp
open PySem PySem.Spec PyProof.Rows L2
open Sq17 (Piece Word bytesOf)
open Mx (okR bm MOk pieceOf bmZ Wy Ends W)

theorem while_to {c : TT} {tb : TS} {D : Ends} {σ : L2.St} {H : Hp} (Pv R : L2.St → Hp → Prop) (μ : L2.St → Hp → Nat) (h0 : Pv σ H)
    (hs : (∀ σ H, R σ H → D.nx σ H) → ∀ σ H, Pv σ H → c σ H fun b H1 => if b = true then tb { D with nx := fun σ' H' => Pv σ' H' ∧ μ σ' H' < μ σ H, ct := fun σ' H' => Pv σ' H' ∧ μ σ' H' < μ σ H, bk := D.nx } σ H1 else D.nx σ H1)
    (mono : ∀ σ H Q Q', (∀ b H1, Q b H1 → Q' b H1) → c σ H Q → c σ H Q') (hR : ∀ σ H, R σ H → D.nx σ H) : tWhile c tb D σ H := while_by Pv μ h0 (hs hR) mono

/-- a step of the cutting, and the words that are wanted -/
theorem ends_step {xs : List (Sq17.Rule × Mx.Mat)} (h : ∀ x ∈ xs, okR x) {l m : List Nat} (hl : l ≠ []) {b : Option (Nat × Nat) × Nat} (hb : b.1 = (bm (m.headD 0) l xs).1) (at_ : Nat) (ext : List Nat) (he : (bm (m.headD 0) l xs).2 ≤ l.length ∨ ext = []) (r : List Word) :
    if (pieceOf (xs.map (·.1)) b at_ m).1.kind = 64 then (W (xs.map (·.1)) (l ++ ext) m = r ↔ W (xs.map (·.1)) (l.drop (pieceOf (xs.map (·.1)) b at_ m).1.n ++ ext) (pieceOf (xs.map (·.1)) b at_ m).2 = r)
    else (W (xs.map (·.1)) (l ++ ext) m = r ↔ r.take 1 = [((pieceOf (xs.map (·.1)) b at_ m).1.kind, m.headD 0, l.take (pieceOf (xs.map (·.1)) b at_ m).1.n)] ∧ W (xs.map (·.1)) (l.drop (pieceOf (xs.map (·.1)) b at_ m).1.n ++ ext) (pieceOf (xs.map (·.1)) b at_ m).2 = r.drop 1) := by
  obtain ⟨e1, e2, e3⟩ := Mx.pieceOf_one (xs.map (·.1)) hb at_ m
  rw [e1, e2, e3, Mx.W_step h hl m ext he at_]
  unfold Mx.wordHere
  split
  · rfl
  · rw [List.singleton_append]; exact cons_eq

def spCutOn (K : PySem.W.Frag) (CR CM CL CP C : Addr) : Sp := fun vs H Q _ => ∃ (G : Gh) (x aR aF aW : Addr) (whole : Bool) (rs fa qs : List Addr) (xs : List (Sq17.Rule × Mx.Mat)) (fs : List (List Nat)) (ws : List Word) (w : Wy) (n : Nat), vs = [.ref x, .ref aR, .ref aF, .ref aW, .bl whole] ∧ Wld G H ∧ H aR = some (.lst (rs.map V.ref)) ∧ RulesIn G CR CM CL H rs xs ∧ (∀ x ∈ xs, RuleOk x) ∧
  H aF = some (.lst (fa.map V.ref)) ∧ FitsIn H fa fs ∧ fs = xs.map (fun x => if whole = true then x.2.prom w.tail else x.2.fits w.tail) ∧ H aW = some (.lst (qs.map V.ref)) ∧ WordsAre H qs ws ∧ WayAt C H x w ∧ WyOk ws.length n w ∧
  (∀ H' v, Go G [x] H H' → WayAt C H' x v → WyOk ws.length n v → v.places = w.places → (∀ ext, (whole = true → ext = []) → (Ends (xs.map (·.1)) ws w ext ↔ Ends (xs.map (·.1)) ws v ext)) → (whole = true → v.tail = []) → Q (.bl true) H') ∧
  (∀ H', Go G [x] H H' → (∃ v, WayAt C H' x v) → (∀ ext, (whole = true → ext = []) → ¬ Ends (xs.map (·.1)) ws w ext) → Q (.bl false) H')

section
variable {P : Program} {w : World} {K : PySem.W.Frag} {mg : Str → Option Value} {base : Heap} {CR CM CL CP C : Addr}
/-- at the loop's head -/
structure OnAt (G : Gh) (C : Addr) (H0 : Hp) (x dx pa ta : Addr) (xs : List (Sq17.Rule × Mx.Mat)) (ws : List Word) (w : Wy) (whole : Bool) (at_ d : Nat) (m : List Nat) (H : Hp) : Prop where
  g : Go G [x] H0 H
  o : ∃ ma, H x = some (.ins C dx (wf pa ta ma d)) ∧ H ma = some (.tup (mt m))
  ne : m ≠ []
  m16 : m.length ≤ 16
  la : at_ ≤ w.tail.length
  ld : d ≤ ws.length
  iff : ∀ ext, (whole = true → ext = []) → (Ends (xs.map (·.1)) ws w ext ↔ W (xs.map (·.1)) (w.tail.drop at_ ++ ext) m = ws.drop d)
theorem scCutOn : FnScope ["self", "rules", "fits", "words", "whole", "at", "piece", "following"] ["self", "rules", "fits", "words", "whole"] (defScope sCutOn) := ⟨rfl, rfl, rfl, by decide +kernel, rfl, by decide +kernel, by decide +kernel⟩
theorem ok_cutOn {f f1 f2 : Addr} {fd fd1 fd2 : FuncData} (F : Fun K "cut_on" "Way.cut_on" sCutOn f fd) (T : Cw K C) (TX : Txt K mg) (TC : Txc mg) (TP : Cp K CP)
    (D1 : Df K mg "cut_one" sCutOne ["rules", "fits", "modes", "at"] f1 fd1) (G1 : FnOk P w K mg base CX0 6 f1 fd1 ["rules", "fits", "modes", "at"] (spCutOne CR CM CL CP))
    (D2 : Df K mg "word_of" sWordOf ["piece", "row"] f2 fd2) : FnOk P w K mg base CX0 7 f fd ["self", "rules", "fits", "words", "whole"] (spCutOn K CR CM CL CP C) := by
  obtain ⟨t1, m1⟩ := TC.NOTHING
  have G2 : FnOk P w K mg base CX0 1 f2 fd2 ["piece", "row"] (spWordOf K CP) := ok_wordOf D2.F TP
  refine F.ok scCutOn (fun vs H Q E h => ?_) (fun cdv A outer s H vs Q E hr h => ?_)
  · obtain ⟨G, x, aR, aF, aW, whole, rs, fa, qs, xs, fs, ws, w, n, rfl, _⟩ := h; rfl
  · obtain ⟨G, x, aR, aF, aW, whole, rs, fa, qs, xs, fs, ws, wy, n, rfl, wl, hR, hrs, hok, hF, hfa, hfs, hW, hws, ⟨dx, pa, ta, ma, hx, hpa, hta, hma⟩, hwy, kT, kF⟩ := h
    have nd := scCutOn.nd
    have hr1 : Room 1 _ := hr.mono (by decide)
    have hr6 : Room 6 _ := hr.mono (by decide)
    have hokR : ∀ x ∈ xs, okR x := fun x hx => (hok x hx).r
    have hx0 : ∃ c d f, H x = some (.ins c d f) := ⟨_, _, _, hx⟩
    have hways : Ways H [x] := fun b hb => by simp at hb; subst hb; exact ⟨_, _, _, _, hx⟩
    refine ⟨_, (L2.pss_cons (L2.ps_set (i := 5) nd rfl (Or.inl rfl) pe_int)
      (L2.pss_cons (ps_while PassesOwn.never ((L2.pt_cmpR op_lt (pv 5) (L2.pe_callB L2.call_len_seq (by rfl) TX.len PySem.boot_len (L2.pa_cons (pe_fld (pv 0) rfl) L2.pa_nil)) (L2.nomark _))) (L2.pss_cons (ps_asg ((L2.pe_call G1 hr6 (by rfl) (Mp.Df.g D1) (Mp.Df.F D1).kp (Mp.Df.b D1) .nil L2.pass0 (L2.pa_cons (pv 1) (L2.pa_cons (pv 2) (L2.pa_cons (pe_fld (pv 0) rfl) (L2.pa_cons (pv 5) L2.pa_nil)))))) (pg_tup rfl (pgs_cons (pg_name (i := 6) nd rfl (Or.inl rfl)) (pgs_cons (pg_name (i := 7) nd rfl (Or.inl rfl)) pgs_nil))))
      (L2.pss_cons (L2.ps_if (PW.pt (pw_and ((L2.pt_cmpR op_gt (pe_fld (pv 6) rfl) (L2.pe_callB L2.call_len_seq (by rfl) TX.len PySem.boot_len (L2.pa_cons (pe_fld (pv 0) rfl) L2.pa_nil)) (L2.nomark _))) (pw_and1 (pt_not (pt_val (pv 4)))))) (L2.pss_one ps_break) L2.pss_nil)
      (L2.pss_cons (L2.ps_if (L2.pt_cmpR op_ne (pe_fld (pv 6) rfl) (pgc m1) (L2.nomark _)) (L2.pss_cons (L2.ps_if (L2.pt_cmpR (op_neD hr.units) (pe_slice sl_list (pv 3) (po_some (pe_fld (pv 0) rfl)) (po_some (pe_op op_add (pe_fld (pv 0) rfl) pe_int))) (pe_lst (L2.pa_cons (L2.pe_call G2 hr1 (by rfl) (Mp.Df.g D2) (Mp.Df.F D2).kp (Mp.Df.b D2) .nil L2.pass0 (L2.pa_cons (pv 6) (L2.pa_cons (pe_fld (pv 0) rfl) L2.pa_nil))) L2.pa_nil)) (L2.nomark _)) (L2.pss_one (ps_ret pe_bl)) L2.pss_nil)
      (L2.pss_one (ps_fldaug (pv 0) pe_int in_add))) L2.pss_nil)
      (L2.pss_cons (ps_fld (pv 0) (pv 7) rfl)
      (L2.pss_one (ps_aug (i := 5) nd rfl (Or.inl rfl) (pe_fld (pv 6) rfl) ip_add)))))))
      (L2.pss_cons (ps_fld (pv 0) (pe_slice sl_list (pe_fld (pv 0) rfl) (po_some (pv 5)) po_none) rfl)
      (L2.pss_one (ps_ret pe_bl))))), ?_⟩
    dsimp only [gName, tSeq, tAsg, tC]
    refine while_to (fun σ H' => ∃ (at_ d : Nat) (m : List Nat) (v6 v7 : Option V), σ = [some (.ref x), some (.ref aR), some (.ref aF), some (.ref aW), some (.bl whole), some (iv at_), v6, v7] ∧ OnAt G C H x dx pa ta xs ws wy whole at_ d m H')
      (fun σ H' => ∃ (at_ d : Nat) (m : List Nat) (v6 v7 : Option V), σ = [some (.ref x), some (.ref aR), some (.ref aF), some (.ref aW), some (.bl whole), some (iv at_), v6, v7] ∧ OnAt G C H x dx pa ta xs ws wy whole at_ d m H' ∧ (whole = true → at_ = wy.tail.length)) (cutMu wy.tail)
      ⟨0, wy.done, wy.modes, none, none, rfl, .refl wl _, ⟨ma, hx, hma⟩, hwy.m, hwy.m16, Nat.zero_le _, hwy.d, fun ext _ => Iff.rfl⟩ ?_ ?_ ?_
    · rintro stop σ H1 ⟨at_, d, m, v6, v7, rfl, g1, ⟨ma1, hx1, hma1⟩, hne, h16, hat, hd, hiff⟩
      have hta1 := g1.atx hx0 hta
      refine ⟨_, rfl, _, rfl, x, C, dx, _, _, rfl, hx1, T.cl, T.nT, wf_T, ta, _, rfl, .inl (sqL_of hta1), _, _, rfl, rfl, _, rfl, ?_⟩
      rw [ivs_len, dec_iv']
      by_cases hlt : at_ < wy.tail.length
      · rw [decide_eq_true hlt]
        have hl : wy.tail.drop at_ ≠ [] := fun z => by
          have := congrArg List.length z; simp only [List.length_drop, List.length_nil] at this; omega
        have hll : (wy.tail.drop at_).length = wy.tail.length - at_ := List.length_drop
        have hR1 := g1.atx hx0 hR
        have hrs1 := hrs.std (g1.std hways)
        refine iteT ⟨_, rfl, _, rfl, _, rfl, x, C, dx, _, _, rfl, hx1, T.cl, T.nM, wf_M, _, rfl, ?_⟩
        have hff : FitsFor wy.tail.length xs fs := by
          rw [hfs]
          cases whole with
          | true => exact fitsFor_prom (fun x hx => (hok x hx).m) _
          | false => exact fitsFor_fits (fun x hx => (hok x hx).m) _
        refine ⟨G, aR, aF, ma1, at_, wy.tail.length, rs, fa, xs, fs, m, rfl, g1.w', hR1, hrs1, hok, g1.atx hx0 hF, hfa.mono fun _ _ e => g1.atx hx0 e, hff, hat, hma1, hne, h16, fun H2 p q dq am g2 np nq hp hq ham => ?_⟩
        -- what is found at the place, and that it's what is due
        have hb1 : (bmZ (m.headD 0) at_ xs fs).1 = (bm (m.headD 0) (wy.tail.drop at_) xs).1 := by
          rw [hfs]
          cases whole with
          | true => exact Mx.bmZ_prom _ _ _ (fun x hx => (hok x hx).m.rev) _
          | false => exact congrArg Prod.fst (Mx.bmZ_fits _ _ _ _)
        have hb2 : whole = false → (bmZ (m.headD 0) at_ xs fs).2 = (bm (m.headD 0) (wy.tail.drop at_) xs).2 := by
          intro hw; subst hw; rw [hfs]; exact congrArg Prod.snd (Mx.bmZ_fits _ _ _ _)
        have hn := Mx.pieceOf_n hokR hl m at_
        rw [← (Mx.pieceOf_one (xs.map (·.1)) hb1 at_ m).2.1] at hn
        have hms := pieceOf_ms (rules := xs.map (·.1)) (b := bmZ (m.headD 0) at_ xs fs) (at_ := at_) hne h16
        have hpi := (Mx.pieceOf_i (xs.map (·.1)) (bmZ (m.headD 0) at_ xs fs) at_ m)
        have step := ends_step hokR hl hb1 at_
        generalize bmZ (m.headD 0) at_ xs fs = b at *
        generalize pieceOf (xs.map (·.1)) b at_ m = y at *
        have g12 := g1.trans (g2.wide [x])
        have hx2 := g2.at0 hx1
        have hta2 := g2.at0 hta1
        have hma2 := g2.at0 hma1
        refine ⟨p, _, rfl, .inl (.inl hp), rfl, _, _, rfl, _, _, rfl, rfl, ?_⟩
        dsimp only [gName]
        apply if_ev (decide (wy.tail.length < at_ + b.2) && !whole) H2
        · intro Q' q'
          refine ⟨_, rfl, q, CP, dq, _, _, rfl, hq, TP.cl, TP.nF, pf_F, _, rfl, x, C, dx, _, _, rfl, hx2, T.cl, T.nT, wf_T, ta, _, rfl, .inl (sqL_of hta2), _, _, rfl, rfl, _, rfl, ?_⟩
          rw [ivs_len, dec_iv']
          cases hc : decide (wy.tail.length < at_ + b.2) with
          | true => rw [hc] at q'; exact iteT ⟨_, rfl, _, rfl, q'⟩
          | false => rw [hc] at q'; exact iteF q'
        refine ite2 (fun c => ?_) (fun c => ?_)
        · rw [Bool.and_eq_true] at c
          have hw : whole = false := by cases whole with
            | true => have := c.2; simp at this
            | false => rfl
          exact stop _ _ ⟨at_, d, m, some (.ref q), some (.ref am), rfl, ⟨g12, ⟨ma1, hx2, hma2⟩, hne, h16, hat, hd, hiff⟩, fun z => by rw [hw] at z; cases z⟩
        -- the piece is certain
        have hcert : ∀ ext : List Nat, (whole = true → ext = []) → ((bm (m.headD 0) (wy.tail.drop at_) xs).2 ≤ (wy.tail.drop at_).length ∨ ext = []) := fun ext he => by
          cases hw : whole with
          | true => exact .inr (he hw)
          | false =>
            have e2 := hb2 hw
            have c2 : ¬ wy.tail.length < at_ + b.2 := fun z => c (by rw [decide_eq_true z, hw]; rfl)
            exact .inl (by rw [hll, ← e2]; omega)
        have eadd : ((at_ : Int) + (y.1.n : Int)) = ((at_ + y.1.n : Nat) : Int) := by omega
        have emu : wy.tail.length - (((at_ : Int) + (y.1.n : Int))).toNat < wy.tail.length - ((at_ : Int)).toNat := by omega
        -- on behind the piece, with so many words done
        have on : ∀ (d' : Nat) (H3 : Hp), Go G [x] H H3 → H3 x = some (.ins C dx (wf pa ta ma1 d')) → H3 am = some (.tup (mt y.2)) → d' ≤ ws.length →
            (∀ ext, (whole = true → ext = []) → (Ends (xs.map (·.1)) ws wy ext ↔ W (xs.map (·.1)) (wy.tail.drop (at_ + y.1.n) ++ ext) y.2 = ws.drop d')) →
            OnAt G C H x dx pa ta xs ws wy whole (at_ + y.1.n) d' y.2 (upd H3 x (.ins C dx (putF "modes" (.ref am) (wf pa ta ma1 d')))) := fun d' H3 g3 hx3 ham3 hd' h' => by
          refine ⟨g3.write _ (g3.w'.no hx3 (by intro _ z; cases z)) (.inl (by simp)), ⟨am, by rw [upd_same, wf_putM], by rw [upd_ne (ne_of ham3 hx3 (by intro z; cases z))]; exact ham3⟩, hms.1, hms.2, by omega, hd', h'⟩
        apply onward
        apply if_ev (!decide (y.1.kind = 64)) H2
        · intro Q' q'
          refine ⟨_, rfl, q, CP, dq, _, _, rfl, hq, TP.cl, TP.nK, pf_K, rfl, ?_⟩
          rw [show decide (V.int (y.1.kind : Int) = V.int 64) = decide (y.1.kind = 64) from dec_iv y.1.kind 64]
          exact ⟨_, rfl, q'⟩
        by_cases h64 : y.1.kind = 64
        · rw [decide_eq_true h64]
          refine iteF ?_
          refine ⟨_, rfl, _, rfl, x, C, dx, _, rfl, hx2, T.cl, T.nM, by show 4 < 1000; decide, ?_⟩
          have o3 := on d H2 g12 hx2 ham hd (fun ext he => by
            have st := step ext (hcert ext he) (ws.drop d)
            rw [if_pos h64] at st
            rw [hiff ext he, st, List.drop_drop])
          have q3 : upd H2 x (.ins C dx (putF "modes" (.ref am) (wf pa ta ma1 d))) q = some (.ins CP dq (pf y.1.kind at_ y.1.n ma1 (at_ + b.2))) := by
            rw [upd_ne (fun z => by rw [z, hx1] at nq; cases nq)]; exact hq
          refine ⟨_, rfl, _, rfl, q, CP, dq, _, _, rfl, q3, TP.cl, TP.nL, pf_L, _, _, rfl, rfl, ?_, emu⟩
          exact ⟨at_ + y.1.n, d, y.2, some (.ref q), some (.ref am), by dsimp only []; rw [eadd]; rfl, o3⟩
        · rw [decide_eq_false h64]
          refine iteT ?_
          have hW2 := g12.atx hx0 hW
          have hws2 : WordsAre H2 qs ws := hws.mono fun b o e ho => g12.atx hx0 e (by
            intro y z; subst z; rcases ho with ⟨_, z⟩ | ⟨_, z⟩ <;> cases z) (by
            intro c d f z; subst z; rcases ho with ⟨_, z⟩ | ⟨_, z⟩ <;> cases z)
          refine ⟨_, rfl, _, rfl, x, C, dx, _, _, rfl, hx2, T.cl, T.nD, wf_D, _, rfl, _, rfl, x, C, dx, _, _, rfl, hx2, T.cl, T.nD, wf_D, _, _, rfl, rfl, _, rfl, aW, _, rfl, sqL_of hW2, fun sl hsl => ?_⟩
          dsimp only []
          have ec : cutV (qs.map V.ref) (some (d : Int)) (some ((d : Int) + 1)) = ((qs.drop d).take 1).map V.ref := by
            rw [show ((d : Int) + 1) = ((d + 1 : Nat) : Int) by omega, cut_both, Nat.add_sub_cancel_left, refs_drop, refs_take]
          rw [ec]
          have s3 := Same.upd (.lst (((qs.drop d).take 1).map V.ref)) hsl
          have e3 : upd H2 sl (.lst (((qs.drop d).take 1).map V.ref)) sl = some (.lst (((qs.drop d).take 1).map V.ref)) := upd_same
          generalize upd H2 sl (.lst (((qs.drop d).take 1).map V.ref)) = H3 at *
          refine ⟨_, rfl, _, rfl, x, C, dx, _, _, rfl, s3 _ _ hx2, T.cl, T.nT, wf_T, ?_⟩
          have hy : H3 q = some (.ins CP dq (pf y.1.kind y.1.i y.1.n ma1 y.1.reach)) := by rw [hpi.1, hpi.2.2]; exact s3 _ _ hq
          refine ⟨q, ta, (y.1, m), wy.tail, rfl, ⟨dq, ma1, hy, s3 _ _ hma2⟩, hne, sqL_of (s3 _ _ hta2), fun H4 pw bw s4 npw nbw hpw hbw => ⟨by show 1 ≤ sizeLine; decide, fun ll hll2 => ?_⟩⟩
          have hword : WordAt H4 pw (y.1.kind, m.headD 0, bytesOf wy.tail y.1) := ⟨bw, hpw, hbw⟩
          have s5 := Same.upd (.lst [.ref pw]) hll2
          have e5 : upd H4 ll (.lst [.ref pw]) ll = some (.lst [.ref pw]) := upd_same
          generalize upd H4 ll (.lst [.ref pw]) = H5 at *
          have s25 := (s3.trans s4).trans s5
          have hbytes : bytesOf wy.tail y.1 = (wy.tail.drop at_).take y.1.n := by unfold bytesOf; rw [hpi.1]
          rw [hbytes] at hword
          have st : ∀ ext, (whole = true → ext = []) → (W (xs.map (·.1)) (wy.tail.drop at_ ++ ext) m = ws.drop d ↔ (ws.drop d).take 1 = [(y.1.kind, m.headD 0, (wy.tail.drop at_).take y.1.n)] ∧ W (xs.map (·.1)) ((wy.tail.drop at_).drop y.1.n ++ ext) y.2 = (ws.drop d).drop 1) := fun ext he => by
            have st := step ext (hcert ext he) (ws.drop d)
            rw [if_neg h64] at st
            exact st
          generalize hwd : ((y.1.kind, m.headD 0, (wy.tail.drop at_).take y.1.n) : Word) = wd at *
          refine ⟨.list (((ws.drop d).take 1).map wData), .list ([wd].map wData), .lst (sqL_of (s4.trans s5 _ _ e3)) (dpWords _ _ ((hws2.part d 1).mono fun b o e _ => s25 _ _ e)), .lst (sqL_of e5) (.cons (hword.mono fun b o e _ => s5 _ _ e).dp .nil), wDatas_shaped _, wDatas_shaped _, ?_⟩
          have eqv : PyData.eqv (.list (((ws.drop d).take 1).map wData)) (.list ([wd].map wData)) = decide ((ws.drop d).take 1 = [wd]) := by
            show PyData.eqvAll _ _ = _
            rw [wDatas_eqv]
          rw [eqv]
          have g15 : Go G [x] H H5 := g12.trans (.of g12.w' s25)
          have hx5 := s25 _ _ hx2
          have ham5 := s25 _ _ ham
          by_cases hsame : (ws.drop d).take 1 = [wd]
          · rw [decide_eq_true hsame]
            have hdl : d < ws.length := by
              by_cases z : d < ws.length
              · exact z
              · rw [List.drop_of_length_le (by omega)] at hsame; simp at hsame
            refine ⟨_, rfl, iteF ⟨_, rfl, x, C, dx, _, _, rfl, hx5, T.cl, T.nD, wf_D, _, _, rfl, rfl, dx, _, hx5, by show 4 < 1000; decide, ?_⟩⟩
            rw [show ((d : Int) + 1) = ((d + 1 : Nat) : Int) by omega, wf_putD]
            have gx : G.d x = none := g15.w'.no hx5 (by intro _ z; cases z)
            have g16 := g15.write (.ins C dx (wf pa ta ma1 (d + 1))) gx (.inl (by simp))
            have hx6 : upd H5 x (.ins C dx (wf pa ta ma1 (d + 1))) x = some (.ins C dx (wf pa ta ma1 (d + 1))) := upd_same
            have ham6 : upd H5 x (.ins C dx (wf pa ta ma1 (d + 1))) am = some (.tup (mt y.2)) := by rw [upd_ne (ne_of ham5 hx5 (by intro z; cases z))]; exact ham5
            have hq6 : upd H5 x (.ins C dx (wf pa ta ma1 (d + 1))) q = some (.ins CP dq (pf y.1.kind at_ y.1.n ma1 (at_ + b.2))) := by
              rw [upd_ne (fun z => by rw [z, hx1] at nq; cases nq)]; exact s25 _ _ hq
            generalize upd H5 x (.ins C dx (wf pa ta ma1 (d + 1))) = H6 at *
            refine ⟨_, rfl, _, rfl, x, C, dx, _, rfl, hx6, T.cl, T.nM, by show 4 < 1000; decide, ?_⟩
            have o3 := on (d + 1) H6 g16 hx6 ham6 (by omega) (fun ext he => by
              rw [hiff ext he, st ext he, List.drop_drop, List.drop_drop]
              exact ⟨fun z => z.2, fun z => ⟨hsame, z⟩⟩)
            have q3 : upd H6 x (.ins C dx (putF "modes" (.ref am) (wf pa ta ma1 (d + 1)))) q = some (.ins CP dq (pf y.1.kind at_ y.1.n ma1 (at_ + b.2))) := by
              rw [upd_ne (fun z => by rw [z, hx1] at nq; cases nq)]; exact hq6
            refine ⟨_, rfl, _, rfl, q, CP, dq, _, _, rfl, q3, TP.cl, TP.nL, pf_L, _, _, rfl, rfl, ?_, emu⟩
            exact ⟨at_ + y.1.n, d + 1, y.2, some (.ref q), some (.ref am), by dsimp only []; rw [eadd]; rfl, o3⟩
          · rw [decide_eq_false hsame]
            refine ⟨_, rfl, iteT ?_⟩
            refine kF H5 g15 ⟨⟨wy.places, wy.tail, m, d⟩, dx, pa, ta, ma1, hx5, ?_, ?_, ?_⟩ (fun ext he z => hsame ((st ext he).mp ((hiff ext he).mp z)).1)
            · exact s25 _ _ (g12.atx hx0 hpa)
            · exact s25 _ _ hta2
            · exact s25 _ _ hma2
      · rw [decide_eq_false hlt]
        exact iteF (stop _ _ ⟨at_, d, m, v6, v7, rfl, ⟨g1, ⟨ma1, hx1, hma1⟩, hne, h16, hat, hd, hiff⟩, fun _ => by omega⟩)
    · rintro σ H Q1 Q2 mm ⟨v1, e1, v2, e2, a1, a2, a3, a4, a5, e3, e4, e5, e6, e7, p, ys, e8, sq, i, j, e9, e10, k2, e11, q⟩
      exact ⟨v1, e1, v2, e2, a1, a2, a3, a4, a5, e3, e4, e5, e6, e7, p, ys, e8, sq, i, j, e9, e10, k2, e11, mm _ _ q⟩
    · rintro σ H1 ⟨at_, d, m, v6, v7, rfl, ⟨g1, ⟨ma1, hx1, hma1⟩, hne, h16, hat, hd, hiff⟩, hend⟩
      have hta1 := g1.atx hx0 hta
      have hpa1 := g1.atx hx0 hpa
      refine ⟨_, rfl, x, C, dx, _, _, rfl, hx1, T.cl, T.nT, wf_T, _, rfl, _, rfl, ta, _, rfl, sqL_of hta1, fun t ht => ?_⟩
      rw [cut_from, ivs_drop]
      have xt : x ≠ t := ne_of_none hx1 ht
      refine ⟨_, rfl, x, C, dx, _, rfl, by rw [upd_ne xt]; exact hx1, T.cl, T.nT, by show 4 < 1000; decide, ?_⟩
      rw [wf_putT]
      have gx : G.d x = none := g1.w'.no hx1 (by intro _ z; cases z)
      refine kT _ ⟨wy.places, wy.tail.drop at_, m, d⟩ ((g1.put _ ht).write _ gx (.inl (by simp))) ⟨dx, pa, t, ma1, upd_same, ?_, ?_, ?_⟩ ⟨hd, hne, h16, fun b hb => hwy.t b (List.mem_of_mem_drop hb), ?_⟩ rfl (fun ext he => hiff ext he) (fun hw => ?_)
      · rw [upd_ne (ne_of hpa1 hx1 (by intro z; cases z))]; exact Same.upd _ ht _ _ hpa1
      · rw [upd_ne xt.symm]; exact upd_same
      · rw [upd_ne (ne_of hma1 hx1 (by intro z; cases z))]; exact Same.upd _ ht _ _ hma1
      · show (wy.tail.drop at_).length ≤ n
        have := hwy.tl
        rw [List.length_drop]; omega
      · show wy.tail.drop at_ = []
        rw [hend hw, List.drop_length]
end
end Mp

-- MpDict
set_option maxRecDepth 100000
set_option maxHeartbeats 4000000
/-! A dict whose keys are outlooks: setdefault, and the list of its values. -/
namespace Mp
open PySem PySem.Spec PyProof.Rows L2
open Mx (Wy)

/-! ### list(d.values()) -/
theorem len_values : typeLookup (.type "dict_values") "__len__" = pure (some (.builtin "dict_values.__len__")) := by rw [typeLookup_type, builtinLookup_eq_fast]; kernel_rfl
section
variable {prog : Program} {w : World} {A : Around} {E : Value → Shared → Prop} {s : Shared}
theorem hint_values {r : Addr} (hT : s.TypeIs (.ref r) "dict_values") {Q : Bool → Shared → Prop} (h : Q false s) : wpAny (model prog w) A (Builtin.List.listLengthHint (.ref r)) Q E s := by
  unfold Builtin.List.listLengthHint
  refine wpAny_bind (wpAny_specialOf hT len_values ?_)
  generalize hid : ("dict_values.__len__" : String) = id0
  wp_delta
  rw [show splitId id0 = some ("dict_values", "__len__") from by subst hid; decide +kernel]
  subst hid
  refine wpAny_bind (wpAny_isInstance (T := "dict_values") (b := true) hT (by rw [isSubtype_type]; kernel_rfl) ?_)
  refine wpAny_ite_split (fun hab => absurd hab (by decide)) (fun _ => ?_)
  refine wpAny_ite_split (fun _ => ?_) (fun hab => absurd (by decide +kernel) hab)
  refine wpAny_bind (wpAny_typeOf hT ?_)
  exact wpAny_pure h
theorem extend_values {R : Result → Shared → Prop} {r d S : Addr} {ob : Obj} {es : Array DictEntry} {ep : Nat} (hh : A.handled = none) (hv : s.heap.get? r = some (DSub.viewOb "dict_values" d)) (hd : s.heap.get? d = some ob) (hdd : ob.data = .dict es ep) (hSr : S ≠ r) (hSd : S ≠ d) (hn : es.size ≤ sizeLine) (res : Value) (c₀ : Nat)
    (hS : s.heap.get? S = some { cls := .type "list", data := .seq #[] c₀ }) (P : Nat → Value → Prop) (hP : ∀ (i : Nat) (e : DictEntry), es[i]? = some e → P i e.val)
    (hR : ∀ h' tk acc' c', (∀ b o, b ≠ S → s.heap.get? b = some o → h'.get? b = some o) → h'.get? S = some { cls := .type "list", dict := none, data := .seq acc' c', slots := #[] } → ItemsOf P acc' es.size → R (.ok (.ret res)) { s with heap := h', toks := tk }) :
    wpAny (model prog w) A.in1 (Builtin.List.listExtendWith (.ref S) (.ref r) res)
      (fun fin s' => match fin with | .done f => R (.ok f) s' | .again c' => c'.quiet = true ∧ codeAny (model prog w) A c' R s') (fun e s' => R (.error e) s') s := by
  have hSlt : S < s.heap.objs.size := Heap.lt_size hS
  have hdlt : d < s.heap.objs.size := Heap.lt_size hd
  have hSI : S ≠ s.heap.objs.size := Nat.ne_of_lt hSlt
  have hdI : d ≠ s.heap.objs.size := Nat.ne_of_lt hdlt
  have hSf : S ∉ [s.heap.objs.size, d] := fun hm => by
    rcases List.mem_cons.mp hm with e | hm
    · exact hSI e
    · exact hSd (List.mem_singleton.mp hm)
  have W := (DSub.walksVal (prog := prog) (w := w) (A := A.in1) (a := d) (I := s.heap.objs.size) (ob := ob) (ep := ep) (P := P) hh hdI hdd hP).toS
  have key : ∀ (h : Heap) (c₁ tk : Nat), h.get? s.heap.objs.size = some (DVw.valOb d 0 es.size ep) → (∀ b o, b ≠ S → s.heap.get? b = some o → h.get? b = some o) →
      h.get? S = some { cls := .type "list", data := .seq #[] c₁ } → codeAny (model prog w) A (.builtin "list.extend.loop" ⟨[.ref S, .ref s.heap.objs.size, res], []⟩) R { s with heap := h, toks := tk } := by
    intro h c₁ tk hit hk hS₁
    refine codeAny_extend_loopS W hn S hSf res es.size 0 _ #[] c₁ rfl (Nat.zero_le _) ⟨hit, hk d _ (Ne.symm hSd) hd⟩ hS₁ (ItemsOf.nil _) fun s' acc' c' hm hS' hacc => ?_
    rw [Moved.eq_with hm]
    refine hR s'.heap s'.toks acc' c' (fun b o hb e => hm.heap b o (fun hmem => ?_) (hk b o hb e)) hS' hacc
    rcases List.mem_cons.mp hmem with e' | hmem
    · exact hb e'
    · exact absurd (Heap.lt_size e) (by rw [List.mem_singleton.mp hmem]; exact Nat.lt_irrefl _)
  unfold Builtin.List.listExtendWith
  have hT : s.TypeIs (.ref r) "dict_values" := ⟨_, hv, rfl⟩
  refine wpAny_bind (wpAny_typeOf (T := "dict_values") hT ?_)
  have h1 : Builtin.List.listSameRef (.ref S) (.ref r) = false := by simp [Builtin.List.listSameRef, hSr]
  have h2 : (Value.type "dict_values" == Value.type "list") = false := by decide
  have h3 : (Value.type "dict_values" == Value.type "tuple") = false := by decide
  simp only [h1, h2, h3, Bool.or_false, Bool.false_eq_true, if_false]
  refine wpAny_bind (DSub.iter_vals hv hd hdd ?_)
  have hit : (s.heap.push (DVw.valOb d 0 es.size ep)).get? s.heap.objs.size = some (DVw.valOb d 0 es.size ep) := Heap.get?_push_size _ rfl
  have hS₁ := Heap.get?_push_of_some (DVw.valOb d 0 es.size ep) hS
  refine wpAny_bind (wpAny_holding (hint_values ⟨_, Heap.get?_push_of_some _ hv, rfl⟩ ?_))
  refine wpAny_ite_split (fun _ => ?_) (fun _ => wpAny_pure ⟨plainId_quiet PySem.F.plain_extend_loop _, key _ c₀ _ hit (fun b o _ e => Heap.get?_push_of_some _ e) hS₁⟩)
  refine wpAny_bind (wpAny_rule ?_)
  refine wpAny_bind ?_
  show wpAny _ _ (updateSeq S (·.push .none) >>= fun _ => updateSeq S (·.pop)) _ _ _
  refine wpAny_bind (wpAny_updateSeq hS₁ rfl ?_)
  have hS₂ := Heap.get?_update_self (Obj.mapSeq (·.push Value.none)) hS₁ rfl
  refine wpAny_updateSeq (hz := by seq_fits) hS₂ rfl ?_
  have hS₃ := Heap.get?_update_self (Obj.mapSeq (·.pop)) hS₂ rfl
  refine wpAny_pure ⟨plainId_quiet PySem.F.plain_extend_loop _, key _ _ _ ?_ (fun b o hb e => ?_) hS₃⟩
  · exact (Heap.get?_update_other _ _ hSI).trans ((Heap.get?_update_other _ _ hSI).trans hit)
  · exact (Heap.get?_update_other _ _ (Ne.symm hb)).trans ((Heap.get?_update_other _ _ (Ne.symm hb)).trans (Heap.get?_push_of_some _ e))
theorem call_list_values {Q : Value → Shared → Prop} {r d : Addr} {ob : Obj} {es : Array DictEntry} {ep : Nat} (hh : A.handled = none) (hv : s.heap.get? r = some (DSub.viewOb "dict_values" d)) (hd : s.heap.get? d = some ob) (hdd : ob.data = .dict es ep) (hn : es.size ≤ sizeLine)
    (P : Nat → Value → Prop) (hP : ∀ (i : Nat) (e : DictEntry), es[i]? = some e → P i e.val)
    (hQ : ∀ h' tk acc' c', (∀ b o, s.heap.get? b = some o → h'.get? b = some o) → h'.get? s.heap.objs.size = some { cls := .type "list", dict := none, data := .seq acc' c', slots := #[] } → ItemsOf P acc' es.size → Q (.ref s.heap.objs.size) { s with heap := h', toks := tk }) :
    wpAny (model prog w) A (call (.type "list") [.ref r]) Q E s := by
  refine callType_codes (Q₁ := fun obj s₁ => obj = .ref s.heap.objs.size ∧ s₁ = { s with heap := s.heap.push { cls := .type "list", data := .seq #[] } }) PySem.F.called_list (PySem.F.typeCall_list_1 _) PySem.F.entry_list_init
    (code_list_new _ ⟨rfl, rfl⟩) fun obj s₁ h₁ => ?_
  obtain ⟨rfl, rfl⟩ := h₁
  have hS : (s.heap.push { cls := .type "list", data := .seq #[] }).get? s.heap.objs.size = some { cls := .type "list", data := .seq #[] } := Heap.get?_push_size _ rfl
  have hSr : s.heap.objs.size ≠ r := Nat.ne_of_gt (Heap.lt_size hv)
  have hSd : s.heap.objs.size ≠ d := Nat.ne_of_gt (Heap.lt_size hd)
  refine ⟨⟨_, hS, rfl⟩, PySem.F.args_list_init_2 _ _, ?_⟩
  show wpAny _ _ (do let old ← Builtin.List.listItems (.ref s.heap.objs.size); Builtin.List.listUpdate (.ref s.heap.objs.size) (fun _ => #[]); letGo old.toList.reverse; Builtin.List.listExtendWith (.ref s.heap.objs.size) (.ref r) .none) _ _ _
  refine wpAny_bind ?_
  unfold Builtin.List.listItems
  refine wpAny_bind (wpAny_seqItems hS rfl (wpAny_pure ?_))
  show wpAny _ _ (updateSeq s.heap.objs.size (fun _ => #[]) >>= fun _ => letGo (#[] : Array Value).toList.reverse >>= fun _ => Builtin.List.listExtendWith (.ref s.heap.objs.size) (.ref r) .none) _ _ _
  refine wpAny_bind (wpAny_updateSeq hS rfl ?_)
  have hS₂ := Heap.get?_update_self (Obj.mapSeq (fun _ => (#[] : Array Value))) hS rfl
  have oth : ∀ b o, b ≠ s.heap.objs.size → s.heap.get? b = some o → ((s.heap.push { cls := .type "list", data := .seq #[] }).update s.heap.objs.size (Obj.mapSeq (fun _ => (#[] : Array Value)))).get? b = some o :=
    fun b o hb e => (Heap.get?_update_other _ _ (Ne.symm hb)).trans (Heap.get?_push_of_some _ e)
  refine wpAny_bind (wpAny_letGo ?_)
  refine extend_values (A := A.in1) hh (oth r _ (Ne.symm hSr) hv) (oth d _ (Ne.symm hSd) hd) hdd hSr hSd hn .none _ hS₂ P hP fun h' tk acc' c' hk hS' hacc => ?_
  exact ⟨rfl, hQ h' tk acc' c' (fun b o e => hk b o (Nat.ne_of_lt (Heap.lt_size e)) (oth b o (Nat.ne_of_lt (Heap.lt_size e)) e)) hS' hacc⟩
end
end Mp

-- MpDict2
set_option maxRecDepth 100000
set_option maxHeartbeats 4000000
/-! A dict whose keys are outlooks. -/
namespace Mp
open PySem PySem.Spec PyProof.Rows L2
open Mx (Wy)

/-- an outlook as a key -/
def nums (l : List Nat) : List NestedKey := l.map fun n : Nat => .num (n : Int)
def nk (u : Wy) : NestedKey := .tup [.num (u.done : Int), .tup (nums u.modes.reverse), .tup (nums u.tail)]
theorem nums_inj : ∀ {a b : List Nat}, nums a = nums b → a = b
  | [], [], _ => rfl
  | [], _ :: _, h => by simp [nums] at h
  | _ :: _, [], h => by simp [nums] at h
  | x :: a, y :: b, h => by
    unfold nums at h
    rw [List.map_cons, List.map_cons] at h
    injection h with h1 h2
    injection h1 with h1
    rw [nums_inj h2, Int.ofNat.inj h1]
theorem nk_iff {u v : Wy} : nk u = nk v ↔ u.done = v.done ∧ u.modes = v.modes ∧ u.tail = v.tail := by
  constructor
  · intro h
    unfold nk at h
    injection h with h
    injection h with h1 h
    injection h with h2 h
    injection h with h3 _
    injection h1 with h1
    injection h2 with h2
    injection h3 with h3
    exact ⟨Int.ofNat.inj h1, List.reverse_inj.mp (nums_inj h2), nums_inj h3⟩
  · rintro ⟨h1, h2, h3⟩; unfold nk; rw [h1, h2, h3]
theorem nums_depth : ∀ l : List Nat, NestedKey.depthAll (nums l) = 0
  | [] => rfl
  | _ :: l => by show max 0 (NestedKey.depthAll (nums l)) = 0; rw [nums_depth l]; rfl
theorem nk_depth (u : Wy) : (nk u).depth ≤ 8 := by
  unfold nk
  simp only [NestedKey.depth, NestedKey.depthAll, nums_depth]; omega
/-- the outlook's tuple -/
def KeyT (H : Hp) (ka : Addr) (u : Wy) : Prop := ∃ ma tt, H ka = some (.tup [iv u.done, .ref ma, .ref tt]) ∧ H ma = some (.tup (mt u.modes)) ∧ H tt = some (.tup (ivs u.tail))
theorem KeyT.mono {H H' : Hp} {ka : Addr} {u : Wy} (h : KeyT H ka u) (k : ∀ b y, H b = some (.tup y) → H' b = some (.tup y)) : KeyT H' ka u := by
  obtain ⟨ma, tt, h1, h2, h3⟩ := h
  exact ⟨ma, tt, k _ _ h1, k _ _ h2, k _ _ h3⟩
theorem nested_ints {h : Heap} : ∀ {l : List Nat} {its : List Value}, Vals (ivs l) its → NestedAll h (nums l) its
  | [], [], _ => .nil
  | _ :: _, _ :: _, .cons r t => by
    obtain ⟨tk, rfl⟩ := r
    exact .cons (.int _ _) (nested_ints t)
section
variable {X : Cx} {pins : List (Addr × Obj)} {σ : L2.St} {H : Hp} {s : Shared}
theorem tup_nested (I : Inv X pins σ H s) {a : Addr} {l : List Nat} (h : H a = some (.tup (ivs l))) : NestedIs s.heap (.tup (nums l)) (.ref a) := by
  obtain ⟨_, its, r, o, e, c, n, d⟩ := I.hok a _ h
  exact .tup e c d (nested_ints r)
theorem keyT_is (I : Inv X pins σ H s) {ka : Addr} {u : Wy} (h : KeyT H ka u) : (nestedKind X.prog X.w).is s.heap (nk u) ka := by
  obtain ⟨ma, tt, h1, h2, h3⟩ := h
  obtain ⟨_, its, r, o, e, c, n, d⟩ := I.hok ka _ h1
  cases r with
  | cons r1 r => cases r with
    | cons r2 r => cases r with
      | cons r3 r =>
        cases r
        obtain ⟨tk, rfl⟩ := r1
        cases r2; cases r3
        exact ⟨.tup e c d (.cons (.int _ _) (.cons (tup_nested I h2) (.cons (tup_nested I h3) .nil))), nk_depth u⟩
end

/-- an entry: the way whose outlook it is, the key's place, the value -/
abbrev En := Wy × Addr × Addr
def en (e : En) : NestedKey × Addr × Value := (nk e.1, e.2.1, .ref e.2.2)
def DNOf (P : Program) (w : World) (d : Addr) (xs : List En) (h : Heap) : Prop := ∃ o es ep, h.get? d = some o ∧ o.ExactDict ∧ o.data = .dict es ep ∧ es.toList = (xs.map en).map (entryOfKey (nestedKind P w)) ∧ ((xs.map en).map (·.1)).Nodup ∧ (d == sysModules) = false
def DN (P : Program) (w : World) (d : Addr) (xs : List En) : HO := .ext (DNOf P w d xs)
/-- at d such a dict stands; the empty one as it is made -/
def IsDN (P : Program) (w : World) (H : Hp) (d : Addr) (xs : List En) : Prop := H d = some (DN P w d xs) ∨ (xs = [] ∧ H d = some (.dT []))
section
variable {X : Cx} {pins : List (Addr × Obj)} {σ : L2.St} {H : Hp} {s : Shared}
theorem isDN_at (I : Inv X pins σ H s) {d : Addr} {xs : List En} (h : IsDN X.prog X.w H d xs) : DNOf X.prog X.w d xs s.heap := by
  rcases h with h | ⟨rfl, h⟩
  · exact (I.hok d _ h).1
  · obtain ⟨_, sm, xs, r, o, es, ep, h1, h2, h3, h4, _⟩ := I.hok d _ h
    cases r
    exact ⟨o, es, ep, h1, h2, h3, h4, List.nodup_nil, sm⟩
theorem dnOf_at {P : Program} {w : World} {d : Addr} {xs : List En} {h1 h2 : Heap} (h : DNOf P w d xs h1) (k : ∀ o, h1.get? d = some o → h2.get? d = some o) : DNOf P w d xs h2 := by
  obtain ⟨o, es, ep, e, r⟩ := h
  exact ⟨o, es, ep, k o e, r⟩
theorem dn_new {P : Program} {w : World} {H' : Hp} {h : Heap} {d : Addr} {xs : List En} (e : DNOf P w d xs h) : ObjOk P w H' h d (DN P w d xs) := by
  have ⟨o, _, _, ho, _⟩ := e
  exact ⟨e, ⟨o, ho⟩, fun h1 h2 p k => dnOf_at p k⟩
theorem IsDN.mut {P : Program} {w : World} {d : Addr} {xs : List En} (h : IsDN P w H d xs) : Mut (H d) := by
  rcases h with h | ⟨_, h⟩ <;> rw [h] <;> trivial
theorem atKey_en {xs : List En} {u : Wy} {p : Addr × Value} (h : atKey (xs.map en) (nk u) = some p) : ∃ e ∈ xs, e.1.done = u.done ∧ e.1.modes = u.modes ∧ e.1.tail = u.tail ∧ p.2 = .ref e.2.2 := by
  unfold atKey at h
  obtain ⟨x, hx, rfl⟩ := Option.map_eq_some_iff.mp h
  obtain ⟨e, he, rfl⟩ := List.mem_map.mp (List.mem_of_find?_eq_some hx)
  have h2 := List.find?_some hx
  have h2 : nk e.1 = nk u := of_decide_eq_true h2
  obtain ⟨h3, h4, h5⟩ := nk_iff.mp h2
  exact ⟨e, he, h3, h4, h5, rfl⟩
theorem atKey_no {xs : List En} {u : Wy} (h : atKey (xs.map en) (nk u) = none) : ∀ e ∈ xs, ¬ (e.1.done = u.done ∧ e.1.modes = u.modes ∧ e.1.tail = u.tail) := fun e he z => by
  unfold atKey at h
  rw [Option.map_eq_none_iff, List.find?_eq_none] at h
  exact h (en e) (List.mem_map.mpr ⟨e, he, rfl⟩) (decide_eq_true (nk_iff.mpr z))
/-- d.setdefault(k, v) -/
def tDNset (P : Program) (w : World) (td tk tv : TE) : TE := fun σ H Q => td σ H fun x H1 => ∃ (d : Addr) (xs0 : List En), x = .ref d ∧ IsDN P w H1 d xs0 ∧ tk σ H1 fun k H2 => tv σ H2 fun v H3 => ∃ (xs : List En) (u : Wy) (ka y : Addr), IsDN P w H3 d xs ∧ k = .ref ka ∧ KeyT H3 ka u ∧ v = .ref y ∧ (∀ e ∈ xs, KeyT H3 e.2.1 e.1) ∧ xs.length < sizeLine ∧
  (∀ e ∈ xs, e.1.done = u.done → e.1.modes = u.modes → e.1.tail = u.tail → Q (.ref e.2.2) H3) ∧ ((∀ e ∈ xs, ¬ (e.1.done = u.done ∧ e.1.modes = u.modes ∧ e.1.tail = u.tail)) → Q (.ref y) (upd H3 d (DN P w d (xs ++ [(u, ka, y)]))))
variable {o e f : Expr} {td tk tv : TE} {apos cpos : Pos}
theorem pe_dnset (hu : X.A.units + 64 < cLine) (ho : PE X o td) (he : PE X e tk) (hf : PE X f tv) (m : M2 X o "setdefault" apos e f cpos) : PE X (.Call (.Attribute o "setdefault" apos) [e, f] [] cpos) (tDNset X.prog X.w td tk tv) := by
  refine ⟨fun pins s σ H Q I h => ?_⟩
  refine wpAny_Call_method m.base m.few m.line PySem.F.plainAttrs_dict PySem.F.slot_dict_setdefault PySem.F.type_dict_setdefault (thn (ho.run pins s σ H _ I h) fun u s1 ⟨x, H1, I1, rx, d, xs0, ex, hd, q1⟩ => ?_)
  subst ex
  obtain rfl : u = Value.ref d := rx
  obtain ⟨ob, _, _, g1, g2, _⟩ := isDN_at I1 hd
  refine ⟨⟨ob, g1, g2.1⟩, fun b q => ?_, ?_⟩
  · cases q; exact ⟨ob, g1, g2.2.1⟩
  rw [m.trees]
  refine Calls.callWith_builtin rfl (Calls.evalArgs_plain (Calls.spliced_cons (thn (he.run pins s1 σ H1 _ I1 q1) fun iv s2 ⟨y, H2, I2, ry, q2⟩ =>
    Calls.spliced_cons (thn (hf.run pins s2 σ H2 _ I2 q2) fun fv s3 ⟨z, H3, I3, rz, xs, u, ka, yy, hd3, ek, hk, ev, hks, hlen, qF, qN⟩ => Calls.spliced_nil ?_))))
  subst ek ev
  obtain rfl : iv = Value.ref ka := ry
  obtain rfl : fv = Value.ref yy := rz
  obtain ⟨ob3, es, ep, f1, f2, f3, f4, f5, f6⟩ := isDN_at I3 hd3
  have dd : s3.heap.DictOfH (nestedKind X.prog X.w) d (xs.map en) := ⟨ob3, es, ep, f1, f2, f3, f4, fun p hp => by
    obtain ⟨e, he, rfl⟩ := List.mem_map.mp hp
    exact keyT_is I3 (hks e he), f5⟩
  refine call_setdefault_heap (knd := nestedKind X.prog X.w) (k := nk u) (show X.A.units + 1 + 8 < cLine by omega) (keyT_is I3 hk) f6 dd (fun p hp => ?_) (fun hn h' hd' sb => ?_) (by rw [List.length_map]; omega)
  · obtain ⟨e, he, h1, h2, h3, h4⟩ := atKey_en hp
    rw [h4]
    exact ⟨.ref e.2.2, H3, I3.tok _, rfl, qF e he h1 h2 h3⟩
  · rw [storedH_new hn] at hd'
    obtain ⟨o4, es4, ep4, g1', g2', g3', g4', _, g6'⟩ := hd'
    have e4 : (xs.map en) ++ [(nk u, ka, Value.ref yy)] = (xs ++ [(u, ka, yy)]).map en := by rw [List.map_append]; rfl
    rw [e4] at g4' g6'
    exact ⟨.ref yy, _, d_write (t' := _) I3 hd3.mut sb ⟨o4, g1'⟩ (dn_new ⟨o4, es4, ep4, g1', g2', g3', g4', g6', f6⟩), rfl, qN (atKey_no hn)⟩
/-- list(d.values()) -/
def tDNlist (P : Program) (w : World) (td : TE) : TE := fun σ H Q => td σ H fun x H1 => ∃ (d : Addr) (xs : List En), x = .ref d ∧ IsDN P w H1 d xs ∧ xs.length ≤ sizeLine ∧ ∀ p, H1 p = none → Q (.ref p) (upd H1 p (.lst (xs.map fun e => V.ref e.2.2)))
theorem vals_ix : ∀ (xs : List En) (vs : List Value), vs.length = xs.length → (∀ (j : Nat) (v : Value), vs[j]? = some v → ∃ e, xs[j]? = some e ∧ v = Value.ref e.2.2) → Vals (xs.map fun e => V.ref e.2.2) vs
  | [], [], _, _ => .nil
  | x :: xs, v :: vs, hl, h => by
    obtain ⟨e, h1, h2⟩ := h 0 v rfl
    simp at h1; subst h1
    exact .cons h2 (vals_ix xs vs (by simpa using hl) fun j v hv => by
      obtain ⟨e, h3, h4⟩ := h (j + 1) v (by simpa using hv)
      exact ⟨e, by simpa using h3, h4⟩)
  | [], _ :: _, hl, _ => by simp at hl
  | _ :: _, [], hl, _ => by simp at hl
theorem items_refs {acc : Array Value} {xs : List En} (h : ItemsOf (fun i v => ∃ e, xs[i]? = some e ∧ v = .ref e.2.2) acc xs.length) : Vals (xs.map fun e => V.ref e.2.2) acc.toList :=
  vals_ix xs acc.toList (by rw [Array.length_toList]; exact h.1) fun j v hv => h.2 j v (by rw [← Array.getElem?_toList]; exact hv)
theorem pe_dnlist {p pos : Pos} (hc : X.calm = true) (he : PE X e td) (hg : Gl X "list") (hm : X.mg "list" = none) (hbase : attributeBase e "values" X.env (eval e X.env) = eval e X.env := by rfl) (hline : (apos.endLine == cpos.line) = true := by rfl)
    (hs : starEach [.Call (.Attribute e "values" apos) [] [] cpos] X.env = (false, eval (.Call (.Attribute e "values" apos) [] [] cpos) X.env) :: starEach [] X.env := by rfl) :
    PE X (.Call (.Name "list" p) [.Call (.Attribute e "values" apos) [] [] cpos] [] pos) (tDNlist X.prog X.w td) := by
  refine ⟨fun pins s σ H Q I hq => ?_⟩
  refine wpAny_Call_Name_kw (ld_blt I hg hm (by decide +kernel : bootBuiltins "list" = some (.type "list")) ?_)
  refine PyProof.Rows.callWith_type1 ?_ hs rfl
  rw [hs]
  show wpAny _ _ (spliced ((false, eval (.Call (.Attribute e "values" apos) [] [] cpos) X.env) :: backTo pos (starEach [] X.env))) _ _ s
  refine Calls.spliced_cons ?_
  refine wpAny_Call_method (T := "dict") (id := "dict.values") hbase rfl hline PySem.F.plainAttrs_dict PySem.F.slot_dict_values PySem.F.type_dict_values (thn (he.run pins s σ H _ I hq) fun u s1 ⟨x, H1, I1, rx, d, xs, ex, hd, hlen, q⟩ => ?_)
  subst ex
  obtain rfl : u = Value.ref d := rx
  obtain ⟨ob, es, ep, f1, f2, f3, f4, f5, f6⟩ := isDN_at I1 hd
  have hsz : es.size = xs.length := by
    rw [← Array.length_toList, f4, List.length_map, List.length_map]
  have raw : s1.heap.DictRaw d es ep := ⟨ob, f1, f2, f3⟩
  have I2 : Inv X pins σ H1 { s1 with heap := s1.heap.push { cls := .type "dict_values", data := .fields #[.ref d] } } := I1.kept (t' := s1.toks) fun b ob q => Heap.get?_push_of_some _ q
  refine ⟨raw.typeIs, fun b q => ?_, ?_⟩
  · cases q; exact ⟨ob, f1, f2.2.1⟩
  show wpAny _ _ (callWith cpos (.builtin "dict.values") [.ref d] [] []) _ X.xe s1
  refine method_meetsIn PySem.F.slot_dict_values PySem.F.entry_dict_values rfl (PySem.evalArgs_none ⟨rfl, raw.typeIs, PySem.F.args_dict_values_1 _, _, meets_dict_values_raw d f6, ⟨⟨es, ep, raw⟩, ?_⟩⟩)
  refine Calls.spliced_nil ?_
  refine call_list_values (I1.ok.hd hc) (Heap.get?_push_size _ rfl) (Heap.get?_push_of_some _ f1) f3 (by rw [hsz]; exact hlen) (fun i v => ∃ e, xs[i]? = some e ∧ v = .ref e.2.2) (fun i e he => ?_) fun h' tk acc' c' hk hS hacc => ?_
  · have he2 : es.toList[i]? = some e := by rw [Array.getElem?_toList]; exact he
    rw [f4, List.map_map, List.getElem?_map] at he2
    obtain ⟨x, hx, rfl⟩ := Option.map_eq_some_iff.mp he2
    exact ⟨x, hx, rfl⟩
  · rw [hsz] at hacc
    have np : H1 _ = none := I2.hok.fresh (Nat.le_refl _)
    refine ⟨.ref _, _, I2.laid (t' := tk) (a := (s1.heap.push { cls := .type "dict_values", data := .fields #[.ref d] }).objs.size) (o := .lst (xs.map fun e => V.ref e.2.2)) hk (Nat.le_refl _) ⟨by rw [List.length_map]; exact hlen, acc'.toList, c', items_refs hacc, by rw [Array.toArray_toList]; exact hS⟩, rfl, q _ np⟩
end
end Mp

-- MpSort
set_option maxRecDepth 100000
set_option maxHeartbeats 4000000
/-! Ways sorted by their rank. -/
namespace Mp
open PySem PySem.Spec PyProof.Rows L2
open Mx (Wy)

/-- a way's rank as data -/
def rkD (l : List Nat) : PyData := .tuple [.int (l.length : Int), .tuple (dI l)]
theorem reads_ints {h : Heap} : ∀ {l : List Nat} {its : List Value}, Vals (ivs l) its → ReadsAll h its (dI l) []
  | [], [], _ => .nil
  | _ :: l, _ :: _, .cons r t => by
    obtain ⟨tk, rfl⟩ := r
    exact ReadsAll.cons (as := []) (bs := []) (.int _ _) (reads_ints t)
/-- the state goes on: all that was there stands -/
def Goes1 (s s' : Shared) : Prop := ∃ h' tk, s' = { s with heap := h', toks := tk } ∧ ∀ b o, s.heap.get? b = some o → h'.get? b = some o
theorem Goes1.refl (s : Shared) : Goes1 s s := ⟨s.heap, s.toks, rfl, fun _ _ e => e⟩
theorem Goes1.trans {s s1 s2 : Shared} (a : Goes1 s s1) (b : Goes1 s1 s2) : Goes1 s s2 := by
  obtain ⟨h, t, rfl, k⟩ := a
  obtain ⟨h', t', rfl, k'⟩ := b
  exact ⟨h', t', rfl, fun b o e => k' b o (k b o e)⟩
section
variable {X : Cx} {pins : List (Addr × Obj)} {σ : L2.St} {H : Hp} {s : Shared} {C : Addr}
/-- way.places -/
theorem rank_places {x dx pa ta ma d : Addr} {x0 : Str} {p1 p2 : Pos} {E : Value → Shared → Prop} {Q : Value → Shared → Prop} (c : Cls X.K C) (n : NoAttr X.K C "places") (I : Inv X pins σ H s) (hx : H x = some (.ins C dx (wf pa ta ma d))) (hN : X.N[0]? = some x0) (hv : Vis X.env.scope x0) (hσ : σ[0]? = some (some (.ref x)))
    (hd : (x0 == ("__debug__" : Str)) = false) (hcd : (x0 == ("__classdict__" : Str)) = false) (hb : attributeBase (.Name x0 p1) "places" X.env (eval (.Name x0 p1) X.env) = eval (.Name x0 p1) X.env)
    (h : ∀ s', Inv X pins σ H s' → Goes1 s s' → Q (.ref pa) s') : wpAny (model X.prog X.w) X.A (eval (.Attribute (.Name x0 p1) "places" p2) X.env) Q E s := by
  refine attr_of hb ?_
  obtain ⟨m, hn, hl⟩ := I.loc
  obtain ⟨u, r, l⟩ := hl 0 x0 _ hN hσ hv
  have fin : wpAny (model X.prog X.w) X.A (getAttr u "places" true) Q E s := by
    obtain rfl : u = Value.ref x := r
    obtain ⟨mA, O, r, _, _, _⟩ := ins_get I.hok hx
    obtain ⟨u, hu, ru⟩ := RelO.some_of (v := .ref pa) (o := mA "places") (by rw [← wf_P (a := pa) (b := ta) (c := ma) (d := d)]; exact r "places")
    obtain rfl : u = Value.ref pa := ru
    exact get_map I.kIn O (c.get "places") c.hd n hu (handed_of (v := .ref pa) rfl) (h _ (I.tok _) ⟨s.heap, _, rfl, fun _ _ e => e⟩)
  rcases l with ⟨hk, hm⟩ | ⟨hk, c, hc, hcell⟩
  · exact wpAny_Name (wpAny_loadName_local I.ok.kind hk hn hm fin) hd
  · rcases hk with hk | hk
    · exact wpAny_Name (wpAny_loadName_cell I.ok.kind hk hc hcell fin) hd
    · exact wpAny_Name (wpAny_loadName_free I.ok.kind hk hc hcell fin hcd) hd
theorem rank_ev {x dx pa ta ma d : Addr} {l : List Nat} {x0 : Str} {q1 p1 p2 p3 p4 p5 p6 : Pos} {x1 : Nat} {E : Value → Shared → Prop} (c : Cls X.K C) (n : NoAttr X.K C "places") (hm : X.mg "len" = none) (hg : Gl X "len") (I : Inv X pins σ H s) (hx : H x = some (.ins C dx (wf pa ta ma d))) (hpa : H pa = some (.tup (ivs l)))
    (hN : X.N[0]? = some x0) (hv : Vis X.env.scope x0) (hσ : σ[0]? = some (some (.ref x)))
    (hd : (x0 == ("__debug__" : Str)) = false) (hcd : (x0 == ("__classdict__" : Str)) = false) (hb : ∀ p : Pos, attributeBase (.Name x0 p) "places" X.env (eval (.Name x0 p) X.env) = eval (.Name x0 p) X.env) :
    wpAny (model X.prog X.w) X.A (eval (.Tuple [.Call (.Name "len" q1) [.Attribute (.Name x0 p1) "places" p2] [] p3, .Attribute (.Name x0 p4) "places" p5] x1 p6) X.env) (fun u s' => Goes1 s s' ∧ Reads s'.heap u (rkD l) []) E s := by
  refine wpAny_Tuple_spliced ?_
  refine Calls.spliced_cons ?_
  refine wpAny_Call_Name_kw (ld_blt I hg hm PySem.boot_len ?_ (by decide) (by decide))
  refine PyProof.Rows.callWith_builtin1 ?_ rfl rfl
  refine Calls.spliced_cons (rank_places c n I hx hN hv hσ hd hcd (hb _) fun s1 I1 g1 => Calls.spliced_nil ?_)
  obtain ⟨z, its, r, hT⟩ := I1.hok pa _ hpa
  have hn := line63
  have hlen : its.toArray.size = l.length := by rw [List.size_toArray, ← r.length, ivs_len]
  refine PyProof.Rows.len_tuple hT (by rw [hlen]; rw [ivs_len] at z; omega) ?_
  refine Calls.spliced_cons (rank_places c n (I1.tok _) hx hN hv hσ hd hcd (hb _) fun s2 I2 g2 => Calls.spliced_nil ⟨(by show 2 ≤ sizeLine; decide), ?_⟩)
  have g : Goes1 s s2 := g1.trans ((show Goes1 s1 _ from ⟨s1.heap, _, rfl, fun _ _ e => e⟩).trans g2)
  obtain ⟨z2, its2, r2, o2, ho2, hc2, n2, hd2⟩ := I2.hok pa _ hpa
  refine ⟨g.trans ⟨_, s2.toks, rfl, fun b o e => Heap.get?_push_of_some _ e⟩, ?_⟩
  refine Reads.tuple (Heap.get?_push_size _ rfl) rfl rfl ?_
  refine ReadsAll.cons (as := []) (bs := []) (by rw [hlen]; exact .int _ _) (ReadsAll.cons (as := []) (bs := []) ?_ .nil)
  exact Reads.tuple (Heap.get?_push_of_some _ ho2) hc2 hd2 (reads_ints r2)
end
section
variable {P : Program} {w : World} {K : PySem.W.Frag} {mg : Str → Option Value} {base : Heap} {C : Addr}
theorem scRank : FnScope ["way"] ["way"] (defScope sRank) := ⟨rfl, rfl, rfl, by decide +kernel, rfl, by decide +kernel, by decide +kernel⟩
/-- rank(way): all that was there stands -/
theorem call_rank {f : Addr} {fd : FuncData} {A : Around} {outer : List Env} {s : Shared} {H : Hp} {x dx pa ta ma d : Addr} {l : List Nat} {E : Value → Shared → Prop} (F : Fun K "rank" "rank" sRank f fd) (b : Binds K fd ["way"] []) (c : Cls K C) (n : NoAttr K C "places") (hm : mg "len" = none)
    (hr : Room 1 A) (e0 : Env0 P w K mg base A outer s H) (hx : H x = some (.ins C dx (wf pa ta ma d))) (hpa : H pa = some (.tup (ivs l))) : wpAny (model P w) A (call (.ref f) [.ref x]) (PySem.W.KeyPure (rkD l) s) E s := by
  obtain ⟨oc, od, kV, doc, pm, an, cdv, ct, osl, rfl, lk, hcd⟩ := F.ex
  have S := scRank
  have KX : K.In s.heap := e0.mod.kin.keeps fun b o e => (e0.bs b o e).1
  have lim : s.heap.NoLimit := e0.mod.nolimit.keeps fun b o e => (e0.bs b o e).1
  have hkind : ∀ y ∈ (["way"] : List Str).zip [Value.ref x], (defScope sRank).names.lookup y.1 = some .local ∨ ((defScope sRank).names.lookup y.1 = some .cell ∧ ((cellsFrom (s.heap.objs.size + 1) (defScope sRank).names []).lookup y.1).isSome = true) := fun ⟨nm, v⟩ hy => by
    rcases S.par nm (List.of_mem_zip hy).1 with q | q
    · exact .inl q
    · exact .inr ⟨q, PySem.W.cellsFrom_some _ _ _ (.inl q)⟩
  refine wpAny_call ?_
  refine codeAny_call_function hr.depth (KX _ _ lk) rfl S.co S.gen rfl (PySem.W.codeRec_of KX hcd) ((b s [.ref x] KX rfl) _ _ _ _ ?_)
  refine wpAny_newFunctionEnv_cells S.kind hkind fun env he s1 x1 => ?_
  subst he
  refine ⟨lim.keeps x1.toInCall.keep, codeAny_func ?_⟩
  have I : Inv (cxOf CX0 P w K mg base ["way"] "rank" (defScope sRank) f cdv A outer s H E0) [] (L2.start ["way"] [.ref x]) H s1 := inv_start S hr.hd e0 rfl (us := [.ref x]) (.cons rfl .nil) x1
  obtain ⟨h1, tk, e1, k1⟩ := x1.done
  refine wpAny_execs_cons (wpAny_Return_some ?_)
  refine wpAny_mono (rank_ev (X := cxOf CX0 P w K mg base ["way"] "rank" (defScope sRank) f cdv A outer s H E0) (C := C) c n hm (by rfl) I hx hpa (x0 := "way") rfl (Or.inl rfl) rfl (by decide) (by decide) (fun _ => by rfl)) (fun u s' hs => ?_) fun e s' hs => hs
  obtain ⟨⟨h', t', rfl, k'⟩, rd⟩ := hs
  subst e1
  exact ⟨h', t', rfl, fun b o e => k' b o (k1 b o e), rd⟩
end
/-! ### the order -/
theorem dI_ints (l : List Nat) : dI l = (l.map fun n : Nat => (n : Int)).map PyData.int := by unfold dI; rw [List.map_map]; rfl
theorem lexLe_of : ∀ l m : List Nat, l.length = m.length → ¬ ((m.map fun n : Nat => (n : Int)) < (l.map fun n : Nat => (n : Int))) → Mx.lexLe l m
  | [], _, _, _ => trivial
  | _ :: _, [], h, _ => by simp at h
  | x :: l, y :: m, h, hn => by
    rw [List.map_cons, List.map_cons, List.cons_lt_cons_iff] at hn
    by_cases e : x = y
    · exact .inr ⟨e, lexLe_of l m (by simpa using h) fun z => hn (.inr ⟨by rw [e], z⟩)⟩
    · refine .inl ?_
      have : ¬ ((y : Int) < (x : Int)) := fun z => hn (.inl z)
      omega
theorem dI_alike : ∀ l m : List Nat, PySem.W.alikeAll (dI l) (dI m) = true
  | [], _ => by simp [dI, PySem.W.alikeAll]
  | _ :: _, [] => by simp [dI, PySem.W.alikeAll]
  | _ :: l, _ :: m => by
    show (PySem.W.alike (.int _) (.int _) && PySem.W.alikeAll (dI l) (dI m)) = true
    rw [dI_alike l m]; simp [PySem.W.alike]
theorem dIt_alike (l m : List Nat) : PySem.W.alike (.tuple (dI l)) (.tuple (dI m)) = true := by
  simp only [PySem.W.alike]; exact dI_alike l m
theorem rkD_alike (l m : List Nat) : PySem.W.alike (rkD l) (rkD m) = true := by
  unfold rkD
  simp only [PySem.W.alike, PySem.W.alikeAll, dI_alike, Bool.and_true]
theorem rkD_depth (l : List Nat) : (rkD l).depth ≤ 2 := by
  have h := dI_lay l
  unfold rkD
  simp only [PyData.depth, PyData.depthAll]; omega
theorem rle_of {l m : List Nat} (h : PySem.W.dataLt (rkD m) (rkD l) = false) : Mx.rle l m := by
  unfold rkD at h
  rw [PySem.W.dataLt_pair (by simp [PySem.W.alike]) (dIt_alike _ _), PySem.W.dataLt_int, int_eqv] at h
  by_cases e : m.length = l.length
  · rw [decide_eq_true e, if_pos rfl] at h
    refine .inr ⟨e.symm, ?_⟩
    by_cases e2 : PyData.eqv (.tuple (dI m)) (.tuple (dI l)) = true
    · have e2 : PyData.eqvAll (dI m) (dI l) = true := e2
      rw [dI_eqv] at e2
      rw [of_decide_eq_true e2]; exact Mx.lexLe_refl _
    · rw [if_neg e2, PySem.W.dataLt_tuple] at h
      have h : PySem.W.rowLt (dI m) (dI l) = false := h
      rw [dI_ints, dI_ints, PySem.W.dataLt_ints] at h
      exact lexLe_of l m e.symm (of_decide_eq_false h)
  · rw [decide_eq_false e, if_neg Bool.false_ne_true] at h
    have := of_decide_eq_false h
    exact .inl (by omega)

/-- sorted(ways, key=rank) -/
def rSortW (K : PySem.W.Frag) (C fr : Addr) : List V → List V → Hp → VK → Prop := fun xs zs H Q => ∃ (a : Addr) (ws : List (Addr × Wy)), xs = [.ref a] ∧ zs = [.ref fr] ∧ SqL K H a (ws.map fun e => V.ref e.1) ∧ (∀ e ∈ ws, WayAt C H e.1 e.2) ∧ ws.length ≤ sizeLine ∧
  ∀ (out : List (Addr × Wy)) (p : Addr), out.Perm ws → out.Pairwise (fun a b => Mx.rle a.2.places b.2.places) → H p = none → Q (.ref p) (upd H p (.lst (out.map fun e => V.ref e.1)))
theorem each_refs : ∀ {ws : List (Addr × Wy)} {its : List Value}, Vals (ws.map fun e => V.ref e.1) its → PySem.W.EachIs (fun v e => v = Value.ref e.1) its ws
  | [], [], _ => .nil
  | _ :: _, _ :: _, .cons r t => .cons r (each_refs t)
theorem refs_each : ∀ {ws : List (Addr × Wy)} {its : List Value}, PySem.W.EachIs (fun v e => v = Value.ref e.1) its ws → Vals (ws.map fun e => V.ref e.1) its
  | [], [], _ => .nil
  | _ :: _, _ :: _, .cons r t => .cons r (refs_each t)
theorem cr_sortW {X : Cx} {f C : Addr} {fd : FuncData} (F : Fun X.K "rank" "rank" sRank f fd) (b : Binds X.K fd ["way"] []) (c : Cls X.K C) (n : NoAttr X.K C "places") (hm : X.mg "len" = none) (hr : Room 3 X.A) : CallRK X (.builtin "sorted") ["key"] (rSortW X.K C f) := by
  intro pins s σ H xs zs us vs Q I r1 r2 h
  obtain ⟨a, ws, rfl, rfl, lq, hws, hlen, q⟩ := h
  obtain ⟨its, rel, plain, hz⟩ := I.list lq
  rw [Vals.ref1 r1, Vals.ref1 r2]
  have hun := hr.units
  refine PySem.W.sorted_key_data (b := false) (R := fun v (e : Addr × Wy) => v = Value.ref e.1) (bs := ws) (fun e : Addr × Wy => rkD e.2.places) plain.isList (each_refs rel) (PySem.W.AllAlike.of fun _ _ => rkD_alike _ _) (PySem.W.Sortable.tuples fun _ => ⟨_, _, rfl⟩) hlen (fun e _ => ?_)
    (PyProof.Rows.ksk_s1 _ _) (fun _ => PyProof.Rows.ksk_l1 _ _) (fun _ => PyProof.Rows.ksk_t1 _ _) (fun v e hv he h tk kp => ?_) fun out cc h' tk kp _ hD hl eo => ?_
  · have := rkD_depth e.2.places; omega
  · subst hv
    obtain ⟨dx, pa, ta, ma, g1, g2, _, _⟩ := hws e he
    have I2 : Inv X pins σ H { s with heap := h, toks := tk } := I.kept (t' := tk) kp
    exact call_rank F b c n hm hr.in1.in1 I2.env0.in1.in1 g1 g2
  · have hp := List.mergeSort_perm ws (PySem.W.dataLe false fun e : Addr × Wy => rkD e.2.places)
    have hs : (ws.mergeSort (PySem.W.dataLe false fun e : Addr × Wy => rkD e.2.places)).Pairwise (fun a b => PySem.W.dataLe false (fun e : Addr × Wy => rkD e.2.places) a b = true) := PySem.W.sort_pairwise (PySem.W.sortLe_total _ false _) ws
    generalize ws.mergeSort (PySem.W.dataLe false fun e : Addr × Wy => rkD e.2.places) = o at *
    have fresh : H (s.heap.objs.size + 1) = none := I.hok.fresh (Nat.le_succ _)
    refine ⟨.ref (s.heap.objs.size + 1), _, I.laid (t' := tk) (a := s.heap.objs.size + 1) (o := .lst (o.map fun e => V.ref e.1)) kp (Nat.le_succ _) ⟨by rw [List.length_map, hp.length_eq]; exact hlen, out, cc, refs_each eo, hD⟩, rfl, q o _ hp (hs.imp fun {a b} hab => ?_) fresh⟩
    rw [PySem.W.dataLe_eq] at hab
    have hab : (!PySem.W.dataLt (rkD b.2.places) (rkD a.2.places)) = true := hab
    exact rle_of (by simpa using hab)
end Mp

-- MpFollow
set_option maxRecDepth 100000
set_option maxHeartbeats 4000000
/-! A way is followed, finished; its outlook. -/
namespace Mp
open PySem PySem.Spec PyProof.Rows L2
open Sq17 (Piece Word)
open Mx (okR MOk Wy Ends W Fol)

theorem fits_push {H' H2 : Hp} {D p : Addr} {fa : List Addr} {fs : List (List Nat)} {l : List Nat} (hfD : H' D = some (.lst (fa.map V.ref))) (hfa : FitsIn H' fa fs) (k : ∀ f l, H' f = some (.lst l) → H2 f = some (.lst l)) (np : H' p = none) (hp : H2 p = some (.lst (ivs l))) :
    FitsIn (upd H2 D (.lst (fa.map V.ref ++ [.ref p]))) (fa ++ [p]) (fs ++ [l]) := by
  have hDp : p ≠ D := fun z => by rw [z, hfD] at np; cases np
  refine FitsIn.snoc ⟨hfa.len, fun j f l e1 e2 => ?_⟩ (by rw [upd_ne hDp]; exact hp)
  have h3 := hfa.ix j f l e1 e2
  have fD : f ≠ D := fun z => by
    subst z
    rw [hfD] at h3
    have h3 := Option.some.inj h3
    injection h3 with h3
    rw [ivs_refs h3.symm] at e1; simp at e1
  rw [upd_ne fD]; exact k _ _ h3

def spFollow (CR CM CL CP C : Addr) : Sp := fun vs H Q _ => ∃ (G : Gh) (x aR aW : Addr) (rs qs : List Addr) (xs : List (Sq17.Rule × Mx.Mat)) (ws : List Word) (w : Wy) (n : Nat), vs = [.ref x, .ref aR, .ref aW] ∧ Wld G H ∧ H aR = some (.lst (rs.map V.ref)) ∧ RulesIn G CR CM CL H rs xs ∧ (∀ x ∈ xs, RuleOk x) ∧ rs.length ≤ 1000 ∧
  H aW = some (.lst (qs.map V.ref)) ∧ WordsAre H qs ws ∧ WayAt C H x w ∧ WyOk ws.length n w ∧ n ≤ 100000 ∧
  (∀ H' v, Go G [x] H H' → WayAt C H' x v → WyOk ws.length n v → Fol (xs.map (·.1)) ws w v → Q (.bl true) H') ∧
  (∀ H', Go G [x] H H' → (∃ v, WayAt C H' x v) → (∀ ext, ¬ Ends (xs.map (·.1)) ws w ext) → Q (.bl false) H')
def spFinish (CR CM CL CP C : Addr) : Sp := fun vs H Q _ => ∃ (G : Gh) (x aR aW : Addr) (rs qs : List Addr) (xs : List (Sq17.Rule × Mx.Mat)) (ws : List Word) (w : Wy) (n : Nat), vs = [.ref x, .ref aR, .ref aW] ∧ Wld G H ∧ H aR = some (.lst (rs.map V.ref)) ∧ RulesIn G CR CM CL H rs xs ∧ (∀ x ∈ xs, RuleOk x) ∧ rs.length ≤ 1000 ∧
  H aW = some (.lst (qs.map V.ref)) ∧ WordsAre H qs ws ∧ WayAt C H x w ∧ WyOk ws.length n w ∧ n ≤ 100000 ∧
  (∀ H' v, Go G [x] H H' → WayAt C H' x v → v.places = w.places → Ends (xs.map (·.1)) ws w [] → Q (.bl true) H') ∧
  (∀ H', Go G [x] H H' → (∃ v, WayAt C H' x v) → ¬ Ends (xs.map (·.1)) ws w [] → Q (.bl false) H')
def spOutlook (C : Addr) : Sp := fun vs H Q _ => ∃ (x : Addr) (w : Wy), vs = [.ref x] ∧ WayAt C H x w ∧ ∀ H' p, Same H H' → H p = none → KeyT H' p w → Q (.ref p) H'
section
variable {P : Program} {w : World} {K : PySem.W.Frag} {mg : Str → Option Value} {base : Heap} {CR CM CL CP C : Addr}
theorem scOutlook : FnScope ["self"] ["self"] (defScope sOutlook) := ⟨rfl, rfl, rfl, by decide +kernel, rfl, by decide +kernel, by decide +kernel⟩
theorem ok_outlook {f : Addr} {fd : FuncData} (F : Fun K "outlook" "Way.outlook" sOutlook f fd) (T : Cw K C) (TX : Txt K mg) : FnOk P w K mg base CX0 1 f fd ["self"] (spOutlook C) := by
  refine F.ok scOutlook (fun vs H Q E h => ?_) (fun cdv A outer s H vs Q E hr h => ?_)
  · obtain ⟨x, w, rfl, _⟩ := h; rfl
  · obtain ⟨x, wy, rfl, ⟨dx, pa, ta, ma, hx, hpa, hta, hma⟩, k⟩ := h
    refine ⟨_, (L2.pss_one (ps_ret (pe_tup (L2.pa_cons (pe_fld (pv 0) rfl) (L2.pa_cons (pe_fld (pv 0) rfl) (L2.pa_cons (pe_callTy call_tuple_of (by rfl) TX.tuple (by decide +kernel) (L2.pa_cons (pe_fld (pv 0) rfl) L2.pa_nil)) L2.pa_nil)))))), ?_⟩
    refine ⟨_, rfl, x, C, dx, _, _, rfl, hx, T.cl, T.nD, wf_D, _, rfl, x, C, dx, _, _, rfl, hx, T.cl, T.nM, wf_M, _, rfl, x, C, dx, _, _, rfl, hx, T.cl, T.nT, wf_T, ta, _, rfl, .inl ⟨sqL_of hta, fun tt htt => ⟨by show 3 ≤ sizeLine; decide, fun p hp => ?_⟩⟩⟩
    have s2 := (Same.upd (.tup (ivs wy.tail)) htt).trans (Same.upd (.tup [iv wy.done, .ref ma, .ref tt]) hp)
    exact k _ p s2 ((Same.upd _ htt).free hp) ⟨ma, tt, upd_same, s2 _ _ hma, Same.upd _ hp _ _ upd_same⟩

theorem scFollow : FnScope ["self", "rules", "words", "rule"] ["self", "rules", "words"] (defScope sFollow) := ⟨rfl, rfl, rfl, by decide +kernel, rfl, by decide +kernel, by decide +kernel⟩
theorem ok_follow {f f1 f2 : Addr} {fd fd1 fd2 : FuncData} (F : Fun K "follow" "Way.follow" sFollow f fd) (T : Cw K C) (TR : Cr K CR) (TM : Cm K CM)
    (D1 : Dm K C "cut_on" "Way.cut_on" sCutOn ["self", "rules", "fits", "words", "whole"] f1 fd1) (G1 : FnOk P w K mg base CX0 7 f1 fd1 ["self", "rules", "fits", "words", "whole"] (spCutOn K CR CM CL CP C))
    (D2 : Dm K CM "fitting" "Matcher.fitting" sFitting ["self", "row"] f2 fd2) : FnOk P w K mg base CX0 8 f fd ["self", "rules", "words"] (spFollow CR CM CL CP C) := by
  have G2 : FnOk P w K mg base CX0 1 f2 fd2 ["self", "row"] (spFitting K CM CL) := ok_fitting D2.F TM
  refine F.ok scFollow (fun vs H Q E h => ?_) (fun cdv A outer s H vs Q E hr h => ?_)
  · obtain ⟨G, x, aR, aW, rs, qs, xs, ws, w, n, rfl, _⟩ := h; rfl
  · obtain ⟨G, x, aR, aW, rs, qs, xs, ws, wy, n, rfl, wl, hR, hrs, hok, hrl, hW, hws, hway, hwy, hn, kT, kF⟩ := h
    obtain ⟨dx, pa, ta, ma, hx, hpa, hta, hma⟩ := id hway
    have nd := scFollow.nd
    have hr1 : Room 1 _ := hr.mono (by decide)
    have hln := hrs.len
    have small : (1001 : Nat) ≤ sizeLine := by decide
    refine ⟨_, (L2.pss_one (ps_ret ((L2.pe_meth (pv 0) T.cl (Mp.Dm.m D1) G1 hr (Mp.Dm.b D1) .nil L2.pass0 (L2.pa_cons (pv 1) (L2.pa_cons (pe_lc (own := [("rule", 3)]) (g := gName 3) (te := tMeth CM "fitting" (spFitting K CM CL) [] E (tFld K (tVar 3) "matcher") (tCons (tFld K (tVar 0) "tail") tNil)) rfl nd (pi_list (pv 1)) (blkOk_by (N := ["self", "rules", "words", "rule"]) (sc := defScope sFollow) (by decide +kernel))
        (fun _ _ _ _ _ => pg_name (i := 3) nd rfl (Or.inl rfl)) (fun _ _ _ _ _ => pts_nil) (fun _ _ _ _ _ => (L2.pe_meth (pe_fld (pv 3) rfl) TM.cl (Mp.Dm.m D2) G2 hr1 (Mp.Dm.b D2) .nil L2.pass0 (L2.pa_cons (pe_fld (pv 0) rfl) L2.pa_nil)))) (L2.pa_cons (pv 2) (L2.pa_cons pe_bl L2.pa_nil)))))))), ?_⟩
    refine ⟨_, rfl, x, dx, _, rfl, hx, wf_no, _, rfl, _, rfl, aR, rfl, ⟨_, sqL_of hR⟩, fun D hD => ?_⟩
    refine lc_list (K := K) (a := aR) (xs := rs.map V.ref) (fun i H' => ∃ fa, H' D = some (.lst (fa.map V.ref)) ∧ Go G [] H H' ∧ FitsIn H' fa ((xs.take i).map fun x => x.2.fits wy.tail)) ⟨[], upd_same, .of wl (Same.upd _ hD), ⟨rfl, fun i f l e => by simp at e⟩⟩ ?_ ?_ ?_
    · rintro i H' _ ⟨fa, _, g, _⟩; exact sqL_of (g.at0 hR)
    · rintro i y H' hi ⟨fa, hfD, g, hfa⟩
      obtain ⟨r, hri, rfl⟩ := refs_at hi
      have hlt := (List.getElem?_eq_some_iff.mp hri).1
      obtain ⟨z, hxi, rdx, m, g1, g2⟩ := (hrs.std g.std).get hri
      obtain ⟨mdx, _, _, _, mo, _⟩ := id g2
      have hz := hok z (List.mem_of_getElem? hxi)
      refine ⟨rfl, ?_⟩
      refine iteT (B := ∃ fa, H' D = some (.lst (fa.map V.ref)) ∧ Go G [] H H' ∧ FitsIn H' fa ((xs.take (i + 1)).map fun x => x.2.fits wy.tail)) ?_
      refine ⟨_, rfl, r, CR, rdx, _, _, rfl, g1, TR.cl, TR.nX, rf_X, m, mdx, _, rfl, mo, mf_r (fl_no (by decide +kernel) (by decide +kernel) (by decide +kernel)), _, rfl, x, C, dx, _, _, rfl, g.at0 hx, T.cl, T.nT, wf_T, ?_⟩
      refine ⟨G, m, ta, wy.tail, z.2, rfl, g2, hz.m.byb, sqL_of (g.at0 hta), Nat.le_trans hwy.tl hn, hwy.t, fun H2 p s2 np hp => ⟨fa.map V.ref, s2 _ _ hfD, ?_, fa ++ [p], ?_, ?_, ?_⟩⟩
      · have hl := hfa.len
        rw [List.length_map, List.length_take] at hl
        rw [List.length_map, hl]; exact Nat.lt_of_le_of_lt (Nat.le_trans (Nat.min_le_left _ _) (by omega : i ≤ 1000)) small
      · rw [upd_same, List.map_append]; rfl
      · exact (g.trans (.of g.w' s2)).write _ (g.w'.no hfD (by intro _ z; cases z)) (.inr hD)
      · have e : (xs.take (i + 1)).map (fun x => x.2.fits wy.tail) = (xs.take i).map (fun x => x.2.fits wy.tail) ++ [z.2.fits wy.tail] := by
          obtain ⟨l1, e1⟩ := List.getElem?_eq_some_iff.mp hxi
          rw [List.take_succ_eq_append_getElem l1, List.map_append, e1]; rfl
        rw [e]
        exact fits_push hfD hfa (fun _ _ e => s2 _ _ e) np hp
    rintro H1 ⟨fa, hF, g1, hfa⟩
    rw [List.length_map, hln, List.take_length] at hfa
    refine ⟨_, rfl, ?_⟩
    refine ⟨G, x, aR, D, aW, false, rs, fa, qs, xs, _, ws, wy, n, rfl, g1.w', g1.at0 hR, hrs.std g1.std, hok, hF, hfa, by simp, g1.at0 hW, hws.mono fun b o e ho => g1.at0 e (by
      intro y z; subst z; rcases ho with ⟨_, z⟩ | ⟨_, z⟩ <;> cases z), ⟨dx, pa, ta, ma, g1.at0 hx, g1.at0 hpa, g1.at0 hta, g1.at0 hma⟩, hwy, ?_, ?_⟩
    · intro H2 v g2 hv hvo hp he _
      exact kT H2 v ((g1.wide [x]).trans g2) hv hvo ⟨hp, fun ext => he ext (fun z => by cases z)⟩
    · intro H2 g2 hv he
      exact kF H2 ((g1.wide [x]).trans g2) hv (fun ext => he ext (fun z => by cases z))

theorem scFinish : FnScope ["self", "rules", "words", "fits", "rule"] ["self", "rules", "words"] (defScope sFinish) := ⟨rfl, rfl, rfl, by decide +kernel, rfl, by decide +kernel, by decide +kernel⟩
theorem ok_finish {f f1 f2 : Addr} {fd fd1 fd2 : FuncData} (F : Fun K "finish" "Way.finish" sFinish f fd) (T : Cw K C) (TR : Cr K CR) (TM : Cm K CM) (TX : Txt K mg)
    (D1 : Dm K C "cut_on" "Way.cut_on" sCutOn ["self", "rules", "fits", "words", "whole"] f1 fd1) (G1 : FnOk P w K mg base CX0 7 f1 fd1 ["self", "rules", "fits", "words", "whole"] (spCutOn K CR CM CL CP C))
    (D2 : Dm K CM "promising" "Matcher.promising" sPromising ["self", "row"] f2 fd2) (G2 : FnOk P w K mg base CX0 4 f2 fd2 ["self", "row"] (spPromising K CM CL)) : FnOk P w K mg base CX0 8 f fd ["self", "rules", "words"] (spFinish CR CM CL CP C) := by
  refine F.ok scFinish (fun vs H Q E h => ?_) (fun cdv A outer s H vs Q E hr h => ?_)
  · obtain ⟨G, x, aR, aW, rs, qs, xs, ws, w, n, rfl, _⟩ := h; rfl
  · obtain ⟨G, x, aR, aW, rs, qs, xs, ws, wy, n, rfl, wl, hR, hrs, hok, hrl, hW, hws, hway, hwy, hn, kT, kF⟩ := h
    obtain ⟨dx, pa, ta, ma, hx, hpa, hta, hma⟩ := id hway
    have nd := scFinish.nd
    have hr4 : Room 4 _ := hr.mono (by decide)
    have hln := hrs.len
    have small : (1001 : Nat) ≤ sizeLine := by decide
    refine ⟨_, (L2.pss_cons (ps_setLc (i := 3) (own := [("rule", 4)]) (g := gName 4) (te := tMeth CM "promising" (spPromising K CM CL) [] E (tFld K (tVar 4) "matcher") (tCons (tFld K (tVar 0) "tail") tNil)) (by rfl) nd rfl rfl (sw_true rfl rfl rfl (by decide +kernel)) (pi_list (pv 1)) (blkOk_by (N := ["self", "rules", "words", "fits", "rule"]) (sc := defScope sFinish) (by decide +kernel))
        (fun _ _ _ _ _ => pg_name (i := 4) nd rfl (Or.inl rfl)) (fun _ _ _ _ _ => pts_nil) (fun _ _ _ _ _ => (L2.pe_meth (pe_fld (pv 4) rfl) TM.cl (Mp.Dm.m D2) G2 hr4 (Mp.Dm.b D2) .nil L2.pass0 (L2.pa_cons (pe_fld (pv 0) rfl) L2.pa_nil))))
      (L2.pss_one (ps_ret (pe_and ((L2.pe_meth (pv 0) T.cl (Mp.Dm.m D1) G1 hr (Mp.Dm.b D1) .nil L2.pass0 (L2.pa_cons (pv 1) (L2.pa_cons (pv 3) (L2.pa_cons (pv 2) (L2.pa_cons pe_bl L2.pa_nil)))))) (pe_one (pe_cmpR op_eq (pe_fld (pv 0) rfl) ((L2.pe_callB L2.call_len_seq (by rfl) TX.len PySem.boot_len (L2.pa_cons (pv 2) L2.pa_nil))) (nomark _))))))), ?_⟩
    refine ⟨_, rfl, aR, rfl, ⟨_, sqL_of hR⟩, fun D hD => ?_⟩
    refine lc_list (K := K) (a := aR) (xs := rs.map V.ref) (fun i H' => ∃ fa, H' D = some (.lst (fa.map V.ref)) ∧ Go G [] H H' ∧ FitsIn H' fa ((xs.take i).map fun x => x.2.prom wy.tail)) ⟨[], upd_same, .of wl (Same.upd _ hD), ⟨rfl, fun i f l e => by simp at e⟩⟩ ?_ ?_ ?_
    · rintro i H' _ ⟨fa, _, g, _⟩; exact sqL_of (g.at0 hR)
    · rintro i y H' hi ⟨fa, hfD, g, hfa⟩
      obtain ⟨r, hri, rfl⟩ := refs_at hi
      have hlt := (List.getElem?_eq_some_iff.mp hri).1
      obtain ⟨z, hxi, rdx, m, g1, g2⟩ := (hrs.std g.std).get hri
      obtain ⟨mdx, _, _, _, mo, _⟩ := id g2
      have hz := hok z (List.mem_of_getElem? hxi)
      refine ⟨rfl, ?_⟩
      refine iteT (B := ∃ fa, H' D = some (.lst (fa.map V.ref)) ∧ Go G [] H H' ∧ FitsIn H' fa ((xs.take (i + 1)).map fun x => x.2.prom wy.tail)) ?_
      refine ⟨_, rfl, r, CR, rdx, _, _, rfl, g1, TR.cl, TR.nX, rf_X, m, mdx, _, rfl, mo, mf_r (fl_no (by decide +kernel) (by decide +kernel) (by decide +kernel)), _, rfl, x, C, dx, _, _, rfl, g.at0 hx, T.cl, T.nT, wf_T, ?_⟩
      refine ⟨G, m, ta, wy.tail, z.2, rfl, g.w', g2, hz.m, sqL_of (g.at0 hta), Nat.le_trans hwy.tl hn, hwy.t, fun H2 p g3 np hp => ⟨fa.map V.ref, g3.at0 hfD, ?_, fa ++ [p], ?_, ?_, ?_⟩⟩
      · have hl := hfa.len
        rw [List.length_map, List.length_take] at hl
        rw [List.length_map, hl]; exact Nat.lt_of_le_of_lt (Nat.le_trans (Nat.min_le_left _ _) (by omega : i ≤ 1000)) small
      · rw [upd_same, List.map_append]; rfl
      · exact (g.trans g3).write _ (g.w'.no hfD (by intro _ z; cases z)) (.inr hD)
      · have e : (xs.take (i + 1)).map (fun x => x.2.prom wy.tail) = (xs.take i).map (fun x => x.2.prom wy.tail) ++ [z.2.prom wy.tail] := by
          obtain ⟨l1, e1⟩ := List.getElem?_eq_some_iff.mp hxi
          rw [List.take_succ_eq_append_getElem l1, List.map_append, e1]; rfl
        rw [e]
        exact fits_push hfD hfa (fun _ _ e => g3.at0 e) np hp
    rintro H1 ⟨fa, hF, g1, hfa⟩
    rw [List.length_map, hln, List.take_length] at hfa
    refine ⟨_, rfl, x, dx, _, rfl, g1.at0 hx, wf_no, _, rfl, _, rfl, _, rfl, ?_⟩
    have hx0 : ∃ c d f, H1 x = some (.ins c d f) := ⟨_, _, _, g1.at0 hx⟩
    refine ⟨G, x, aR, D, aW, true, rs, fa, qs, xs, _, ws, wy, n, rfl, g1.w', g1.at0 hR, hrs.std g1.std, hok, hF, hfa, by simp, g1.at0 hW, hws.mono fun b o e ho => g1.at0 e (by
      intro y z; subst z; rcases ho with ⟨_, z⟩ | ⟨_, z⟩ <;> cases z), ⟨dx, pa, ta, ma, g1.at0 hx, g1.at0 hpa, g1.at0 hta, g1.at0 hma⟩, hwy, ?_, ?_⟩
    · intro H2 v g2 hv hvo hp he ht
      have g12 := (g1.wide [x]).trans g2
      obtain ⟨dx2, pa2, ta2, ma2, hx2, _⟩ := id hv
      have hlen := hws.len
      refine ⟨true, rfl, iteT ⟨_, rfl, x, C, dx2, _, _, rfl, hx2, T.cl, T.nD, wf_D, _, rfl, aW, _, rfl, .inl (sqL_of (g2.atx hx0 (g1.at0 hW))), rfl, ?_⟩⟩
      rw [List.length_map, hlen, dec_iv]
      have hend : Ends (xs.map (·.1)) ws v [] ↔ v.done = ws.length := by
        unfold Mx.Ends
        rw [ht rfl, List.append_nil, Mx.W_nil]
        have := hvo.d
        constructor
        · intro z
          have z := congrArg List.length z
          rw [List.length_drop] at z; simp at z; omega
        · intro z; rw [z, List.drop_length]
      by_cases hd : v.done = ws.length
      · rw [decide_eq_true hd]
        exact kT H2 v g12 hv hp ((he [] (fun _ => rfl)).mpr (hend.mpr hd))
      · rw [decide_eq_false hd]
        exact kF H2 g12 ⟨v, hv⟩ (fun z => hd (hend.mp ((he [] (fun _ => rfl)).mp z)))
    · intro H2 g2 hv he
      exact ⟨false, rfl, iteF (kF H2 ((g1.wide [x]).trans g2) hv (he [] (fun _ => rfl)))⟩
end
end Mp

-- MpMore
set_option maxRecDepth 100000
set_option maxHeartbeats 4000000
/-! The ways to write one word more. -/
namespace Mp
open PySem PySem.Spec PyProof.Rows L2
open Sq17 (Piece Word)
open Mx (okR MOk Wy W Fol Rep Cmp Col ext0 ext1 longer_)

theorem Go.sub {G : Gh} {xs ys : List Addr} {H H' : Hp} (a : Go G xs H H') (h : ∀ b ∈ xs, b ∈ ys) : Go G ys H H' := ⟨a.w, a.w', fun b o e n m => a.k b o e n (fun z => m (h b z)), fun b _ e z => e (a.free z)⟩
/-- what's new may be written on -/
theorem Go.drop {G : Gh} {ys : List Addr} {H H1 H2 : Hp} (a : Go G [] H H1) (b : Go G ys H1 H2) (h : ∀ y ∈ ys, H y = none) : Go G [] H H2 := ⟨a.w, b.w', fun p o e n _ => b.k p o (a.k p o e n (by simp)) n (fun z => by rw [h p z] at e; cases e), fun p hp => by cases hp⟩
theorem Go.fresh {G : Gh} {xs : List Addr} {H H' : Hp} (a : Go G xs H H') {b : Addr} (h : H b = none) : G.d b = none := a.w.new h

/-- ways that were made new -/
structure NewWays (C : Addr) (H0 H : Hp) (as : List Addr) (ws : List Wy) : Prop where
  len : as.length = ws.length
  ix : ∀ (i : Nat) (a : Addr) (w : Wy), as[i]? = some a → ws[i]? = some w → WayAt C H a w
  nd : as.Nodup
  nw : ∀ a ∈ as, H0 a = none
theorem NewWays.nil {C : Addr} {H0 H : Hp} : NewWays C H0 H [] [] := ⟨rfl, fun i a w e => by simp at e, List.nodup_nil, by simp⟩
theorem WayAt.mono {C : Addr} {H H' : Hp} {a : Addr} {w : Wy} (h : WayAt C H a w) (k : ∀ b o, H b = some o → (∃ c d f, o = .ins c d f) ∨ (∃ y, o = .tup y) ∨ (∃ y, o = .lst (ivs y)) → H' b = some o) : WayAt C H' a w := by
  obtain ⟨dx, pa, ta, ma, h1, h2, h3, h4⟩ := h
  exact ⟨dx, pa, ta, ma, k _ _ h1 (.inl ⟨_, _, _, rfl⟩), k _ _ h2 (.inr (.inl ⟨_, rfl⟩)), k _ _ h3 (.inr (.inr ⟨_, rfl⟩)), k _ _ h4 (.inr (.inl ⟨_, rfl⟩))⟩
theorem WayAt.there {C : Addr} {H : Hp} {a : Addr} {w : Wy} (h : WayAt C H a w) : H a ≠ none := by
  obtain ⟨dx, pa, ta, ma, h1, _⟩ := h; rw [h1]; simp
theorem NewWays.mono {C : Addr} {H0 H H' : Hp} {as : List Addr} {ws : List Wy} (h : NewWays C H0 H as ws) (k : ∀ b o, H b = some o → (∃ c d f, o = .ins c d f) ∨ (∃ y, o = .tup y) ∨ (∃ y, o = .lst (ivs y)) → H' b = some o) : NewWays C H0 H' as ws := ⟨h.len, fun i a w e1 e2 => (h.ix i a w e1 e2).mono k, h.nd, h.nw⟩
theorem NewWays.mem {C : Addr} {H0 H : Hp} {as : List Addr} {ws : List Wy} (h : NewWays C H0 H as ws) : ∀ a ∈ as, H a ≠ none := fun a ha => by
  obtain ⟨i, hi⟩ := List.mem_iff_getElem?.mp ha
  have hl := (List.getElem?_eq_some_iff.mp hi).1
  exact (h.ix i a _ hi (List.getElem?_eq_getElem (by rw [← h.len]; exact hl))).there
theorem way_push {C : Addr} {H0 H' H4 : Hp} {D x dx pa t ma : Addr} {as : List Addr} {ws : List Wy} {w : Wy} (hD : H' D = some (.lst (as.map V.ref))) (hw : NewWays C H0 H' as ws) (s : Same H' H4) (k0 : ∀ b, H' b = none → H0 b = none) (nx : H' x = none)
    (hx : H4 x = some (.ins C dx (wf pa t ma w.done))) (hpa : H4 pa = some (.tup (ivs w.places))) (nt : H' t = none) (ht : H4 t = some (.lst (ivs w.tail))) (hma : H4 ma = some (.tup (mt w.modes))) :
    NewWays C H0 (upd H4 D (.lst (as.map V.ref ++ [.ref x]))) (as ++ [x]) (ws ++ [w]) := by
  have hD4 := s _ _ hD
  have up : ∀ {b : Addr} {o : HO}, H4 b = some o → (∀ y, o ≠ .lst y) → upd H4 D (.lst (as.map V.ref ++ [.ref x])) b = some o := fun e n => by rw [upd_ne (ne_of e hD4 (n _))]; exact e
  have tD : t ≠ D := fun z => by rw [z, hD] at nt; cases nt
  have new : WayAt C (upd H4 D (.lst (as.map V.ref ++ [.ref x]))) x w := ⟨dx, pa, t, ma, up hx (by intro _ z; cases z), up hpa (by intro _ z; cases z), by rw [upd_ne tD]; exact ht, up hma (by intro _ z; cases z)⟩
  have xn : x ∉ as := fun z => hw.mem x z nx
  refine ⟨by simp [hw.len], ixsnoc hw.len (fun i a w' e1 e2 => ?_) new, ?_, fun a ha => ?_⟩
  · obtain ⟨dx', pa', ta', ma', h1, h2, h3, h4⟩ := hw.ix i a w' e1 e2
    refine ⟨dx', pa', ta', ma', up (s _ _ h1) (by intro _ z; cases z), up (s _ _ h2) (by intro _ z; cases z), ?_, up (s _ _ h4) (by intro _ z; cases z)⟩
    have : ta' ≠ D := fun z => by
      rw [z, hD] at h3
      have h3 := Option.some.inj h3
      injection h3 with h3
      rw [ivs_refs h3.symm] at e1; simp at e1
    rw [upd_ne this]; exact s _ _ h3
  · exact List.nodup_append.mpr ⟨hw.nd, by simp, fun a ha b hb => by simp at hb; subst hb; exact fun z => xn (z ▸ ha)⟩
  · rcases List.mem_append.mp ha with ha | ha
    · exact hw.nw a ha
    · simp at ha; subst ha; exact k0 _ nx
theorem NewWays.append {C : Addr} {H0 H : Hp} {as bs : List Addr} {ws vs : List Wy} (h : NewWays C H0 H as ws) (k : NewWays C H0 H bs vs) (d : ∀ a ∈ as, a ∉ bs) : NewWays C H0 H (as ++ bs) (ws ++ vs) where
  len := by simp [h.len, k.len]
  ix := fun i a w e1 e2 => by
    have hl := h.len
    by_cases hi : i < as.length
    · rw [List.getElem?_append_left hi] at e1
      rw [List.getElem?_append_left (by omega)] at e2
      exact h.ix i a w e1 e2
    · rw [List.getElem?_append_right (by omega)] at e1 e2
      rw [← hl] at e2
      exact k.ix _ a w e1 e2
  nd := List.nodup_append.mpr ⟨h.nd, k.nd, fun a ha b hb z => d a ha (z ▸ hb)⟩
  nw := fun a ha => by
    rcases List.mem_append.mp ha with ha | ha
    · exact h.nw a ha
    · exact k.nw a ha
/-- ways that are there -/
structure WaysIn (C : Addr) (H : Hp) (as : List Addr) (ws : List Wy) : Prop where
  len : as.length = ws.length
  ix : ∀ (i : Nat) (a : Addr) (w : Wy), as[i]? = some a → ws[i]? = some w → WayAt C H a w
theorem WaysIn.zip {C : Addr} {H : Hp} {as : List Addr} {ws : List Wy} (h : WaysIn C H as ws) : ∀ e ∈ as.zip ws, WayAt C H e.1 e.2 := fun e he => by
  obtain ⟨i, hi⟩ := List.mem_iff_getElem?.mp he
  rw [List.getElem?_zip_eq_some] at hi
  exact h.ix i _ _ hi.1 hi.2

theorem NewWays.upd {C : Addr} {H0 H : Hp} {as : List Addr} {ws : List Wy} {D : Addr} {zs : List Addr} (o : HO) (h : NewWays C H0 H as ws) (hD : H D = some (.lst (zs.map V.ref))) (hz : as ≠ [] → zs ≠ []) : NewWays C H0 (L2.upd H D o) as ws := ⟨h.len, fun i a w e1 e2 => by
  obtain ⟨dx', pa', ta', ma', h1, h2, h3, h4⟩ := h.ix i a w e1 e2
  have up : ∀ {b : Addr} {o' : HO}, H b = some o' → (∀ y, o' ≠ .lst y) → L2.upd H D o b = some o' := fun e n => by rw [upd_ne (ne_of e hD (n _))]; exact e
  refine ⟨dx', pa', ta', ma', up h1 (by intro _ z; cases z), up h2 (by intro _ z; cases z), ?_, up h4 (by intro _ z; cases z)⟩
  have : ta' ≠ D := fun z => by
    rw [z, hD] at h3
    have h3 := Option.some.inj h3
    injection h3 with h3
    exact hz (fun z => by rw [z] at e1; simp at e1) (ivs_refs h3.symm)
  rw [upd_ne this]; exact h3, h.nd, h.nw⟩
theorem WayAt.other {G : Gh} {C : Addr} {H H' : Hp} {a y : Addr} {v : Wy} (g : Go G [a] H H') (ha : ∃ c d f, H a = some (.ins c d f)) (h : WayAt C H y v) (n : y ≠ a) : WayAt C H' y v := by
  obtain ⟨dx, pa, ta, ma, h1, h2, h3, h4⟩ := h
  exact ⟨dx, pa, ta, ma, g.at h1 (by simpa using n), g.atx ha h2, g.atx ha h3, g.atx ha h4⟩
theorem if_to {c : TT} {t u v : TS} {D : L2.Ends} {σ : L2.St} {H : Hp} (R : L2.St → Hp → Prop) (ht : (∀ σ H, R σ H → v D σ H) → tIfS c t u { D with nx := v D } σ H) (hR : ∀ σ H, R σ H → v D σ H) : tSeq (tIfS c t u) v D σ H := ht hR
theorem ivs_app (a b : List Nat) : ivs a ++ ivs b = ivs (a ++ b) := by unfold ivs; rw [List.map_append]
theorem isDN_ne {P : Program} {w : World} {H : Hp} {d b : Addr} {xs : List En} {o : HO} (h : IsDN P w H d xs) (e : H b = some o) (n1 : ∀ φ, o ≠ .ext φ) (n2 : ∀ y, o ≠ .dT y) : b ≠ d := fun z => by
  subst z
  rcases h with h | ⟨_, h⟩
  · rw [e] at h; exact n1 _ (Option.some.inj h)
  · rw [e] at h; exact n2 _ (Option.some.inj h)
end Mp

-- MpMore2
set_option maxRecDepth 100000
set_option maxHeartbeats 8000000
/-! The ways to write one word more. -/
namespace Mp
open PySem PySem.Spec PyProof.Rows L2
open Sq17 (Piece Word)
open Mx (okR MOk Wy W Fol Rep Cmp Col ext0 ext1 longer_)

/-- words as they are in a text -/
def WordOk (x : Word) : Prop := x.2.2.length ≤ 200 ∧ ∀ b ∈ x.2.2, b < 256
def spMore (K : PySem.W.Frag) (CR CM CL C : Addr) : Sp := fun vs H Q _ => ∃ (G : Gh) (aR aW aS aY place : Nat) (rs qs as : List Addr) (xs : List (Sq17.Rule × Mx.Mat)) (ws : List Word) (sep : List Nat) (wys : List Wy), vs = [.ref aR, .ref aW, .ref aS, .ref aY, iv place] ∧ Wld G H ∧
  H aR = some (.lst (rs.map V.ref)) ∧ RulesIn G CR CM CL H rs xs ∧ (∀ x ∈ xs, RuleOk x) ∧ rs.length ≤ 1000 ∧ H aW = some (.lst (qs.map V.ref)) ∧ WordsAre H qs ws ∧ (∀ x ∈ ws, WordOk x) ∧ H aS = some (.lst (ivs sep)) ∧ (sep.length ≤ 200 ∧ ∀ b ∈ sep, b < 256) ∧
  H aY = some (.lst (as.map V.ref)) ∧ WaysIn C H as wys ∧ (∀ w ∈ wys, WyOk ws.length (400 * place) w) ∧ as.length ≤ 1000 ∧ place < ws.length ∧ place ≤ 20 ∧ (∀ w ∈ wys, Rep (xs.map (·.1)) sep ws place w) ∧ Cmp (xs.map (·.1)) sep ws wys place ∧
  ∀ H' p as' wys', Go G [] H H' → H p = none → H' p = some (.lst (as'.map V.ref)) → WaysIn C H' as' wys' → as'.Nodup → (∀ w ∈ wys', WyOk ws.length (400 * (place + 1)) w) → as'.length ≤ 2 * as.length → (∀ a ∈ as', H a = none) →
    (∀ w ∈ wys', Rep (xs.map (·.1)) sep ws (place + 1) w) → wys'.Pairwise (fun a b => Mx.rle a.places b.places) → Cmp (xs.map (·.1)) sep ws wys' (place + 1) → Q (.ref p) H'

theorem ext0_ok {n place : Nat} {row : List Nat} {w : Wy} (h : WyOk n (400 * place) w) (hr : row.length ≤ 200) (hb : ∀ b ∈ row, b < 256) : WyOk n (400 * (place + 1)) (ext0 row w) := ⟨h.d, h.m, h.m16, fun x hx => by
  rcases List.mem_append.mp hx with hx | hx
  · exact h.t x hx
  · exact hb x hx, by show (w.tail ++ row).length ≤ _; have := h.tl; rw [List.length_append]; omega⟩
theorem ext1_ok {n place k : Nat} {sep row : List Nat} {w : Wy} (h : WyOk n (400 * place) w) (hr : row.length ≤ 200) (hb : ∀ b ∈ row, b < 256) (hs : sep.length ≤ 200) (hsb : ∀ b ∈ sep, b < 256) : WyOk n (400 * (place + 1)) (ext1 k sep row w) := ⟨h.d, h.m, h.m16, fun x hx => by
  rcases List.mem_append.mp hx with hx | hx
  · rcases List.mem_append.mp hx with hx | hx
    · exact h.t x hx
    · exact hsb x hx
  · exact hb x hx, by show (w.tail ++ sep ++ row).length ≤ _; have := h.tl; rw [List.length_append, List.length_append]; omega⟩
theorem map_take' {α β : Type} (f : α → β) {S : List α} {i : Nat} {w : α} (h : S[i]? = some w) : (S.take (i + 1)).map f = (S.take i).map f ++ [f w] := by
  obtain ⟨l1, e1⟩ := List.getElem?_eq_some_iff.mp h
  rw [List.take_succ_eq_append_getElem l1, List.map_append, e1]; rfl

section
variable {P : Program} {w : World} {K : PySem.W.Frag} {mg : Str → Option Value} {base : Heap} {CR CM CL CP C : Addr}
/-- at the loop's head -/
structure MoreAt (P : Program) (w : World) (G : Gh) (C : Addr) (H3 : Hp) (d n b : Nat) (rules : List Sq17.Rule) (sep : List Nat) (ws : List Word) (k : Nat) (out : List (Addr × Wy)) (i : Nat) (es : List En) (H : Hp) : Prop where
  g : Go G (d :: out.map (·.1)) H3 H
  dn : IsDN P w H d es
  en : ∀ e ∈ es, KeyT H e.2.1 e.1 ∧ WayAt C H e.2.2 e.1 ∧ WyOk n b e.1
  sub : (es.map (·.2.2)).Sublist ((out.take i).map (·.1))
  left : ∀ (j : Nat) (e : Addr × Wy), i ≤ j → out[j]? = some e → WayAt C H e.1 e.2
  col : Col rules sep ws k (out.map (·.2)) i (es.map (·.1))
theorem scMore : FnScope ["rules", "words", "separator", "ways", "place", "row", "longer", "left", "way"] ["rules", "words", "separator", "ways", "place"] (defScope sMore) := ⟨rfl, rfl, rfl, by decide +kernel, rfl, by decide +kernel, by decide +kernel⟩
theorem ok_more {f f1 f2 f3 fI : Addr} {fd fd1 fd2 fd3 fdI : FuncData} (F : Fun K "ways_with_one_more" "ways_with_one_more" sMore f fd) (T : Cw K C) (TX : Txt K mg)
    (D1 : Dm K C "follow" "Way.follow" sFollow ["self", "rules", "words"] f1 fd1) (G1 : FnOk P w K mg base CX0 8 f1 fd1 ["self", "rules", "words"] (spFollow CR CM CL CP C))
    (D2 : Dm K C "outlook" "Way.outlook" sOutlook ["self"] f2 fd2) (D3 : Df K mg "rank" sRank ["way"] f3 fd3)
    (MI : Mk K C fI) (FI : Fun K "__init__" "Way.__init__" sWInit fI fdI) (bI : Binds K fdI ["self", "places", "tail", "modes", "done"] []) (gW : mg "Way" = some (.ref C)) :
    FnOk P w K mg base CX0 9 f fd ["rules", "words", "separator", "ways", "place"] (spMore K CR CM CL C) := by
  have GI : FnOk P w K mg base CX0 1 fI fdI ["self", "places", "tail", "modes", "done"] (spWInit C) := ok_wInit FI T
  have G2 : FnOk P w K mg base CX0 1 f2 fd2 ["self"] (spOutlook C) := ok_outlook D2.F T TX
  refine F.ok scMore (fun vs H Q E h => ?_) (fun cdv A outer s H vs Q E hr h => ?_)
  · obtain ⟨G, aR, aW, aS, aY, place, rs, qs, as, xs, ws, sep, wys, rfl, _⟩ := h; rfl
  · obtain ⟨G, aR, aW, aS, aY, place, rs, qs, as, xs, ws, sep, wys, rfl, wl, hR, hrs, hok, hrl, hW, hws, hwok, hS, ⟨hsl, hsb⟩, hY, hys, hwy, has, hpl, hp20, hrep, hcmp, k⟩ := h
    have nd := scMore.nd
    have hr1 : Room 1 _ := hr.mono (by decide)
    have hr2 : Room 2 _ := hr.mono (by decide)
    have hr3 : Room 3 _ := hr.mono (by decide)
    have big : (20000 : Nat) ≤ sizeLine := by decide
    refine ⟨_, (L2.pss_cons (ps_set (i := 5) nd rfl (Or.inr rfl) ((L2.pe_ix L2.ix_tup (L2.pe_ix L2.ix_list (pv 1) (pv 4) (fun _ _ => rfl)) pe_int (fun _ _ => rfl))))
      (L2.pss_cons (ps_setLc (i := 6) (own := [("way", 8)]) (g := gName 8) (te := tMake C (spWInit C) [] E (tCons (tFld K (tVar 8) "places") (tCons (tOp rCat (tFld K (tVar 8) "tail") (tVar 5)) (tCons (tFld K (tVar 8) "modes") (tCons (tFld K (tVar 8) "done") tNil))))) (by rfl) nd rfl rfl (sw_true rfl rfl rfl (by decide +kernel)) (pi_list (pv 3)) (blkOk_by (N := ["rules", "words", "separator", "ways", "place", "row", "longer", "left", "way"]) (sc := defScope sMore) (by decide +kernel))
        (fun _ _ _ _ _ => pg_name (i := 8) nd rfl (Or.inl rfl)) (fun _ _ _ _ _ => pts_nil) (fun _ _ _ _ _ => pe_make MI GI hr2 rfl gW bI .nil pass0 (L2.pa_cons (pe_fld (pv 8) rfl) (L2.pa_cons (pe_op op_cat (pe_fld (pv 8) rfl) (pv 5)) (L2.pa_cons (pe_fld (pv 8) rfl) (L2.pa_cons (pe_fld (pv 8) rfl) L2.pa_nil))))))
      (L2.pss_cons (L2.ps_if (L2.pt_cmpR op_gt (pv 4) pe_int (L2.nomark _)) (L2.pss_one (ps_expr (pe_bm PySem.F.plainAttrs_list PySem.F.slot_list_extend PySem.F.type_list_extend mt_extend (pv 6) (L2.pa_cons (pe_lc (own := [("way", 8)]) (g := gName 8) (te := tMake C (spWInit C) [] E (tCons (tOp (rCatA K) (tFld K (tVar 8) "places") (tTup (tCons (tVar 4) tNil))) (tCons (tOp rCat (tOp rCat (tFld K (tVar 8) "tail") (tVar 2)) (tVar 5)) (tCons (tFld K (tVar 8) "modes") (tCons (tFld K (tVar 8) "done") tNil))))) rfl nd (pi_list (pv 3)) (blkOk_by (N := ["rules", "words", "separator", "ways", "place", "row", "longer", "left", "way"]) (sc := defScope sMore) (by decide +kernel))
          (fun _ _ _ _ _ => pg_name (i := 8) nd rfl (Or.inl rfl)) (fun _ _ _ _ _ => pts_nil) (fun _ _ _ _ _ => pe_make MI GI hr2 rfl gW bI .nil pass0 (L2.pa_cons (pe_op op_catA (pe_fld (pv 8) rfl) (pe_tup (L2.pa_cons (pv 4) L2.pa_nil))) (L2.pa_cons (pe_op op_cat (pe_op op_cat (pe_fld (pv 8) rfl) (pv 2)) (pv 5)) (L2.pa_cons (pe_fld (pv 8) rfl) (L2.pa_cons (pe_fld (pv 8) rfl) L2.pa_nil)))))) L2.pa_nil)))) L2.pss_nil)
      (L2.pss_cons (L2.ps_set (i := 7) nd rfl (Or.inl rfl) pe_dnewT)
      (L2.pss_cons (ps_for PassesOwn.never rfl (pi_list (pe_callBK (cr_sortW D3.F D3.b T.cl T.nP TX.len hr3) (by rfl) TX.sorted (by decide +kernel) (L2.pa_cons (pv 6) L2.pa_nil) (pk_cons (pe_glob (v := .ref f3) rfl D3.g rfl) pk_nil))) (pg_name (i := 8) nd rfl (Or.inl rfl)) (L2.pss_one (L2.ps_if (pt_val ((L2.pe_meth (pv 8) T.cl (Mp.Dm.m D1) G1 hr (Mp.Dm.b D1) .nil L2.pass0 (L2.pa_cons (pv 0) (L2.pa_cons (pv 1) L2.pa_nil))))) (L2.pss_one (ps_expr (pe_dnset hr.units (pv 7) ((L2.pe_meth0 (pv 8) T.cl (Mp.Dm.m D2) G2 hr1 (Mp.Dm.b D2) .nil L2.pass0)) (pv 8) ⟨rfl, rfl, rfl, rfl⟩))) L2.pss_nil)))
      (L2.pss_one (ps_ret (pe_dnlist rfl (pv 7) rfl TX.list)))))))), ?_⟩
    -- the word that is to come
    obtain ⟨wd, hwd⟩ : ∃ wd, ws[place]? = some wd := ⟨_, List.getElem?_eq_getElem hpl⟩
    obtain ⟨q, hq⟩ : ∃ q, qs[place]? = some q := ⟨_, List.getElem?_eq_getElem (by rw [hws.len]; exact hpl)⟩
    obtain ⟨bw, hq1, hq2⟩ := hws.ix place q wd hq hwd
    obtain ⟨hwl, hwb⟩ := hwok wd (List.mem_of_getElem? hwd)
    have hyl := hys.len
    refine ⟨_, rfl, _, rfl, aW, _, _, _, rfl, rfl, sqL_of hW, atI_nat (by rw [List.getElem?_map, hq]; rfl), q, _, _, _, rfl, rfl, SqT.of hq1, rfl, ?_⟩
    dsimp only [gName]
    -- without a separator
    refine ⟨_, rfl, aY, rfl, ⟨_, sqL_of hY⟩, fun D hD => ?_⟩
    refine lc_list (K := K) (a := aY) (xs := as.map V.ref) (fun i H' => ∃ ns : List Addr, H' D = some (.lst (ns.map V.ref)) ∧ Same H H' ∧ NewWays C H H' ns ((wys.take i).map (ext0 wd.2.2))) ⟨[], upd_same, Same.upd _ hD, .nil⟩ ?_ ?_ ?_
    · rintro i H' _ ⟨ns, _, s, _⟩; exact sqL_of (s _ _ hY)
    · rintro i y H' hi ⟨ns, hnD, sm, hnw⟩
      obtain ⟨a, hai, rfl⟩ := refs_at hi
      have hlt := (List.getElem?_eq_some_iff.mp hai).1
      obtain ⟨wi, hwi⟩ : ∃ wi, wys[i]? = some wi := ⟨_, List.getElem?_eq_getElem (by omega)⟩
      obtain ⟨dx, pa, ta, ma, h1, h2, h3, h4⟩ := hys.ix i a wi hai hwi
      have hwo := hwy wi (List.mem_of_getElem? hwi)
      refine ⟨rfl, ?_⟩
      refine iteT (B := ∃ ns : List Addr, H' D = some (.lst (ns.map V.ref)) ∧ Same H H' ∧ NewWays C H H' ns ((wys.take (i + 1)).map (ext0 wd.2.2))) ?_
      refine ⟨_, rfl, a, C, dx, _, _, rfl, sm _ _ h1, T.cl, T.nP, wf_P, _, rfl, a, C, dx, _, _, rfl, sm _ _ h1, T.cl, T.nT, wf_T, _, rfl, ta, bw, _, _, rfl, rfl, sm _ _ h3, sm _ _ hq2, ?_, fun t ht => ?_⟩
      · have := hwo.tl; rw [ivs_len, ivs_len]; omega
      rw [ivs_app]
      have s1 := Same.upd (.lst (ivs (wi.tail ++ wd.2.2))) ht
      have t1 : upd H' t (.lst (ivs (wi.tail ++ wd.2.2))) t = some (.lst (ivs (wi.tail ++ wd.2.2))) := upd_same
      generalize upd H' t (.lst (ivs (wi.tail ++ wd.2.2))) = H1 at *
      refine ⟨_, rfl, a, C, dx, _, _, rfl, s1 _ _ (sm _ _ h1), T.cl, T.nM, wf_M, _, rfl, a, C, dx, _, _, rfl, s1 _ _ (sm _ _ h1), T.cl, T.nD, wf_D, fun x dxn nx ndx nex => ?_⟩
      refine ⟨x, dxn, pa, t, ma, wi.done, rfl, upd_same, fun H4 hx4 a4 => ⟨rfl, ?_⟩⟩
      have s4 : Same H1 H4 := Same.made nx ndx a4
      have s14 := s1.trans s4
      refine ⟨ns.map V.ref, s14 _ _ hnD, ?_, ns ++ [x], by rw [upd_same, List.map_append]; rfl, fun b o e => ?_, ?_⟩
      · have hl := hnw.len
        rw [List.length_map, List.length_take] at hl
        rw [List.length_map, hl]; omega
      · rw [upd_ne (ne_of_none e hD)]; exact s14 _ _ (sm _ _ e)
      · rw [map_take' _ hwi]
        exact way_push hnD hnw s14 (fun b hb => sm.free hb) (s1.free nx) hx4 (s14 _ _ (sm _ _ h2)) ht (s4 _ _ t1) (s14 _ _ (sm _ _ h4))
    rintro H1 ⟨ns1, hD1, sm1, hnw1⟩
    rw [List.length_map, hyl, List.take_length] at hnw1
    dsimp only [gName]
    -- with one
    have elw : (longer_ place sep wd.2.2 wys).length ≤ 2 * wys.length := by
      unfold longer_
      rw [List.length_append, List.length_map]
      split
      · rw [List.length_map]; omega
      · simp; omega
    refine if_to (fun σ H2 => ∃ ns : List Addr, σ = [some (.ref aR), some (.ref aW), some (.ref aS), some (.ref aY), some (iv place), some (.ref bw), some (.ref D), none, none] ∧ H2 D = some (.lst (ns.map V.ref)) ∧ Same H H2 ∧ NewWays C H H2 ns (longer_ place sep wd.2.2 wys)) (fun go => ?_) ?_
    · refine ⟨_, rfl, _, _, rfl, rfl, _, rfl, ?_⟩
      rw [show decide ((0 : Int) < (place : Int)) = decide (0 < place) from by rw [decide_eq_decide]; omega]
      by_cases h0 : 0 < place
      · rw [decide_eq_true h0]
        have hns1 := hnw1.len
        rw [List.length_map] at hns1
        refine iteT ⟨_, rfl, .inl ⟨rfl, _, sqL_of hD1⟩, _, rfl, aY, rfl, ⟨_, sqL_of (sm1 _ _ hY)⟩, fun D2 hD2 => ?_⟩
        refine lc_list (K := K) (a := aY) (xs := as.map V.ref) (fun i H' => ∃ ns : List Addr, H' D2 = some (.lst (ns.map V.ref)) ∧ Same H1 H' ∧ NewWays C H1 H' ns ((wys.take i).map (ext1 place sep wd.2.2))) ⟨[], upd_same, Same.upd _ hD2, .nil⟩ ?_ ?_ ?_
        · rintro i H' _ ⟨ns, _, s, _⟩; exact sqL_of (s _ _ (sm1 _ _ hY))
        · rintro i y H' hi ⟨ns, hnD, sm', hnw⟩
          have sm := sm1.trans sm'
          obtain ⟨a, hai, rfl⟩ := refs_at hi
          have hlt := (List.getElem?_eq_some_iff.mp hai).1
          obtain ⟨wi, hwi⟩ : ∃ wi, wys[i]? = some wi := ⟨_, List.getElem?_eq_getElem (by omega)⟩
          obtain ⟨dx, pa, ta, ma, h1, h2, h3, h4⟩ := hys.ix i a wi hai hwi
          have hwo := hwy wi (List.mem_of_getElem? hwi)
          have hch := (hrep wi (List.mem_of_getElem? hwi)).ch
          have hpl2 : wi.places.length ≤ 20 := by
            have := Mx.ch_len place 0 wi.places hch.1 (fun x hx => by have := hch.2 x hx; omega)
            omega
          refine ⟨rfl, ?_⟩
          refine iteT (B := ∃ ns : List Addr, H' D2 = some (.lst (ns.map V.ref)) ∧ Same H1 H' ∧ NewWays C H1 H' ns ((wys.take (i + 1)).map (ext1 place sep wd.2.2))) ?_
          refine ⟨_, rfl, a, C, dx, _, _, rfl, sm _ _ h1, T.cl, T.nP, wf_P, _, rfl, by show 1 ≤ sizeLine; omega, fun pt hpt => ?_⟩
          have s0 := Same.upd (.tup [iv place]) hpt
          have e0 : upd H' pt (.tup [iv place]) pt = some (.tup [iv place]) := upd_same
          generalize upd H' pt (.tup [iv place]) = H'' at *
          -- behind the places
          have fin : ∀ (H5 : Hp) (pb : Addr), Same H' H5 → H5 pb = some (.tup (ivs (wi.places ++ [place]))) → 
              tCons (tOp rCat (tOp rCat (tFld K (tVar 8) "tail") (tVar 2)) (tVar 5)) (tCons (tFld K (tVar 8) "modes") (tCons (tFld K (tVar 8) "done") tNil))
                [some (.ref aR), some (.ref aW), some (.ref aS), some (.ref aY), some (iv place), some (.ref bw), some (.ref D), none, some (.ref a)] H5
                (fun xs H7 => (fun vs H1' => ∀ x dx, H1' x = none → H1' dx = none → dx ≠ x → spWInit C (.ref x :: (vs ++ [])) (upd (upd H1' dx (.own x)) x (.ins C dx [])) (fun v H2 => v = .non ∧ ∃ acc, H2 D2 = some (.lst acc) ∧ acc.length < sizeLine ∧
                  ∃ ns : List Addr, upd H2 D2 (.lst (acc ++ [.ref x])) D2 = some (.lst (ns.map V.ref)) ∧ Same H1 (upd H2 D2 (.lst (acc ++ [.ref x]))) ∧ NewWays C H1 (upd H2 D2 (.lst (acc ++ [.ref x]))) ns ((wys.take (i + 1)).map (ext1 place sep wd.2.2))) E) (.ref pb :: xs) H7) := by
            intro H5 pb s5 epb
            refine ⟨_, rfl, a, C, dx, _, _, rfl, s5 _ _ (sm _ _ h1), T.cl, T.nT, wf_T, _, rfl, ta, aS, _, _, rfl, rfl, s5 _ _ (sm _ _ h3), s5 _ _ (sm _ _ hS), ?_, fun t1 ht1 => ?_⟩
            · have := hwo.tl; rw [ivs_len, ivs_len]; omega
            rw [ivs_app]
            have s6 := Same.upd (.lst (ivs (wi.tail ++ sep))) ht1
            have e6 : upd H5 t1 (.lst (ivs (wi.tail ++ sep))) t1 = some (.lst (ivs (wi.tail ++ sep))) := upd_same
            generalize upd H5 t1 (.lst (ivs (wi.tail ++ sep))) = H6 at *
            refine ⟨_, rfl, t1, bw, _, _, rfl, rfl, e6, s6 _ _ (s5 _ _ (sm _ _ hq2)), ?_, fun t ht => ?_⟩
            · have := hwo.tl; rw [ivs_len, ivs_len, List.length_append]; omega
            rw [ivs_app]
            have s7 := Same.upd (.lst (ivs (wi.tail ++ sep ++ wd.2.2))) ht
            have t7 : upd H6 t (.lst (ivs (wi.tail ++ sep ++ wd.2.2))) t = some (.lst (ivs (wi.tail ++ sep ++ wd.2.2))) := upd_same
            generalize upd H6 t (.lst (ivs (wi.tail ++ sep ++ wd.2.2))) = H7 at *
            have s57 := s6.trans s7
            have s17 := s5.trans s57
            refine ⟨_, rfl, a, C, dx, _, _, rfl, s17 _ _ (sm _ _ h1), T.cl, T.nM, wf_M, _, rfl, a, C, dx, _, _, rfl, s17 _ _ (sm _ _ h1), T.cl, T.nD, wf_D, fun x dxn nx ndx nex => ?_⟩
            refine ⟨x, dxn, pb, t, ma, wi.done, rfl, upd_same, fun H8 hx8 a8 => ⟨rfl, ?_⟩⟩
            have s8 : Same H7 H8 := Same.made nx ndx a8
            have s18 := s17.trans s8
            refine ⟨ns.map V.ref, s18 _ _ hnD, ?_, ns ++ [x], by rw [upd_same, List.map_append]; rfl, fun b o e => ?_, ?_⟩
            · have hl := hnw.len
              rw [List.length_map, List.length_take] at hl
              rw [List.length_map, hl]; omega
            · rw [upd_ne (ne_of_none e hD2)]; exact s18 _ _ (sm' _ _ e)
            · rw [map_take' _ hwi]
              exact way_push hnD hnw s18 (fun b hb => sm'.free hb) (s17.free nx) hx8 (s8 _ _ (s57 _ _ epb)) (s5.free (s6.free ht)) (s8 _ _ t7) (s18 _ _ (sm _ _ h4))
          refine ⟨pa, pt, ivs wi.places, [iv place], rfl, rfl, SqT.of (s0 _ _ (sm _ _ h2)), SqT.of e0, by rw [ivs_len]; show wi.places.length + 1 ≤ sizeLine; omega, fun z => ?_, fun _ z => (by cases z), fun _ _ pb hpb => ?_⟩
          · refine fin H'' pt s0 ?_
            have : wi.places = [] := by cases hw : wi.places with
              | nil => rfl
              | cons a l => rw [hw] at z; cases z
            rw [this]; exact e0
          · exact fin _ pb (s0.trans (Same.upd _ hpb)) (by rw [upd_same, show ([iv place] : List V) = ivs [place] from rfl, ivs_app])
        · rintro H2 ⟨ns2, hD2', sm2, hnw2⟩
          rw [List.length_map, hyl, List.take_length] at hnw2
          have hns2 := hnw2.len
          rw [List.length_map] at hns2
          refine ⟨D, D2, _, _, rfl, rfl, sm2 _ _ hD1, hD2', by rw [List.length_map, List.length_map]; omega, ?_⟩
          refine go _ _ ⟨ns1 ++ ns2, rfl, by rw [upd_same, List.map_append], fun b o e => ?_, ?_⟩
          · rw [upd_ne (ne_of_none e hD)]; exact sm2 _ _ (sm1 _ _ e)
          · unfold longer_
            rw [if_pos h0]
            have k1 : NewWays C H H2 ns1 (wys.map (ext0 wd.2.2)) := hnw1.mono fun b o e _ => sm2 _ _ e
            have k2 : NewWays C H H2 ns2 (wys.map (ext1 place sep wd.2.2)) := ⟨hnw2.len, hnw2.ix, hnw2.nd, fun a ha => sm1.free (hnw2.nw a ha)⟩
            have k3 : NewWays C H H2 (ns1 ++ ns2) (wys.map (ext0 wd.2.2) ++ wys.map (ext1 place sep wd.2.2)) := k1.append k2 (fun a ha z => hnw1.mem a ha (hnw2.nw a z))
            refine k3.upd _ (sm2 _ _ hD1) (fun hne z => hne ?_)
            have h1 : ns1.length = 0 := by rw [z]; rfl
            exact List.length_eq_zero_iff.mp (by rw [List.length_append]; omega)
      · rw [decide_eq_false h0]
        refine iteF (go _ _ ⟨ns1, rfl, hD1, sm1, ?_⟩)
        unfold longer_
        rw [if_neg h0, List.append_nil]; exact hnw1
    -- sorted by rank, those that fail left out, one of each outlook
    rintro σ H2 ⟨ns, rfl, hD2, sm2, hnw⟩
    have hnl := hnw.len
    have hlok : ∀ x ∈ longer_ place sep wd.2.2 wys, WyOk ws.length (400 * (place + 1)) x := fun x hx => by
      unfold longer_ at hx
      rcases List.mem_append.mp hx with hx | hx
      · obtain ⟨v, hv, rfl⟩ := List.mem_map.mp hx
        exact ext0_ok (hwy v hv) hwl hwb
      · split at hx
        · obtain ⟨v, hv, rfl⟩ := List.mem_map.mp hx
          exact ext1_ok (hwy v hv) hwl hwb hsl hsb
        · cases hx
    have hrp := Mx.rep_longer (sep := sep) hrep hwd
    have hcp := Mx.cmp_longer (sep := sep) hcmp hwd
    generalize longer_ place sep wd.2.2 wys = lw at *
    refine fun d hd => ?_
    have s3 := Same.upd (.dT []) hd
    have e3 : upd H2 d (.dT []) d = some (.dT []) := upd_same
    have dD : d ≠ D := (ne_of_none hD2 hd).symm
    have hd0 : H d = none := sm2.free hd
    have hdn : d ∉ ns := fun z => hnw.mem d z hd
    generalize upd H2 d (.dT []) = H3 at *
    dsimp only [gName]
    have ezf : (ns.zip lw).map (·.1) = ns := List.map_fst_zip (by omega)
    have ezs : (ns.zip lw).map (·.2) = lw := List.map_snd_zip (by omega)
    have ezr : (ns.zip lw).map (fun e => V.ref e.1) = ns.map V.ref := by rw [← ezf, List.map_map, ezf]; rfl
    have hin2 : WaysIn C H2 ns lw := ⟨hnw.len, hnw.ix⟩
    have lzip : (ns.zip lw).length = ns.length := by rw [List.length_zip]; omega
    refine ⟨_, rfl, D, ns.zip lw, rfl, rfl, by rw [ezr]; exact sqL_of (s3 _ _ hD2), fun e he => ?_, by rw [lzip]; omega, fun out pL perm pw npL => ?_⟩
    · exact (hin2.zip e he).mono fun b o e _ => s3 _ _ e
    have s4 := Same.upd (.lst (out.map fun e => V.ref e.1)) npL
    have e4 : upd H3 pL (.lst (out.map fun e => V.ref e.1)) pL = some (.lst (out.map fun e => V.ref e.1)) := upd_same
    have npL0 : H pL = none := sm2.free (s3.free npL)
    generalize upd H3 pL (.lst (out.map fun e => V.ref e.1)) = H4 at *
    have pd : pL ≠ d := (ne_of_none e3 npL).symm
    have g4 : Go G [] H H4 := .of wl ((sm2.trans s3).trans s4)
    have hout : ∀ e ∈ out, WayAt C H4 e.1 e.2 := fun e he => (hin2.zip e (perm.mem_iff.mp he)).mono fun b o e _ => s4 _ _ (s3 _ _ e)
    have pf := perm.map (fun e : Addr × Wy => e.1)
    rw [ezf] at pf
    have ps := perm.map (fun e : Addr × Wy => e.2)
    rw [ezs] at ps
    have ndo : (out.map (·.1)).Nodup := pf.nodup_iff.mpr hnw.nd
    have newo : ∀ a ∈ out.map (·.1), H a = none := fun a ha => hnw.nw a (pf.mem_iff.mp ha)
    have dno : d ∉ out.map (·.1) := fun z => hdn (pf.mem_iff.mp z)
    have olen : out.length = ns.length := by rw [perm.length_eq, lzip]
    have pno : pL ∉ out.map (·.1) := fun z => hnw.mem pL (pf.mem_iff.mp z) (s3.free npL)
    have newall : ∀ y ∈ d :: out.map (·.1), H y = none := fun y hy => by
      rcases List.mem_cons.mp hy with rfl | hy
      · exact hd0
      · exact newo y hy
    have hwo : ∀ e ∈ out, WyOk ws.length (400 * (place + 1)) e.2 := fun e he => hlok e.2 (ps.mem_iff.mp (List.mem_map.mpr ⟨e, he, rfl⟩))
    have hro : ∀ e ∈ out, Rep (xs.map (·.1)) sep ws (place + 1) e.2 := fun e he => hrp e.2 (ps.mem_iff.mp (List.mem_map.mpr ⟨e, he, rfl⟩))
    have hco : Cmp (xs.map (·.1)) sep ws (out.map (·.2)) (place + 1) := hcp.perm fun w hw => ps.mem_iff.mpr hw
    have pwo : (out.map (·.2)).Pairwise (fun a b => Mx.rle a.places b.places) := List.pairwise_map.mpr pw
    have gdd : G.d d = none := wl.new hd0
    refine ⟨pL, rfl, ⟨_, sqL_of e4⟩, for_list (K := K) (a := pL) (xs := out.map fun e => V.ref e.1)
      (fun i σ H' => ∃ (v8 : Option V) (es : List En), σ = [some (.ref aR), some (.ref aW), some (.ref aS), some (.ref aY), some (iv place), some (.ref bw), some (.ref D), some (.ref d), v8] ∧ MoreAt P w G C H4 d ws.length (400 * (place + 1)) (xs.map (·.1)) sep ws (place + 1) out i es H')
      ⟨none, [], rfl, .refl g4.w' _, .inr ⟨rfl, s4 _ _ e3⟩, by simp, by simp, fun j e _ hj => hout e (List.mem_of_getElem? hj), Mx.col_nil⟩ (fun i σ H' _ ⟨_, _, _, m⟩ => sqL_of (m.g.at e4 (by simp only [List.mem_cons, not_or]; exact ⟨pd, pno⟩))) ?_ ?_⟩
    · rintro i y σ H5 hi ⟨v8, es, rfl, m⟩
      obtain ⟨e, he, rfl⟩ : ∃ e, out[i]? = some e ∧ y = V.ref e.1 := by
        rw [List.getElem?_map] at hi
        obtain ⟨n, hn, e⟩ := Option.map_eq_some_iff.mp hi
        exact ⟨n, hn, e.symm⟩
      obtain ⟨a, wi⟩ := e
      have hemem := List.mem_of_getElem? he
      have hway := m.left i (a, wi) (Nat.le_refl _) he
      obtain ⟨dx, pa, ta, ma, h1, h2, h3, h4⟩ := id hway
      have ha0 : ∃ c d f, H5 a = some (.ins c d f) := ⟨_, _, _, h1⟩
      have amem : a ∈ d :: out.map (·.1) := List.mem_cons_of_mem _ (List.mem_map.mpr ⟨_, hemem, rfl⟩)
      have g5 : Go G [] H H5 := g4.drop m.g newall
      have oS : (out.map (·.2))[i]? = some wi := by rw [List.getElem?_map, he]; rfl
      have ilt := (List.getElem?_eq_some_iff.mp he).1
      -- none of the others is this one
      have nother : ∀ (j : Nat) (e' : Addr × Wy), i + 1 ≤ j → out[j]? = some e' → e'.1 ≠ a := fun j e' hj he' z => by
        obtain ⟨l1, q1⟩ := List.getElem?_eq_some_iff.mp he'
        have h1 : (out.map (·.1))[j]? = some a := by rw [List.getElem?_map, he', ← z]; rfl
        have h2 : (out.map (·.1))[i]? = some a := by rw [List.getElem?_map, he]; rfl
        have := (List.getElem?_inj (by rw [List.length_map]; exact l1) ndo).mp (h1.trans h2.symm)
        omega
      have nes : ∀ e' ∈ es, e'.2.2 ≠ a := fun e' he' z => by
        have hm := m.sub.subset (List.mem_map.mpr ⟨e', he', rfl⟩)
        rw [z] at hm
        obtain ⟨x, hx, hxa⟩ := List.mem_map.mp hm
        obtain ⟨j, hj⟩ := List.mem_iff_getElem?.mp hx
        rw [List.getElem?_take] at hj
        split at hj
        · next hji =>
          have h1 : (out.map (·.1))[j]? = some a := by rw [List.getElem?_map, hj, ← hxa]; rfl
          have h2 : (out.map (·.1))[i]? = some a := by rw [List.getElem?_map, he]; rfl
          have := (List.getElem?_inj (by rw [List.length_map]; omega) ndo).mp (h1.trans h2.symm)
          omega
        · cases hj
      have ad : d ≠ a := fun z => dno (z ▸ List.mem_map.mpr ⟨_, hemem, rfl⟩)
      have subn : (es.map (·.2.2)).Sublist ((out.take (i + 1)).map (·.1)) := by
        rw [map_take' _ he]; exact m.sub.trans (List.sublist_append_left _ _)
      -- what stands behind a change of this way
      have keep : ∀ H6, Go G [a] H5 H6 → Go G (d :: out.map (·.1)) H4 H6 ∧ IsDN P w H6 d es ∧ (∀ e ∈ es, KeyT H6 e.2.1 e.1 ∧ WayAt C H6 e.2.2 e.1 ∧ WyOk ws.length (400 * (place + 1)) e.1) ∧ (∀ (j : Nat) (e : Addr × Wy), i + 1 ≤ j → out[j]? = some e → WayAt C H6 e.1 e.2) := fun H6 g6 =>
        ⟨m.g.trans (g6.sub (fun b hb => by simp at hb; subst hb; exact amem)), m.dn.imp (fun z => g6.k _ _ z gdd (by simpa using ad)) (fun z => ⟨z.1, g6.k _ _ z.2 gdd (by simpa using ad)⟩),
          fun e' he' => ⟨(m.en e' he').1.mono fun b y z => g6.atx ha0 z, (m.en e' he').2.1.other g6 ha0 (nes e' he'), (m.en e' he').2.2⟩, fun j e' hj he' => (m.left j e' (by omega) he').other g6 ha0 (nother j e' hj he')⟩
      refine ⟨_, rfl, a, dx, _, rfl, h1, wf_no, _, rfl, _, rfl, ?_⟩
      refine ⟨G, a, aR, aW, rs, qs, xs, ws, wi, 400 * (place + 1), rfl, g5.w', g5.at0 hR, hrs.std g5.std, hok, hrl, g5.at0 hW, hws.mono fun b o e ho => g5.at0 e (by
        intro y z; subst z; rcases ho with ⟨_, z⟩ | ⟨_, z⟩ <;> cases z), hway, hwo _ hemem, by omega, ?_, ?_⟩
      · intro H6 v g6 hv hvo hf
        obtain ⟨k1, k2, k3, k4⟩ := keep H6 g6
        obtain ⟨dx', pa', ta', ma', hv1, _⟩ := id hv
        refine ⟨true, rfl, iteT ?_⟩
        refine ⟨_, rfl, d, es, rfl, k2, _, rfl, a, dx', _, rfl, hv1, wf_no, ?_⟩
        refine ⟨a, v, rfl, hv, fun H7 ka s7 nka hka => ⟨_, rfl, es, v, ka, a, ?_, rfl, hka, rfl, fun e' he' => (k3 e' he').1.mono fun b y z => s7 _ _ z, ?_, ?_, ?_⟩⟩
        · exact k2.imp (fun z => s7 _ _ z) (fun z => ⟨z.1, s7 _ _ z.2⟩)
        · have := m.sub.length_le
          rw [List.length_map, List.length_map, List.length_take] at this
          omega
        · intro e' he' e1 e2 e3
          refine ⟨some (.ref a), es, rfl, k1.trans (.of k1.w' s7), k2.imp (fun z => s7 _ _ z) (fun z => ⟨z.1, s7 _ _ z.2⟩), fun e'' he'' => ⟨(k3 e'' he'').1.mono fun b y z => s7 _ _ z, (k3 e'' he'').2.1.mono fun b o z _ => s7 _ _ z, (k3 e'' he'').2.2⟩, subn, fun j e'' hj he'' => (k4 j e'' hj he'').mono fun b o z _ => s7 _ _ z, ?_⟩
          exact Mx.col_dup m.col pwo oS hf (List.mem_map.mpr ⟨e', he', rfl⟩) e1 e2 e3
        · intro hno
          have k7 : IsDN P w H7 d es := k2.imp (fun z => s7 _ _ z) (fun z => ⟨z.1, s7 _ _ z.2⟩)
          have up : ∀ {b : Addr} {o o' : HO}, H7 b = some o → (∀ φ, o ≠ .ext φ) → (∀ y, o ≠ .dT y) → upd H7 d o' b = some o := fun e n1 n2 => by rw [upd_ne (isDN_ne k7 e n1 n2)]; exact e
          have upw : ∀ {y : Addr} {u : Wy} {o' : HO}, WayAt C H7 y u → WayAt C (upd H7 d o') y u := fun hw => hw.mono fun b o z ho => up z (by intro φ z2; subst z2; rcases ho with ⟨_, _, _, z2⟩ | ⟨_, z2⟩ | ⟨_, z2⟩ <;> cases z2) (by intro φ z2; subst z2; rcases ho with ⟨_, _, _, z2⟩ | ⟨_, z2⟩ | ⟨_, z2⟩ <;> cases z2)
          have upk : ∀ {y : Addr} {u : Wy} {o' : HO}, KeyT H7 y u → KeyT (upd H7 d o') y u := fun hk => hk.mono fun b y z => up z (by intro _ z; cases z) (by intro _ z; cases z)
          refine ⟨some (.ref a), es ++ [(v, ka, a)], rfl, (k1.trans (.of k1.w' s7)).write _ gdd (.inl (by simp)), .inl upd_same, fun e'' he'' => ?_, ?_, fun j e'' hj he'' => upw ((k4 j e'' hj he'').mono fun b o z _ => s7 _ _ z), ?_⟩
          · rcases List.mem_append.mp he'' with he'' | he''
            · exact ⟨upk ((k3 e'' he'').1.mono fun b y z => s7 _ _ z), upw ((k3 e'' he'').2.1.mono fun b o z _ => s7 _ _ z), (k3 e'' he'').2.2⟩
            · simp at he''; subst he''
              exact ⟨upk hka, upw (hv.mono fun b o z _ => s7 _ _ z), hvo⟩
          · rw [map_take' _ he, List.map_append]; exact m.sub.append (List.Sublist.refl _)
          · rw [List.map_append]
            exact Mx.col_new m.col oS (hro _ hemem) hf
      · intro H6 g6 _ hno
        obtain ⟨k1, k2, k3, k4⟩ := keep H6 g6
        exact ⟨false, rfl, iteF ⟨some (.ref a), es, rfl, k1, k2, k3, subn, k4, Mx.col_fail m.col oS hno⟩⟩
    · rintro σ H5 ⟨v8, es, rfl, m⟩
      have hcol := m.col
      rw [List.length_map, ← List.length_map (f := fun e : Addr × Wy => e.2)] at hcol
      obtain ⟨c1, c2, c3⟩ := hcol.done pwo hco
      have g5 : Go G [] H H5 := g4.drop m.g newall
      have sub := m.sub
      rw [List.length_map, List.take_length] at sub
      have eln := sub.length_le
      rw [List.length_map, List.length_map] at eln
      refine ⟨_, rfl, d, es, rfl, m.dn, by omega, fun p hp => ?_⟩
      have s6 := Same.upd (.lst (es.map fun e => V.ref e.2.2)) hp
      refine k _ p (es.map (·.2.2)) (es.map (·.1)) (g5.put _ hp) (g5.free hp) ?_ ⟨by rw [List.length_map, List.length_map], fun i a w' h1 h2 => ?_⟩ (ndo.sublist sub) (fun w' hw' => ?_) ?_ (fun a ha => newo a (sub.subset ha)) c1 c2 c3
      · rw [upd_same, List.map_map]; rfl
      · rw [List.getElem?_map] at h1 h2
        obtain ⟨e, he, rfl⟩ := Option.map_eq_some_iff.mp h1
        rw [he] at h2
        cases h2
        exact (m.en e (List.mem_of_getElem? he)).2.1.mono fun b o z _ => s6 _ _ z
      · obtain ⟨e, he, rfl⟩ := List.mem_map.mp hw'
        exact (m.en e he).2.2
      · rw [List.length_map]; omega
end
end Mp

-- MpPlaces
set_option maxRecDepth 100000
set_option maxHeartbeats 8000000
/-! The places of the separators; the words written with them. -/
namespace Mp
open PySem PySem.Spec PyProof.Rows L2
open Sq17 (Piece Word)
open Mx (okR MOk Wy W Fol Rep Cmp way0 wrt)

theorem for_enum {K : PySem.W.Frag} {a : Addr} {xs : List V} {g : TG} {tb : TS} {D : L2.Ends} {σ : L2.St} {H : Hp} (Pv : Nat → L2.St → Hp → Prop) (h0 : Pv 0 σ H) (hq : ∀ i σ H, Pv i σ H → SqL K H a xs)
    (hs : ∀ (i : Nat) (x : V) (T : Addr) (σ : L2.St) (H : Hp), xs[i]? = some x → Pv i σ H → H T = none → g (.ref T) σ (upd H T (.tup [.int (i : Nat), x])) fun σ2 H2 => tb { D with nx := Pv (i + 1), ct := Pv (i + 1), bk := D.nx } σ2 H2) (hd : ∀ σ H, Pv xs.length σ H → D.nx σ H) :
    ∃ W : Nat → Nat → L2.St → Hp → Prop, (∃ m, W 0 m σ H) ∧ ∀ i m σ H, W i m σ H →
      ((Ite K a).stop i H ∧ D.nx σ H) ∨ ((Ite K a).go i H ∧ ∃ N : L2.St → Hp → Prop, (∀ σ' H', N σ' H' → ∃ m', m' < m ∧ W (i + 1) m' σ' H') ∧ ∀ v H', (Ite K a).yld i H v H' → g v σ H' fun σ2 H2 => tb { D with nx := N, ct := N, bk := D.nx } σ2 H2) := by
  refine ⟨fun i m σ H => m = xs.length - i ∧ i ≤ xs.length ∧ Pv i σ H, ⟨xs.length, rfl, Nat.zero_le _, h0⟩, ?_⟩
  rintro i m σ H ⟨rfl, hi, p⟩
  have q := hq i σ H p
  by_cases hlt : i < xs.length
  · have hx : xs[i]? = some xs[i] := List.getElem?_eq_getElem hlt
    refine .inr ⟨⟨xs, _, q, hx⟩, Pv (i + 1), fun σ' H' p' => ⟨xs.length - (i + 1), by omega, rfl, hlt, p'⟩, fun v H' y => ?_⟩
    obtain ⟨T, x', rfl, hT, rfl, f1⟩ := y
    exact hs i x' T σ H (f1 xs q) p hT
  · have e : i = xs.length := by omega
    subst e
    exact .inl ⟨⟨xs, q, Nat.le_refl _⟩, hd σ H p⟩

def spPlaces (CR CM CL : Addr) : Sp := fun vs H Q _ => ∃ (G : Gh) (aR aW aS : Addr) (rs qs : List Addr) (xs : List (Sq17.Rule × Mx.Mat)) (ws : List Word) (sep : List Nat), vs = [.ref aR, .ref aW, .ref aS] ∧ Wld G H ∧
  H aR = some (.lst (rs.map V.ref)) ∧ RulesIn G CR CM CL H rs xs ∧ (∀ x ∈ xs, RuleOk x) ∧ rs.length ≤ 1000 ∧ H aW = some (.lst (qs.map V.ref)) ∧ WordsAre H qs ws ∧ (∀ x ∈ ws, WordOk x) ∧ ws.length ≤ 9 ∧ H aS = some (.lst (ivs sep)) ∧ (sep.length ≤ 200 ∧ ∀ b ∈ sep, b < 256) ∧
  (∀ H', Go G [] H H' → Sq17.tight (xs.map (·.1)) sep ws = none → Q .non H') ∧ (∀ H' p c, Go G [] H H' → Sq17.tight (xs.map (·.1)) sep ws = some c → c.length ≤ 100 → H' p = some (.tup (ivs c)) → Q (.ref p) H')
def spWrite (K : PySem.W.Frag) : Sp := fun vs H Q _ => ∃ (aW aP aS : Addr) (qs : List Addr) (ws : List Word) (c sep : List Nat), vs = [.ref aW, .ref aP, .ref aS] ∧ SqL K H aW (qs.map V.ref) ∧ WordsAre H qs ws ∧ (∀ x ∈ ws, WordOk x) ∧ ws.length ≤ 9 ∧ SqT K H aP (ivs c) ∧ H aS = some (.lst (ivs sep)) ∧ sep.length ≤ 200 ∧
  ∀ H' p, Same H H' → H p = none → H' p = some (.lst (ivs (Sq17.written sep c ws))) → Q (.ref p) H'
theorem pow_le {i : Nat} (h : i ≤ 9) : 2 ^ i ≤ 512 := Nat.le_trans (Nat.pow_le_pow_right (by omega) h) (by decide)
section
variable {P : Program} {w : World} {K : PySem.W.Frag} {mg : Str → Option Value} {base : Heap} {CR CM CL CP C : Addr}
theorem scBestPlaces : FnScope ["rules", "words", "separator", "ways", "place", "way"] ["rules", "words", "separator"] (defScope sBestPlaces) := ⟨rfl, rfl, rfl, by decide +kernel, rfl, by decide +kernel, by decide +kernel⟩
theorem ok_bestPlaces {f f1 f2 fI : Addr} {fd fd1 fd2 fdI : FuncData} (F : Fun K "best_places" "best_places" sBestPlaces f fd) (T : Cw K C) (TX : Txt K mg) (TC : Txc mg)
    (D1 : Dm K C "finish" "Way.finish" sFinish ["self", "rules", "words"] f1 fd1) (G1 : FnOk P w K mg base CX0 8 f1 fd1 ["self", "rules", "words"] (spFinish CR CM CL CP C))
    (D2 : Df K mg "ways_with_one_more" sMore ["rules", "words", "separator", "ways", "place"] f2 fd2) (G2 : FnOk P w K mg base CX0 9 f2 fd2 ["rules", "words", "separator", "ways", "place"] (spMore K CR CM CL C))
    (MI : Mk K C fI) (FI : Fun K "__init__" "Way.__init__" sWInit fI fdI) (bI : Binds K fdI ["self", "places", "tail", "modes", "done"] []) (gW : mg "Way" = some (.ref C)) :
    FnOk P w K mg base CX0 10 f fd ["rules", "words", "separator"] (spPlaces CR CM CL) := by
  obtain ⟨t1, m1⟩ := TC.FIRST_MODE
  have GI : FnOk P w K mg base CX0 1 fI fdI ["self", "places", "tail", "modes", "done"] (spWInit C) := ok_wInit FI T
  refine F.ok scBestPlaces (fun vs H Q E h => ?_) (fun cdv A outer s H vs Q E hr h => ?_)
  · obtain ⟨G, aR, aW, aS, rs, qs, xs, ws, sep, rfl, _⟩ := h; rfl
  · obtain ⟨G, aR, aW, aS, rs, qs, xs, ws, sep, rfl, wl, hR, hrs, hok, hrl, hW, hws, hwok, h9, hS, hsep, kN, kS⟩ := h
    have nd := scBestPlaces.nd
    have hr2 : Room 2 _ := hr.mono (by decide)
    have hr8 : Room 8 _ := hr.mono (by decide)
    have hokR : ∀ x ∈ xs, okR x := fun x hx => (hok x hx).r
    have big : (20000 : Nat) ≤ sizeLine := by decide
    have hwl := hws.len
    refine ⟨_, (L2.pss_cons (L2.ps_set (i := 3) nd rfl (Or.inl rfl) (pe_lst (L2.pa_cons (pe_make MI GI hr2 rfl gW bI .nil pass0 (L2.pa_cons (pe_tup L2.pa_nil) (L2.pa_cons (pe_lst L2.pa_nil) (L2.pa_cons (pe_tup (L2.pa_cons (pgc m1) L2.pa_nil)) (L2.pa_cons pe_int L2.pa_nil))))) L2.pa_nil)))
      (L2.pss_cons (ps_for PassesOwn.never rfl (pi_range1 rfl TX.range (L2.pa_cons (L2.pe_callB L2.call_len_seq (by rfl) TX.len PySem.boot_len (L2.pa_cons (pv 1) L2.pa_nil)) L2.pa_nil)) (pg_name (i := 4) nd rfl (Or.inl rfl)) (L2.pss_one (L2.ps_set (i := 3) nd rfl (Or.inl rfl) (L2.pe_call G2 hr (by rfl) (Mp.Df.g D2) (Mp.Df.F D2).kp (Mp.Df.b D2) .nil L2.pass0 (L2.pa_cons (pv 0) (L2.pa_cons (pv 1) (L2.pa_cons (pv 2) (L2.pa_cons (pv 3) (L2.pa_cons (pv 4) L2.pa_nil)))))))))
      (L2.pss_cons (ps_for PassesOwn.never rfl (pi_list (pv 3)) (pg_name (i := 5) nd rfl (Or.inl rfl)) (L2.pss_one (L2.ps_if (pt_val ((L2.pe_meth (pv 5) T.cl (Mp.Dm.m D1) G1 hr8 (Mp.Dm.b D1) .nil L2.pass0 (L2.pa_cons (pv 0) (L2.pa_cons (pv 1) L2.pa_nil))))) (L2.pss_one (ps_ret (pe_fld (pv 5) rfl))) L2.pss_nil)))
      (L2.pss_one (ps_ret pe_non))))), ?_⟩
    -- the first way
    refine ⟨Nat.zero_le _, fun pa hpa => ⟨Nat.zero_le _, fun ta hta => ⟨by show 1 ≤ sizeLine; omega, fun ma hma => ?_⟩⟩⟩
    have s1 := ((Same.upd (.tup []) hpa).trans (Same.upd (.lst []) hta)).trans (Same.upd (.tup [V.int 0]) hma)
    have epa : upd (upd (upd H pa (.tup [])) ta (.lst [])) ma (.tup [V.int 0]) pa = some (.tup []) := ((Same.upd (.lst []) hta).trans (Same.upd (.tup [V.int 0]) hma)) _ _ upd_same
    have eta : upd (upd (upd H pa (.tup [])) ta (.lst [])) ma (.tup [V.int 0]) ta = some (.lst []) := Same.upd _ hma _ _ upd_same
    have ema : upd (upd (upd H pa (.tup [])) ta (.lst [])) ma (.tup [V.int 0]) ma = some (.tup [V.int 0]) := upd_same
    generalize upd (upd (upd H pa (.tup [])) ta (.lst [])) ma (.tup [V.int 0]) = H1 at *
    refine fun x dx nx ndx nex => ?_
    refine ⟨x, dx, pa, ta, ma, 0, rfl, upd_same, fun H2 hx2 a2 => ⟨rfl, by show 1 ≤ sizeLine; omega, fun aY haY => ?_⟩⟩
    have s2 : Same H1 H2 := Same.made nx ndx a2
    have s3 := Same.upd (.lst [.ref x]) haY
    have e3 : upd H2 aY (.lst [.ref x]) aY = some (.lst [.ref x]) := upd_same
    have nx0 : H x = none := s1.free nx
    generalize upd H2 aY (.lst [.ref x]) = H3 at *
    have s13 := (s1.trans s2).trans s3
    have g3 : Go G [] H H3 := .of wl s13
    have way3 : WayAt C H3 x way0 := ⟨dx, pa, ta, ma, s3 _ _ hx2, s3 _ _ (s2 _ _ epa), s3 _ _ (s2 _ _ eta), s3 _ _ (s2 _ _ ema)⟩
    dsimp only [gName]
    -- a word more each time
    refine ⟨_, rfl, aW, _, rfl, .inl (sqL_of (s13 _ _ hW)), (ws.length : Int), by rw [List.length_map, hwl], by omega, by omega, for_range (lo := 0) (n := ((ws.length : Int)).toNat)
      (fun i σ H' => ∃ (as : List Addr) (wys : List Wy) (aY : Addr) (v4 : Option V), σ = [some (.ref aR), some (.ref aW), some (.ref aS), some (.ref aY), v4, none] ∧ Go G [] H H' ∧ H' aY = some (.lst (as.map V.ref)) ∧ WaysIn C H' as wys ∧ as.Nodup ∧ (∀ a ∈ as, H a = none) ∧ (∀ w ∈ wys, WyOk ws.length (400 * i) w) ∧ as.length ≤ 2 ^ i ∧
        (∀ w ∈ wys, Rep (xs.map (·.1)) sep ws i w) ∧ wys.Pairwise (fun a b => Mx.rle a.places b.places) ∧ Cmp (xs.map (·.1)) sep ws wys i)
      ⟨[x], [way0], aY, none, rfl, g3, e3, ⟨rfl, fun i a w e1 e2 => ?_⟩, by simp, by simpa using nx0, fun w hw => ?_, Nat.le_refl _, fun w hw => ?_, by simp, Mx.cmp0 hokR⟩ ?_ ?_⟩
    · have hi : i = 0 := by
        have := (List.getElem?_eq_some_iff.mp e1).1
        simp at this; exact this
      subst hi
      simp at e1 e2; subst e1 e2; exact way3
    · simp at hw; subst hw
      exact ⟨Nat.zero_le _, by simp [way0], by simp [way0], by intro b hb; simp [way0] at hb, Nat.le_refl _⟩
    · simp at hw; subst hw; exact Mx.rep0
    · rintro i σ H4 hi ⟨as, wys, aY', v4, rfl, g4, hY, hin, hnd, hnew, hwy, hlen, hrep, hpw, hcmp⟩
      have hi : i < ws.length := by omega
      have hp := pow_le (i := i) (by omega)
      refine ⟨_, rfl, _, rfl, _, rfl, _, rfl, _, rfl, ?_⟩
      rw [show ((0 : Int) + (i : Int)) = ((i : Nat) : Int) by omega]
      refine ⟨G, aR, aW, aS, aY', i, rs, qs, as, xs, ws, sep, wys, rfl, g4.w', g4.at0 hR, hrs.std g4.std, hok, hrl, g4.at0 hW, hws.mono fun b o e ho => g4.at0 e (by
        intro y z; subst z; rcases ho with ⟨_, z⟩ | ⟨_, z⟩ <;> cases z), hwok, g4.at0 hS, hsep, hY, hin, hwy, by omega, hi, by omega, hrep, hcmp, fun H5 p as' wys' g5 np hp' hin' hnd' hwy' hlen' hnew' hrep' hpw' hcmp' => ?_⟩
      refine ⟨as', wys', p, _, rfl, g4.trans g5, hp', hin', hnd', fun a ha => g4.free (hnew' a ha), hwy', by rw [Nat.pow_succ]; omega, hrep', hpw', hcmp'⟩
    · rintro σ H4 ⟨as, wys, aY', v4, rfl, g4, hY, hin, hnd, hnew, hwy, hlen, hrep, hpw, hcmp⟩
      rw [Int.toNat_natCast] at *
      have hp := pow_le (i := ws.length) h9
      have hal := hin.len
      have asY : aY' ∉ as := fun z => by
        obtain ⟨i, hi⟩ := List.mem_iff_getElem?.mp z
        have hl := (List.getElem?_eq_some_iff.mp hi).1
        obtain ⟨_, _, _, _, h1, _⟩ := hin.ix i _ _ hi (List.getElem?_eq_getElem (by omega))
        rw [hY] at h1; cases h1
      -- the first of them that ends well
      refine ⟨_, rfl, aY', rfl, ⟨_, sqL_of hY⟩, for_list (K := K) (a := aY') (xs := as.map V.ref)
        (fun i σ H' => ∃ v5 : Option V, σ = [some (.ref aR), some (.ref aW), some (.ref aS), some (.ref aY'), v4, v5] ∧ Go G as H4 H' ∧ (∀ (j : Nat) (a : Addr) (w : Wy), i ≤ j → as[j]? = some a → wys[j]? = some w → WayAt C H' a w) ∧ (∀ (j : Nat) (w : Wy), j < i → wys[j]? = some w → ¬ Mx.Ends (xs.map (·.1)) ws w []))
        ⟨none, rfl, .refl g4.w' _, fun j a w _ e1 e2 => hin.ix j a w e1 e2, fun j w h => by omega⟩ (fun i σ H' _ ⟨_, _, g, _⟩ => sqL_of (g.at hY asY)) ?_ ?_⟩
      · rintro i y σ H5 hi ⟨v5, rfl, g5, hleft, hno⟩
        obtain ⟨a, hai, rfl⟩ := refs_at hi
        have hlt := (List.getElem?_eq_some_iff.mp hai).1
        obtain ⟨wi, hwi⟩ : ∃ wi, wys[i]? = some wi := ⟨_, List.getElem?_eq_getElem (by omega)⟩
        have hway := hleft i a wi (Nat.le_refl _) hai hwi
        obtain ⟨dxw, pw, tw, mw, h1, _⟩ := id hway
        have g45 : Go G [] H H5 := g4.drop g5 hnew
        refine ⟨_, rfl, a, dxw, _, rfl, h1, wf_no, _, rfl, _, rfl, ?_⟩
        refine ⟨G, a, aR, aW, rs, qs, xs, ws, wi, 400 * ws.length, rfl, g45.w', g45.at0 hR, hrs.std g45.std, hok, hrl, g45.at0 hW, hws.mono fun b o e ho => g45.at0 e (by
          intro y z; subst z; rcases ho with ⟨_, z⟩ | ⟨_, z⟩ <;> cases z), hway, hwy wi (List.mem_of_getElem? hwi), by omega, ?_, ?_⟩
        · intro H6 v g6 hv hvp he
          obtain ⟨dxv, pv', tv, mv, k1, k2, _⟩ := hv
          refine ⟨true, rfl, iteT ⟨_, rfl, a, C, dxv, _, _, rfl, k1, T.cl, T.nP, wf_P, ?_⟩⟩
          have hend := Mx.fin_some hokR hrep hpw hcmp hwi he hno
          have hch := (hrep wi (List.mem_of_getElem? hwi)).ch
          have hl := Mx.ch_len ws.length 0 wi.places hch.1 (fun x hx => by have := hch.2 x hx; omega)
          rw [← hvp] at hend hl
          exact kS H6 pv' v.places (g4.drop (g5.trans (g6.sub fun b hb => by simp at hb; subst hb; exact List.mem_of_getElem? hai)) hnew) hend (by omega) k2
        · intro H6 g6 _ he
          refine ⟨false, rfl, iteF ⟨some (.ref a), rfl, g5.trans (g6.sub fun b hb => by simp at hb; subst hb; exact List.mem_of_getElem? hai), fun j b wj hj hb hwj => ?_, fun j wj hj hwj => ?_⟩⟩
          · refine (hleft j b wj (by omega) hb hwj).other g6 ⟨_, _, _, h1⟩ (fun z => ?_)
            subst z
            have := (List.getElem?_inj (List.getElem?_eq_some_iff.mp hb).1 hnd).mp (hb.trans hai.symm)
            omega
          · rcases Nat.lt_succ_iff_lt_or_eq.mp hj with hj | rfl
            · exact hno j wj hj hwj
            · rw [hwi] at hwj; cases hwj; exact he
      · rintro σ H5 ⟨v5, rfl, g5, _, hno⟩
        rw [List.length_map, hal] at hno
        refine kN H5 (g4.drop g5 hnew) (Mx.fin_none hcmp fun w hw => ?_)
        obtain ⟨j, hj⟩ := List.mem_iff_getElem?.mp hw
        exact hno j w (List.getElem?_eq_some_iff.mp hj).1 hj
end
end Mp

-- MpWrite
set_option maxRecDepth 100000
set_option maxHeartbeats 8000000
/-! The words written with their separators. -/
namespace Mp
open PySem PySem.Spec PyProof.Rows L2
open Sq17 (Word)
open Mx (wrt)
theorem wrt_len {sep c : List Nat} (hs : sep.length ≤ 200) : ∀ (l : List Word) (i : Nat), (∀ x ∈ l, WordOk x) → (wrt sep c i l).length ≤ 400 * l.length
  | [], _, _ => Nat.zero_le _
  | x :: l, i, h => by
    have ih := wrt_len (c := c) hs l (i + 1) fun y hy => h y (by simp [hy])
    have hx := (h x (by simp)).1
    rw [wrt, List.length_append, List.length_append, List.length_cons]
    split
    · omega
    · simp only [List.length_nil]; omega
theorem sqT_same {K : PySem.W.Frag} {H H' : Hp} {a : Addr} {ys : List V} (s : Same H H') (h : SqT K H a ys) : SqT K H' a ys := by
  rcases h with (h | ⟨o, h⟩) | h
  · exact .inl (.inl (s _ _ h))
  · exact .inl (.inr ⟨o, s _ _ h⟩)
  · exact .inr h
section
variable {P : Program} {w : World} {K : PySem.W.Frag} {mg : Str → Option Value} {base : Heap}
theorem scWrite : FnScope ["words", "places", "separator", "row", "place", "word"] ["words", "places", "separator"] (defScope sWrite) := ⟨rfl, rfl, rfl, by decide +kernel, rfl, by decide +kernel, by decide +kernel⟩
theorem ok_write {f : Addr} {fd : FuncData} (F : Fun K "write" "write" sWrite f fd) (TX : Txt K mg) : FnOk P w K mg base CX0 1 f fd ["words", "places", "separator"] (spWrite K) := by
  refine F.ok scWrite (fun vs H Q E h => ?_) (fun cdv A outer s H vs Q E hr h => ?_)
  · obtain ⟨aW, aP, aS, qs, ws, c, sep, rfl, _⟩ := h; rfl
  · obtain ⟨aW, aP, aS, qs, ws, c, sep, rfl, hW, hws, hwok, h9, hP, hS, hsl, k⟩ := h
    have nd := scWrite.nd
    have big : (20000 : Nat) ≤ sizeLine := by decide
    have hwl := hws.len
    refine ⟨_, (L2.pss_cons (L2.ps_set (i := 3) nd rfl (Or.inl rfl) (pe_lst L2.pa_nil))
      (L2.pss_cons (ps_for PassesOwn.never rfl (pi_enum (by rfl) TX.enumerate (L2.pa_cons (pv 0) L2.pa_nil)) (pg_tup rfl (pgs_cons (pg_name (i := 4) nd rfl (Or.inl rfl)) (pgs_cons (pg_name (i := 5) nd rfl (Or.inl rfl)) pgs_nil))) (L2.pss_cons (L2.ps_if (pt_cmpR op_in_seq (pv 4) (pv 1) (by with_unfolding_all rfl)) (L2.pss_one (ps_expr (pe_bm PySem.F.plainAttrs_list PySem.F.slot_list_extend PySem.F.type_list_extend mt_extend (pv 3) (L2.pa_cons (pv 2) L2.pa_nil)))) L2.pss_nil)
      (L2.pss_one (ps_expr (pe_bm PySem.F.plainAttrs_list PySem.F.slot_list_extend PySem.F.type_list_extend mt_extend (pv 3) (L2.pa_cons (L2.pe_ix L2.ix_tup (pv 5) pe_int (fun _ _ => rfl)) L2.pa_nil))))))
      (L2.pss_one (ps_ret (pv 3))))), ?_⟩
    refine ⟨Nat.zero_le _, fun aL haL => ?_⟩
    have s1 := Same.upd (.lst []) haL
    have e1 : upd H aL (.lst []) aL = some (.lst []) := upd_same
    generalize upd H aL (.lst []) = H1 at *
    refine ⟨_, rfl, aW, _, rfl, s1.seq hW, for_enum (K := K) (a := aW) (xs := qs.map V.ref)
      (fun i σ H' => ∃ v4 v5 : Option V, σ = [some (.ref aW), some (.ref aP), some (.ref aS), some (.ref aL), v4, v5] ∧ H' aL = some (.lst (ivs (wrt sep c 0 (ws.take i)))) ∧ Same H H') ⟨none, none, rfl, e1, s1⟩ (fun i σ H' ⟨_, _, _, _, s⟩ => s.seq hW) ?_ ?_⟩
    · rintro i y T σ H2 hi ⟨v4, v5, rfl, hL, sm⟩ hT
      obtain ⟨q, hq, rfl⟩ := refs_at hi
      have hlt := (List.getElem?_eq_some_iff.mp hq).1
      obtain ⟨wd, hwd⟩ : ∃ wd, ws[i]? = some wd := ⟨_, List.getElem?_eq_getElem (by omega)⟩
      obtain ⟨bw, hq1, hq2⟩ := hws.ix i q wd hq hwd
      have hwo := hwok wd (List.mem_of_getElem? hwd)
      have s2 := Same.upd (.tup [iv i, .ref q]) hT
      have eT : upd H2 T (.tup [iv i, .ref q]) T = some (.tup [iv i, .ref q]) := upd_same
      generalize upd H2 T (.tup [iv i, .ref q]) = H3 at *
      have hL3 := s2 _ _ hL
      have s03 := sm.trans s2
      have hlen := wrt_len (c := c) hsl (ws.take i) 0 (fun x hx => hwok x (List.mem_of_mem_take hx))
      rw [List.length_take] at hlen
      have bwL : bw ≠ aL := ne_of_none hq2 haL
      have aSL : aS ≠ aL := ne_of_none hS haL
      refine ⟨T, _, rfl, .inl (.inl eT), rfl, _, _, rfl, _, _, rfl, rfl, ?_⟩
      dsimp only [gName]
      have enext : wrt sep c 0 (ws.take (i + 1)) = wrt sep c 0 (ws.take i) ++ (if c.contains i = true then sep else []) ++ wd.2.2 := by
        rw [Mx.take_more hwd, Mx.wrt_append, Mx.take_len hwd, Nat.zero_add, wrt, wrt, List.append_nil, List.append_assoc]
      generalize wrt sep c 0 (ws.take i) = done at *
      refine if_to (fun σ H4 => σ = [some (.ref aW), some (.ref aP), some (.ref aS), some (.ref aL), some (iv i), some (.ref q)] ∧ H4 aL = some (.lst (ivs (done ++ (if c.contains i = true then sep else [])))) ∧ Same H H4) (fun go => ?_) ?_
      · refine ⟨_, rfl, _, rfl, aP, _, rfl, .inr (sqT_same s03 hP), rfl, ivs_flat _, _, rfl, ?_⟩
        have ein : inV (iv i) (ivs c) = c.contains i := ivs_in i c
        have ein2 : (if false = true then !inV (iv i) (ivs c) else inV (iv i) (ivs c)) = c.contains i := by rw [if_neg Bool.false_ne_true]; exact ein
        rw [ein2]
        by_cases hc : c.contains i = true
        · rw [hc] at go ⊢
          refine iteT ⟨_, rfl, .inl ⟨rfl, _, sqL_of hL3⟩, _, rfl, aL, aS, _, _, rfl, rfl, hL3, s03 _ _ hS, by rw [ivs_len, ivs_len]; omega, ?_⟩
          exact go _ _ ⟨rfl, by rw [upd_same, ivs_app, if_pos rfl], fun b o e => by rw [upd_ne (ne_of_none e haL)]; exact s03 _ _ e⟩
        · have hc : c.contains i = false := by simpa using hc
          rw [hc] at go ⊢
          exact iteF (go _ _ ⟨rfl, by rw [if_neg Bool.false_ne_true, List.append_nil]; exact hL3, s03⟩)
      · rintro σ H4 ⟨rfl, hL4, s04⟩
        have hcl : (if c.contains i = true then sep else []).length ≤ 200 := by split; (· exact hsl); (· exact Nat.zero_le _)
        refine ⟨_, rfl, .inl ⟨rfl, _, sqL_of hL4⟩, _, rfl, q, _, _, _, rfl, rfl, SqT.of (s04 _ _ hq1), rfl, aL, bw, _, _, rfl, rfl, hL4, s04 _ _ hq2, ?_, ?_⟩
        · have := hwo.1
          rw [ivs_len, ivs_len, List.length_append]; omega
        · exact ⟨some (iv i), some (.ref q), rfl, by rw [upd_same, ivs_app, enext], fun b o e => by rw [upd_ne (ne_of_none e haL)]; exact s04 _ _ e⟩
    · rintro σ H2 ⟨v4, v5, rfl, hL, sm⟩
      rw [List.length_map, hwl, List.take_length, ← Mx.written_wrt] at hL
      exact ⟨_, rfl, k H2 aL sm haL hL⟩
end
end Mp

-- MpSess
set_option maxRecDepth 100000
set_option maxHeartbeats 8000000
set_option exponentiation.threshold 3000
/-! A house: what it keeps; its beginning, its text. -/
namespace Mp
open PySem PySem.Spec PyProof.Rows L2
open Sq17 (Piece Word House pieces)
open Mx (okR MOk)

abbrev sSession : Stmt := top 58
abbrev sSInit : Stmt := inClass sSession 0
abbrev sBegin : Stmt := inClass sSession 1
abbrev sAddRule : Stmt := inClass sSession 2
abbrev sSetText : Stmt := inClass sSession 3
abbrev sTellPieces : Stmt := inClass sSession 4
abbrev sEdit : Stmt := inClass sSession 5
abbrev sTellAt : Stmt := inClass sSession 6
abbrev sTellWords : Stmt := inClass sSession 7
abbrev sTellLongest : Stmt := inClass sSession 8
abbrev sWriteTight : Stmt := inClass sSession 9
abbrev sPutText : Stmt := inClass sSession 10
abbrev sMayBe : Stmt := top 59

structure Cs (K : PySem.W.Frag) (C : Addr) : Prop where
  cl : Cls K C
  nM : NoAttr K C "modes_there"
  nR : NoAttr K C "rules"
  nW : NoAttr K C "row"
  nP : NoAttr K C "pieces"
structure Txs (mg : Str → Option Value) : Prop where
  MOST_MODES : ∃ t, mg "MOST_MODES" = some (.int 8 t)
  MOST_RULES : ∃ t, mg "MOST_RULES" = some (.int 24 t)
  MOST_BYTES : ∃ t, mg "MOST_BYTES" = some (.int 200 t)
  MOST_WORDS : ∃ t, mg "MOST_WORDS" = some (.int 9 t)
  TOP_KIND : ∃ t, mg "TOP_KIND" = some (.int 64 t)
  TOP_DOES : ∃ t, mg "TOP_DOES" = some (.int 3 t)

def sf (m : Nat) (ar aw ap : Addr) : List (Str × V) := [("modes_there", iv m), ("rules", .ref ar), ("row", .ref aw), ("pieces", .ref ap)]
theorem sf_M {a b c d} : (sf a b c d).lookup ("modes_there" : Str) = some (iv a) := lk_here
theorem sf_R {a b c d} : (sf a b c d).lookup ("rules" : Str) = some (.ref b) := (lk_past (by decide +kernel)).trans lk_here
theorem sf_W {a b c d} : (sf a b c d).lookup ("row" : Str) = some (.ref c) := (lk_past (by decide +kernel)).trans ((lk_past (by decide +kernel)).trans lk_here)
theorem sf_P {a b c d} : (sf a b c d).lookup ("pieces" : Str) = some (.ref d) := (lk_past (by decide +kernel)).trans ((lk_past (by decide +kernel)).trans ((lk_past (by decide +kernel)).trans lk_here))
theorem sf_no {a b c d} {m : Str} (h1 : (m == ("modes_there" : Str)) = false := by decide +kernel) (h2 : (m == ("rules" : Str)) = false := by decide +kernel) (h3 : (m == ("row" : Str)) = false := by decide +kernel) (h4 : (m == ("pieces" : Str)) = false := by decide +kernel) : (sf a b c d).lookup m = none :=
  (lk_past h1).trans ((lk_past h2).trans ((lk_past h3).trans ((lk_past h4).trans rfl)))
theorem sf_new (a : Nat) (b c d : Addr) : putF "pieces" (.ref d) (putF "row" (.ref c) (putF "rules" (.ref b) (putF "modes_there" (iv a) []))) = sf a b c d := by
  have e1 : putF "modes_there" (iv a) [] = [(("modes_there" : Str), iv a)] := rfl
  have e2 : putF "rules" (.ref b) ([(("modes_there" : Str), iv a)] : List (Str × V)) = ([("modes_there", iv a), ("rules", .ref b)] : List (Str × V)) := by rw [put_past (by decide +kernel)]; rfl
  have e3 : putF "row" (.ref c) ([("modes_there", iv a), ("rules", .ref b)] : List (Str × V)) = ([("modes_there", iv a), ("rules", .ref b), ("row", .ref c)] : List (Str × V)) := by rw [put_past (by decide +kernel), put_past (by decide +kernel)]; rfl
  rw [e1, e2, e3]
  rw [put_past (by decide +kernel), put_past (by decide +kernel), put_past (by decide +kernel)]; rfl
theorem sf_putM {a b c d} (t : Nat) : putF "modes_there" (iv t) (sf a b c d) = sf t b c d := by unfold sf; rw [put_here]
theorem sf_putR {a b c d} (t : Addr) : putF "rules" (.ref t) (sf a b c d) = sf a t c d := by unfold sf; rw [put_past (by decide +kernel), put_here]
theorem sf_putW {a b c d} (t : Addr) : putF "row" (.ref t) (sf a b c d) = sf a b t d := by unfold sf; rw [put_past (by decide +kernel), put_past (by decide +kernel), put_here]
theorem sf_putP {a b c d} (t : Addr) : putF "pieces" (.ref t) (sf a b c d) = sf a b c t := by unfold sf; rw [put_past (by decide +kernel), put_past (by decide +kernel), put_past (by decide +kernel), put_here]

/-- the classes' places -/
structure Cc where
  S : Addr
  R : Addr
  M : Addr
  L : Addr
  P : Addr
/-- what the house in the heap is; N: lists of others -/
structure Sess (N : Addr → Prop) (c : Cc) (H : Hp) (s : Addr) (h : House) (G : Gh) (dx ar aw ap : Addr) (rs qs : List Addr) (xs : List (Sq17.Rule × Mx.Mat)) : Prop where
  o : H s = some (.ins c.S dx (sf h.modes ar aw ap))
  w : Wld G H
  n : ∀ a, N a → G.f a ∧ a ≠ ar ∧ a ≠ aw ∧ a ≠ ap ∧ G.d a = none ∧ a ≠ s
  nt : ∀ a, N a → H a ≠ none
  nr : G.f ar
  r : H ar = some (.lst (rs.map V.ref))
  ri : RulesIn G c.R c.M c.L H rs xs
  ro : ∀ x ∈ xs, RuleOk x
  re : xs.map (·.1) = h.rules
  rl : rs.length ≤ 24
  t : H aw = some (.lst (ivs h.text))
  tr : Sq17.right h.text = true
  p : H ap = some (.lst (qs.map V.ref))
  pi : PiecesIn c.P H qs (pieces h.rules h.text)
  pl : qs.length ≤ 200
def SessIn (N : Addr → Prop) (c : Cc) (H : Hp) (s : Addr) (h : House) : Prop := ∃ G dx ar aw ap rs qs xs, Sess N c H s h G dx ar aw ap rs qs xs
/-- others' lists stand -/
def Keeps (N : Addr → Prop) (H H' : Hp) : Prop := ∀ a o, N a → H a = some o → H' a = some o
theorem Keeps.of {N : Addr → Prop} {H H' : Hp} (s : Same H H') : Keeps N H H' := fun a o _ e => s a o e
theorem Keeps.trans {N : Addr → Prop} {H H1 H2 : Hp} (a : Keeps N H H1) (b : Keeps N H1 H2) : Keeps N H H2 := fun p o n e => b p o n (a p o n e)
/-- an answer of a call -/
def Ans (N : Addr → Prop) (c : Cc) (H : Hp) (s : Addr) (h : House) (x : Sq17.Call) (Q : VK) : Prop := ∀ H' p, SessIn N c H' s (h.step x).1 → Keeps N H H' → H p = none → H' p = some (.lst (((h.step x).2.value :: (h.step x).2.out).map V.int)) → Q (.ref p) H'

theorem right_iff {l : List Nat} : Sq17.right l = true ↔ l.length ≤ 200 ∧ ∀ b ∈ l, b < 256 := by
  unfold Sq17.right
  rw [Bool.and_eq_true, decide_eq_true_eq, List.all_eq_true]
  exact ⟨fun h => ⟨h.1, fun b hb => of_decide_eq_true (h.2 b hb)⟩, fun h => ⟨h.1, fun b hb => decide_eq_true (h.2 b hb)⟩⟩
theorem PieceAt.same {C : Addr} {H H' : Hp} {q : Addr} {x : Piece × List Nat} (h : PieceAt C H q x) (k : ∀ q o, H q = some o → (∃ c d f, o = .ins c d f) ∨ (∃ y, o = .tup y) → H' q = some o) : PieceAt C H' q x := by
  obtain ⟨dx, am, h1, h2⟩ := h
  exact ⟨dx, am, k _ _ h1 (.inl ⟨_, _, _, rfl⟩), k _ _ h2 (.inr ⟨_, rfl⟩)⟩
theorem Go.keeps {N : Addr → Prop} {G : Gh} {xs : List Addr} {H H' : Hp} (g : Go G xs H H') (h : ∀ a, N a → G.d a = none ∧ a ∉ xs) : Keeps N H H' := fun a o n e => g.k a o e (h a n).1 (h a n).2
/-- the house stands, if but new things were made and chunks put into their dicts -/
theorem Sess.go {N : Addr → Prop} {c : Cc} {H H' : Hp} {s : Addr} {h : House} {G : Gh} {dx ar aw ap : Addr} {rs qs : List Addr} {xs : List (Sq17.Rule × Mx.Mat)} (S : Sess N c H s h G dx ar aw ap rs qs xs) (g : Go G [] H H') : Sess N c H' s h G dx ar aw ap rs qs xs :=
  ⟨g.at0 S.o, g.w', S.n, fun a n z => S.nt a n (g.free z), S.nr, g.at0 S.r, S.ri.std g.std, S.ro, S.re, S.rl, g.at0 S.t, S.tr, g.at0 S.p, S.pi.mono fun q o e ho => g.at0 e (by intro y z; subst z; rcases ho with ⟨_, _, _, z⟩ | ⟨_, z⟩ <;> cases z), S.pl⟩
theorem Sess.keeps {N : Addr → Prop} {c : Cc} {H H' : Hp} {s : Addr} {h : House} {G : Gh} {dx ar aw ap : Addr} {rs qs : List Addr} {xs : List (Sq17.Rule × Mx.Mat)} (S : Sess N c H s h G dx ar aw ap rs qs xs) (g : Go G [] H H') : Keeps N H H' := g.keeps fun a n => ⟨(S.n a n).2.2.2.2.1, by simp⟩
theorem Sess.keeps1 {N : Addr → Prop} {c : Cc} {H H' : Hp} {s : Addr} {h : House} {G : Gh} {dx ar aw ap : Addr} {rs qs : List Addr} {xs : List (Sq17.Rule × Mx.Mat)} (S : Sess N c H s h G dx ar aw ap rs qs xs) (g : Go G [s] H H') : Keeps N H H' := g.keeps fun a n => ⟨(S.n a n).2.2.2.2.1, by simpa using (S.n a n).2.2.2.2.2⟩
/-- another's list is written on: the house stands -/
theorem SessIn.other {N : Addr → Prop} {c : Cc} {H : Hp} {s : Addr} {h : House} {a : Addr} (o' : HO) (S : SessIn N c H s h) (ha : N a) (hl : ∃ xs, H a = some (.lst xs)) : SessIn N c (upd H a o') s h := by
  obtain ⟨G, dx, ar, aw, ap, rs, qs, xs, S⟩ := S
  obtain ⟨n1, n2, n3, n4, n5, n6⟩ := S.n a ha
  obtain ⟨zs, hl⟩ := hl
  have up : ∀ {b : Addr} {o : HO}, H b = some o → b ≠ a → upd H a o' b = some o := fun e n => by rw [upd_ne n]; exact e
  have std : Std G H (upd H a o') := Std.upd _ fun o e f => by
    rw [hl] at e
    have e := Option.some.inj e
    subst e
    exact f n1
  exact ⟨G, dx, ar, aw, ap, rs, qs, xs, up S.o n6.symm, S.w.upd _ n5, S.n, fun b n => by
    by_cases e : b = a
    · subst e; rw [upd_same]; simp
    · rw [upd_ne e]; exact S.nt b n, S.nr, up S.r n2.symm, S.ri.std std, S.ro, S.re, S.rl, up S.t n3.symm, S.tr, up S.p n4.symm, S.pi.mono fun q o e ho => up e (ne_of e hl (by intro z; subst z; rcases ho with ⟨_, _, _, z⟩ | ⟨_, z⟩ <;> cases z)), S.pl⟩
/-- a session is written on: what's fixed stands -/
theorem Go.stdS {G : Gh} {s : Addr} {H H' : Hp} (a : Go G [s] H H') (hx : ∃ c d v r, H s = some (.ins c d (("modes_there", v) :: r))) : Std G H H' := fun b o e f => a.k b o e (a.w.no e (fun y z => by subst z; exact f)) (fun m => by
  obtain ⟨c, d, v, r, h⟩ := hx
  simp at m; subst m
  rw [e] at h
  have h := Option.some.inj h
  subst h
  exact f.2 rfl)

def spSInit (C : Addr) : Sp := fun vs H Q _ => ∃ (x dx : Addr), vs = [.ref x] ∧ H x = some (.ins C dx []) ∧ ∀ H' ar aw ap, H' x = some (.ins C dx (sf 1 ar aw ap)) → H' ar = some (.lst []) → H' aw = some (.lst []) → H' ap = some (.lst []) → H ar = none → H aw = none → H ap = none → Aside x H H' → Q .non H'
def spMayBe (K : PySem.W.Frag) : Sp := fun vs H Q _ => ∃ (a : Addr) (l : List Nat), vs = [.ref a] ∧ SqL K H a (ivs l) ∧ Q (.bl (Sq17.right l)) H
def spPutText (c : Cc) : Sp := fun vs H Q _ => ∃ (G : Gh) (s a dx m ar aw ap : Nat) (row : List Nat) (rs : List Addr) (xs : List (Sq17.Rule × Mx.Mat)), vs = [.ref s, .ref a] ∧ Wld G H ∧ H s = some (.ins c.S dx (sf m ar aw ap)) ∧ H ar = some (.lst (rs.map V.ref)) ∧ RulesIn G c.R c.M c.L H rs xs ∧ (∀ x ∈ xs, RuleOk x) ∧ rs.length ≤ 24 ∧
  H a = some (.lst (ivs row)) ∧ row.length ≤ 200 ∧ (∀ b ∈ row, b < 256) ∧
  ∀ H' p qs, Go G [s] H H' → H p = none → H' s = some (.ins c.S dx (sf m ar a p)) → H' p = some (.lst (qs.map V.ref)) → PiecesIn c.P H' qs (pieces (xs.map (·.1)) row) → qs.length ≤ row.length → Q .non H'
section
variable {P : Program} {w : World} {K : PySem.W.Frag} {mg : Str → Option Value} {base : Heap} {c : Cc}
theorem scSInit : FnScope ["self"] ["self"] (defScope sSInit) := ⟨rfl, rfl, rfl, by decide +kernel, rfl, by decide +kernel, by decide +kernel⟩
theorem ok_sInit {C f : Addr} {fd : FuncData} (F : Fun K "__init__" "Session.__init__" sSInit f fd) (T : Cs K C) : FnOk P w K mg base CX0 1 f fd ["self"] (spSInit C) := by
  refine F.ok scSInit (fun vs H Q E h => ?_) (fun cdv A outer s H vs Q E hr h => ?_)
  · obtain ⟨x, dx, rfl, _⟩ := h; rfl
  · obtain ⟨x, dx, rfl, hx, k⟩ := h
    refine ⟨_, (L2.pss_cons (ps_fld (pv 0) pe_int rfl)
      (L2.pss_cons (ps_fld (pv 0) (pe_lst L2.pa_nil) rfl)
      (L2.pss_cons (ps_fld (pv 0) (pe_lst L2.pa_nil) rfl)
      (L2.pss_one (ps_fld (pv 0) (pe_lst L2.pa_nil) rfl))))), ?_⟩
    refine ⟨_, rfl, x, C, dx, [], rfl, hx, T.cl, T.nM, (by show 0 < 1000; decide), ?_⟩
    have up : ∀ {b : Addr} {o o' : HO} {H' : Hp}, H' b = some o → b ≠ x → upd H' x o' b = some o := fun e n => by rw [upd_ne n]; exact e
    have x1 : upd H x (.ins C dx (putF "modes_there" (V.int 1) [])) x = some (.ins C dx (putF "modes_there" (V.int 1) [])) := upd_same
    have a1 : Aside x H (upd H x (.ins C dx (putF "modes_there" (V.int 1) []))) := fun b o e n => up e n
    generalize upd H x (.ins C dx (putF "modes_there" (V.int 1) [])) = H1 at *
    refine ⟨Nat.zero_le _, fun ar har => ?_⟩
    have xar : x ≠ ar := ne_of_none x1 har
    refine ⟨_, rfl, x, C, dx, _, rfl, (by rw [upd_ne xar]; exact x1), T.cl, T.nR, (by show 1 < 1000; decide), ?_⟩
    have a2 : Aside x H (upd (upd H1 ar (.lst [])) x (.ins C dx (putF "rules" (.ref ar) (putF "modes_there" (V.int 1) [])))) := fun b o e n => by rw [upd_ne n, upd_ne (ne_of_none (a1 b o e n) har)]; exact a1 b o e n
    have r2 : upd (upd H1 ar (.lst [])) x (.ins C dx (putF "rules" (.ref ar) (putF "modes_there" (V.int 1) []))) ar = some (.lst []) := up upd_same xar.symm
    have x2 : upd (upd H1 ar (.lst [])) x (.ins C dx (putF "rules" (.ref ar) (putF "modes_there" (V.int 1) []))) x = some (.ins C dx (putF "rules" (.ref ar) (putF "modes_there" (V.int 1) []))) := upd_same
    have nar := a1.free har ⟨_, x1⟩
    generalize upd (upd H1 ar (.lst [])) x (.ins C dx (putF "rules" (.ref ar) (putF "modes_there" (V.int 1) []))) = H2 at *
    refine ⟨Nat.zero_le _, fun aw haw => ?_⟩
    have xaw : x ≠ aw := ne_of_none x2 haw
    refine ⟨_, rfl, x, C, dx, _, rfl, (by rw [upd_ne xaw]; exact x2), T.cl, T.nW, len3 _ _ _ _, ?_⟩
    have a3 : Aside x H (upd (upd H2 aw (.lst [])) x (.ins C dx (putF "row" (.ref aw) (putF "rules" (.ref ar) (putF "modes_there" (V.int 1) []))))) := fun b o e n => by rw [upd_ne n, upd_ne (ne_of_none (a2 b o e n) haw)]; exact a2 b o e n
    have r3 : upd (upd H2 aw (.lst [])) x (.ins C dx (putF "row" (.ref aw) (putF "rules" (.ref ar) (putF "modes_there" (V.int 1) [])))) ar = some (.lst []) := up (by rw [upd_ne (ne_of_none r2 haw)]; exact r2) xar.symm
    have w3 : upd (upd H2 aw (.lst [])) x (.ins C dx (putF "row" (.ref aw) (putF "rules" (.ref ar) (putF "modes_there" (V.int 1) [])))) aw = some (.lst []) := up upd_same xaw.symm
    have x3 : upd (upd H2 aw (.lst [])) x (.ins C dx (putF "row" (.ref aw) (putF "rules" (.ref ar) (putF "modes_there" (V.int 1) [])))) x = some (.ins C dx (putF "row" (.ref aw) (putF "rules" (.ref ar) (putF "modes_there" (V.int 1) [])))) := upd_same
    have naw := a2.free haw ⟨_, x2⟩
    generalize upd (upd H2 aw (.lst [])) x (.ins C dx (putF "row" (.ref aw) (putF "rules" (.ref ar) (putF "modes_there" (V.int 1) [])))) = H3 at *
    refine ⟨Nat.zero_le _, fun ap hap => ?_⟩
    have xap : x ≠ ap := ne_of_none x3 hap
    refine ⟨_, rfl, x, C, dx, _, rfl, (by rw [upd_ne xap]; exact x3), T.cl, T.nP, len2 _ _ _ _ _ _, ?_⟩
    rw [show V.int 1 = iv 1 from rfl, sf_new]
    refine k _ ar aw ap upd_same (up (by rw [upd_ne (ne_of_none r3 hap)]; exact r3) xar.symm) (up (by rw [upd_ne (ne_of_none w3 hap)]; exact w3) xaw.symm) (up upd_same xap.symm) nar naw (a3.free hap ⟨_, x3⟩) (fun b o e n => up (by rw [upd_ne (ne_of_none (a3 b o e n) hap)]; exact a3 b o e n) n)

theorem scMayBe : FnScope ["row"] ["row"] (defScope sMayBe) := ⟨rfl, rfl, rfl, by decide +kernel, rfl, by decide +kernel, by decide +kernel⟩
theorem ok_mayBe {f : Addr} {fd : FuncData} (F : Fun K "may_be_text" "may_be_text" sMayBe f fd) (TX : Txt K mg) (TS : Txs mg) : FnOk P w K mg base CX0 1 f fd ["row"] (spMayBe K) := by
  obtain ⟨t1, m1⟩ := TS.MOST_BYTES
  obtain ⟨t2, m2⟩ := TX.TOP_BYTE
  refine F.ok scMayBe (fun vs H Q E h => ?_) (fun cdv A outer s H vs Q E hr h => ?_)
  · obtain ⟨a, l, rfl, _⟩ := h; rfl
  · obtain ⟨a, l, rfl, lq, k⟩ := h
    refine ⟨_, (L2.pss_one (ps_ret (pe_and (pe_cmpR op_le ((L2.pe_callB L2.call_len_seq (by rfl) TX.len PySem.boot_len (L2.pa_cons (pv 0) L2.pa_nil))) (pgc m1) (nomark _)) (pe_one (pe_cmpR op_le (pe_callBK (cr_maxD rfl) (by rfl) TX.max (by decide +kernel) (L2.pa_cons (pv 0) L2.pa_nil) (pk_cons pe_int pk_nil)) (pgc m2) (nomark _)))))), ?_⟩
    refine ⟨_, rfl, a, _, rfl, .inl lq, _, _, rfl, rfl, _, rfl, ?_⟩
    rw [ivs_len]
    by_cases hl : l.length ≤ 200
    · rw [show decide ((l.length : Int) ≤ 200) = true from decide_eq_true (by omega)]
      refine iteT ⟨_, rfl, a, l.map fun n : Nat => (n : Int), 0, rfl, rfl, by rw [← ivs_ints]; exact lq, fun m h0 h1 => ⟨_, _, rfl, rfl, ?_⟩⟩
      have e : decide (m ≤ 255) = Sq17.right l := by
        rw [Bool.eq_iff_iff, decide_eq_true_eq, right_iff]
        by_cases hn : l = []
        · subst hn
          have := h0 rfl
          subst this
          simp
        · obtain ⟨h2, h3⟩ := h1 (by simpa using hn)
          obtain ⟨z, hz, e⟩ := List.mem_map.mp h2
          constructor
          · intro hm
            refine ⟨hl, fun b hb => ?_⟩
            have := h3 (b : Int) (List.mem_map.mpr ⟨b, hb, rfl⟩)
            omega
          · rintro ⟨_, hb⟩
            have := hb z hz
            omega
      dsimp only []
      rw [e]; exact k
    · rw [show decide ((l.length : Int) ≤ 200) = false from decide_eq_false (by omega)]
      have e : Sq17.right l = false := by
        cases h : Sq17.right l with
        | false => rfl
        | true => exact absurd (right_iff.mp h).1 hl
      rw [e] at k
      exact iteF k
end
end Mp

-- MpSess2
set_option maxRecDepth 100000
set_option maxHeartbeats 8000000
set_option exponentiation.threshold 3000
/-! A house: begun, its rules, its text. -/
namespace Mp
open PySem PySem.Spec PyProof.Rows L2
open Sq17 (Piece Word House pieces)
open Mx (okR MOk)

theorem lt256 {b : Nat} (h : b < 256) : b < 256 := h
theorem PiecesIn.nil {C : Addr} {H : Hp} {qs : List Addr} (h : PiecesIn C H qs []) : qs = [] := by
  cases qs with
  | nil => rfl
  | cons q qs => exact h.elim
theorem PiecesIn.monoK {C : Addr} {H H' : Hp} (k : ∀ q o, H q = some o → (∃ c d v r, o = .ins c d (("kind", v) :: r)) ∨ (∃ y, o = .tup y) → H' q = some o) : ∀ {qs : List Addr} {xs : List (Piece × List Nat)}, PiecesIn C H qs xs → PiecesIn C H' qs xs
  | [], [], _ => trivial
  | _ :: _, _ :: _, ⟨⟨dx, am, h1, h2⟩, h3⟩ => ⟨⟨dx, am, k _ _ h1 (.inl ⟨_, _, _, _, rfl⟩), k _ _ h2 (.inr ⟨_, rfl⟩)⟩, PiecesIn.monoK k h3⟩
  | [], _ :: _, h => h.elim
  | _ :: _, [], h => h.elim
def spBegin (c : Cc) : Sp := fun vs H Q _ => ∃ (N : Addr → Prop) (s m : Nat) (h : House), vs = [.ref s, iv m] ∧ SessIn N c H s h ∧ Ans N c H s h (.begin_ m) Q
def spSetText (c : Cc) : Sp := fun vs H Q _ => ∃ (N : Addr → Prop) (s a : Addr) (l : List Nat) (h : House), vs = [.ref s, .ref a] ∧ SessIn N c H s h ∧ H a = some (.lst (ivs l)) ∧ ¬ N a ∧ Ans N c H s h (.text l) Q
section
variable {P : Program} {w : World} {K : PySem.W.Frag} {mg : Str → Option Value} {base : Heap} {c : Cc}
theorem scPutText : FnScope ["self", "row"] ["self", "row"] (defScope sPutText) := ⟨rfl, rfl, rfl, by decide +kernel, rfl, by decide +kernel, by decide +kernel⟩
theorem ok_putText {f f1 : Addr} {fd fd1 : FuncData} (F : Fun K "put_text" "Session.put_text" sPutText f fd) (T : Cs K c.S)
    (D1 : Df K mg "cut" sCut ["rules", "row"] f1 fd1) (G1 : FnOk P w K mg base CX0 7 f1 fd1 ["rules", "row"] (spCut K c.R c.M c.L c.P)) : FnOk P w K mg base CX0 8 f fd ["self", "row"] (spPutText c) := by
  refine F.ok scPutText (fun vs H Q E h => ?_) (fun cdv A outer s H vs Q E hr h => ?_)
  · obtain ⟨G, s, a, dx, m, ar, aw, ap, row, rs, xs, rfl, _⟩ := h; rfl
  · obtain ⟨G, s, a, dx, m, ar, aw, ap, row, rs, xs, rfl, wl, hs, hR, hrs, hok, hrl, ha, hlen, hb, k⟩ := h
    refine ⟨_, (L2.pss_cons (ps_fld (pv 0) (pv 1) rfl)
      (L2.pss_one (ps_fld (pv 0) ((L2.pe_call G1 hr (by rfl) (Mp.Df.g D1) (Mp.Df.F D1).kp (Mp.Df.b D1) .nil L2.pass0 (L2.pa_cons (pe_fld (pv 0) rfl) (L2.pa_cons (pv 1) L2.pa_nil)))) rfl))), ?_⟩
    refine ⟨_, rfl, _, rfl, s, c.S, dx, _, rfl, hs, T.cl, T.nW, (by show 4 < 1000; decide), ?_⟩
    rw [sf_putW]
    have gs : G.d s = none := wl.no hs (by intro _ z; cases z)
    have g1 : Go G [s] H (upd H s (.ins c.S dx (sf m ar a ap))) := (Go.refl wl [s]).write _ gs (.inl (by simp))
    have s1 : upd H s (.ins c.S dx (sf m ar a ap)) s = some (.ins c.S dx (sf m ar a ap)) := upd_same
    have r1 : upd H s (.ins c.S dx (sf m ar a ap)) ar = some (.lst (rs.map V.ref)) := by rw [upd_ne (ne_of hR hs (by intro z; cases z))]; exact hR
    have a1 : upd H s (.ins c.S dx (sf m ar a ap)) a = some (.lst (ivs row)) := by rw [upd_ne (ne_of ha hs (by intro z; cases z))]; exact ha
    have ri1 := hrs.std (g1.stdS ⟨_, _, _, _, hs⟩)
    generalize upd H s (.ins c.S dx (sf m ar a ap)) = H1 at *
    refine ⟨_, rfl, s, c.S, dx, _, _, rfl, s1, T.cl, T.nR, sf_R, _, rfl, ?_⟩
    refine ⟨G, ar, a, row, rs, xs, rfl, g1.w', r1, ri1, hok, by omega, sqL_of a1, by omega, hb, fun H2 p qs g2 np hp hqs hql => ?_⟩
    refine ⟨_, rfl, s, c.S, dx, _, rfl, g2.at0 s1, T.cl, T.nP, (by show 4 < 1000; decide), ?_⟩
    rw [sf_putP]
    have s2 := g2.at0 s1
    refine k _ p qs ((g1.trans (g2.wide [s])).write _ gs (.inl (by simp))) (g1.free np) upd_same ?_ ?_ hql
    · rw [upd_ne (ne_of hp s2 (by intro z; cases z))]; exact hp
    · refine hqs.monoK fun q o e ho => ?_
      by_cases z : q = s
      · subst z
        rw [s2] at e
        have e := Option.some.inj e
        rcases ho with ⟨_, _, _, _, z⟩ | ⟨_, z⟩
        · rw [z] at e
          injection e with _ _ e
          unfold sf at e
          injection e with e _
          injection e with e _
          exact absurd e (by decide +kernel)
        · rw [z] at e; cases e
      · rw [upd_ne z]; exact e
theorem ans_out {N : Addr → Prop} {H H' : Hp} {s : Addr} {h : House} {G : Gh} {dx ar aw ap : Addr} {rs qs : List Addr} {xs : List (Sq17.Rule × Mx.Mat)} {x : Sq17.Call} {Q : VK} {o : Sq17.Out} (S : Sess N c H s h G dx ar aw ap rs qs xs) (hst : h.step x = (h, o)) (k : Ans N c H s h x Q) (g : Go G [] H H')
    (p : Addr) (hp : H' p = none) : Q (.ref p) (upd H' p (.lst ((o.value :: o.out).map V.int))) :=
  k _ p (by rw [hst]; exact ⟨G, dx, ar, aw, ap, rs, qs, xs, S.go (g.put _ hp)⟩) (S.keeps (g.put _ hp)) (g.free hp) (by rw [hst]; exact upd_same)
theorem scBegin : FnScope ["self", "modes"] ["self", "modes"] (defScope sBegin) := ⟨rfl, rfl, rfl, by decide +kernel, rfl, by decide +kernel, by decide +kernel⟩
theorem ok_begin {f f1 : Addr} {fd fd1 : FuncData} (F : Fun K "begin" "Session.begin" sBegin f fd) (T : Cs K c.S) (TS : Txs mg)
    (D1 : Dm K c.S "put_text" "Session.put_text" sPutText ["self", "row"] f1 fd1) (G1 : FnOk P w K mg base CX0 8 f1 fd1 ["self", "row"] (spPutText c)) : FnOk P w K mg base CX0 9 f fd ["self", "modes"] (spBegin c) := by
  obtain ⟨t1, m1⟩ := TS.MOST_MODES
  refine F.ok scBegin (fun vs H Q E h => ?_) (fun cdv A outer s H vs Q E hr h => ?_)
  · obtain ⟨N, s, m, h, rfl, _⟩ := h; rfl
  · obtain ⟨N, s, m, h, rfl, ⟨G, dx, ar, aw, ap, rs, qs, xs, S⟩, k⟩ := h
    refine ⟨_, (L2.pss_cons (L2.ps_if (PW.pt (pw_or ((L2.pt_cmpR op_lt (pv 1) pe_int (L2.nomark _))) (pw_or1 ((L2.pt_cmpR op_gt (pv 1) (pgc m1) (L2.nomark _)))))) (L2.pss_one (ps_ret (pe_lst (L2.pa_cons (pe_un un_neg pe_int) L2.pa_nil)))) L2.pss_nil)
      (L2.pss_cons (ps_fld (pv 0) (pv 1) rfl)
      (L2.pss_cons (ps_fld (pv 0) (pe_lst L2.pa_nil) rfl)
      (L2.pss_cons (ps_expr ((L2.pe_meth (pv 0) T.cl (Mp.Dm.m D1) G1 hr (Mp.Dm.b D1) .nil L2.pass0 (L2.pa_cons (pe_lst L2.pa_nil) L2.pa_nil))))
      (L2.pss_one (ps_ret (pe_lst (L2.pa_cons pe_int L2.pa_nil)))))))), ?_⟩
    have hstep : h.step (.begin_ m) = if m = 0 ∨ 8 < m then (h, Sq17.says (-1)) else (⟨m, [], []⟩, Sq17.says 0) := rfl
    apply if_ev (decide (m = 0 ∨ 8 < m)) H
    · intro Q' q
      refine ⟨_, rfl, _, _, rfl, rfl, _, rfl, ?_⟩
      by_cases h0 : m = 0
      · rw [decide_eq_true (.inl h0)] at q
        rw [show decide ((m : Int) < 1) = true from decide_eq_true (by omega)]
        exact iteT q
      · rw [show decide ((m : Int) < 1) = false from decide_eq_false (by omega)]
        refine iteF ⟨_, rfl, _, _, rfl, rfl, _, rfl, ?_⟩
        rw [show decide ((8 : Int) < (m : Int)) = decide (m = 0 ∨ 8 < m) from by rw [decide_eq_decide]; omega]
        exact q
    by_cases hm : m = 0 ∨ 8 < m
    · rw [decide_eq_true hm]
      rw [if_pos hm] at hstep
      refine iteT ⟨_, rfl, by show 1 ≤ sizeLine; decide, fun p hp => ?_⟩
      exact ans_out S hstep k (.refl S.w _) p hp
    · rw [decide_eq_false hm]
      rw [if_neg hm] at hstep
      refine iteF ?_
      refine ⟨_, rfl, _, rfl, s, c.S, dx, _, rfl, S.o, T.cl, T.nM, (by show 4 < 1000; decide), ?_⟩
      rw [sf_putM]
      have o1 : upd H s (.ins c.S dx (sf m ar aw ap)) s = some (.ins c.S dx (sf m ar aw ap)) := upd_same
      have k1 : ∀ b o, H b = some o → b ≠ s → upd H s (.ins c.S dx (sf m ar aw ap)) b = some o := fun b o e n => by rw [upd_ne n]; exact e
      generalize upd H s (.ins c.S dx (sf m ar aw ap)) = H1 at *
      refine ⟨Nat.zero_le _, fun ar' har => ?_⟩
      have sar : s ≠ ar' := ne_of_none o1 har
      have o1' : upd H1 ar' (.lst []) s = some (.ins c.S dx (sf m ar aw ap)) := by rw [upd_ne sar]; exact o1
      refine ⟨_, rfl, s, c.S, dx, _, rfl, o1', T.cl, T.nR, (by show 4 < 1000; decide), ?_⟩
      rw [sf_putR]
      have o2 : upd (upd H1 ar' (.lst [])) s (.ins c.S dx (sf m ar' aw ap)) s = some (.ins c.S dx (sf m ar' aw ap)) := upd_same
      have r2 : upd (upd H1 ar' (.lst [])) s (.ins c.S dx (sf m ar' aw ap)) ar' = some (.lst []) := by rw [upd_ne sar.symm]; exact upd_same
      have k2 : ∀ b o, H b = some o → b ≠ s → upd (upd H1 ar' (.lst [])) s (.ins c.S dx (sf m ar' aw ap)) b = some o := fun b o e n => by rw [upd_ne n, upd_ne (ne_of_none (k1 b o e n) har)]; exact k1 b o e n
      have nar : H ar' = none := by
        cases q : H ar' with
        | none => rfl
        | some o => rw [k1 ar' o q sar.symm] at har; cases har
      generalize upd (upd H1 ar' (.lst [])) s (.ins c.S dx (sf m ar' aw ap)) = H2 at *
      -- no rules: no dicts of chunks any more
      refine ⟨_, rfl, s, dx, _, rfl, o2, sf_no, Nat.zero_le _, fun a ha => ?_⟩
      have sa : s ≠ a := ne_of_none o2 ha
      have na : H a = none := by
        cases q : H a with
        | none => rfl
        | some o => rw [k2 a o q sa.symm] at ha; cases ha
      have s3 := Same.upd (.lst []) ha
      have e3 : upd H2 a (.lst []) a = some (.lst []) := upd_same
      have ara : ar' ≠ a := ne_of_none r2 ha
      generalize upd H2 a (.lst []) = H3 at *
      refine ⟨⟨fun _ => none, fun b => N b ∨ b = ar'⟩, s, a, dx, m, ar', aw, ap, [], [], [], rfl, fun d tab e => (by cases e), s3 _ _ o2, s3 _ _ r2, trivial, by simp, Nat.zero_le _, e3, Nat.zero_le _, by simp, fun H4 p qs' g4 np h4 hp hqs hql => ?_⟩
      have hq0 : qs' = [] := List.length_eq_zero_iff.mp (Nat.le_zero.mp hql)
      subst hq0
      have keep : ∀ b o, H b = some o → b ≠ s → H4 b = some o := fun b o e n => g4.k b o (s3 _ _ (k2 b o e n)) rfl (by simpa using n)
      have np0 : H p = none := by
        cases q : H p with
        | none => rfl
        | some o =>
          by_cases z : p = s
          · subst z; rw [s3 _ _ o2] at np; cases np
          · rw [s3 _ _ (k2 p o q z)] at np; cases np
      refine ⟨by show 1 ≤ sizeLine; decide, fun ans hans => ?_⟩
      have s5 := Same.upd (.lst [V.int 0]) hans
      have nans : H ans = none := by
        cases q : H ans with
        | none => rfl
        | some o =>
          by_cases z : ans = s
          · subst z; rw [h4] at hans; cases hans
          · rw [keep ans o q z] at hans; cases hans
      refine k _ ans ?_ (fun b o n e => s5 _ _ (keep b o e (S.n b n).2.2.2.2.2)) nans (by rw [hstep]; exact upd_same)
      rw [hstep]
      have g4' : Go ⟨fun _ => none, fun b => N b ∨ b = ar'⟩ [] H4 (upd H4 ans (.lst [V.int 0])) := .of g4.w' s5
      refine ⟨⟨fun _ => none, fun b => N b ∨ b = ar'⟩, dx, ar', a, p, [], [], [], s5 _ _ h4, fun d tab e => (by cases e), fun b n => ⟨.inl n, fun z => S.nt b n (z ▸ nar), fun z => S.nt b n (z ▸ na), fun z => S.nt b n (z ▸ np0), rfl, (S.n b n).2.2.2.2.2⟩, fun b n z => S.nt b n ?_, .inr rfl, s5 _ _ ?_, trivial, by simp, rfl, Nat.zero_le _, s5 _ _ ?_, rfl, s5 _ _ hp, trivial, Nat.zero_le _⟩
      · cases q : H b with
        | none => rfl
        | some o => rw [s5 _ _ (keep b o q (S.n b n).2.2.2.2.2)] at z; cases z
      · exact g4.k ar' _ (s3 _ _ r2) rfl (by simpa using sar.symm)
      · exact g4.k a _ e3 rfl (by simpa using sa.symm)

theorem scSetText : FnScope ["self", "row"] ["self", "row"] (defScope sSetText) := ⟨rfl, rfl, rfl, by decide +kernel, rfl, by decide +kernel, by decide +kernel⟩
/-- the house with another text -/
theorem Sess.put {N : Addr → Prop} {H H' : Hp} {s : Addr} {h : House} {G : Gh} {dx ar aw ap a p : Addr} {rs qs qs' : List Addr} {xs : List (Sq17.Rule × Mx.Mat)} {l : List Nat} (S : Sess N c H s h G dx ar aw ap rs qs xs) (g : Go G [s] H H') (hr : Sq17.right l = true) (na : ¬ N a) (np : H p = none)
    (ha : H a = some (.lst (ivs l))) (ho : H' s = some (.ins c.S dx (sf h.modes ar a p))) (hp : H' p = some (.lst (qs'.map V.ref))) (hq : PiecesIn c.P H' qs' (pieces (xs.map (·.1)) l)) (hl : qs'.length ≤ l.length) : Sess N c H' s { h with text := l } G dx ar a p rs qs' xs := by
  have hs0 : ∃ c d f, H s = some (.ins c d f) := ⟨_, _, _, S.o⟩
  have hr2 := right_iff.mp hr
  exact ⟨ho, g.w', fun b n => ⟨(S.n b n).1, (S.n b n).2.1, fun z => na (z ▸ n), fun z => S.nt b n (z ▸ np), (S.n b n).2.2.2.2.1, (S.n b n).2.2.2.2.2⟩, fun b n z => S.nt b n (g.free z), S.nr, g.atx hs0 S.r, S.ri.std (g.stdS ⟨_, _, _, _, S.o⟩), S.ro, S.re, S.rl, g.atx hs0 ha, hr, hp, by rw [← S.re]; exact hq, by omega⟩
theorem ok_setText {f f1 f2 f3 : Addr} {fd fd1 fd2 fd3 : FuncData} (F : Fun K "set_text" "Session.set_text" sSetText f fd) (T : Cs K c.S) (TS : Txs mg) (TX : Txt K mg) (TC : Txc mg) (TP : Cp K c.P)
    (D1 : Dm K c.S "put_text" "Session.put_text" sPutText ["self", "row"] f1 fd1) (G1 : FnOk P w K mg base CX0 8 f1 fd1 ["self", "row"] (spPutText c)) (D2 : Df K mg "may_be_text" sMayBe ["row"] f2 fd2) (D3 : Df K mg "count_odd" sCountOdd ["pieces"] f3 fd3) :
    FnOk P w K mg base CX0 9 f fd ["self", "row"] (spSetText c) := by
  have G2 : FnOk P w K mg base CX0 1 f2 fd2 ["row"] (spMayBe K) := ok_mayBe D2.F TX TS
  have G3 : FnOk P w K mg base CX0 1 f3 fd3 ["pieces"] (spCountOdd K c.P) := ok_countOdd D3.F TP TX TC
  refine F.ok scSetText (fun vs H Q E h => ?_) (fun cdv A outer s H vs Q E hr h => ?_)
  · obtain ⟨N, s, a, l, h, rfl, _⟩ := h; rfl
  · obtain ⟨N, s, a, l, h, rfl, ⟨G, dx, ar, aw, ap, rs, qs, xs, S⟩, ha, na, k⟩ := h
    have hr1 : Room 1 _ := hr.mono (by decide)
    refine ⟨_, (L2.pss_cons (L2.ps_if (pt_not (pt_val ((L2.pe_call G2 hr1 (by rfl) (Mp.Df.g D2) (Mp.Df.F D2).kp (Mp.Df.b D2) .nil L2.pass0 (L2.pa_cons (pv 1) L2.pa_nil))))) (L2.pss_one (ps_ret (pe_lst (L2.pa_cons (pe_un un_neg pe_int) L2.pa_nil)))) L2.pss_nil)
      (L2.pss_cons (ps_expr ((L2.pe_meth (pv 0) T.cl (Mp.Dm.m D1) G1 hr (Mp.Dm.b D1) .nil L2.pass0 (L2.pa_cons (pv 1) L2.pa_nil))))
      (L2.pss_one (ps_ret (pe_lst (L2.pa_cons (L2.pe_callB L2.call_len_seq (by rfl) TX.len PySem.boot_len (L2.pa_cons (pe_fld (pv 0) rfl) L2.pa_nil)) (L2.pa_cons (L2.pe_call G3 hr1 (by rfl) (Mp.Df.g D3) (Mp.Df.F D3).kp (Mp.Df.b D3) .nil L2.pass0 (L2.pa_cons (pe_fld (pv 0) rfl) L2.pa_nil)) L2.pa_nil))))))), ?_⟩
    have hstep : h.step (.text l) = if Sq17.right l = false then (h, Sq17.says (-1)) else ({ h with text := l }, ⟨(pieces h.rules l).length, [(({ h with text := l } : House).odd : Int)]⟩) := rfl
    refine ⟨_, rfl, a, l, rfl, sqL_of ha, _, rfl, ?_⟩
    cases hrt : Sq17.right l with
    | false =>
      rw [if_pos hrt] at hstep
      refine iteT ⟨_, rfl, by show 1 ≤ sizeLine; decide, fun p hp => ?_⟩
      exact ans_out S hstep k (.refl S.w _) p hp
    | true =>
      rw [if_neg (by rw [hrt]; simp)] at hstep
      have hr2 := right_iff.mp hrt
      refine iteF ⟨_, rfl, s, dx, _, rfl, S.o, sf_no, _, rfl, ?_⟩
      refine ⟨G, s, a, dx, h.modes, ar, aw, ap, l, rs, xs, rfl, S.w, S.o, S.r, S.ri, S.ro, S.rl, ha, hr2.1, hr2.2, fun H1 p qs' g1 np ho hp hq hql => ?_⟩
      have S1 := S.put g1 hrt na np ha ho hp hq hql
      refine ⟨_, rfl, s, c.S, dx, _, _, rfl, S1.o, T.cl, T.nP, sf_P, p, _, rfl, .inl (sqL_of hp), _, rfl, s, c.S, dx, _, _, rfl, S1.o, T.cl, T.nP, sf_P, ?_⟩
      refine ⟨p, qs', _, rfl, sqL_of hp, S1.pi, by omega, fun H2 s2 => ⟨by show 2 ≤ sizeLine; decide, fun ans hans => ?_⟩⟩
      have hpl := S1.pi.len
      have s3 := s2.trans (Same.upd (.lst [V.int ((qs'.map V.ref).length : Nat), iv (((pieces h.rules l).filter fun x => x.1.kind == 65).length)]) hans)
      have g3 : Go G [] H1 _ := .of g1.w' s3
      refine k _ ans (by rw [hstep]; exact ⟨G, dx, ar, a, p, rs, qs', xs, S1.go g3⟩) ((S.keeps1 g1).trans (S1.keeps g3)) (g1.free (s2.free hans)) ?_
      rw [hstep, upd_same, List.length_map, hpl]
      rfl
end
end Mp

-- MpRev
set_option maxRecDepth 100000
set_option maxHeartbeats 4000000
/-! list(reversed(t)), t a tuple. -/
namespace Mp
open PySem PySem.Spec PyProof.Rows L2 RT

theorem nolen_rt : typeLookup (.type "reversed") "__len__" = pure none := by rw [typeLookup_type, builtinLookup_eq_fast]; kernel_rfl
theorem hint_rt : typeLookup (.type "reversed") "__length_hint__" = pure (some (.builtin "reversed.__length_hint__")) := by rw [typeLookup_type, builtinLookup_eq_fast]; kernel_rfl
theorem slot_rt_hint : Slot "reversed" "__length_hint__" "reversed.__length_hint__" :=
  .of (owner := "reversed") (n := "__length_hint__") (by rw [typeLookup_type, builtinLookup_eq_fast]; kernel_rfl) (by decide +kernel) (by decide +kernel) (by decide +kernel)
    (by first | exact .inl (by decide +kernel) | exact .inr (by decide +kernel)) (by rw [isSubtype_type]; kernel_rfl)
theorem entry_rt_hint : entryFor table "reversed.__length_hint__" = some Builtin.«reversed.__length_hint__» := entryFor_of_tree (by kernel_rfl)
theorem args_rt_hint (a : Value) : argsOk "reversed.__length_hint__" ⟨[a], []⟩ := by
  unfold argsOk; rw [signature?_of (id := "reversed.__length_hint__") (n := ['_', '_', 't', 'n', 'i', 'h', '_', 'h', 't', 'g', 'n', 'e', 'l', '_', '_']) (o := ['d', 'e', 's', 'r', 'e', 'v', 'e', 'r']) (by kernel_rfl) owner_rt]; kernel_rfl
section
variable {prog : Program} {w : World} {A : Around} {E : Value → Shared → Prop} {s : Shared}
theorem call_rt_hint {it t : Addr} {items : Array Value} {Q : Value → Shared → Prop} (hit : IsRt s.heap it t ((items.size : Int) - 1)) (ht : IsTup s.heap t items) (hz : items.size ≤ sizeLine) (h : ∀ tk tk2, Q (.int items.size tk) { s with toks := tk2 }) :
    wpAny (model prog w) A (call (.builtin "reversed.__length_hint__") [.ref it]) Q E s := by
  obtain ⟨o, ho, hc, hd⟩ := id hit
  have hn := line63
  refine wpAny_call_entry slot_rt_hint hit.typeIs entry_rt_hint ?_ (args_rt_hint _)
  unfold Builtin.«reversed.__length_hint__»
  refine wpAny_bind (wpAny_of_eq (a := Value.ref it) rfl ?_)
  refine wpAny_bind (wpAny_field ho hd (x := .ref t) rfl ?_)
  try dsimp only
  try rw [if_neg (by decide)]
  refine wpAny_bind (len_tuple ht (by omega) ?_)
  refine wpAny_bind (wpAny_of_eq (a := some ((items.size : Nat) : Int)) rfl ?_)
  try dsimp only
  refine wpAny_bind (wpAny_field (s := { s with toks := s.toks + 1 + 1 }) ho hd (x := rawInt ((items.size : Int) - 1)) rfl ?_)
  show wpAny _ _ (if ((items.size : Nat) : Int) < (items.size : Int) - 1 + 1 then _ else retInt ((items.size : Int) - 1 + 1)) _ _ _
  rw [if_neg (by omega), show (items.size : Int) - 1 + 1 = (items.size : Int) by omega]
  unfold retInt
  refine wpAny_bind (wpAny_mkInt ?_)
  exact wpAny_pure ⟨_, rfl, h _ _⟩
theorem bind_rt_hint (x : Value) : bindSpecial (.builtin "reversed.__length_hint__") x = pure (.builtin "reversed.__length_hint__", [x]) := by
  have hop : withoutEnding? "reversed.__length_hint__" "#opaque" = none := by decide +kernel
  have hdat : withoutEnding? "reversed.__length_hint__" "#data" = none := by decide +kernel
  have hk : builtinKind "reversed.__length_hint__" = some .method := by first | decide +kernel | kernel_rfl
  simp only [bindSpecial, typeOf, builtinType, hop, hdat, hk]; rfl
theorem hint_of_rt {it t : Addr} {items : Array Value} {Q : Bool → Shared → Prop} (hit : IsRt s.heap it t ((items.size : Int) - 1)) (ht : IsTup s.heap t items) (hz : items.size ≤ sizeLine) (h : ∀ b tk, Q b { s with toks := tk }) :
    wpAny (model prog w) A (Builtin.List.listLengthHint (.ref it)) Q E s := by
  have hn := line63
  unfold Builtin.List.listLengthHint
  refine wpAny_bind (wpAny_specialOf hit.typeIs nolen_rt ?_)
  show wpAny _ _ (specialOf (Value.ref it) (Str.ofString "__length_hint__") >>= _) _ _ _
  refine wpAny_bind (wpAny_specialOf hit.typeIs hint_rt ?_)
  generalize hid : ("reversed.__length_hint__" : String) = id0
  wp_delta
  rw [show splitId id0 = some ("reversed", "__length_hint__") from by subst hid; decide +kernel]
  refine wpAny_bind (wpAny_isInstance (T := "reversed") (b := true) hit.typeIs (by rw [isSubtype_type]; kernel_rfl) ?_)
  subst hid
  refine wpAny_ite_split (fun hab => absurd hab (by decide)) (fun _ => ?_)
  refine wpAny_ite_split (fun hab => absurd hab (by decide +kernel)) (fun _ => ?_)
  refine wpAny_bind (wpAny_rule ?_)
  refine wpAny_bind (wpAny_of_eq (bind_rt_hint _) ?_)
  refine wpAny_bind (wpAny_attempt (call_rt_hint hit ht hz fun tk tk2 => ?_))
  dsimp only
  have hA : ∀ (i : Int) (t : Tok), asInt? (Value.int i t) = pure (some i) := fun _ _ => rfl
  rw [hA]
  simp only [pure_bind]
  have h1 : Builtin.List.listFitsIndex ((items.size : Nat) : Int) = true := by
    unfold Builtin.List.listFitsIndex
    rw [Bool.and_eq_true, decide_eq_true_eq, decide_eq_true_eq]; omega
  have h2 : Builtin.List.listTooLong (((items.size : Nat) : Int).toNat) = false := by
    unfold Builtin.List.listTooLong
    rw [decide_eq_false_iff_not, Int.toNat_natCast]; omega
  rw [if_neg (by rw [h1]; decide), if_neg (by omega), if_neg (by rw [h2]; decide)]
  exact wpAny_pure (h _ _)
theorem walksRt {it t : Addr} {items : Array Value} (hh : A.handled = none) (hne : t ≠ it) (hz : items.size ≤ sizeLine) :
    Walks prog w A it [it, t] [it] items.size (fun i v => items[items.size - 1 - i]? = some v) (fun i h => i ≤ items.size ∧ IsRt h it t ((items.size : Int) - 1 - (i : Nat)) ∧ IsTup h t items) where
  sub := fun b hb => by
    rw [List.mem_singleton.mp hb]
    exact List.mem_cons_self
  frame := fun i h h' st k => by
    obtain ⟨h0, h1, o, ho, h2⟩ := st
    exact ⟨h0, h1.at fun o e => k it List.mem_cons_self o e, o, k t (List.mem_cons_of_mem _ List.mem_cons_self) _ ho, h2⟩
  item := fun i s Q E hi st hQ => by
    obtain ⟨h0, h1, h2⟩ := st
    have hx : items[items.size - 1 - i]? = some items[items.size - 1 - i] := Array.getElem?_eq_getElem (by omega)
    have e : (items.size : Int) - 1 - (i : Nat) = ((items.size - 1 - i : Nat) : Int) := by omega
    rw [e] at h1
    refine next_rt_item h1 h2 hx hz fun h' g1 sb => hQ _ h' (s.toks + 1) hx ⟨by omega, ?_, ?_⟩ fun b o hb q => (sb.2 b (fun z => hb (by rw [z]; exact List.mem_cons_self))).trans q
    · rw [show (items.size : Int) - 1 - ((i + 1 : Nat) : Int) = ((items.size - 1 - i : Nat) : Int) - 1 by omega]; exact g1
    · obtain ⟨o, ho, h3⟩ := h2
      exact ⟨o, (sb.2 t hne).trans ho, h3⟩
  done := fun s Q E st hQ => by
    obtain ⟨h0, h1, h2⟩ := st
    rw [show (items.size : Int) - 1 - ((items.size : Nat) : Int) = -1 by omega] at h1
    exact next_rt_end hh h1 fun h' eb => hQ h' s.toks fun b o hb q => eb b o (fun z => hb (by rw [z]; exact List.mem_cons_self)) q
  self := fun i s Q E st h => iter_rt st.2.1 h
theorem call_list_rt {Q : Value → Shared → Prop} {it t : Addr} {items : Array Value} (hh : A.handled = none) (hit : IsRt s.heap it t ((items.size : Int) - 1)) (ht : IsTup s.heap t items) (hne : t ≠ it) (hz : items.size ≤ sizeLine)
    (hQ : ∀ h' tk acc' c', (∀ b o, b ≠ it → s.heap.get? b = some o → h'.get? b = some o) → h'.get? s.heap.objs.size = some { cls := .type "list", dict := none, data := .seq acc' c', slots := #[] } → ItemsOf (fun i v => items[items.size - 1 - i]? = some v) acc' items.size → Q (.ref s.heap.objs.size) { s with heap := h', toks := tk }) :
    wpAny (model prog w) A (call (.type "list") [.ref it]) Q E s := by
  refine callType_codes (Q₁ := fun obj s₁ => obj = .ref s.heap.objs.size ∧ s₁ = { s with heap := s.heap.push { cls := .type "list", data := .seq #[] } }) PySem.F.called_list (PySem.F.typeCall_list_1 _) PySem.F.entry_list_init
    (code_list_new _ ⟨rfl, rfl⟩) fun obj s₁ h₁ => ?_
  obtain ⟨rfl, rfl⟩ := h₁
  obtain ⟨oi, hoi, _⟩ := id hit
  obtain ⟨ot, hot, _⟩ := id ht
  have hS : (s.heap.push { cls := .type "list", data := .seq #[] }).get? s.heap.objs.size = some { cls := .type "list", data := .seq #[] } := Heap.get?_push_size _ rfl
  have hSi : s.heap.objs.size ≠ it := Nat.ne_of_gt (Heap.lt_size hoi)
  have hSt : s.heap.objs.size ≠ t := Nat.ne_of_gt (Heap.lt_size hot)
  refine ⟨⟨_, hS, rfl⟩, PySem.F.args_list_init_2 _ _, ?_⟩
  show wpAny _ _ (do let old ← Builtin.List.listItems (.ref s.heap.objs.size); Builtin.List.listUpdate (.ref s.heap.objs.size) (fun _ => #[]); letGo old.toList.reverse; Builtin.List.listExtendWith (.ref s.heap.objs.size) (.ref it) .none) _ _ _
  refine wpAny_bind ?_
  unfold Builtin.List.listItems
  refine wpAny_bind (wpAny_seqItems hS rfl (wpAny_pure ?_))
  show wpAny _ _ (updateSeq s.heap.objs.size (fun _ => #[]) >>= fun _ => letGo (#[] : Array Value).toList.reverse >>= fun _ => Builtin.List.listExtendWith (.ref s.heap.objs.size) (.ref it) .none) _ _ _
  refine wpAny_bind (wpAny_updateSeq hS rfl ?_)
  have hS₂ := Heap.get?_update_self (Obj.mapSeq (fun _ => (#[] : Array Value))) hS rfl
  have oth : ∀ b o, b ≠ s.heap.objs.size → s.heap.get? b = some o → ((s.heap.push { cls := .type "list", data := .seq #[] }).update s.heap.objs.size (Obj.mapSeq (fun _ => (#[] : Array Value)))).get? b = some o :=
    fun b o hb e => (Heap.get?_update_other _ _ (Ne.symm hb)).trans (Heap.get?_push_of_some _ e)
  refine wpAny_bind (wpAny_letGo ?_)
  generalize hG : (s.heap.push { cls := .type "list", data := .seq #[] }).update s.heap.objs.size (Obj.mapSeq (fun _ => (#[] : Array Value))) = g at *
  have hit2 : IsRt g it t ((items.size : Int) - 1) := hit.at fun o e => oth it o (Ne.symm hSi) e
  have ht2 : IsTup g t items := by
    obtain ⟨o, ho, h3⟩ := ht
    exact ⟨o, oth t _ (Ne.symm hSt) ho, h3⟩
  have W := (walksRt (prog := prog) (w := w) (A := A.in1.in1) (it := it) (t := t) (items := items) hh hne hz).toS
  have hSf : s.heap.objs.size ∉ [it, t] := by simp only [List.mem_cons, List.not_mem_nil, or_false, not_or]; exact ⟨hSi, hSt⟩
  have key : ∀ (h : Heap) (c₁ tk : Nat), (∀ b o, b ≠ s.heap.objs.size → g.get? b = some o → h.get? b = some o) →
      h.get? s.heap.objs.size = some { cls := .type "list", data := .seq #[] c₁ } → codeAny (model prog w) A.in1 (.builtin "list.extend.loop" ⟨[.ref s.heap.objs.size, .ref it, .none], []⟩) (wants (fun r s₂ => r = Value.none ∧ Q (Value.ref s.heap.objs.size) s₂) E) { s with heap := h, toks := tk } := by
    intro h c₁ tk hk hS₁
    have e0 : (items.size : Int) - 1 - ((0 : Nat) : Int) = (items.size : Int) - 1 := by omega
    refine codeAny_extend_loopS W hz _ hSf .none items.size 0 _ #[] c₁ rfl (Nat.zero_le _) ⟨Nat.zero_le _, by rw [e0]; exact hit2.at fun o e => hk it o (Ne.symm hSi) e, ?_⟩ hS₁ (ItemsOf.nil _) fun s' acc' c' hm hS' hacc => ?_
    · obtain ⟨o, ho, h3⟩ := ht2
      exact ⟨o, hk t _ (Ne.symm hSt) ho, h3⟩
    · rw [Moved.eq_with hm]
      refine ⟨rfl, hQ s'.heap s'.toks acc' c' (fun b o hb e => hm.heap b o (fun hmem => ?_) (hk b o (Nat.ne_of_lt (Heap.lt_size e)) (oth b o (Nat.ne_of_lt (Heap.lt_size e)) e))) hS' hacc⟩
      rcases List.mem_cons.mp hmem with e' | hmem
      · exact absurd (Heap.lt_size e) (by rw [e']; exact Nat.lt_irrefl _)
      · exact hb (List.mem_singleton.mp hmem)
  unfold Builtin.List.listExtendWith
  refine wpAny_bind (wpAny_typeOf (T := "reversed") hit2.typeIs ?_)
  have h1 : Builtin.List.listSameRef (.ref s.heap.objs.size) (.ref it) = false := by simp [Builtin.List.listSameRef, hSi]
  have h2 : (Value.type "reversed" == Value.type "list") = false := by decide
  have h3 : (Value.type "reversed" == Value.type "tuple") = false := by decide
  simp only [h1, h2, h3, Bool.or_false, Bool.false_eq_true, if_false]
  refine wpAny_bind (iter_rt hit2 ?_)
  refine wpAny_bind (wpAny_holding (hint_of_rt hit2 ht2 hz fun b tk => ?_))
  have hS₁ := hS₂
  refine wpAny_ite_split (fun _ => ?_) (fun _ => wpAny_pure ⟨plainId_quiet PySem.F.plain_extend_loop _, key _ _ _ (fun b o _ e => e) hS₁⟩)
  refine wpAny_bind (wpAny_rule ?_)
  refine wpAny_bind ?_
  show wpAny _ _ (updateSeq s.heap.objs.size (·.push .none) >>= fun _ => updateSeq s.heap.objs.size (·.pop)) _ _ _
  refine wpAny_bind (wpAny_updateSeq hS₁ rfl ?_)
  have hS₂' := Heap.get?_update_self (Obj.mapSeq (·.push Value.none)) hS₁ rfl
  refine wpAny_updateSeq (hz := by seq_fits) hS₂' rfl ?_
  have hS₃ := Heap.get?_update_self (Obj.mapSeq (·.pop)) hS₂' rfl
  refine wpAny_pure ⟨plainId_quiet PySem.F.plain_extend_loop _, key _ _ _ (fun b o hb e => ?_) hS₃⟩
  exact (Heap.get?_update_other _ _ (Ne.symm hb)).trans ((Heap.get?_update_other _ _ (Ne.symm hb)).trans e)
end
/-- list(reversed(e)), e a tuple -/
def tLstRev (K : PySem.W.Frag) (te : TE) : TE := fun σ H Q => te σ H fun v H1 => ∃ (a : Addr) (xs : List V), v = .ref a ∧ SqT K H1 a xs ∧ ∀ q, H1 q = none → Q (.ref q) (upd H1 q (.lst xs.reverse))
section
variable {X : Cx}
theorem pe_lstRev {e : Expr} {te : TE} {p p2 pos pos2 : Pos} (hc : X.calm = true) (hg : Gl X "list") (hm : X.mg "list" = none) (hg2 : Gl X "reversed") (hm2 : X.mg "reversed" = none) (he : PE X e te) (hs : starEach [e] X.env = (false, eval e X.env) :: starEach [] X.env := by rfl)
    (hs2 : starEach [.Call (.Name "reversed" p2) [e] [] pos2] X.env = (false, eval (.Call (.Name "reversed" p2) [e] [] pos2) X.env) :: starEach [] X.env := by rfl) : PE X (.Call (.Name "list" p) [.Call (.Name "reversed" p2) [e] [] pos2] [] pos) (tLstRev X.K te) := by
  refine ⟨fun pins s σ H Q I h => ?_⟩
  refine wpAny_Call_Name_kw (ld_blt I hg hm (by decide +kernel : bootBuiltins "list" = some (.type "list")) ?_)
  refine PyProof.Rows.callWith_type1 ?_ hs2 rfl
  rw [hs2]
  refine Calls.spliced_cons ?_
  refine wpAny_Call_Name_kw (ld_blt I hg2 hm2 PyProof.Rows.boot_reversed ?_)
  refine PyProof.Rows.callWith_type1 ?_ hs rfl
  rw [hs]
  refine Calls.spliced_cons (thn (he.run pins s σ H _ I h) fun u s1 ⟨v, H1, I1, r1, a, xs, ev, hq, q⟩ => ?_)
  subst ev
  obtain rfl : u = Value.ref a := r1
  refine Calls.spliced_nil ?_
  obtain ⟨its, rv, p', hz⟩ := I1.tuple hq
  have hn := line63
  have hl := rv.length
  refine call_reversed_tup p' (fun A E Q k => len_tuple p' (by simp only [List.size_toArray]; omega) k) ?_
  refine Calls.spliced_nil ?_
  obtain ⟨ot, hot, hot2⟩ := id p'
  have hne : a ≠ s1.heap.objs.size := Nat.ne_of_lt (Heap.lt_size hot)
  refine call_list_rt (I1.ok.hd hc) ⟨_, Heap.get?_push_size _ rfl, rfl, rfl⟩ (⟨ot, Heap.get?_push_of_some _ hot, hot2⟩ : IsTup _ a its.toArray) hne (by simp only [List.size_toArray]; omega) fun h' tk acc' c' hk hS hacc => ?_
  have np : H1 (s1.heap.push (rtObj a ((its.toArray.size : Int) - 1))).objs.size = none := I1.hok.fresh (by rw [size_push']; exact Nat.le_succ _)
  refine ⟨.ref _, _, I1.laid (t' := tk) (a := (s1.heap.push (rtObj a ((its.toArray.size : Int) - 1))).objs.size) (o := .lst xs.reverse) (fun b o e => hk b o (Nat.ne_of_lt (Heap.lt_size e)) (Heap.get?_push_of_some _ e)) (by rw [size_push']; exact Nat.le_succ _) ⟨by rw [List.length_reverse]; exact hz, acc'.toList, c', vals_rev rv hacc, by rw [Array.toArray_toList]; exact hS⟩, rfl, q _ np⟩
end
end Mp

-- MpSess3
set_option maxRecDepth 100000
set_option maxHeartbeats 8000000
set_option exponentiation.threshold 3000
/-! A house tells. -/
namespace Mp
open PySem PySem.Spec PyProof.Rows L2
open Sq17 (Piece Word House pieces cut)
open Mx (okR MOk Chain)

theorem cut_modes {xs : List (Sq17.Rule × Mx.Mat)} (h : ∀ x ∈ xs, okR x) : ∀ (f i far : Nat) (l ms : List Nat), ms ≠ [] → ms.length ≤ 16 → ∀ x ∈ cut (xs.map (·.1)) f i far l ms, x.2 ≠ [] ∧ x.2.length ≤ 16
  | 0, _, _, _, _, _, _, x, hx => by rw [cut] at hx; cases hx
  | f + 1, i, far, l, ms, h1, h2, x, hx => by
    by_cases hl : l = []
    · subst hl; rw [Mx.cut_nil] at hx; cases hx
    · rw [Mx.cut_cons _ _ _ _ hl] at hx
      rcases List.mem_cons.mp hx with rfl | hx
      · exact ⟨h1, h2⟩
      · have := pieceOf_ms (rules := xs.map (·.1)) (b := Mx.bm (ms.headD 0) l xs) (at_ := i) h1 h2
        rw [Mx.pieceAt_of h] at hx
        exact cut_modes h f _ _ _ _ this.1 this.2 x hx
theorem chain_mode : ∀ (l : List (Piece × List Nat)) (i e : Nat), Chain i e l → ∀ x ∈ l, x.1.mode = x.2.headD 0 := by
  intro l; induction l with
  | nil => intro i e _ x hx; cases hx
  | cons y l ih =>
    intro i e h x hx
    rcases List.mem_cons.mp hx with rfl | hx
    · exact h.2.2.1
    · exact ih _ _ h.2.2.2 x hx
theorem pieces_ok {xs : List (Sq17.Rule × Mx.Mat)} (h : ∀ x ∈ xs, okR x) (l : List Nat) : ∀ x ∈ pieces (xs.map (·.1)) l, x.2 ≠ [] ∧ x.1.mode = x.2.headD 0 ∧ x.2.length ≤ 16 := fun x hx =>
  ⟨(cut_modes h _ _ _ _ _ (by simp) (by simp) x hx).1, chain_mode _ _ _ (Mx.pieces_chain h l) x hx, (cut_modes h _ _ _ _ _ (by simp) (by simp) x hx).2⟩
theorem told_numbers {x : Piece × List Nat} (h : x.1.mode = x.2.headD 0) : told5 x = x.1.numbers := by
  unfold told5 Sq17.Piece.numbers; rw [h]
theorem Sess.okR {N : Addr → Prop} {c : Cc} {H : Hp} {s : Addr} {h : House} {G : Gh} {dx ar aw ap : Addr} {rs qs : List Addr} {xs : List (Sq17.Rule × Mx.Mat)} (S : Sess N c H s h G dx ar aw ap rs qs xs) : ∀ x ∈ xs, Mx.okR x := fun x hx => (S.ro x hx).r
theorem Sess.pok {N : Addr → Prop} {c : Cc} {H : Hp} {s : Addr} {h : House} {G : Gh} {dx ar aw ap : Addr} {rs qs : List Addr} {xs : List (Sq17.Rule × Mx.Mat)} (S : Sess N c H s h G dx ar aw ap rs qs xs) : ∀ x ∈ pieces h.rules h.text, x.2 ≠ [] ∧ x.1.mode = x.2.headD 0 ∧ x.2.length ≤ 16 := by
  rw [← S.re]; exact pieces_ok S.okR _
theorem ints_iv (l : List Nat) : (Sq17.ints l).map V.int = ivs l := by unfold Sq17.ints; rw [List.map_map]; rfl
theorem words_eq {N : Addr → Prop} {c : Cc} {H : Hp} {s : Addr} {h : House} {G : Gh} {dx ar aw ap : Addr} {rs qs : List Addr} {xs : List (Sq17.Rule × Mx.Mat)} (S : Sess N c H s h G dx ar aw ap rs qs xs) : ((pieces h.rules h.text).filter fun x => x.1.kind != 64).map (wordOf h.text) = Sq17.words h.rules h.text := by
  unfold Sq17.words
  refine List.map_congr_left fun x hx => ?_
  unfold wordOf
  rw [(S.pok x (List.mem_filter.mp hx).1).2.1]

def spTellPieces (c : Cc) : Sp := fun vs H Q _ => ∃ (N : Addr → Prop) (s : Addr) (h : House), vs = [.ref s] ∧ SessIn N c H s h ∧ Ans N c H s h .pieces Q
def spTellWords (c : Cc) : Sp := fun vs H Q _ => ∃ (N : Addr → Prop) (s : Addr) (h : House), vs = [.ref s] ∧ SessIn N c H s h ∧ Ans N c H s h .words Q
def spTellAt (c : Cc) : Sp := fun vs H Q _ => ∃ (N : Addr → Prop) (s i : Nat) (h : House), vs = [.ref s, iv i] ∧ SessIn N c H s h ∧ Ans N c H s h (.at_ i) Q
def spTellLongest (K : PySem.W.Frag) (c : Cc) : Sp := fun vs H Q _ => ∃ (N : Addr → Prop) (s r a : Nat) (l : List Nat) (h : House), vs = [.ref s, iv r, .ref a] ∧ SessIn N c H s h ∧ SqL K H a (ivs l) ∧ Ans N c H s h (.longest r l) Q
section
variable {P : Program} {w : World} {K : PySem.W.Frag} {mg : Str → Option Value} {base : Heap} {c : Cc}
theorem scTellPieces : FnScope ["self", "answer", "piece"] ["self"] (defScope sTellPieces) := ⟨rfl, rfl, rfl, by decide +kernel, rfl, by decide +kernel, by decide +kernel⟩
theorem ok_tellPieces {f f1 : Addr} {fd fd1 : FuncData} (F : Fun K "tell_pieces" "Session.tell_pieces" sTellPieces f fd) (T : Cs K c.S) (TX : Txt K mg) (TP : Cp K c.P)
    (D1 : Dm K c.P "told" "Piece.told" sTold ["self"] f1 fd1) : FnOk P w K mg base CX0 2 f fd ["self"] (spTellPieces c) := by
  have G1 : FnOk P w K mg base CX0 1 f1 fd1 ["self"] (spTold c.P) := ok_told D1.F TP
  refine F.ok scTellPieces (fun vs H Q E h => ?_) (fun cdv A outer s H vs Q E hr h => ?_)
  · obtain ⟨N, s, h, rfl, _⟩ := h; rfl
  · obtain ⟨N, s, h, rfl, ⟨G, dx, ar, aw, ap, rs, qs, xs, S⟩, k⟩ := h
    have nd := scTellPieces.nd
    have big : (20000 : Nat) ≤ sizeLine := by decide
    refine ⟨_, (L2.pss_cons (L2.ps_set (i := 1) nd rfl (Or.inl rfl) (pe_lst (L2.pa_cons (L2.pe_callB L2.call_len_seq (by rfl) TX.len PySem.boot_len (L2.pa_cons (pe_fld (pv 0) rfl) L2.pa_nil)) L2.pa_nil)))
      (L2.pss_cons (ps_for PassesOwn.never rfl (pi_list (pe_fld (pv 0) rfl)) (pg_name (i := 2) nd rfl (Or.inl rfl)) (L2.pss_one (ps_expr (pe_bm PySem.F.plainAttrs_list PySem.F.slot_list_extend PySem.F.type_list_extend mt_extend (pv 1) (L2.pa_cons (L2.pe_meth0 (pv 2) TP.cl (Mp.Dm.m D1) G1 hr (Mp.Dm.b D1) .nil L2.pass0) L2.pa_nil)))))
      (L2.pss_one (ps_ret (pv 1))))), ?_⟩
    have hstep : h.step .pieces = (h, ⟨(pieces h.rules h.text).length, Sq17.ints ((pieces h.rules h.text).flatMap fun x => x.1.numbers)⟩) := rfl
    have hpl := S.pi.len
    have hql := S.pl
    refine ⟨_, rfl, s, c.S, dx, _, _, rfl, S.o, T.cl, T.nP, sf_P, ap, _, rfl, .inl (sqL_of S.p), by show 1 ≤ sizeLine; omega, fun aL haL => ?_⟩
    have s1 := Same.upd (.lst [V.int ((qs.map V.ref).length : Nat)]) haL
    have e1 : upd H aL (.lst [V.int ((qs.map V.ref).length : Nat)]) aL = some (.lst [V.int ((qs.map V.ref).length : Nat)]) := upd_same
    generalize upd H aL (.lst [V.int ((qs.map V.ref).length : Nat)]) = H1 at *
    dsimp only [gName]
    refine ⟨_, rfl, s, c.S, dx, _, _, rfl, s1 _ _ S.o, T.cl, T.nP, sf_P, ap, rfl, ⟨_, sqL_of (s1 _ _ S.p)⟩, for_list (K := K) (a := ap) (xs := qs.map V.ref)
      (fun i σ H' => ∃ v2 : Option V, σ = [some (.ref s), some (.ref aL), v2] ∧ H' aL = some (.lst (V.int ((qs.map V.ref).length : Nat) :: ivs (((pieces h.rules h.text).take i).flatMap told5))) ∧ Same H H') ⟨none, rfl, e1, s1⟩ (fun i σ H' _ ⟨_, _, _, sm⟩ => sqL_of (sm _ _ S.p)) ?_ ?_⟩
    · rintro i y σ H2 hi ⟨v2, rfl, hL, sm⟩
      obtain ⟨q, hq, rfl⟩ := refs_at hi
      have hlt := (List.getElem?_eq_some_iff.mp hq).1
      obtain ⟨x, hx, dxp, am, h1, h2⟩ := S.pi.get hq
      have hne := (S.pok x (List.mem_of_getElem? hx)).1
      have flen : ∀ l : List (Piece × List Nat), (l.flatMap told5).length = 5 * l.length := by
        intro l; induction l with
        | nil => rfl
        | cons a l ih => rw [List.flatMap_cons, List.length_append, ih, List.length_cons]; show 5 + _ = _; omega
      refine ⟨_, rfl, .inl ⟨rfl, _, sqL_of hL⟩, _, rfl, q, dxp, _, rfl, sm _ _ h1, pf_told, ?_⟩
      refine ⟨q, x, rfl, ⟨dxp, am, sm _ _ h1, sm _ _ h2⟩, hne, fun p hp => ?_⟩
      have s3 := Same.upd (.lst (ivs (told5 x))) hp
      refine ⟨aL, p, _, _, rfl, rfl, s3 _ _ hL, upd_same, ?_, ?_⟩
      · rw [List.length_cons, ivs_len, ivs_len, flen, List.length_take]
        have : (told5 x).length = 5 := rfl
        omega
      · refine ⟨some (.ref q), rfl, ?_, fun b o e => by rw [upd_ne (ne_of_none e haL)]; exact s3 _ _ (sm _ _ e)⟩
        rw [upd_same, List.cons_append, ivs_app]
        obtain ⟨l1, e1⟩ := List.getElem?_eq_some_iff.mp hx
        rw [List.take_succ_eq_append_getElem l1, List.flatMap_append, e1]
        simp
    · rintro σ H2 ⟨v2, rfl, hL, sm⟩
      rw [List.length_map, hpl, List.take_length] at hL
      have g2 : Go G [] H H2 := .of S.w sm
      refine ⟨_, rfl, k H2 aL (by rw [hstep]; exact ⟨G, dx, ar, aw, ap, rs, qs, xs, S.go g2⟩) (S.keeps g2) haL ?_⟩
      rw [hstep, hL]
      show some (HO.lst _) = some (HO.lst (V.int ((pieces h.rules h.text).length : Nat) :: (Sq17.ints _).map V.int))
      rw [ints_iv]
      congr 3
      refine congrArg ivs ?_
      rw [List.flatMap_def, List.flatMap_def]
      congr 1
      exact List.map_congr_left fun x hx => told_numbers (S.pok x hx).2.1

theorem scTellWords : FnScope ["self", "kinds", "kind", "mode", "row"] ["self"] (defScope sTellWords) := ⟨rfl, rfl, rfl, by decide +kernel, rfl, by decide +kernel, by decide +kernel⟩
theorem ok_tellWords {f f1 : Addr} {fd fd1 : FuncData} (F : Fun K "tell_words" "Session.tell_words" sTellWords f fd) (T : Cs K c.S) (TX : Txt K mg)
    (D1 : Df K mg "words_in" sWordsIn ["pieces", "row"] f1 fd1) (G1 : FnOk P w K mg base CX0 2 f1 fd1 ["pieces", "row"] (spWordsIn K c.P)) : FnOk P w K mg base CX0 3 f fd ["self"] (spTellWords c) := by
  refine F.ok scTellWords (fun vs H Q E h => ?_) (fun cdv A outer s H vs Q E hr h => ?_)
  · obtain ⟨N, s, h, rfl, _⟩ := h; rfl
  · obtain ⟨N, s, h, rfl, ⟨G, dx, ar, aw, ap, rs, qs, xs, S⟩, k⟩ := h
    have nd := scTellWords.nd
    have big : (20000 : Nat) ≤ sizeLine := by decide
    refine ⟨_, (L2.pss_cons (ps_setLc (i := 1) (own := [("kind", 2), ("mode", 3), ("row", 4)]) (g := gTup K 3 (gCons (gName 2) (gCons (gName 3) (gCons (gName 4) gNil)))) (te := tVar 2) (by rfl) nd rfl rfl (sw_true rfl rfl rfl (by decide +kernel)) (pi_list ((L2.pe_call G1 hr (by rfl) (Mp.Df.g D1) (Mp.Df.F D1).kp (Mp.Df.b D1) .nil L2.pass0 (L2.pa_cons (pe_fld (pv 0) rfl) (L2.pa_cons (pe_fld (pv 0) rfl) L2.pa_nil))))) (blkOk_by (N := ["self", "kinds", "kind", "mode", "row"]) (sc := defScope sTellWords) (by decide +kernel))
        (fun _ _ _ _ _ => pg_tup rfl (pgs_cons (pg_name (i := 2) nd rfl (Or.inl rfl)) (pgs_cons (pg_name (i := 3) nd rfl (Or.inl rfl)) (pgs_cons (pg_name (i := 4) nd rfl (Or.inl rfl)) pgs_nil)))) (fun _ _ _ _ _ => pts_nil) (fun _ _ _ _ _ => pv 2))
      (L2.pss_one (ps_ret (pe_op op_cat (pe_lst (L2.pa_cons (L2.pe_callB L2.call_len_seq (by rfl) TX.len PySem.boot_len (L2.pa_cons (pv 1) L2.pa_nil)) L2.pa_nil)) (pv 1))))), ?_⟩
    have hstep : h.step .words = (h, ⟨(Sq17.words h.rules h.text).length, Sq17.ints ((Sq17.words h.rules h.text).map fun x => x.1)⟩) := rfl
    have hpl := S.pi.len
    have hql := S.pl
    refine ⟨_, rfl, s, c.S, dx, _, _, rfl, S.o, T.cl, T.nP, sf_P, _, rfl, s, c.S, dx, _, _, rfl, S.o, T.cl, T.nW, sf_W, ?_⟩
    refine ⟨ap, aw, qs, pieces h.rules h.text, h.text, rfl, sqL_of S.p, S.pi, fun x hx => (S.pok x hx).1, by omega, sqL_of S.t, fun H1 p ws s1 np hp hws => ?_⟩
    rw [words_eq S] at hws
    have hwl := hws.len
    have hw2 : (Sq17.words h.rules h.text).length ≤ 200 := by
      rw [← words_eq S, List.length_map]
      exact Nat.le_trans (List.length_filter_le _ _) (by omega)
    generalize hW : Sq17.words h.rules h.text = W at *
    refine ⟨p, rfl, ⟨_, sqL_of hp⟩, fun D hD => ?_⟩
    refine lc_list (K := K) (a := p) (xs := ws.map V.ref) (fun i H' => H' = upd H1 D (.lst (ivs ((W.take i).map fun x => x.1)))) rfl ?_ ?_ ?_
    · rintro i H' _ rfl; exact sqL_of (Same.upd _ hD _ _ hp)
    · rintro i y H' hi rfl
      obtain ⟨q, hq, rfl⟩ := refs_at hi
      have hlt := (List.getElem?_eq_some_iff.mp hq).1
      obtain ⟨x, hx⟩ : ∃ x, W[i]? = some x := ⟨_, List.getElem?_eq_getElem (by omega)⟩
      obtain ⟨b, h1, h2⟩ := hws.ix i q x hq hx
      refine ⟨q, _, rfl, .inl (.inl (Same.upd _ hD _ _ h1)), rfl, _, _, rfl, _, _, rfl, _, _, rfl, rfl, ?_⟩
      refine ⟨rfl, ?_⟩
      refine iteT (B := upd H1 D (.lst (ivs ((W.take i).map fun x => x.1))) = upd H1 D (.lst (ivs ((W.take (i + 1)).map fun x => x.1)))) ?_
      refine ⟨_, rfl, ivs ((W.take i).map fun x => x.1), upd_same, ?_, ?_⟩
      · rw [ivs_len, List.length_map, List.length_take]; omega
      · show upd (upd H1 D _) D _ = upd H1 D _
        rw [upd_upd, map_take' _ hx]
        unfold ivs
        rw [List.map_append]; rfl
    · rintro H' rfl
      rw [List.length_map, hwl, List.take_length]
      have s2 := s1.trans (Same.upd (.lst (ivs (W.map fun x => x.1))) hD)
      have eD : upd H1 D (.lst (ivs (W.map fun x => x.1))) D = some (.lst (ivs (W.map fun x => x.1))) := upd_same
      generalize upd H1 D (.lst (ivs (W.map fun x => x.1))) = H2 at *
      dsimp only [gName]
      refine ⟨_, rfl, D, _, rfl, .inl (sqL_of eD), by show 1 ≤ sizeLine; omega, fun p1 hp1 => ?_⟩
      rw [ivs_len, List.length_map]
      have s3 := Same.upd (.lst [V.int ((W.length : Nat) : Int)]) hp1
      refine ⟨_, rfl, p1, D, _, _, rfl, rfl, upd_same, s3 _ _ eD, ?_, fun p2 hp2 => ?_⟩
      · rw [ivs_len, List.length_map]; show 1 + W.length ≤ sizeLine; omega
      · have s4 := s3.trans (Same.upd (.lst ([V.int ((W.length : Nat) : Int)] ++ ivs (W.map fun x => x.1))) hp2)
        have g4 : Go G [] H _ := .of S.w (s2.trans s4)
        refine k _ p2 (by rw [hstep]; exact ⟨G, dx, ar, aw, ap, rs, qs, xs, S.go g4⟩) (S.keeps g4) (s2.free (s3.free hp2)) ?_
        rw [hstep, upd_same]
        show some (HO.lst _) = some (HO.lst (V.int _ :: (Sq17.ints _).map V.int))
        rw [ints_iv]; rfl
end
end Mp

-- MpSess4
set_option maxRecDepth 100000
set_option maxHeartbeats 8000000
set_option exponentiation.threshold 3000
/-! A house tells of a byte, of the longest match. -/
namespace Mp
open PySem PySem.Spec PyProof.Rows L2
open Sq17 (Piece Word House pieces cut look longer)
open Mx (okR MOk Chain)

theorem at_find : ∀ (l : List (Piece × List Nat)) (i e : Nat), Chain i e l → ∀ z : Nat, i ≤ z → z < e → ∃ (k : Nat) (x : Piece × List Nat), l[k]? = some x ∧ x.1.i ≤ z ∧ z < x.1.i + x.1.n ∧ (∀ (j : Nat) (y : Piece × List Nat), j < k → l[j]? = some y → y.1.i + y.1.n ≤ z) ∧
    (l.find? fun x => decide (x.1.i ≤ z) && decide (z < x.1.i + x.1.n)) = some x ∧ (l.takeWhile fun y => decide (y.1.i < x.1.i)).length = k
  | [], i, e, h, z, h1, h2 => by
    have h : i = e := h
    omega
  | y :: l, i, e, h, z, h1, h2 => by
    obtain ⟨hi, hn, _, hc⟩ := h
    by_cases hz : z < i + y.1.n
    · refine ⟨0, y, rfl, by omega, by omega, fun j _ hj => by omega, ?_, ?_⟩
      · rw [List.find?_cons_of_pos (by simp; omega)]
      · rw [List.takeWhile_cons_of_neg (by simp)]; rfl
    · obtain ⟨k, x, g1, g2, g3, g4, g5, g6⟩ := at_find l (i + y.1.n) e hc z (by omega) h2
      have hx := (Mx.chain_ge l (i + y.1.n) e hc).2 x (List.mem_of_getElem? g1)
      refine ⟨k + 1, x, g1, g2, g3, fun j u hj hu => ?_, ?_, ?_⟩
      · cases j with
        | zero => simp at hu; subst hu; omega
        | succ j => exact g4 j u (by omega) (by simpa using hu)
      · rw [List.find?_cons_of_neg (by simp; omega)]; exact g5
      · rw [List.takeWhile_cons_of_pos (by simp; omega), List.length_cons, g6]
theorem at_none {l : List (Piece × List Nat)} {i e z : Nat} (h : Chain i e l) (hz : e ≤ z) : (l.find? fun x => decide (x.1.i ≤ z) && decide (z < x.1.i + x.1.n)) = none := by
  rw [List.find?_eq_none]
  intro x hx
  have := (Mx.chain_ge l i e h).2 x hx
  simp; omega
theorem Sess.chain {N : Addr → Prop} {c : Cc} {H : Hp} {s : Addr} {h : House} {G : Gh} {dx ar aw ap : Addr} {rs qs : List Addr} {xs : List (Sq17.Rule × Mx.Mat)} (S : Sess N c H s h G dx ar aw ap rs qs xs) : Chain 0 h.text.length (pieces h.rules h.text) := by
  rw [← S.re]; exact Mx.pieces_chain S.okR _
theorem mt_rev (l : List Nat) : (mt l).reverse = ivs l := by unfold mt ivs; rw [← List.map_reverse, List.reverse_reverse]
def aheadMu (k : Nat) (σ : L2.St) (_ : Hp) : Nat := match σ[2]? with
  | some (some (V.int z)) => k - z.toNat
  | _ => 0
section
variable {P : Program} {w : World} {K : PySem.W.Frag} {mg : Str → Option Value} {base : Heap} {c : Cc}
theorem scTellAt : FnScope ["self", "at", "ahead", "piece"] ["self", "at"] (defScope sTellAt) := ⟨rfl, rfl, rfl, by decide +kernel, rfl, by decide +kernel, by decide +kernel⟩
theorem ok_tellAt {f f1 : Addr} {fd fd1 : FuncData} (F : Fun K "tell_at" "Session.tell_at" sTellAt f fd) (T : Cs K c.S) (TX : Txt K mg) (TP : Cp K c.P)
    (D1 : Dm K c.P "told" "Piece.told" sTold ["self"] f1 fd1) : FnOk P w K mg base CX0 2 f fd ["self", "at"] (spTellAt c) := by
  have G1 : FnOk P w K mg base CX0 1 f1 fd1 ["self"] (spTold c.P) := ok_told D1.F TP
  refine F.ok scTellAt (fun vs H Q E h => ?_) (fun cdv A outer s H vs Q E hr h => ?_)
  · obtain ⟨N, s, i, h, rfl, _⟩ := h; rfl
  · obtain ⟨N, s, i, h, rfl, ⟨G, dx, ar, aw, ap, rs, qs, xs, S⟩, k⟩ := h
    have nd := scTellAt.nd
    have big : (20000 : Nat) ≤ sizeLine := by decide
    refine ⟨_, (L2.pss_cons (L2.ps_if (L2.pt_cmpR op_ge (pv 1) (L2.pe_callB L2.call_len_seq (by rfl) TX.len PySem.boot_len (L2.pa_cons (pe_fld (pv 0) rfl) L2.pa_nil)) (L2.nomark _)) (L2.pss_one (ps_ret (pe_lst (L2.pa_cons (pe_un un_neg pe_int) L2.pa_nil)))) L2.pss_nil)
      (L2.pss_cons (L2.ps_set (i := 2) nd rfl (Or.inl rfl) pe_int)
      (L2.pss_cons (ps_while PassesOwn.never ((L2.pt_cmpR op_le (pe_op op_add (pe_fld ((L2.pe_ix L2.ix_list (pe_fld (pv 0) rfl) (pv 2) (fun _ _ => rfl))) rfl) (pe_fld ((L2.pe_ix L2.ix_list (pe_fld (pv 0) rfl) (pv 2) (fun _ _ => rfl))) rfl)) (pv 1) (L2.nomark _))) (L2.pss_one (ps_aug (i := 2) nd rfl (Or.inl rfl) pe_int ip_add)))
      (L2.pss_cons (L2.ps_set (i := 3) nd rfl (Or.inl rfl) (L2.pe_ix L2.ix_list (pe_fld (pv 0) rfl) (pv 2) (fun _ _ => rfl)))
      (L2.pss_one (ps_ret (pe_op op_cat (pe_op op_cat (pe_lst (L2.pa_cons (pv 2) L2.pa_nil)) ((L2.pe_meth0 (pv 3) TP.cl (Mp.Dm.m D1) G1 hr (Mp.Dm.b D1) .nil L2.pass0))) (pe_lstRev rfl (by rfl) TX.list (by rfl) TX.reversed (pe_fld (pv 3) rfl))))))))), ?_⟩
    have hstep : h.step (.at_ i) = match (pieces h.rules h.text).find? fun x => decide (x.1.i ≤ i) && decide (i < x.1.i + x.1.n) with
        | none => (h, Sq17.says (-2))
        | some x => (h, ⟨((pieces h.rules h.text).takeWhile fun y => decide (y.1.i < x.1.i)).length, Sq17.ints (x.1.numbers ++ x.2)⟩) := rfl
    have hpl := S.pi.len
    have hql := S.pl
    refine ⟨_, rfl, _, rfl, s, c.S, dx, _, _, rfl, S.o, T.cl, T.nW, sf_W, aw, _, rfl, .inl (sqL_of S.t), _, _, rfl, rfl, _, rfl, ?_⟩
    rw [ivs_len]
    by_cases hi : h.text.length ≤ i
    · rw [show decide ((h.text.length : Int) ≤ (i : Int)) = true from decide_eq_true (by omega)]
      rw [at_none S.chain hi] at hstep
      refine iteT ⟨_, rfl, by show 1 ≤ sizeLine; omega, fun p hp => ?_⟩
      exact ans_out S hstep k (.refl S.w _) p hp
    · rw [show decide ((h.text.length : Int) ≤ (i : Int)) = false from decide_eq_false (by omega)]
      obtain ⟨m, x, hx, hx1, hx2, hbef, hfind, htw⟩ := at_find _ _ _ S.chain i (Nat.zero_le _) (by omega)
      rw [hfind] at hstep
      simp only [htw] at hstep
      have hm := (List.getElem?_eq_some_iff.mp hx).1
      refine iteF ?_
      apply onward
      dsimp only [gName, tSeq, tAsg, tC]
      refine while_by (fun σ H' => ∃ n : Nat, σ = [some (.ref s), some (iv i), some (iv n), none] ∧ H = H' ∧ n ≤ m) (aheadMu m) ⟨0, rfl, rfl, Nat.zero_le _⟩ ?_ ?_
      · rintro σ H' ⟨n, rfl, rfl, hn⟩
        obtain ⟨q, hq⟩ : ∃ q, qs[n]? = some q := ⟨_, List.getElem?_eq_getElem (by omega)⟩
        obtain ⟨y, hy, dxp, am, h1, h2⟩ := S.pi.get hq
        refine ⟨_, rfl, s, c.S, dx, _, _, rfl, S.o, T.cl, T.nP, sf_P, _, rfl, ap, _, _, _, rfl, rfl, sqL_of S.p, atI_nat (by rw [List.getElem?_map, hq]; rfl), q, c.P, dxp, _, _, rfl, h1, TP.cl, TP.nP, pf_P,
          _, rfl, s, c.S, dx, _, _, rfl, S.o, T.cl, T.nP, sf_P, _, rfl, ap, _, _, _, rfl, rfl, sqL_of S.p, atI_nat (by rw [List.getElem?_map, hq]; rfl), q, c.P, dxp, _, _, rfl, h1, TP.cl, TP.nL, pf_L, _, _, rfl, rfl, _, rfl, _, _, rfl, rfl, _, rfl, ?_⟩
        dsimp only []
        rw [show decide ((y.1.i : Int) + (y.1.n : Int) ≤ (i : Int)) = decide (y.1.i + y.1.n ≤ i) from by rw [decide_eq_decide]; omega]
        by_cases hle : y.1.i + y.1.n ≤ i
        · rw [decide_eq_true hle]
          have hnm : n ≠ m := fun z => by
            subst z
            rw [hx] at hy; cases hy; omega
          refine iteT ⟨_, rfl, _, _, rfl, rfl, ⟨n + 1, rfl, rfl, by omega⟩, ?_⟩
          show m - ((n : Int) + 1).toNat < m - ((n : Int)).toNat
          omega
        · rw [decide_eq_false hle]
          have hnm : n = m := by
            by_cases z : n < m
            · exact absurd (hbef n y z hy) hle
            · omega
          subst hnm
          rw [hx] at hy; cases hy
          have hne := (S.pok x (List.mem_of_getElem? hx))
          refine iteF ⟨_, rfl, s, c.S, dx, _, _, rfl, S.o, T.cl, T.nP, sf_P, _, rfl, ap, _, _, _, rfl, rfl, sqL_of S.p, atI_nat (by rw [List.getElem?_map, hq]; rfl), ?_⟩
          dsimp only [gName]
          refine ⟨_, rfl, by show 1 ≤ sizeLine; omega, fun p1 hp1 => ?_⟩
          have s1 := Same.upd (.lst [iv n]) hp1
          have e1 : upd H p1 (.lst [iv n]) p1 = some (.lst [iv n]) := upd_same
          generalize upd H p1 (.lst [iv n]) = H1 at *
          refine ⟨_, rfl, q, dxp, _, rfl, s1 _ _ h1, pf_told, ?_⟩
          refine ⟨q, x, rfl, ⟨dxp, am, s1 _ _ h1, s1 _ _ h2⟩, hne.1, fun p2 hp2 => ?_⟩
          have s2 := Same.upd (.lst (ivs (told5 x))) hp2
          have e2 : upd H1 p2 (.lst (ivs (told5 x))) p2 = some (.lst (ivs (told5 x))) := upd_same
          generalize upd H1 p2 (.lst (ivs (told5 x))) = H2 at *
          have l5 : (told5 x).length = 5 := rfl
          refine ⟨p1, p2, _, _, rfl, rfl, s2 _ _ e1, e2, by rw [ivs_len, l5]; show 1 + 5 ≤ sizeLine; omega, fun p3 hp3 => ?_⟩
          have s3 := Same.upd (.lst ([iv n] ++ ivs (told5 x))) hp3
          have e3 : upd H2 p3 (.lst ([iv n] ++ ivs (told5 x))) p3 = some (.lst ([iv n] ++ ivs (told5 x))) := upd_same
          generalize upd H2 p3 (.lst ([iv n] ++ ivs (told5 x))) = H3 at *
          have s13 := (s1.trans s2).trans s3
          refine ⟨_, rfl, q, c.P, dxp, _, _, rfl, s13 _ _ h1, TP.cl, TP.nM, pf_M, am, _, rfl, SqT.of (s13 _ _ h2), fun p4 hp4 => ?_⟩
          rw [mt_rev]
          have s4 := Same.upd (.lst (ivs x.2)) hp4
          refine ⟨p3, p4, _, _, rfl, rfl, s4 _ _ e3, upd_same, ?_, fun p5 hp5 => ?_⟩
          · rw [List.length_append, ivs_len, ivs_len, l5]
            have := hne.2.2
            show 1 + 5 + x.2.length ≤ sizeLine; omega
          · have s5 := (s13.trans s4).trans (Same.upd (.lst ([iv n] ++ ivs (told5 x) ++ ivs x.2)) hp5)
            have g5 : Go G [] H _ := .of S.w s5
            refine k _ p5 (by rw [hstep]; exact ⟨G, dx, ar, aw, ap, rs, qs, xs, S.go g5⟩) (S.keeps g5) ((s13.trans s4).free hp5) ?_
            rw [hstep, upd_same]
            show some (HO.lst _) = some (HO.lst (V.int _ :: (Sq17.ints _).map V.int))
            rw [ints_iv, List.append_assoc, ivs_app, told_numbers hne.2.1]; rfl
      · rintro σ H Q1 Q2 mm ⟨v1, e1, a1, a2, a3, a4, a5, e2, e3, e4, e5, e6, v2, e7, b1, b2, b3, b4, e8, e9, sq1, at1, c1, c2, c3, c4, c5, e10, e11, e12, e13, e14,
          v3, e15, a6, a7, a8, a9, a10, e16, e17, e18, e19, e20, v4, e21, b5, b6, b7, b8, e22, e23, sq2, at2, c6, c7, c8, c9, c10, e24, e25, e26, e27, e28, i1, j1, e29, e30, v5, e31, i2, j2, e32, e33, kk, e34, q⟩
        exact ⟨v1, e1, a1, a2, a3, a4, a5, e2, e3, e4, e5, e6, v2, e7, b1, b2, b3, b4, e8, e9, sq1, at1, c1, c2, c3, c4, c5, e10, e11, e12, e13, e14,
          v3, e15, a6, a7, a8, a9, a10, e16, e17, e18, e19, e20, v4, e21, b5, b6, b7, b8, e22, e23, sq2, at2, c6, c7, c8, c9, c10, e24, e25, e26, e27, e28, i1, j1, e29, e30, v5, e31, i2, j2, e32, e33, kk, e34, mm _ _ q⟩
end
end Mp

-- MpSess5
set_option maxRecDepth 100000
set_option maxHeartbeats 8000000
set_option exponentiation.threshold 3000
/-! A house tells of the longest match; it writes its words tight. -/
namespace Mp
open PySem PySem.Spec PyProof.Rows L2
open Sq17 (Piece Word House pieces cut look longer)
open Mx (okR MOk Chain)

theorem longest_says {x : Sq17.Rule × Mx.Mat} (h : RuleOk x) (l : List Nat) :
    (if x.1.pat.dead = true then Sq17.says (-3) else match (look l 0 (longer [(0, [x.1.pat])]) none).2 with
      | some y => Sq17.says (y.2 : Nat)
      | none => if x.1.pat.bare = true then Sq17.says 0 else Sq17.says (-3)) =
    if (x.2.scan l x.2.first 0 0).1 = 0 ∧ x.2.bare = false then Sq17.says (-3) else Sq17.says ((x.2.scan l x.2.first 0 0).1 : Nat) := by
  have hl := Mx.longest_eq h.r l
  have hg : Mx.good x.1.pat := h.r.g x.1.pat (by simp)
  rw [h.b]
  by_cases hd : x.1.pat.dead = true
  · rw [if_pos hd]
    have nb : x.1.pat.bare = false := by
      cases hb : x.1.pat.bare with
      | false => rfl
      | true => exact absurd (Mx.bare_iff.mp hb) (Mx.dead_none hg hd)
    have nl : x.1.pat.long = false := by
      cases hb : x.1.pat.long with
      | false => rfl
      | true =>
        obtain ⟨s, _, hs⟩ := (Mx.long_iff hg).mp hb
        exact absurd hs (Mx.dead_none hg hd)
    have e : longer [(0, [x.1.pat])] = [] := by simp [longer, nl]
    rw [e] at hl
    have e2 : (look l 0 [] none).2 = none := by cases l <;> simp [look]
    rw [e2] at hl
    have h0 : (x.2.scan l x.2.first 0 0).1 = 0 := by
      by_cases z : (x.2.scan l x.2.first 0 0).1 = 0
      · exact z
      · rw [if_neg z] at hl; cases hl
    rw [if_pos ⟨h0, nb⟩]
  · rw [if_neg hd, hl]
    by_cases z : (x.2.scan l x.2.first 0 0).1 = 0
    · rw [if_pos z]
      cases hb : x.1.pat.bare with
      | true => simp [z]
      | false => simp [z]
    · rw [if_neg z]; simp [z]
section
variable {P : Program} {w : World} {K : PySem.W.Frag} {mg : Str → Option Value} {base : Heap} {c : Cc}
theorem scTellLongest : FnScope ["self", "number", "row", "matcher", "longest", "looked"] ["self", "number", "row"] (defScope sTellLongest) := ⟨rfl, rfl, rfl, by decide +kernel, rfl, by decide +kernel, by decide +kernel⟩
theorem ok_tellLongest {f f1 f2 f3 : Addr} {fd fd1 fd2 fd3 : FuncData} (F : Fun K "tell_longest" "Session.tell_longest" sTellLongest f fd) (T : Cs K c.S) (TX : Txt K mg) (TS : Txs mg) (TR : Cr K c.R) (TM : Cm K c.M)
    (D1 : Dm K c.M "scan" "Matcher.scan" sScan ["self", "fitting", "place"] f1 fd1) (G1 : FnOk P w K mg base CX0 4 f1 fd1 ["self", "fitting", "place"] (spScan K c.M c.L)) (D2 : Df K mg "may_be_text" sMayBe ["row"] f2 fd2)
    (D3 : Dm K c.M "fitting" "Matcher.fitting" sFitting ["self", "row"] f3 fd3) : FnOk P w K mg base CX0 5 f fd ["self", "number", "row"] (spTellLongest K c) := by
  have G2 : FnOk P w K mg base CX0 1 f2 fd2 ["row"] (spMayBe K) := ok_mayBe D2.F TX TS
  have G3 : FnOk P w K mg base CX0 1 f3 fd3 ["self", "row"] (spFitting K c.M c.L) := ok_fitting D3.F TM
  refine F.ok scTellLongest (fun vs H Q E h => ?_) (fun cdv A outer s H vs Q E hr h => ?_)
  · obtain ⟨N, s, r, a, l, h, rfl, _⟩ := h; rfl
  · obtain ⟨N, s, r, a, l, h, rfl, ⟨G, dx, ar, aw, ap, rs, qs, xs, S⟩, la, k⟩ := h
    have nd := scTellLongest.nd
    have hr1 : Room 1 _ := hr.mono (by decide)
    have s1 : (1 : Nat) ≤ sizeLine := by decide
    refine ⟨_, (L2.pss_cons (L2.ps_if (pt_not (pt_val ((L2.pe_call G2 hr1 (by rfl) (Mp.Df.g D2) (Mp.Df.F D2).kp (Mp.Df.b D2) .nil L2.pass0 (L2.pa_cons (pv 2) L2.pa_nil))))) (L2.pss_one (ps_ret (pe_lst (L2.pa_cons (pe_un un_neg pe_int) L2.pa_nil)))) L2.pss_nil)
      (L2.pss_cons (L2.ps_if (L2.pt_cmpR op_ge (pv 1) (L2.pe_callB L2.call_len_seq (by rfl) TX.len PySem.boot_len (L2.pa_cons (pe_fld (pv 0) rfl) L2.pa_nil)) (L2.nomark _)) (L2.pss_one (ps_ret (pe_lst (L2.pa_cons (pe_un un_neg pe_int) L2.pa_nil)))) L2.pss_nil)
      (L2.pss_cons (L2.ps_set (i := 3) nd rfl (Or.inl rfl) (pe_fld ((L2.pe_ix L2.ix_list (pe_fld (pv 0) rfl) (pv 1) (fun _ _ => rfl))) rfl))
      (L2.pss_cons (ps_asg ((L2.pe_meth (pv 3) TM.cl (Mp.Dm.m D1) G1 hr (Mp.Dm.b D1) .nil L2.pass0 (L2.pa_cons (L2.pe_meth (pv 3) TM.cl (Mp.Dm.m D3) G3 hr1 (Mp.Dm.b D3) .nil L2.pass0 (L2.pa_cons (pv 2) L2.pa_nil)) (L2.pa_cons pe_int L2.pa_nil)))) (pg_tup rfl (pgs_cons (pg_name (i := 4) nd rfl (Or.inl rfl)) (pgs_cons (pg_name (i := 5) nd rfl (Or.inl rfl)) pgs_nil))))
      (L2.pss_cons (L2.ps_if (PW.pt (pw_and ((L2.pt_cmpR op_eq (pv 4) pe_int (L2.nomark _))) (pw_and1 (pt_not (pt_val (pe_fld (pv 3) rfl)))))) (L2.pss_one (ps_ret (pe_lst (L2.pa_cons (pe_un un_neg pe_int) L2.pa_nil)))) L2.pss_nil)
      (L2.pss_one (ps_ret (pe_lst (L2.pa_cons (pv 4) L2.pa_nil))))))))), ?_⟩
    have hstep : h.step (.longest r l) = if Sq17.right l = false then (h, Sq17.says (-1)) else match h.rules[r]? with
        | none => (h, Sq17.says (-2))
        | some x => if x.pat.dead = true then (h, Sq17.says (-3)) else match (look l 0 (longer [(0, [x.pat])]) none).2 with
          | some y => (h, Sq17.says (y.2 : Nat))
          | none => if x.pat.bare = true then (h, Sq17.says 0) else (h, Sq17.says (-3)) := rfl
    refine ⟨_, rfl, a, l, rfl, la, _, rfl, ?_⟩
    cases hrt : Sq17.right l with
    | false =>
      rw [if_pos hrt] at hstep
      exact iteT ⟨_, rfl, s1, fun p hp => ans_out S hstep k (.refl S.w _) p hp⟩
    | true =>
      rw [if_neg (by rw [hrt]; simp)] at hstep
      have hr2 := right_iff.mp hrt
      have hln := S.ri.len
      have hrl : h.rules.length = rs.length := by rw [← S.re, List.length_map, hln]
      refine iteF ⟨_, rfl, _, rfl, s, c.S, dx, _, _, rfl, S.o, T.cl, T.nR, sf_R, ar, _, rfl, .inl (sqL_of S.r), _, _, rfl, rfl, _, rfl, ?_⟩
      rw [List.length_map]
      by_cases hlt : rs.length ≤ r
      · rw [show decide ((rs.length : Int) ≤ (r : Int)) = true from decide_eq_true (by omega)]
        rw [List.getElem?_eq_none (by omega)] at hstep
        exact iteT ⟨_, rfl, s1, fun p hp => ans_out S hstep k (.refl S.w _) p hp⟩
      · rw [show decide ((rs.length : Int) ≤ (r : Int)) = false from decide_eq_false (by omega)]
        obtain ⟨ra, hra⟩ : ∃ ra, rs[r]? = some ra := ⟨_, List.getElem?_eq_getElem (by omega)⟩
        obtain ⟨x, hx, rdx, m, h1, h2⟩ := S.ri.get hra
        have hxo := S.ro x (List.mem_of_getElem? hx)
        have ex : h.rules[r]? = some x.1 := by rw [← S.re, List.getElem?_map, hx]; rfl
        rw [ex] at hstep
        have hsay := longest_says hxo l
        obtain ⟨mdx, xb, xa, ly, mo, _⟩ := id h2
        refine iteF ⟨_, rfl, s, c.S, dx, _, _, rfl, S.o, T.cl, T.nR, sf_R, _, rfl, ar, _, _, _, rfl, rfl, sqL_of S.r, atI_nat (by rw [List.getElem?_map, hra]; rfl), ra, c.R, rdx, _, _, rfl, h1, TR.cl, TR.nX, rf_X, ?_⟩
        dsimp only [gName]
        refine ⟨_, rfl, m, mdx, _, rfl, mo, mf_r (fl_no (by decide +kernel) (by decide +kernel) (by decide +kernel)), _, rfl, m, mdx, _, rfl, mo, mf_r (fl_no (by decide +kernel) (by decide +kernel) (by decide +kernel)), _, rfl, ?_⟩
        refine ⟨G, m, a, l, x.2, rfl, h2, hxo.m.byb, la, by omega, hr2.2, fun H1 p s1' np hp => ?_⟩
        have g1 : Go G [] H H1 := .of S.w s1'
        refine ⟨G, m, p, 0, x.2.fits l, x.2, rfl, g1.w', h2.go g1, hxo.m.len, sqL_of hp, fits_lt hxo.m l, Nat.zero_le _, fun H2 p2 g2 np2 hp2 => ?_⟩
        rw [List.drop_zero, Mx.scanF_fits] at hp2
        have g12 := g1.trans g2
        have mo2 := g12.at0 mo
        generalize (x.2.scan l x.2.first 0 0).1 = lg at *
        refine ⟨p2, _, rfl, .inl (.inl hp2), rfl, _, _, rfl, _, _, rfl, rfl, ?_⟩
        dsimp only [gName]
        apply if_ev (decide (lg = 0 ∧ x.2.bare = false)) H2
        · intro Q' q
          refine ⟨_, rfl, rfl, _, rfl, ?_⟩
          rw [show decide (V.int (lg : Int) = V.int 0) = decide (lg = 0) from dec_iv lg 0]
          by_cases h0 : lg = 0
          · rw [decide_eq_true h0]
            refine iteT ⟨_, rfl, m, c.M, mdx, _, _, rfl, mo2, TM.cl, TM.nE, mf_r fl_E, x.2.bare, rfl, ?_⟩
            have : decide (lg = 0 ∧ x.2.bare = false) = !x.2.bare := by
              cases x.2.bare <;> simp [h0]
            rw [this] at q; exact q
          · rw [decide_eq_false h0]
            rw [decide_eq_false (fun z => h0 z.1)] at q
            exact iteF q
        have hst2 : h.step (.longest r l) = (h, if lg = 0 ∧ x.2.bare = false then Sq17.says (-3) else Sq17.says (lg : Nat)) := by
          rw [hstep, ← hsay]
          simp only []
          split
          · rfl
          · split
            · rfl
            · split <;> rfl
        by_cases hc : lg = 0 ∧ x.2.bare = false
        · rw [decide_eq_true hc]
          rw [if_pos hc] at hst2
          exact iteT ⟨_, rfl, s1, fun p hp => ans_out S hst2 k g12 p hp⟩
        · rw [decide_eq_false hc]
          rw [if_neg hc] at hst2
          exact iteF ⟨_, rfl, s1, fun p hp => ans_out S hst2 k g12 p hp⟩

def spWriteTight (c : Cc) : Sp := fun vs H Q _ => ∃ (N : Addr → Prop) (s a : Nat) (l : List Nat) (h : House), vs = [.ref s, .ref a] ∧ SessIn N c H s h ∧ H a = some (.lst (ivs l)) ∧ Ans N c H s h (.tight l) Q
theorem words_ok {h : House} (hr : Sq17.right h.text = true) : ∀ x ∈ Sq17.words h.rules h.text, WordOk x := fun x hx => by
  unfold Sq17.words at hx
  obtain ⟨y, _, rfl⟩ := List.mem_map.mp hx
  have h2 := right_iff.mp hr
  unfold WordOk Sq17.bytesOf
  refine ⟨?_, fun b hb => h2.2 b (List.mem_of_mem_drop (List.mem_of_mem_take hb))⟩
  simp only []
  rw [List.length_take, List.length_drop]; omega
theorem scWriteTight : FnScope ["self", "separator", "words", "places"] ["self", "separator"] (defScope sWriteTight) := ⟨rfl, rfl, rfl, by decide +kernel, rfl, by decide +kernel, by decide +kernel⟩
theorem ok_writeTight {f f1 f2 f3 f4 f5 : Addr} {fd fd1 fd2 fd3 fd4 fd5 : FuncData} (F : Fun K "write_tight" "Session.write_tight" sWriteTight f fd) (T : Cs K c.S) (TX : Txt K mg) (TS : Txs mg) (TC : Txc mg) (TP : Cp K c.P)
    (D1 : Df K mg "best_places" sBestPlaces ["rules", "words", "separator"] f1 fd1) (G1 : FnOk P w K mg base CX0 10 f1 fd1 ["rules", "words", "separator"] (spPlaces c.R c.M c.L)) (D2 : Df K mg "may_be_text" sMayBe ["row"] f2 fd2) (D3 : Df K mg "count_odd" sCountOdd ["pieces"] f3 fd3)
    (D4 : Df K mg "words_in" sWordsIn ["pieces", "row"] f4 fd4) (G4 : FnOk P w K mg base CX0 2 f4 fd4 ["pieces", "row"] (spWordsIn K c.P)) (D5 : Df K mg "write" sWrite ["words", "places", "separator"] f5 fd5) : FnOk P w K mg base CX0 11 f fd ["self", "separator"] (spWriteTight c) := by
  obtain ⟨t9, m9⟩ := TS.MOST_WORDS
  have G2 : FnOk P w K mg base CX0 1 f2 fd2 ["row"] (spMayBe K) := ok_mayBe D2.F TX TS
  have G3 : FnOk P w K mg base CX0 1 f3 fd3 ["pieces"] (spCountOdd K c.P) := ok_countOdd D3.F TP TX TC
  have G5 : FnOk P w K mg base CX0 1 f5 fd5 ["words", "places", "separator"] (spWrite K) := ok_write D5.F TX
  refine F.ok scWriteTight (fun vs H Q E h => ?_) (fun cdv A outer s H vs Q E hr h => ?_)
  · obtain ⟨N, s, a, l, h, rfl, _⟩ := h; rfl
  · obtain ⟨N, s, a, l, h, rfl, ⟨G, dx, ar, aw, ap, rs, qs, xs, S⟩, ha, k⟩ := h
    have nd := scWriteTight.nd
    have hr1 : Room 1 _ := hr.mono (by decide)
    have hr2' : Room 2 _ := hr.mono (by decide)
    have s1 : (1 : Nat) ≤ sizeLine := by decide
    have big : (20000 : Nat) ≤ sizeLine := by decide
    refine ⟨_, (L2.pss_cons (L2.ps_if (pt_not (pt_val ((L2.pe_call G2 hr1 (by rfl) (Mp.Df.g D2) (Mp.Df.F D2).kp (Mp.Df.b D2) .nil L2.pass0 (L2.pa_cons (pv 1) L2.pa_nil))))) (L2.pss_one (ps_ret (pe_lst (L2.pa_cons (pe_un un_neg pe_int) L2.pa_nil)))) L2.pss_nil)
      (L2.pss_cons (L2.ps_if (L2.pt_cmpR op_gt (L2.pe_call G3 hr1 (by rfl) (Mp.Df.g D3) (Mp.Df.F D3).kp (Mp.Df.b D3) .nil L2.pass0 (L2.pa_cons (pe_fld (pv 0) rfl) L2.pa_nil)) pe_int (L2.nomark _)) (L2.pss_one (ps_ret (pe_lst (L2.pa_cons (pe_un un_neg pe_int) L2.pa_nil)))) L2.pss_nil)
      (L2.pss_cons (L2.ps_set (i := 2) nd rfl (Or.inl rfl) (L2.pe_call G4 hr2' (by rfl) (Mp.Df.g D4) (Mp.Df.F D4).kp (Mp.Df.b D4) .nil L2.pass0 (L2.pa_cons (pe_fld (pv 0) rfl) (L2.pa_cons (pe_fld (pv 0) rfl) L2.pa_nil))))
      (L2.pss_cons (L2.ps_if (L2.pt_cmpR op_gt (L2.pe_callB L2.call_len_seq (by rfl) TX.len PySem.boot_len (L2.pa_cons (pv 2) L2.pa_nil)) (pgc m9) (L2.nomark _)) (L2.pss_one (ps_ret (pe_lst (L2.pa_cons (pe_un un_neg pe_int) L2.pa_nil)))) L2.pss_nil)
      (L2.pss_cons (L2.ps_set (i := 3) nd rfl (Or.inl rfl) (L2.pe_call G1 hr (by rfl) (Mp.Df.g D1) (Mp.Df.F D1).kp (Mp.Df.b D1) .nil L2.pass0 (L2.pa_cons (pe_fld (pv 0) rfl) (L2.pa_cons (pv 2) (L2.pa_cons (pv 1) L2.pa_nil)))))
      (L2.pss_cons (L2.ps_if (pt_cmpR op_isN (pv 3) pe_non (nomark _)) (L2.pss_one (ps_ret (pe_lst (L2.pa_cons (pe_un un_neg pe_int) L2.pa_nil)))) L2.pss_nil)
      (L2.pss_one (ps_ret (pe_op op_cat (pe_lst (L2.pa_cons (L2.pe_callB L2.call_len_seq (by rfl) TX.len PySem.boot_len (L2.pa_cons (pv 3) L2.pa_nil)) L2.pa_nil)) ((L2.pe_call G5 hr1 (by rfl) (Mp.Df.g D5) (Mp.Df.F D5).kp (Mp.Df.b D5) .nil L2.pass0 (L2.pa_cons (pv 2) (L2.pa_cons (pv 3) (L2.pa_cons (pv 1) L2.pa_nil)))))))))))))), ?_⟩
    have hstep : h.step (.tight l) = if Sq17.right l = false then (h, Sq17.says (-1)) else if h.odd ≠ 0 then (h, Sq17.says (-3)) else if 9 < (Sq17.words h.rules h.text).length then (h, Sq17.says (-5)) else match Sq17.tight h.rules l (Sq17.words h.rules h.text) with
        | none => (h, Sq17.says (-2))
        | some c => (h, ⟨c.length, Sq17.ints (Sq17.written l c (Sq17.words h.rules h.text))⟩) := rfl
    have hql := S.pl
    refine ⟨_, rfl, a, l, rfl, sqL_of ha, _, rfl, ?_⟩
    cases hrt : Sq17.right l with
    | false =>
      rw [if_pos hrt] at hstep
      exact iteT ⟨_, rfl, s1, fun p hp => ans_out S hstep k (.refl S.w _) p hp⟩
    | true =>
      rw [if_neg (by rw [hrt]; simp)] at hstep
      have hr2 := right_iff.mp hrt
      refine iteF ⟨_, rfl, s, c.S, dx, _, _, rfl, S.o, T.cl, T.nP, sf_P, ?_⟩
      refine ⟨ap, qs, _, rfl, sqL_of S.p, S.pi, by omega, fun H1 sm1 => ⟨_, _, rfl, rfl, _, rfl, ?_⟩⟩
      have g1 : Go G [] H H1 := .of S.w sm1
      have eodd : ((pieces h.rules h.text).filter fun x => x.1.kind == 65).length = h.odd := rfl
      rw [eodd]
      by_cases ho : h.odd = 0
      · rw [show decide ((0 : Int) < (h.odd : Int)) = false from decide_eq_false (by omega)]
        rw [if_neg (by simp [ho])] at hstep
        have S1 := S.go g1
        refine iteF ⟨_, rfl, s, c.S, dx, _, _, rfl, S1.o, T.cl, T.nP, sf_P, _, rfl, s, c.S, dx, _, _, rfl, S1.o, T.cl, T.nW, sf_W, ?_⟩
        refine ⟨ap, aw, qs, pieces h.rules h.text, h.text, rfl, sqL_of S1.p, S1.pi, fun x hx => (S.pok x hx).1, by omega, sqL_of S1.t, fun H2 p ws sm2 np hp hws => ?_⟩
        rw [words_eq S] at hws
        have hwo := words_ok (h := h) S.tr
        have hwl := hws.len
        have hw2 : (Sq17.words h.rules h.text).length ≤ 200 := by
          have hpl := S.pi.len
          rw [← words_eq S, List.length_map]
          exact Nat.le_trans (List.length_filter_le _ _) (by omega)
        generalize Sq17.words h.rules h.text = W at *
        have g2 : Go G [] H H2 := g1.trans (.of g1.w' sm2)
        dsimp only [gName]
        refine ⟨_, rfl, p, _, rfl, .inl (sqL_of hp), _, _, rfl, rfl, _, rfl, ?_⟩
        rw [List.length_map, hwl]
        by_cases h9 : 9 < W.length
        · rw [show decide ((9 : Int) < (W.length : Int)) = true from decide_eq_true (by omega)]
          rw [if_pos h9] at hstep
          exact iteT ⟨_, rfl, s1, fun p hp => ans_out S hstep k g2 p hp⟩
        · rw [show decide ((9 : Int) < (W.length : Int)) = false from decide_eq_false (by omega)]
          rw [if_neg h9] at hstep
          have S2 := S.go g2
          refine iteF ⟨_, rfl, s, c.S, dx, _, _, rfl, S2.o, T.cl, T.nR, sf_R, _, rfl, _, rfl, ?_⟩
          refine ⟨G, ar, p, a, rs, ws, xs, W, l, rfl, S2.w, S2.r, S2.ri, S2.ro, by have := S.rl; omega, hp, hws, hwo, by omega, g2.at0 ha, hr2, fun H3 g3 ht => ?_, fun H3 p3 cc g3 ht hcl hp3 => ?_⟩
          · rw [S.re] at ht
            rw [ht] at hstep
            exact ⟨_, rfl, rfl, _, rfl, iteT ⟨_, rfl, s1, fun p hp => ans_out S hstep k (g2.trans g3) p hp⟩⟩
          · rw [S.re] at ht
            rw [ht] at hstep
            have g23 := g2.trans g3
            refine ⟨_, rfl, rfl, _, rfl, iteF ?_⟩
            refine ⟨_, rfl, p3, _, rfl, .inr (SqT.of hp3), s1, fun p4 hp4 => ?_⟩
            rw [ivs_len]
            have s4 := Same.upd (.lst [V.int ((cc.length : Nat) : Int)]) hp4
            have e4 : upd H3 p4 (.lst [V.int ((cc.length : Nat) : Int)]) p4 = some (.lst [V.int ((cc.length : Nat) : Int)]) := upd_same
            generalize upd H3 p4 (.lst [V.int ((cc.length : Nat) : Int)]) = H4 at *
            have g4 : Go G [] H H4 := g23.trans (.of g23.w' s4)
            have g34 : Go G [] H2 H4 := g3.trans (.of g3.w' s4)
            refine ⟨_, rfl, _, rfl, _, rfl, ?_⟩
            refine ⟨p, p3, a, ws, W, cc, l, rfl, sqL_of (g34.at0 hp), hws.mono fun b o e ho => g34.at0 e (by
              intro y z; subst z; rcases ho with ⟨_, z⟩ | ⟨_, z⟩ <;> cases z), hwo, by omega, SqT.of (s4 _ _ hp3), g4.at0 ha, hr2.1, fun H5 p5 s5 np5 hp5 => ?_⟩
            have hwl2 := wrt_len (c := cc) hr2.1 W 0 hwo
            rw [← Mx.written_wrt] at hwl2
            refine ⟨p4, p5, _, _, rfl, rfl, s5 _ _ e4, hp5, ?_, fun p6 hp6 => ?_⟩
            · rw [ivs_len]; show 1 + _ ≤ sizeLine; omega
            · have s6 := s5.trans (Same.upd (.lst ([V.int ((cc.length : Nat) : Int)] ++ ivs (Sq17.written l cc W))) hp6)
              have g6 : Go G [] H _ := g4.trans (.of g4.w' s6)
              refine k _ p6 (by rw [hstep]; exact ⟨G, dx, ar, aw, ap, rs, qs, xs, S.go g6⟩) (S.keeps g6) (g4.free (s5.free hp6)) ?_
              rw [hstep, upd_same]
              show some (HO.lst _) = some (HO.lst (V.int _ :: (Sq17.ints _).map V.int))
              rw [ints_iv]; rfl
      · rw [show decide ((0 : Int) < (h.odd : Int)) = true from decide_eq_true (by omega)]
        rw [if_pos ho] at hstep
        exact iteT ⟨_, rfl, s1, fun p hp => ans_out S hstep k g1 p hp⟩
end
end Mp

-- MpSess6
set_option maxRecDepth 100000
set_option maxHeartbeats 8000000
set_option exponentiation.threshold 3000
/-! A house's text is changed. -/
namespace Mp
open PySem PySem.Spec PyProof.Rows L2
open Sq17 (Piece Word House pieces cut look longer sameAhead sameBehind)
open Mx (okR MOk Chain)

def spEdit (c : Cc) : Sp := fun vs H Q _ => ∃ (N : Addr → Prop) (s i n a : Nat) (l : List Nat) (h : House), vs = [.ref s, iv i, iv n, .ref a] ∧ SessIn N c H s h ∧ H a = some (.lst (ivs l)) ∧ l.length ≤ 2000 ∧ Ans N c H s h (.edit i n l) Q
/-- old pieces stand when a session is written on -/
theorem PiecesIn.sess {C CS : Addr} {G : Gh} {s : Addr} {H H' : Hp} {qs : List Addr} {xs : List (Piece × List Nat)} (g : Go G [s] H H') (hs : ∃ dx m ar aw ap, H s = some (.ins CS dx (sf m ar aw ap))) (h : PiecesIn C H qs xs) : PiecesIn C H' qs xs := by
  refine h.monoK fun q o e ho => ?_
  obtain ⟨dx, m, ar, aw, ap, hs⟩ := hs
  refine g.k q o e (g.w.no e (by intro y z; subst z; rcases ho with ⟨_, _, _, _, z⟩ | ⟨_, z⟩ <;> cases z)) (fun z => ?_)
  simp at z; subst z
  rw [hs] at e
  have e := Option.some.inj e
  rcases ho with ⟨_, _, _, _, z⟩ | ⟨_, z⟩
  · rw [z] at e
    injection e with _ _ e
    unfold sf at e
    injection e with e _
    injection e with e _
    exact absurd e (by decide +kernel)
  · rw [z] at e; cases e
theorem min_iv' (a b : Nat) : (if (b : Int) < (a : Int) then (b : Int) else (a : Int)) = ((min a b : Nat) : Int) := by split <;> omega
section
variable {P : Program} {w : World} {K : PySem.W.Frag} {mg : Str → Option Value} {base : Heap} {c : Cc}
theorem scEdit : FnScope ["self", "at", "taken", "row", "changed", "old", "new", "ahead", "most", "behind"] ["self", "at", "taken", "row"] (defScope sEdit) := ⟨rfl, rfl, rfl, by decide +kernel, rfl, by decide +kernel, by decide +kernel⟩
theorem ok_edit {f f1 f2 f3 f4 f5 f6 : Addr} {fd fd1 fd2 fd3 fd4 fd5 fd6 : FuncData} (F : Fun K "edit" "Session.edit" sEdit f fd) (T : Cs K c.S) (TX : Txt K mg) (TS : Txs mg) (TC : Txc mg) (TP : Cp K c.P)
    (D1 : Dm K c.S "put_text" "Session.put_text" sPutText ["self", "row"] f1 fd1) (G1 : FnOk P w K mg base CX0 8 f1 fd1 ["self", "row"] (spPutText c)) (D2 : Df K mg "may_be_text" sMayBe ["row"] f2 fd2) (D3 : Df K mg "count_odd" sCountOdd ["pieces"] f3 fd3)
    (D4 : Df K mg "count_same_ahead" sAhead ["old", "new"] f4 fd4) (D5 : Df K mg "count_same_behind" sBehind ["old", "new", "most"] f5 fd5) (D6 : Df K mg "same_piece" sSame ["old", "new"] f6 fd6) : FnOk P w K mg base CX0 9 f fd ["self", "at", "taken", "row"] (spEdit c) := by
  have G2 : FnOk P w K mg base CX0 1 f2 fd2 ["row"] (spMayBe K) := ok_mayBe D2.F TX TS
  have G3 : FnOk P w K mg base CX0 1 f3 fd3 ["pieces"] (spCountOdd K c.P) := ok_countOdd D3.F TP TX TC
  have G4 : FnOk P w K mg base CX0 2 f4 fd4 ["old", "new"] (spAhead K c.P) := ok_ahead D4.F TP TX D6
  have G5 : FnOk P w K mg base CX0 2 f5 fd5 ["old", "new", "most"] (spBehind K c.P) := ok_behind D5.F TP D6
  refine F.ok scEdit (fun vs H Q E h => ?_) (fun cdv A outer s H vs Q E hr h => ?_)
  · obtain ⟨N, s, i, n, a, l, h, rfl, _⟩ := h; rfl
  · obtain ⟨N, s, i, n, a, l, h, rfl, ⟨G, dx, ar, aw, ap, rs, qs, xs, S⟩, ha, hll, k⟩ := h
    have nd := scEdit.nd
    have hr1 : Room 1 _ := hr.mono (by decide)
    have hr2' : Room 2 _ := hr.mono (by decide)
    have s1 : (1 : Nat) ≤ sizeLine := by decide
    have big : (20000 : Nat) ≤ sizeLine := by decide
    refine ⟨_, (L2.pss_cons (L2.ps_if (L2.pt_cmpR op_gt (pe_op op_add (pv 1) (pv 2)) (L2.pe_callB L2.call_len_seq (by rfl) TX.len PySem.boot_len (L2.pa_cons (pe_fld (pv 0) rfl) L2.pa_nil)) (L2.nomark _)) (L2.pss_one (ps_ret (pe_lst (L2.pa_cons (pe_un un_neg pe_int) L2.pa_nil)))) L2.pss_nil)
      (L2.pss_cons (L2.ps_set (i := 4) nd rfl (Or.inl rfl) (pe_op op_cat (pe_op op_cat (pe_slice sl_list (pe_fld (pv 0) rfl) po_none (po_some (pv 1))) (pv 3)) (pe_slice sl_list (pe_fld (pv 0) rfl) (po_some (pe_op op_add (pv 1) (pv 2))) po_none)))
      (L2.pss_cons (L2.ps_if (pt_not (pt_val ((L2.pe_call G2 hr1 (by rfl) (Mp.Df.g D2) (Mp.Df.F D2).kp (Mp.Df.b D2) .nil L2.pass0 (L2.pa_cons (pv 4) L2.pa_nil))))) (L2.pss_one (ps_ret (pe_lst (L2.pa_cons (pe_un un_neg pe_int) L2.pa_nil)))) L2.pss_nil)
      (L2.pss_cons (L2.ps_set (i := 5) nd rfl (Or.inl rfl) (pe_fld (pv 0) rfl))
      (L2.pss_cons (ps_expr ((L2.pe_meth (pv 0) T.cl (Mp.Dm.m D1) G1 hr (Mp.Dm.b D1) .nil L2.pass0 (L2.pa_cons (pv 4) L2.pa_nil))))
      (L2.pss_cons (L2.ps_set (i := 6) nd rfl (Or.inl rfl) (pe_fld (pv 0) rfl))
      (L2.pss_cons (L2.ps_set (i := 7) nd rfl (Or.inl rfl) (L2.pe_call G4 hr2' (by rfl) (Mp.Df.g D4) (Mp.Df.F D4).kp (Mp.Df.b D4) .nil L2.pass0 (L2.pa_cons (pv 5) (L2.pa_cons (pv 6) L2.pa_nil))))
      (L2.pss_cons (L2.ps_set (i := 8) nd rfl (Or.inl rfl) (pe_op op_sub (pe_callB (call_min2 rfl) (by rfl) TX.min (by decide +kernel) (L2.pa_cons (L2.pe_callB L2.call_len_seq (by rfl) TX.len PySem.boot_len (L2.pa_cons (pv 5) L2.pa_nil)) (L2.pa_cons (L2.pe_callB L2.call_len_seq (by rfl) TX.len PySem.boot_len (L2.pa_cons (pv 6) L2.pa_nil)) L2.pa_nil))) (pv 7)))
      (L2.pss_cons (L2.ps_set (i := 9) nd rfl (Or.inl rfl) (L2.pe_call G5 hr2' (by rfl) (Mp.Df.g D5) (Mp.Df.F D5).kp (Mp.Df.b D5) .nil L2.pass0 (L2.pa_cons (pv 5) (L2.pa_cons (pv 6) (L2.pa_cons (pv 8) L2.pa_nil)))))
      (L2.pss_one (ps_ret (pe_lst (L2.pa_cons (L2.pe_callB L2.call_len_seq (by rfl) TX.len PySem.boot_len (L2.pa_cons (pv 6) L2.pa_nil)) (L2.pa_cons (L2.pe_call G3 hr1 (by rfl) (Mp.Df.g D3) (Mp.Df.F D3).kp (Mp.Df.b D3) .nil L2.pass0 (L2.pa_cons (pv 6) L2.pa_nil)) (L2.pa_cons (pv 7) (L2.pa_cons (pv 9) L2.pa_nil)))))))))))))))), ?_⟩
    have hstep : h.step (.edit i n l) = if h.text.length < i + n ∨ Sq17.right (h.text.take i ++ (l ++ h.text.drop (i + n))) = false then (h, Sq17.says (-1)) else
        ({ h with text := h.text.take i ++ (l ++ h.text.drop (i + n)) }, ⟨(pieces h.rules (h.text.take i ++ (l ++ h.text.drop (i + n)))).length, Sq17.ints [({ h with text := h.text.take i ++ (l ++ h.text.drop (i + n)) } : House).odd, sameAhead (pieces h.rules h.text) (pieces h.rules (h.text.take i ++ (l ++ h.text.drop (i + n)))),
          min (sameBehind h.text.length (h.text.take i ++ (l ++ h.text.drop (i + n))).length (pieces h.rules h.text).reverse (pieces h.rules (h.text.take i ++ (l ++ h.text.drop (i + n)))).reverse) (min (pieces h.rules h.text).length (pieces h.rules (h.text.take i ++ (l ++ h.text.drop (i + n)))).length - sameAhead (pieces h.rules h.text) (pieces h.rules (h.text.take i ++ (l ++ h.text.drop (i + n)))))]⟩) := rfl
    have htr := right_iff.mp S.tr
    have hql := S.pl
    refine ⟨_, rfl, _, rfl, _, _, rfl, rfl, _, rfl, s, c.S, dx, _, _, rfl, S.o, T.cl, T.nW, sf_W, aw, _, rfl, .inl (sqL_of S.t), _, _, rfl, rfl, _, rfl, ?_⟩
    rw [ivs_len]
    dsimp only []
    by_cases hin : h.text.length < i + n
    · rw [show decide ((h.text.length : Int) < (i : Int) + (n : Int)) = true from decide_eq_true (by omega)]
      rw [if_pos (.inl hin)] at hstep
      exact iteT ⟨_, rfl, s1, fun p hp => ans_out S hstep k (.refl S.w _) p hp⟩
    · rw [show decide ((h.text.length : Int) < (i : Int) + (n : Int)) = false from decide_eq_false (by omega)]
      refine iteF ⟨_, rfl, s, c.S, dx, _, _, rfl, S.o, T.cl, T.nW, sf_W, _, rfl, _, rfl, aw, _, rfl, sqL_of S.t, fun p1 hp1 => ?_⟩
      rw [cut_upto, ivs_take]
      have sm1 := Same.upd (.lst (ivs (h.text.take i))) hp1
      have e1 : upd H p1 (.lst (ivs (h.text.take i))) p1 = some (.lst (ivs (h.text.take i))) := upd_same
      generalize upd H p1 (.lst (ivs (h.text.take i))) = H1 at *
      have lt1 : (h.text.take i).length ≤ 200 := by rw [List.length_take]; omega
      refine ⟨_, rfl, p1, a, _, _, rfl, rfl, e1, sm1 _ _ ha, by rw [ivs_len, ivs_len]; omega, fun p2 hp2 => ?_⟩
      rw [ivs_app]
      have sm2 := Same.upd (.lst (ivs (h.text.take i ++ l))) hp2
      have e2 : upd H1 p2 (.lst (ivs (h.text.take i ++ l))) p2 = some (.lst (ivs (h.text.take i ++ l))) := upd_same
      generalize upd H1 p2 (.lst (ivs (h.text.take i ++ l))) = H2 at *
      have sm12 := sm1.trans sm2
      refine ⟨_, rfl, s, c.S, dx, _, _, rfl, sm12 _ _ S.o, T.cl, T.nW, sf_W, _, rfl, _, rfl, _, _, rfl, rfl, _, rfl, aw, _, rfl, sqL_of (sm12 _ _ S.t), fun p3 hp3 => ?_⟩
      rw [← Int.natCast_add, cut_from, ivs_drop]
      have sm3 := Same.upd (.lst (ivs (h.text.drop (i + n)))) hp3
      have e3 : upd H2 p3 (.lst (ivs (h.text.drop (i + n)))) p3 = some (.lst (ivs (h.text.drop (i + n)))) := upd_same
      generalize upd H2 p3 (.lst (ivs (h.text.drop (i + n)))) = H3 at *
      have lt3 : (h.text.drop (i + n)).length ≤ 200 := by rw [List.length_drop]; omega
      refine ⟨p2, p3, _, _, rfl, rfl, sm3 _ _ e2, e3, by rw [ivs_len, ivs_len, List.length_append]; omega, fun a' ha' => ?_⟩
      rw [ivs_app, List.append_assoc]
      generalize hU : h.text.take i ++ (l ++ h.text.drop (i + n)) = U at *
      have sm4 := (sm12.trans sm3).trans (Same.upd (.lst (ivs U)) ha')
      have e4 : upd H3 a' (.lst (ivs U)) a' = some (.lst (ivs U)) := upd_same
      have na' : H a' = none := (sm12.trans sm3).free ha'
      generalize upd H3 a' (.lst (ivs U)) = H4 at *
      have g4 : Go G [] H H4 := .of S.w sm4
      have S4 := S.go g4
      dsimp only [gName]
      refine ⟨_, rfl, a', U, rfl, sqL_of e4, _, rfl, ?_⟩
      cases hrt : Sq17.right U with
      | false =>
        rw [if_pos (.inr hrt)] at hstep
        exact iteT ⟨_, rfl, s1, fun p hp => ans_out S hstep k g4 p hp⟩
      | true =>
        rw [if_neg (by rw [hrt]; simp; omega)] at hstep
        have hr2 := right_iff.mp hrt
        refine iteF ⟨_, rfl, s, c.S, dx, _, _, rfl, S4.o, T.cl, T.nP, sf_P, ?_⟩
        dsimp only [gName]
        refine ⟨_, rfl, s, dx, _, rfl, S4.o, sf_no, _, rfl, ?_⟩
        have nN : ¬ N a' := fun z => S.nt a' z na'
        refine ⟨G, s, a', dx, h.modes, ar, aw, ap, U, rs, xs, rfl, S4.w, S4.o, S4.r, S4.ri, S4.ro, S4.rl, e4, hr2.1, hr2.2, fun H5 p qs' g5 np ho hp hq hql' => ?_⟩
        have S5 := S4.put g5 hrt nN np e4 ho hp hq hql'
        have hs0 : ∃ c d f, H4 s = some (.ins c d f) := ⟨_, _, _, S4.o⟩
        have old5 : H5 ap = some (.lst (qs.map V.ref)) := g5.atx hs0 S4.p
        have oldp : PiecesIn c.P H5 qs (pieces h.rules h.text) := S4.pi.sess g5 ⟨_, _, _, _, _, S4.o⟩
        have newp : PiecesIn c.P H5 qs' (pieces h.rules U) := S5.pi
        have ch1 := S.chain
        have ch2 : Chain 0 U.length (pieces h.rules U) := S5.chain
        have es := Mx.same_ahead _ _ 0 _ _ ch1 ch2
        have eb := Mx.same_behind _ _ h.text.length U.length _ _ (Mx.chain_back _ _ _ ch1).1 (Mx.chain_back _ _ _ ch2).1 (Nat.add_comm _ _)
        rw [es, eb] at hstep
        have hend := same_end (xs := pieces h.rules h.text) (ys := pieces h.rules U)
        have hl1 := oldp.len
        have hl2 := newp.len
        apply onward
        refine ⟨_, rfl, s, c.S, dx, _, _, rfl, S5.o, T.cl, T.nP, sf_P, ?_⟩
        dsimp only [gName]
        refine ⟨_, rfl, _, rfl, ?_⟩
        refine ⟨ap, p, qs, qs', _, _, rfl, sqL_of old5, sqL_of hp, oldp, newp, ?_⟩
        dsimp only [gName]
        refine ⟨_, rfl, ap, _, rfl, .inl (sqL_of old5), _, rfl, p, _, rfl, .inl (sqL_of hp), _, _, rfl, _, rfl, _, _, rfl, rfl, ?_⟩
        dsimp only [gName]
        rw [min_iv', List.length_map, List.length_map, hl1, hl2]
        generalize hsa : Mx.same (pieces h.rules h.text) (pieces h.rules U) = sa at *
        rw [show ((min (pieces h.rules h.text).length (pieces h.rules U).length : Nat) : Int) - (sa : Int) = ((min (pieces h.rules h.text).length (pieces h.rules U).length - sa : Nat) : Int) by omega]
        refine ⟨_, rfl, _, rfl, _, rfl, ?_⟩
        refine ⟨ap, p, min (pieces h.rules h.text).length (pieces h.rules U).length - sa, qs, qs', _, _, rfl, sqL_of old5, sqL_of hp, oldp, newp, by omega, by omega, ?_⟩
        dsimp only [gName]
        refine ⟨_, rfl, p, _, rfl, .inl (sqL_of hp), _, rfl, ?_⟩
        refine ⟨p, qs', _, rfl, sqL_of hp, newp, by have := hr2.1; omega, fun H6 sm6 => ⟨_, rfl, _, rfl, by show 4 ≤ sizeLine; omega, fun ans hans => ?_⟩⟩
        rw [List.length_map, hl2]
        have sm7 := sm6.trans (Same.upd (.lst [V.int ((pieces h.rules U).length : Nat), iv (((pieces h.rules U).filter fun x => x.1.kind == 65).length), iv sa, iv (min (Mx.same (pieces h.rules h.text).reverse (pieces h.rules U).reverse) (min (pieces h.rules h.text).length (pieces h.rules U).length - sa))]) hans)
        have g7 : Go G [] H5 _ := .of g5.w' sm7
        refine k _ ans (by rw [hstep]; exact ⟨G, dx, ar, a', p, rs, qs', xs, S5.go g7⟩) (((S.keeps g4).trans (S4.keeps1 g5)).trans (S5.keeps g7)) (g4.free (g5.free (sm6.free hans))) ?_
        rw [hstep, upd_same]
        rfl
end
end Mp

-- MpSess7
set_option maxRecDepth 100000
set_option maxHeartbeats 8000000
set_option exponentiation.threshold 3000
/-! A house gets a rule. -/
namespace Mp
open PySem PySem.Spec PyProof.Rows L2
open Sq17 (Piece Word House pieces wholePat)
open Mx (okR MOk readPattern)

def spAddRule (K : PySem.W.Frag) (c : Cc) : Sp := fun vs H Q _ => ∃ (N : Addr → Prop) (s av a mo ki ac to : Nat) (l : List Nat) (h : House), vs = [.ref s, .ref av, .ref a] ∧ SessIn N c H s h ∧ SqL K H av [iv mo, iv ki, iv ac, iv to] ∧ SqL K H a (ivs l) ∧ l.length ≤ 1024 ∧ Ans N c H s h (.rule mo ki ac to l) Q
theorem LinkAt.gh {G G' : Gh} {C : Addr} {H : Hp} {x : Addr} {tab : List Nat} (h : LinkAt G C H x tab) (hd : ∀ d t, H d ≠ none → G.d d = some t → G'.d d = some t) (hf : ∀ a, G'.f a → G.f a) (hn : ∀ d t, G.d d = some t → H d ≠ none) : LinkAt G' C H x tab := by
  obtain ⟨dx, lt, dc, m, h1, h2⟩ := h
  exact ⟨dx, lt, dc, m, hd _ _ (hn _ _ h1) h1, fun z => h2 (hf _ z)⟩
theorem RulesIn.gh {G G' : Gh} {CR CM CL : Addr} {H : Hp} (hd : ∀ d t, H d ≠ none → G.d d = some t → G'.d d = some t) (hf : ∀ a, G'.f a → G.f a) (hn : ∀ d t, G.d d = some t → H d ≠ none) : ∀ {rs : List Addr} {xs : List (Sq17.Rule × Mx.Mat)}, RulesIn G CR CM CL H rs xs → RulesIn G' CR CM CL H rs xs
  | [], [], _ => trivial
  | _ :: _, _ :: _, ⟨⟨dx, m, h1, mdx, xb, xa, ly, h2, h3, h4, h5, h6⟩, h7⟩ => ⟨⟨dx, m, h1, mdx, xb, xa, ly, h2, h3.gh hd hf hn, h4.gh hd hf hn, h5, fun z => h6 (hf _ z)⟩, RulesIn.gh hd hf hn h7⟩
  | [], _ :: _, h => h.elim
  | _ :: _, [], h => h.elim
section
variable {P : Program} {w : World} {K : PySem.W.Frag} {mg : Str → Option Value} {base : Heap} {c : Cc}
theorem scAddRule : FnScope ["self", "values", "row", "mode", "kind", "does", "to", "parts"] ["self", "values", "row"] (defScope sAddRule) := ⟨rfl, rfl, rfl, by decide +kernel, rfl, by decide +kernel, by decide +kernel⟩
theorem ok_addRule {f f1 f2 fR fM : Addr} {fd fd1 fd2 fdR fdM : FuncData} (F : Fun K "add_rule" "Session.add_rule" sAddRule f fd) (T : Cs K c.S) (TX : Txt K mg) (TS : Txs mg) (TR : Cr K c.R)
    (D1 : Dm K c.S "put_text" "Session.put_text" sPutText ["self", "row"] f1 fd1) (G1 : FnOk P w K mg base CX0 8 f1 fd1 ["self", "row"] (spPutText c))
    (D2 : Df K mg "read_pattern" sReadPattern ["row"] f2 fd2) (G2 : FnOk P w K mg base CX0 3 f2 fd2 ["row"] (spReadPattern K))
    (MR : Mk K c.R fR) (FR : Fun K "__init__" "Rule.__init__" sRInit fR fdR) (bR : Binds K fdR ["self", "mode", "kind", "does", "to", "matcher"] []) (gR : mg "Rule" = some (.ref c.R))
    (MM : Mk K c.M fM) (GM : FnOk P w K mg base CX0 6 fM fdM ["self", "parts"] (spMInit c.M c.L)) (bM : Binds K fdM ["self", "parts"] []) (gM : mg "Matcher" = some (.ref c.M)) :
    FnOk P w K mg base CX0 9 f fd ["self", "values", "row"] (spAddRule K c) := by
  obtain ⟨tk, mk⟩ := TS.TOP_KIND
  obtain ⟨td, md⟩ := TS.TOP_DOES
  obtain ⟨tr, mr⟩ := TS.MOST_RULES
  have GR : FnOk P w K mg base CX0 1 fR fdR ["self", "mode", "kind", "does", "to", "matcher"] (spRInit c.R) := ok_rInit FR TR
  refine F.ok scAddRule (fun vs H Q E h => ?_) (fun cdv A outer s H vs Q E hr h => ?_)
  · obtain ⟨N, s, av, a, mo, ki, ac, to, l, h, rfl, _⟩ := h; rfl
  · obtain ⟨N, s, av, a, mo, ki, ac, to, l, h, rfl, ⟨G, dx, ar, aw, ap, rs, qs, xs, S⟩, lv, la, hll, k⟩ := h
    have nd := scAddRule.nd
    have hr2' : Room 2 _ := hr.mono (by decide)
    have hr3 : Room 3 _ := hr.mono (by decide)
    have hr7 : Room 7 _ := hr.mono (by decide)
    have s1 : (1 : Nat) ≤ sizeLine := by decide
    refine ⟨_, (L2.pss_cons (ps_asg (pv 1) (pg_lst rfl (pgs_cons (pg_name (i := 3) nd rfl (Or.inl rfl)) (pgs_cons (pg_name (i := 4) nd rfl (Or.inl rfl)) (pgs_cons (pg_name (i := 5) nd rfl (Or.inl rfl)) (pgs_cons (pg_name (i := 6) nd rfl (Or.inl rfl)) pgs_nil))))))
      (L2.pss_cons (L2.ps_if (PW.pt (pw_or ((L2.pt_cmpR op_ge (pe_callB (call_max2 rfl) (by rfl) TX.max (by decide +kernel) (L2.pa_cons (pv 3) (L2.pa_cons (pv 6) L2.pa_nil))) (pe_fld (pv 0) rfl) (L2.nomark _))) (pw_or ((L2.pt_cmpR op_gt (pv 4) (pgc mk) (L2.nomark _))) (pw_or1 ((L2.pt_cmpR op_gt (pv 5) (pgc md) (L2.nomark _))))))) (L2.pss_one (ps_ret (pe_lst (L2.pa_cons (pe_un un_neg pe_int) L2.pa_nil)))) L2.pss_nil)
      (L2.pss_cons (L2.ps_set (i := 7) nd rfl (Or.inl rfl) (L2.pe_call G2 hr3 (by rfl) (Mp.Df.g D2) (Mp.Df.F D2).kp (Mp.Df.b D2) .nil L2.pass0 (L2.pa_cons (pv 2) L2.pa_nil)))
      (L2.pss_cons (L2.ps_if (pt_cmpR op_isN (pv 7) pe_non (nomark _)) (L2.pss_one (ps_ret (pe_lst (L2.pa_cons (pe_un un_neg pe_int) L2.pa_nil)))) L2.pss_nil)
      (L2.pss_cons (L2.ps_if (L2.pt_cmpR op_eq (L2.pe_callB L2.call_len_seq (by rfl) TX.len PySem.boot_len (L2.pa_cons (pe_fld (pv 0) rfl) L2.pa_nil)) (pgc mr) (L2.nomark _)) (L2.pss_one (ps_ret (pe_lst (L2.pa_cons (pe_un un_neg pe_int) L2.pa_nil)))) L2.pss_nil)
      (L2.pss_cons (ps_expr (pe_bm PySem.F.plainAttrs_list PySem.F.slot_list_append PySem.F.type_list_append mt_append (pe_fld (pv 0) rfl) (L2.pa_cons (pe_make MR GR hr2' rfl gR bR .nil pass0 (L2.pa_cons (pv 3) (L2.pa_cons (pv 4) (L2.pa_cons (pv 5) (L2.pa_cons (pv 6) (L2.pa_cons (pe_make MM GM hr7 rfl gM bM .nil pass0 (L2.pa_cons (pv 7) L2.pa_nil)) L2.pa_nil)))))) L2.pa_nil)))
      (L2.pss_cons (ps_expr ((L2.pe_meth (pv 0) T.cl (Mp.Dm.m D1) G1 hr (Mp.Dm.b D1) .nil L2.pass0 (L2.pa_cons (pe_lst L2.pa_nil) L2.pa_nil))))
      (L2.pss_one (ps_ret (pe_lst (L2.pa_cons (pe_op op_sub ((L2.pe_callB L2.call_len_seq (by rfl) TX.len PySem.boot_len (L2.pa_cons (pe_fld (pv 0) rfl) L2.pa_nil))) pe_int) L2.pa_nil))))))))))), ?_⟩
    have hstep : h.step (.rule mo ki ac to l) = if h.modes ≤ mo ∨ 64 < ki ∨ 3 < ac ∨ h.modes ≤ to then (h, Sq17.says (-1)) else match wholePat l with
        | none => (h, Sq17.says (-3))
        | some p => if 24 ≤ h.rules.length then (h, Sq17.says (-5)) else ({ h with rules := h.rules ++ [⟨mo, ki, ac, to, p⟩], text := [] }, Sq17.says (h.rules.length : Nat)) := rfl
    have hln := S.ri.len
    have hrl : h.rules.length = rs.length := by rw [← S.re, List.length_map, hln]
    have h24 := S.rl
    refine ⟨_, rfl, av, _, rfl, lv, rfl, _, _, rfl, _, _, rfl, _, _, rfl, _, _, rfl, rfl, ?_⟩
    dsimp only [gName]
    apply if_ev (decide (h.modes ≤ mo ∨ 64 < ki ∨ 3 < ac ∨ h.modes ≤ to)) H
    · intro Q' q
      refine ⟨_, rfl, _, rfl, _, _, rfl, ?_⟩
      rw [max_iv]
      refine ⟨_, rfl, s, c.S, dx, _, _, rfl, S.o, T.cl, T.nM, sf_M, _, _, rfl, rfl, _, rfl, ?_⟩
      rw [show decide ((h.modes : Int) ≤ ((max mo to : Nat) : Int)) = decide (h.modes ≤ mo ∨ h.modes ≤ to) from by rw [decide_eq_decide]; omega]
      by_cases c1 : h.modes ≤ mo ∨ h.modes ≤ to
      · rw [decide_eq_true c1]
        rw [decide_eq_true (by omega)] at q
        exact iteT q
      · rw [decide_eq_false c1]
        refine iteF ⟨_, rfl, _, _, rfl, rfl, _, rfl, ?_⟩
        by_cases c2 : 64 < ki
        · rw [show decide ((64 : Int) < (ki : Int)) = true from decide_eq_true (by omega)]
          rw [decide_eq_true (by omega)] at q
          exact iteT q
        · rw [show decide ((64 : Int) < (ki : Int)) = false from decide_eq_false (by omega)]
          refine iteF ⟨_, rfl, _, _, rfl, rfl, _, rfl, ?_⟩
          rw [show decide ((3 : Int) < (ac : Int)) = decide (h.modes ≤ mo ∨ 64 < ki ∨ 3 < ac ∨ h.modes ≤ to) from by rw [decide_eq_decide]; omega]
          exact q
    by_cases hc : h.modes ≤ mo ∨ 64 < ki ∨ 3 < ac ∨ h.modes ≤ to
    · rw [decide_eq_true hc]
      rw [if_pos hc] at hstep
      exact iteT ⟨_, rfl, s1, fun p hp => ans_out S hstep k (.refl S.w _) p hp⟩
    · rw [decide_eq_false hc]
      rw [if_neg hc] at hstep
      refine iteF ⟨_, rfl, ?_⟩
      refine ⟨a, l, rfl, la, hll, fun hN H1 sm1 => ?_, fun parts hP H1 pP ts sm1 npP hpP hparts hplen => ?_⟩
      · have hw : wholePat l = none := by
          cases e : wholePat l with
          | none => rfl
          | some p =>
            obtain ⟨t, _, e2⟩ := Mx.readPattern_some e
            rw [e2] at hN; cases hN
        rw [hw] at hstep
        exact ⟨_, rfl, rfl, _, rfl, iteT ⟨_, rfl, s1, fun p hp => ans_out S hstep k (.of S.w sm1) p hp⟩⟩
      · obtain ⟨p, hw⟩ : ∃ p, wholePat l = some p := by
          cases e : wholePat l with
          | none => rw [Mx.readPattern_none e] at hP; cases hP
          | some p => exact ⟨p, rfl⟩
        obtain ⟨t, hIs, e2⟩ := Mx.readPattern_some hw
        rw [e2] at hP
        cases hP
        rw [hw] at hstep
        simp only [] at hstep
        have g1 : Go G [] H H1 := .of S.w sm1
        have S1 := S.go g1
        refine ⟨_, rfl, rfl, _, rfl, iteF ⟨_, rfl, s, c.S, dx, _, _, rfl, S1.o, T.cl, T.nR, sf_R, ar, _, rfl, .inl (sqL_of S1.r), rfl, _, rfl, ?_⟩⟩
        rw [List.length_map, show decide (V.int (rs.length : Int) = V.int 24) = decide (rs.length = 24) from dec_iv rs.length 24]
        by_cases hfull : rs.length = 24
        · rw [decide_eq_true hfull]
          rw [if_pos (by omega)] at hstep
          exact iteT ⟨_, rfl, s1, fun p hp => ans_out S hstep k g1 p hp⟩
        · rw [decide_eq_false hfull]
          rw [if_neg (by omega)] at hstep
          refine iteF ⟨_, rfl, s, c.S, dx, _, _, rfl, S1.o, T.cl, T.nR, sf_R, .inl ⟨rfl, _, sqL_of S1.r⟩, _, rfl, _, rfl, _, rfl, _, rfl, _, rfl, fun m mdx nm nmdx nmm => ?_⟩
          -- the matcher
          have smk : Same H1 (upd (upd H1 mdx (.own m)) m (.ins c.M mdx [])) := fun b o e => by rw [upd_ne (ne_of_none e nm), upd_ne (ne_of_none e nmdx)]; exact e
          refine ⟨H, m, mdx, pP, ts, t, p, rfl, upd_same, smk _ _ hpP, hparts.mono (fun t y e => smk _ _ e) (fun m y _ e => smk _ _ e), hIs, hplen, fun H2 db da hmat hdb hda ndb nda dba as2 => ⟨rfl, ?_⟩⟩
          have sm2 : Same H1 H2 := Same.made nm nmdx as2
          have ndb1 : H1 db = none := smk.free ndb
          have nda1 : H1 da = none := smk.free nda
          -- the rule
          refine fun r rdx nr nrdx nrr => ⟨r, rdx, mo, ki, ac, to, m, rfl, upd_same, fun H3 hr3' as3 => ⟨rfl, ?_⟩⟩
          have sm3 : Same H2 H3 := Same.made nr nrdx as3
          have sm13 := sm2.trans sm3
          have sm03 := sm1.trans sm13
          generalize hMd : Mx.matOf (Mx.bld t Mx.B.start) = M at *
          have hMok : RuleOk ((⟨mo, ki, ac, to, p⟩ : Sq17.Rule), M) := by
            rw [← hMd]
            exact ⟨Mx.mok_of hIs (by omega), Mx.mat_st hIs, by show ac ≤ 3; omega, Mx.mat_bare hIs⟩
          -- the dicts of chunks, now also these two
          have hG' : ∃ G' : Gh, (∀ d t, H1 d ≠ none → G.d d = some t → G'.d d = some t) ∧ (∀ a, G'.f a ↔ N a ∨ a = ar) ∧ G'.d db = some M.behind ∧ G'.d da = some M.ahead ∧ (∀ d t, G'.d d = some t → d = db ∨ d = da ∨ G.d d = some t) ∧ (∀ d, d ≠ db → d ≠ da → G'.d d = G.d d) :=
            ⟨⟨fun d => if d = db then some M.behind else if d = da then some M.ahead else G.d d, fun a => N a ∨ a = ar⟩, fun d t hn e => by
              show (if d = db then some M.behind else if d = da then some M.ahead else G.d d) = some t
              rw [if_neg (fun z : d = db => hn (by rw [z]; exact ndb1)), if_neg (fun z : d = da => hn (by rw [z]; exact nda1))]; exact e, fun a => Iff.rfl, if_pos rfl, by
              show (if da = db then some M.behind else if da = da then some M.ahead else G.d da) = some M.ahead
              rw [if_neg (fun z => dba z.symm), if_pos rfl], fun d t e => by
              have e : (if d = db then some M.behind else if d = da then some M.ahead else G.d d) = some t := e
              split at e
              · next z => exact .inl z
              · split at e
                · next z => exact .inr (.inl z)
                · exact .inr (.inr e), fun d h1 h2 => by
              show (if d = db then some M.behind else if d = da then some M.ahead else G.d d) = G.d d
              rw [if_neg h1, if_neg h2]⟩
          obtain ⟨G', gd, gf, gdb, gda, gback, gsame⟩ := hG'
          have hdn : ∀ d t, G.d d = some t → H1 d ≠ none := fun d t e z => by
            obtain ⟨kvs, q, _⟩ := g1.w' d t e
            rw [z] at q; cases q
          have w3 : Wld G' H3 := fun d tab e => by
            rcases gback d tab e with rfl | rfl | e'
            · exact ⟨[], sm3 _ _ hdb, ⟨List.nodup_nil, by simp⟩⟩
            · exact ⟨[], sm3 _ _ hda, ⟨List.nodup_nil, by simp⟩⟩
            · obtain ⟨kvs, q1, q2⟩ := g1.w' d tab e'
              exact ⟨kvs, sm13 _ _ q1, q2⟩
          have far : G'.f ar := (gf ar).mpr (.inr rfl)
          have rold : RulesIn G' c.R c.M c.L H3 rs xs := (S1.ri.gh gd (fun a z => by
            rcases (gf a).mp z with z | rfl
            · exact (S.n a z).1
            · exact S.nr) hdn).std (.of sm13)
          have hmt : MatAt G' c.M c.L H3 m M := (hmat G' (fun a z => by
            have : H1 a ≠ none := by
              rcases (gf a).mp z with z | rfl
              · exact fun e => S.nt a z (sm1.free e)
              · rw [S1.r]; simp
            exact fun e => this (smk.free e)) gdb gda).std (.of sm3)
          have rnew : RulesIn G' c.R c.M c.L H3 (rs ++ [r]) (xs ++ [((⟨mo, ki, ac, to, p⟩ : Sq17.Rule), M)]) := RulesIn.snoc ⟨rdx, m, hr3', hmt⟩ rold
          have r3 := sm13 _ _ S1.r
          have gar : G'.d ar = none := w3.no r3 (by intro _ z; cases z)
          refine ⟨ar, _, _, rfl, rfl, r3, by rw [List.length_map]; exact Nat.lt_of_le_of_lt (by omega : rs.length ≤ 24) (by decide), ?_⟩
          have std4 : Std G' H3 (upd H3 ar (.lst (rs.map V.ref ++ [.ref r]))) := Std.upd _ fun o e f => by
            rw [r3] at e
            have e := Option.some.inj e
            subst e
            exact f far
          have r4 : upd H3 ar (.lst (rs.map V.ref ++ [.ref r])) ar = some (.lst ((rs ++ [r]).map V.ref)) := by rw [upd_same, List.map_append]; rfl
          have rnew4 := rnew.std std4
          have w4 := w3.upd (.lst (rs.map V.ref ++ [.ref r])) gar
          have s4 : upd H3 ar (.lst (rs.map V.ref ++ [.ref r])) s = some (.ins c.S dx (sf h.modes ar aw ap)) := by rw [upd_ne (ne_of (sm13 _ _ S1.o) r3 (by intro z; cases z))]; exact sm13 _ _ S1.o
          have k4 : ∀ b o, H b = some o → b ≠ ar → upd H3 ar (.lst (rs.map V.ref ++ [.ref r])) b = some o := fun b o e n => by rw [upd_ne n]; exact sm03 _ _ e
          generalize upd H3 ar (.lst (rs.map V.ref ++ [.ref r])) = H4 at *
          have up4 : ∀ {b : Addr}, H4 b = none → H b = none := fun {b} e => by
            cases q : H b with
            | none => rfl
            | some o =>
              by_cases z : b = ar
              · subst z; rw [r4] at e; cases e
              · rw [k4 b o q z] at e; cases e
          -- no text
          refine ⟨_, rfl, s, dx, _, rfl, s4, sf_no, Nat.zero_le _, fun a' ha' => ?_⟩
          have sm5 := Same.upd (.lst []) ha'
          have e5 : upd H4 a' (.lst []) a' = some (.lst []) := upd_same
          have na' := up4 ha'
          generalize upd H4 a' (.lst []) = H5 at *
          have g5 : Go G' [] H4 H5 := .of w4 sm5
          refine ⟨G', s, a', dx, h.modes, ar, aw, ap, [], rs ++ [r], xs ++ [((⟨mo, ki, ac, to, p⟩ : Sq17.Rule), M)], rfl, g5.w', sm5 _ _ s4, sm5 _ _ r4, rnew4.std (.of sm5), fun x hx => ?_, ?_, e5, Nat.zero_le _, by simp, fun H6 p6 qs' g6 np6 h6 hp6 hq6 hql6 => ?_⟩
          · rcases List.mem_append.mp hx with hx | hx
            · exact S.ro x hx
            · simp at hx; subst hx; exact hMok
          · rw [List.length_append]; show rs.length + 1 ≤ 24; omega
          have hq0 : qs' = [] := List.length_eq_zero_iff.mp (Nat.le_zero.mp hql6)
          subst hq0
          have hs5 : ∃ c d f, H5 s = some (.ins c d f) := ⟨_, _, _, sm5 _ _ s4⟩
          have r6 := g6.atx hs5 (sm5 _ _ r4)
          have np0 : H p6 = none := up4 (sm5.free np6)
          refine ⟨_, rfl, s, c.S, dx, _, _, rfl, h6, T.cl, T.nR, sf_R, ar, _, rfl, .inl (sqL_of r6), _, _, rfl, rfl, s1, fun ans hans => ?_⟩
          dsimp only []
          rw [List.length_map, List.length_append]
          rw [show ((((rs.length + ([r] : List Addr).length : Nat) : Int)) - 1) = ((rs.length : Nat) : Int) by show ((rs.length + 1 : Nat) : Int) - 1 = _; omega]
          have sm7 := Same.upd (.lst [V.int ((rs.length : Nat) : Int)]) hans
          have e7 : upd H6 ans (.lst [V.int ((rs.length : Nat) : Int)]) ans = some (.lst [V.int ((rs.length : Nat) : Int)]) := upd_same
          have nans : H ans = none := up4 (sm5.free (g6.free hans))
          generalize upd H6 ans (.lst [V.int ((rs.length : Nat) : Int)]) = H7 at *
          have nd' : ∀ b, N b → G'.d b = none ∧ b ≠ s := fun b n => by
            have n1 := (S.n b n).2.2.2.2.1
            have hb : H1 b ≠ none := fun z => S.nt b n (sm1.free z)
            exact ⟨by rw [gsame b (fun z : b = db => hb (by rw [z]; exact ndb1)) (fun z : b = da => hb (by rw [z]; exact nda1))]; exact n1, (S.n b n).2.2.2.2.2⟩
          have kN : ∀ b o, N b → H b = some o → H7 b = some o := fun b o n e =>
            sm7 _ _ (g6.k b o (sm5 _ _ (k4 b o e (S.n b n).2.1)) (nd' b n).1 (by simpa using (nd' b n).2))
          refine k H7 ans ?_ kN nans ?_
          · rw [hstep]
            refine ⟨G', dx, ar, a', p6, rs ++ [r], [], xs ++ [((⟨mo, ki, ac, to, p⟩ : Sq17.Rule), M)], sm7 _ _ h6, g6.w'.same sm7, fun b n => ⟨(gf b).mpr (.inl n), (S.n b n).2.1, fun z : b = a' => S.nt b n (by rw [z]; exact na'), fun z : b = p6 => S.nt b n (by rw [z]; exact np0), (nd' b n).1, (nd' b n).2⟩, fun b n z => ?_, far, sm7 _ _ r6, ?_, fun x hx => ?_, ?_, ?_, sm7 _ _ (g6.atx hs5 e5), rfl, sm7 _ _ hp6, trivial, Nat.zero_le _⟩
            · cases q : H b with
              | none => exact S.nt b n q
              | some o => rw [kN b o n q] at z; cases z
            · exact ((rnew4.std (.of sm5)).std (g6.stdS ⟨_, _, _, _, sm5 _ _ s4⟩)).std (.of sm7)
            · rcases List.mem_append.mp hx with hx | hx
              · exact S.ro x hx
              · simp at hx; subst hx; exact hMok
            · rw [List.map_append, S.re]; rfl
            · rw [List.length_append]; show rs.length + 1 ≤ 24; omega
          · rw [hstep, e7, hrl]; rfl
end
end Mp

-- MpHouse
set_option maxRecDepth 100000
set_option maxHeartbeats 8000000
set_option exponentiation.threshold 3000
/-! One call on a house. -/
namespace Mp
open PySem PySem.Spec PyProof.Rows L2
open Sq17 (Piece Word House)

abbrev sAnswers : Stmt := top 70
abbrev sAnswerCall : Stmt := top 71
structure Txh (mg : Str → Option Value) : Prop where
  BEGIN : ∃ t, mg "BEGIN" = some (.int 1 t)
  RULE : ∃ t, mg "RULE" = some (.int 2 t)
  TEXT : ∃ t, mg "TEXT" = some (.int 3 t)
  PIECES : ∃ t, mg "PIECES" = some (.int 4 t)
  EDIT : ∃ t, mg "EDIT" = some (.int 5 t)
  AT : ∃ t, mg "AT" = some (.int 6 t)
  WORDS : ∃ t, mg "WORDS" = some (.int 7 t)
  LONGEST : ∃ t, mg "LONGEST" = some (.int 8 t)
/-- a call: its number, its numbers, its row -/
inductive CallIs : Nat → List Nat → List Nat → Sq17.Call → Prop
  | b (m : Nat) : CallIs 1 [m] [] (.begin_ m)
  | r (x y z u : Nat) (l : List Nat) : CallIs 2 [x, y, z, u] l (.rule x y z u l)
  | t (l : List Nat) : CallIs 3 [] l (.text l)
  | p : CallIs 4 [] [] .pieces
  | e (i n : Nat) (l : List Nat) : CallIs 5 [i, n] l (.edit i n l)
  | a (i : Nat) : CallIs 6 [i] [] (.at_ i)
  | w : CallIs 7 [] [] .words
  | l (r : Nat) (l : List Nat) : CallIs 8 [r] l (.longest r l)
  | g (l : List Nat) : CallIs 9 [] l (.tight l)
def spAnswerCall (K : PySem.W.Frag) (c : Cc) : Sp := fun vs H Q _ => ∃ (N : Addr → Prop) (s av a k : Nat) (ns l : List Nat) (h : House) (x : Sq17.Call), vs = [.ref s, iv k, .ref av, .ref a] ∧ SessIn N c H s h ∧ H av = some (.lst (ivs ns)) ∧ H a = some (.lst (ivs l)) ∧ ¬ N a ∧ l.length ≤ 1024 ∧ CallIs k ns l x ∧ Ans N c H s h x Q
section
variable {P : Program} {w : World} {K : PySem.W.Frag} {mg : Str → Option Value} {base : Heap} {c : Cc}
theorem scAnswerCall : FnScope ["session", "call", "values", "row"] ["session", "call", "values", "row"] (defScope sAnswerCall) := ⟨rfl, rfl, rfl, by decide +kernel, rfl, by decide +kernel, by decide +kernel⟩
theorem ok_answerCall {f f1 f2 f3 f4 f5 f6 f7 f8 f9 : Addr} {fd fd1 fd2 fd3 fd4 fd5 fd6 fd7 fd8 fd9 : FuncData} (F : Fun K "answer_call" "answer_call" sAnswerCall f fd) (T : Cs K c.S) (TH : Txh mg)
    (D1 : Dm K c.S "begin" "Session.begin" sBegin ["self", "modes"] f1 fd1) (G1 : FnOk P w K mg base CX0 9 f1 fd1 ["self", "modes"] (spBegin c))
    (D2 : Dm K c.S "add_rule" "Session.add_rule" sAddRule ["self", "values", "row"] f2 fd2) (G2 : FnOk P w K mg base CX0 9 f2 fd2 ["self", "values", "row"] (spAddRule K c))
    (D3 : Dm K c.S "set_text" "Session.set_text" sSetText ["self", "row"] f3 fd3) (G3 : FnOk P w K mg base CX0 9 f3 fd3 ["self", "row"] (spSetText c))
    (D4 : Dm K c.S "tell_pieces" "Session.tell_pieces" sTellPieces ["self"] f4 fd4) (G4 : FnOk P w K mg base CX0 2 f4 fd4 ["self"] (spTellPieces c))
    (D5 : Dm K c.S "edit" "Session.edit" sEdit ["self", "at", "taken", "row"] f5 fd5) (G5 : FnOk P w K mg base CX0 9 f5 fd5 ["self", "at", "taken", "row"] (spEdit c))
    (D6 : Dm K c.S "tell_at" "Session.tell_at" sTellAt ["self", "at"] f6 fd6) (G6 : FnOk P w K mg base CX0 2 f6 fd6 ["self", "at"] (spTellAt c))
    (D7 : Dm K c.S "tell_words" "Session.tell_words" sTellWords ["self"] f7 fd7) (G7 : FnOk P w K mg base CX0 3 f7 fd7 ["self"] (spTellWords c))
    (D8 : Dm K c.S "tell_longest" "Session.tell_longest" sTellLongest ["self", "number", "row"] f8 fd8) (G8 : FnOk P w K mg base CX0 5 f8 fd8 ["self", "number", "row"] (spTellLongest K c))
    (D9 : Dm K c.S "write_tight" "Session.write_tight" sWriteTight ["self", "separator"] f9 fd9) (G9 : FnOk P w K mg base CX0 11 f9 fd9 ["self", "separator"] (spWriteTight c)) :
    FnOk P w K mg base CX0 12 f fd ["session", "call", "values", "row"] (spAnswerCall K c) := by
  obtain ⟨t1, m1⟩ := TH.BEGIN
  obtain ⟨t2, m2⟩ := TH.RULE
  obtain ⟨t3, m3⟩ := TH.TEXT
  obtain ⟨t4, m4⟩ := TH.PIECES
  obtain ⟨t5, m5⟩ := TH.EDIT
  obtain ⟨t6, m6⟩ := TH.AT
  obtain ⟨t7, m7⟩ := TH.WORDS
  obtain ⟨t8, m8⟩ := TH.LONGEST
  refine F.ok scAnswerCall (fun vs H Q E h => ?_) (fun cdv A outer s H vs Q E hr h => ?_)
  · obtain ⟨N, s, av, a, k, ns, l, h, x, rfl, _⟩ := h; rfl
  · obtain ⟨N, s, av, a, k, ns, l, h, x, rfl, S, hv, ha, na, hl, hx, q⟩ := h
    have hr9 : Room 9 _ := hr.mono (by decide)
    have hr2' : Room 2 _ := hr.mono (by decide)
    have hr3 : Room 3 _ := hr.mono (by decide)
    have hr5 : Room 5 _ := hr.mono (by decide)
    have ⟨G, dx, ar, aw, ap, rs, qs, xs, S'⟩ := S
    have so := S'.o
    refine ⟨_, (L2.pss_cons (L2.ps_if (L2.pt_cmpR op_eq (pv 1) (pgc m1) (L2.nomark _)) (L2.pss_one (ps_ret ((L2.pe_meth (pv 0) T.cl (Mp.Dm.m D1) G1 hr9 (Mp.Dm.b D1) .nil L2.pass0 (L2.pa_cons (L2.pe_ix L2.ix_list (pv 2) pe_int (fun _ _ => rfl)) L2.pa_nil))))) L2.pss_nil)
      (L2.pss_cons (L2.ps_if (L2.pt_cmpR op_eq (pv 1) (pgc m2) (L2.nomark _)) (L2.pss_one (ps_ret ((L2.pe_meth (pv 0) T.cl (Mp.Dm.m D2) G2 hr9 (Mp.Dm.b D2) .nil L2.pass0 (L2.pa_cons (pv 2) (L2.pa_cons (pv 3) L2.pa_nil)))))) L2.pss_nil)
      (L2.pss_cons (L2.ps_if (L2.pt_cmpR op_eq (pv 1) (pgc m3) (L2.nomark _)) (L2.pss_one (ps_ret ((L2.pe_meth (pv 0) T.cl (Mp.Dm.m D3) G3 hr9 (Mp.Dm.b D3) .nil L2.pass0 (L2.pa_cons (pv 3) L2.pa_nil))))) L2.pss_nil)
      (L2.pss_cons (L2.ps_if (L2.pt_cmpR op_eq (pv 1) (pgc m4) (L2.nomark _)) (L2.pss_one (ps_ret ((L2.pe_meth0 (pv 0) T.cl (Mp.Dm.m D4) G4 hr2' (Mp.Dm.b D4) .nil L2.pass0)))) L2.pss_nil)
      (L2.pss_cons (L2.ps_if (L2.pt_cmpR op_eq (pv 1) (pgc m5) (L2.nomark _)) (L2.pss_one (ps_ret ((L2.pe_meth (pv 0) T.cl (Mp.Dm.m D5) G5 hr9 (Mp.Dm.b D5) .nil L2.pass0 (L2.pa_cons (L2.pe_ix L2.ix_list (pv 2) pe_int (fun _ _ => rfl)) (L2.pa_cons (L2.pe_ix L2.ix_list (pv 2) pe_int (fun _ _ => rfl)) (L2.pa_cons (pv 3) L2.pa_nil))))))) L2.pss_nil)
      (L2.pss_cons (L2.ps_if (L2.pt_cmpR op_eq (pv 1) (pgc m6) (L2.nomark _)) (L2.pss_one (ps_ret ((L2.pe_meth (pv 0) T.cl (Mp.Dm.m D6) G6 hr2' (Mp.Dm.b D6) .nil L2.pass0 (L2.pa_cons (L2.pe_ix L2.ix_list (pv 2) pe_int (fun _ _ => rfl)) L2.pa_nil))))) L2.pss_nil)
      (L2.pss_cons (L2.ps_if (L2.pt_cmpR op_eq (pv 1) (pgc m7) (L2.nomark _)) (L2.pss_one (ps_ret ((L2.pe_meth0 (pv 0) T.cl (Mp.Dm.m D7) G7 hr3 (Mp.Dm.b D7) .nil L2.pass0)))) L2.pss_nil)
      (L2.pss_cons (L2.ps_if (L2.pt_cmpR op_eq (pv 1) (pgc m8) (L2.nomark _)) (L2.pss_one (ps_ret ((L2.pe_meth (pv 0) T.cl (Mp.Dm.m D8) G8 hr5 (Mp.Dm.b D8) .nil L2.pass0 (L2.pa_cons (L2.pe_ix L2.ix_list (pv 2) pe_int (fun _ _ => rfl)) (L2.pa_cons (pv 3) L2.pa_nil)))))) L2.pss_nil)
      (L2.pss_one (ps_ret ((L2.pe_meth (pv 0) T.cl (Mp.Dm.m D9) G9 hr (Mp.Dm.b D9) .nil L2.pass0 (L2.pa_cons (pv 3) L2.pa_nil))))))))))))), ?_⟩
    have no : ∀ (x y : Nat), ¬ x = y → decide (V.int (x : Int) = V.int (y : Int)) = false := fun x y z => by rw [dec_iv]; exact decide_eq_false z
    cases hx with
    | b m =>
      refine ⟨_, rfl, rfl, _, rfl, iteT ?_⟩
      refine ⟨_, rfl, s, dx, _, rfl, so, sf_no, _, rfl, av, _, _, _, rfl, rfl, sqL_of hv, rfl, ?_⟩
      exact ⟨N, s, m, h, rfl, S, q⟩
    | r x y z u l =>
      refine ⟨_, rfl, rfl, _, rfl, if_false_of (no 2 1 (by decide)) ?_⟩
      refine ⟨_, rfl, rfl, _, rfl, iteT ?_⟩
      refine ⟨_, rfl, s, dx, _, rfl, so, sf_no, _, rfl, _, rfl, ?_⟩
      exact ⟨N, s, av, a, x, y, z, u, l, h, rfl, S, sqL_of hv, sqL_of ha, hl, q⟩
    | t l =>
      refine ⟨_, rfl, rfl, _, rfl, if_false_of (no 3 1 (by decide)) ?_⟩
      refine ⟨_, rfl, rfl, _, rfl, if_false_of (no 3 2 (by decide)) ?_⟩
      refine ⟨_, rfl, rfl, _, rfl, iteT ?_⟩
      refine ⟨_, rfl, s, dx, _, rfl, so, sf_no, _, rfl, ?_⟩
      exact ⟨N, s, a, l, h, rfl, S, ha, na, q⟩
    | p =>
      refine ⟨_, rfl, rfl, _, rfl, if_false_of (no 4 1 (by decide)) ?_⟩
      refine ⟨_, rfl, rfl, _, rfl, if_false_of (no 4 2 (by decide)) ?_⟩
      refine ⟨_, rfl, rfl, _, rfl, if_false_of (no 4 3 (by decide)) ?_⟩
      refine ⟨_, rfl, rfl, _, rfl, iteT ?_⟩
      refine ⟨_, rfl, s, dx, _, rfl, so, sf_no, ?_⟩
      exact ⟨N, s, h, rfl, S, q⟩
    | e i n l =>
      refine ⟨_, rfl, rfl, _, rfl, if_false_of (no 5 1 (by decide)) ?_⟩
      refine ⟨_, rfl, rfl, _, rfl, if_false_of (no 5 2 (by decide)) ?_⟩
      refine ⟨_, rfl, rfl, _, rfl, if_false_of (no 5 3 (by decide)) ?_⟩
      refine ⟨_, rfl, rfl, _, rfl, if_false_of (no 5 4 (by decide)) ?_⟩
      refine ⟨_, rfl, rfl, _, rfl, iteT ?_⟩
      refine ⟨_, rfl, s, dx, _, rfl, so, sf_no, _, rfl, av, _, _, _, rfl, rfl, sqL_of hv, rfl, _, rfl, av, _, _, _, rfl, rfl, sqL_of hv, rfl, _, rfl, ?_⟩
      exact ⟨N, s, i, n, a, l, h, rfl, S, ha, by omega, q⟩
    | a i =>
      refine ⟨_, rfl, rfl, _, rfl, if_false_of (no 6 1 (by decide)) ?_⟩
      refine ⟨_, rfl, rfl, _, rfl, if_false_of (no 6 2 (by decide)) ?_⟩
      refine ⟨_, rfl, rfl, _, rfl, if_false_of (no 6 3 (by decide)) ?_⟩
      refine ⟨_, rfl, rfl, _, rfl, if_false_of (no 6 4 (by decide)) ?_⟩
      refine ⟨_, rfl, rfl, _, rfl, if_false_of (no 6 5 (by decide)) ?_⟩
      refine ⟨_, rfl, rfl, _, rfl, iteT ?_⟩
      refine ⟨_, rfl, s, dx, _, rfl, so, sf_no, _, rfl, av, _, _, _, rfl, rfl, sqL_of hv, rfl, ?_⟩
      exact ⟨N, s, i, h, rfl, S, q⟩
    | w =>
      refine ⟨_, rfl, rfl, _, rfl, if_false_of (no 7 1 (by decide)) ?_⟩
      refine ⟨_, rfl, rfl, _, rfl, if_false_of (no 7 2 (by decide)) ?_⟩
      refine ⟨_, rfl, rfl, _, rfl, if_false_of (no 7 3 (by decide)) ?_⟩
      refine ⟨_, rfl, rfl, _, rfl, if_false_of (no 7 4 (by decide)) ?_⟩
      refine ⟨_, rfl, rfl, _, rfl, if_false_of (no 7 5 (by decide)) ?_⟩
      refine ⟨_, rfl, rfl, _, rfl, if_false_of (no 7 6 (by decide)) ?_⟩
      refine ⟨_, rfl, rfl, _, rfl, iteT ?_⟩
      refine ⟨_, rfl, s, dx, _, rfl, so, sf_no, ?_⟩
      exact ⟨N, s, h, rfl, S, q⟩
    | l r l =>
      refine ⟨_, rfl, rfl, _, rfl, if_false_of (no 8 1 (by decide)) ?_⟩
      refine ⟨_, rfl, rfl, _, rfl, if_false_of (no 8 2 (by decide)) ?_⟩
      refine ⟨_, rfl, rfl, _, rfl, if_false_of (no 8 3 (by decide)) ?_⟩
      refine ⟨_, rfl, rfl, _, rfl, if_false_of (no 8 4 (by decide)) ?_⟩
      refine ⟨_, rfl, rfl, _, rfl, if_false_of (no 8 5 (by decide)) ?_⟩
      refine ⟨_, rfl, rfl, _, rfl, if_false_of (no 8 6 (by decide)) ?_⟩
      refine ⟨_, rfl, rfl, _, rfl, if_false_of (no 8 7 (by decide)) ?_⟩
      refine ⟨_, rfl, rfl, _, rfl, iteT ?_⟩
      refine ⟨_, rfl, s, dx, _, rfl, so, sf_no, _, rfl, av, _, _, _, rfl, rfl, sqL_of hv, rfl, _, rfl, ?_⟩
      exact ⟨N, s, r, a, l, h, rfl, S, sqL_of ha, q⟩
    | g l =>
      refine ⟨_, rfl, rfl, _, rfl, if_false_of (no 9 1 (by decide)) ?_⟩
      refine ⟨_, rfl, rfl, _, rfl, if_false_of (no 9 2 (by decide)) ?_⟩
      refine ⟨_, rfl, rfl, _, rfl, if_false_of (no 9 3 (by decide)) ?_⟩
      refine ⟨_, rfl, rfl, _, rfl, if_false_of (no 9 4 (by decide)) ?_⟩
      refine ⟨_, rfl, rfl, _, rfl, if_false_of (no 9 5 (by decide)) ?_⟩
      refine ⟨_, rfl, rfl, _, rfl, if_false_of (no 9 6 (by decide)) ?_⟩
      refine ⟨_, rfl, rfl, _, rfl, if_false_of (no 9 7 (by decide)) ?_⟩
      refine ⟨_, rfl, rfl, _, rfl, if_false_of (no 9 8 (by decide)) ?_⟩
      refine ⟨_, rfl, s, dx, _, rfl, so, sf_no, _, rfl, ?_⟩
      exact ⟨N, s, a, l, h, rfl, S, ha, q⟩
end
end Mp

-- MpAns
set_option maxRecDepth 100000
set_option maxHeartbeats 8000000
set_option exponentiation.threshold 3000
/-! The calls, one behind another, from one list. -/
namespace Mp
open PySem PySem.Spec PyProof.Rows L2
open Sq17 (Piece Word House)

/-- how many numbers and rows a call has -/
def formOf : Nat → Nat × Nat
  | 1 => (1, 0)
  | 2 => (4, 1)
  | 3 => (0, 1)
  | 4 => (0, 0)
  | 5 => (2, 1)
  | 6 => (1, 0)
  | 7 => (0, 0)
  | 8 => (1, 1)
  | _ => (0, 1)
structure Txf (K : PySem.W.Frag) (mg : Str → Option Value) : Prop where
  FORMS : ∃ (a : Addr) (es : List DictEntry), mg "FORMS" = some (.ref a) ∧ DInt K a es ∧ ∀ k : Nat, 1 ≤ k → k ≤ 9 → ∃ t : Addr, (es.find? fun e => keyIs (.inl (k : Int)) e.key).map (·.val) = some (.ref t) ∧ ∀ H, SqT K H t [iv (formOf k).1, iv (formOf k).2]
/-- one call of the list -/
structure Rec where
  k : Nat
  ns : List Nat
  row : List Nat
  x : Sq17.Call
structure RecOk (r : Rec) : Prop where
  is : CallIs r.k r.ns r.row r.x
  l : r.row.length ≤ 1024
def Rec.flat (r : Rec) : List Nat := r.k :: (r.ns ++ (if (formOf r.k).2 = 1 then r.row.length :: r.row else []))
def flatR : List Rec → List Nat
  | [] => []
  | r :: rs => r.flat ++ flatR rs
def ansOf (h : House) (x : Sq17.Call) : List Int := (h.step x).2.value :: (h.step x).2.out
def toldOf : House → List Rec → List Int
  | _, [] => []
  | h, r :: rs => ((ansOf h r.x).length : Int) :: (ansOf h r.x ++ toldOf (h.step r.x).1 rs)
theorem CallIs.form {k : Nat} {ns l : List Nat} {x : Sq17.Call} (h : CallIs k ns l x) : 1 ≤ k ∧ k ≤ 9 ∧ (formOf k).1 = ns.length ∧ ((formOf k).2 = 1 ∨ ((formOf k).2 = 0 ∧ l = [])) := by
  cases h <;> simp [formOf]
theorem SqL.kept {K : PySem.W.Frag} {H H' : Hp} {a : Addr} {xs : List V} (h : SqL K H a xs) (k : ∀ o, H a = some o → H' a = some o) : SqL K H' a xs := by
  rcases h with (h | ⟨o, h⟩) | h
  · exact .inl (.inl (k _ h))
  · exact .inl (.inr ⟨o, k _ h⟩)
  · exact .inr h
def spAnswers (K : PySem.W.Frag) : Sp := fun vs H Q _ => ∃ (a : Addr) (rs : List Rec), vs = [.ref a] ∧ SqL K H a (ivs (flatR rs)) ∧ (∀ r ∈ rs, RecOk r) ∧ (toldOf Sq17.fresh rs).length ≤ 10000000 ∧ ∀ H' p, H' p = some (.lst ((toldOf Sq17.fresh rs).map V.int)) → Q (.ref p) H'
/-- where the loop stands -/
structure LoopA (c : Cc) (N : Addr → Prop) (H : Hp) (a s told : Addr) (all pre : List Nat) (rest : List Rec) (T total : List Int) (h : House) (H' : Hp) : Prop where
  e : all = pre ++ flatR rest
  ok : ∀ r ∈ rest, RecOk r
  S : SessIn N c H' s h
  t : H' told = some (.lst (T.map V.int))
  a : ∀ o, H a = some o → H' a = some o
  o : T ++ toldOf h rest = total
section
variable {P : Program} {w : World} {K : PySem.W.Frag} {mg : Str → Option Value} {base : Heap} {c : Cc}
theorem scAnswers : FnScope ["calls", "session", "told", "at", "call", "numbers", "rows", "start", "values", "row", "answer"] ["calls"] (defScope sAnswers) := ⟨rfl, rfl, rfl, by decide +kernel, rfl, by decide +kernel, by decide +kernel⟩
theorem ok_answers {f f1 f2 : Addr} {fd fd1 fd2 : FuncData} (F : Fun K "answers" "answers" sAnswers f fd) (T : Cs K c.S) (TX : Txt K mg) (TF : Txf K mg)
    (MS : Mk K c.S f1) (FS : Fun K "__init__" "Session.__init__" sSInit f1 fd1) (bS : Binds K fd1 ["self"] []) (gS : mg "Session" = some (.ref c.S))
    (D2 : Df K mg "answer_call" sAnswerCall ["session", "call", "values", "row"] f2 fd2) (G2 : FnOk P w K mg base CX0 12 f2 fd2 ["session", "call", "values", "row"] (spAnswerCall K c)) :
    FnOk P w K mg base CX0 13 f fd ["calls"] (spAnswers K) := by
  obtain ⟨aF, es, mF, dF, kF⟩ := TF.FORMS
  have GS : FnOk P w K mg base CX0 1 f1 fd1 ["self"] (spSInit c.S) := ok_sInit FS T
  refine F.ok scAnswers (fun vs H Q E h => ?_) (fun cdv A outer s H vs Q E hr h => ?_)
  · obtain ⟨a, rs, rfl, _⟩ := h; rfl
  · obtain ⟨a, rs, rfl, la, hok, htl, k⟩ := h
    have nd := scAnswers.nd
    have hr2 : Room 2 _ := hr.mono (by decide)
    have big : (10000000 : Nat) < sizeLine := by decide
    refine ⟨_, (L2.pss_cons (L2.ps_set (i := 1) nd rfl (Or.inl rfl) (pe_make0 MS GS hr2 (by rfl) gS bS .nil L2.pass0))
      (L2.pss_cons (L2.ps_set (i := 2) nd rfl (Or.inl rfl) (pe_lst L2.pa_nil))
      (L2.pss_cons (L2.ps_set (i := 3) nd rfl (Or.inl rfl) pe_int)
      (L2.pss_cons (ps_while PassesOwn.never ((L2.pt_cmpR op_lt (pv 3) (L2.pe_callB L2.call_len_seq (by rfl) TX.len PySem.boot_len (L2.pa_cons (pv 0) L2.pa_nil)) (L2.nomark _))) (L2.pss_cons (L2.ps_set (i := 4) nd rfl (Or.inl rfl) (L2.pe_ix L2.ix_list (pv 0) (pv 3) (fun _ _ => rfl)))
      (L2.pss_cons (ps_asg (pe_ix ix_dint (pe_glob (v := .ref aF) rfl mF rfl) (pv 4) (fun _ _ => rfl)) (pg_tup rfl (pgs_cons (pg_name (i := 5) nd rfl (Or.inl rfl)) (pgs_cons (pg_name (i := 6) nd rfl (Or.inl rfl)) pgs_nil))))
      (L2.pss_cons (L2.ps_set (i := 7) nd rfl (Or.inl rfl) (pe_op op_add (pe_op op_add (pv 3) pe_int) (pv 5)))
      (L2.pss_cons (L2.ps_set (i := 8) nd rfl (Or.inl rfl) (pe_slice sl_list (pv 0) (po_some (pe_op op_add (pv 3) pe_int)) (po_some (pv 7))))
      (L2.pss_cons (L2.ps_set (i := 9) nd rfl (Or.inl rfl) (pe_lst L2.pa_nil))
      (L2.pss_cons (L2.ps_set (i := 3) nd rfl (Or.inl rfl) (pv 7))
      (L2.pss_cons (L2.ps_if (L2.pt_cmpR op_eq (pv 6) pe_int (L2.nomark _)) (L2.pss_cons (L2.ps_set (i := 3) nd rfl (Or.inl rfl) (pe_op op_add (pe_op op_add (pv 7) pe_int) ((L2.pe_ix L2.ix_list (pv 0) (pv 7) (fun _ _ => rfl)))))
      (L2.pss_one (L2.ps_set (i := 9) nd rfl (Or.inl rfl) (pe_slice sl_list (pv 0) (po_some (pe_op op_add (pv 7) pe_int)) (po_some (pv 3)))))) L2.pss_nil)
      (L2.pss_cons (L2.ps_set (i := 10) nd rfl (Or.inl rfl) (L2.pe_call G2 hr (by rfl) (Mp.Df.g D2) (Mp.Df.F D2).kp (Mp.Df.b D2) .nil L2.pass0 (L2.pa_cons (pv 1) (L2.pa_cons (pv 4) (L2.pa_cons (pv 8) (L2.pa_cons (pv 9) L2.pa_nil))))))
      (L2.pss_cons (ps_expr (pe_bm PySem.F.plainAttrs_list PySem.F.slot_list_append PySem.F.type_list_append mt_append (pv 2) (L2.pa_cons (L2.pe_callB L2.call_len_seq (by rfl) TX.len PySem.boot_len (L2.pa_cons (pv 10) L2.pa_nil)) L2.pa_nil)))
      (L2.pss_one (ps_expr (pe_bm PySem.F.plainAttrs_list PySem.F.slot_list_extend PySem.F.type_list_extend mt_extend (pv 2) (L2.pa_cons (pv 10) L2.pa_nil))))))))))))))
      (L2.pss_one (ps_ret (pv 2))))))), ?_⟩
    -- a house
    refine fun x dx nx ndx hne => ?_
    have sm1 : Same H (upd (upd H dx (.own x)) x (.ins c.S dx [])) := fun b o e => by rw [upd_ne (ne_of_none e nx), upd_ne (ne_of_none e ndx)]; exact e
    have x1 : upd (upd H dx (.own x)) x (.ins c.S dx []) x = some (.ins c.S dx []) := upd_same
    generalize upd (upd H dx (.own x)) x (.ins c.S dx []) = H1 at *
    refine ⟨x, dx, rfl, x1, fun H2 ar aw ap h2 r2 w2 p2 nar naw nap as2 => ⟨rfl, ?_⟩⟩
    have sm2 : Same H H2 := fun b o e => as2 b o (sm1 _ _ e) (ne_of_none e nx)
    have nar0 := sm1.free nar
    have naw0 := sm1.free naw
    have nap0 := sm1.free nap
    dsimp only [gName]
    refine ⟨Nat.zero_le _, fun told htold => ?_⟩
    have sm3 := Same.upd (.lst []) htold
    have t3 : upd H2 told (.lst []) told = some (.lst []) := upd_same
    have ntold := sm2.free htold
    have told_ar : told ≠ ar := (ne_of_none r2 htold).symm
    have told_aw : told ≠ aw := (ne_of_none w2 htold).symm
    have told_ap : told ≠ ap := (ne_of_none p2 htold).symm
    have told_x : told ≠ x := (ne_of_none h2 htold).symm
    generalize upd H2 told (.lst []) = H3 at *
    -- the others' lists: what's told, and the calls
    obtain ⟨N, hN⟩ : ∃ N : Addr → Prop, ∀ b, N b ↔ b = told ∨ (b = a ∧ H a ≠ none) := ⟨fun b => b = told ∨ (b = a ∧ H a ≠ none), fun _ => Iff.rfl⟩
    have Nt : N told := (hN told).mpr (.inl rfl)
    have S3 : SessIn N c H3 x Sq17.fresh := by
      refine ⟨⟨fun _ => none, fun b => N b ∨ b = ar⟩, dx, ar, aw, ap, [], [], [], sm3 _ _ h2, fun d tab e => (by cases e), fun b n => ?_, fun b n z => ?_, .inr rfl, sm3 _ _ r2, trivial, by simp, rfl, Nat.zero_le _, sm3 _ _ w2, rfl, sm3 _ _ p2, trivial, Nat.zero_le _⟩
      · rcases (hN b).mp n with rfl | ⟨rfl, e⟩
        · exact ⟨.inl n, told_ar, told_aw, told_ap, rfl, told_x⟩
        · exact ⟨.inl n, fun z => e (by rw [z]; exact nar0), fun z => e (by rw [z]; exact naw0), fun z => e (by rw [z]; exact nap0), rfl, fun z => e (by rw [z]; exact nx)⟩
      · rcases (hN b).mp n with rfl | ⟨rfl, e⟩
        · rw [t3] at z; cases z
        · exact e (sm2.free (sm3.free z))
    have sm03 := sm2.trans sm3
    refine while_by (fun σ H' => ∃ (pre : List Nat) (rest : List Rec) (T : List Int) (h : House) (v4 v5 v6 v7 v8 v9 v10 : Option V), σ = [some (.ref a), some (.ref x), some (.ref told), some (iv pre.length), v4, v5, v6, v7, v8, v9, v10] ∧ LoopA c N H a x told (flatR rs) pre rest T (toldOf Sq17.fresh rs) h H') (sameMu (flatR rs).length 3)
      ⟨[], rs, [], Sq17.fresh, none, none, none, none, none, none, none, rfl, rfl, hok, S3, t3, fun o e => sm03 _ _ e, rfl⟩ ?_ (fun σ H Q Q' m ⟨v, hv, u, hu, p, ys, e, t, i, j, e1, e2, b, eb, q⟩ => ⟨v, hv, u, hu, p, ys, e, t, i, j, e1, e2, b, eb, m _ _ q⟩)
    · rintro σ H4 ⟨pre, rest, T, h, v4, v5, v6, v7, v8, v9, v10, rfl, L⟩
      have la4 := SqL.kept la L.a
      refine ⟨_, rfl, _, rfl, a, _, rfl, .inl la4, _, _, rfl, rfl, _, rfl, ?_⟩
      rw [ivs_len]
      cases rest with
      | nil =>
        have e : flatR rs = pre := by rw [L.e]; exact List.append_nil _
        rw [show decide ((pre.length : Int) < ((flatR rs).length : Int)) = false from decide_eq_false (by rw [e]; omega)]
        refine iteF ⟨_, rfl, k H4 told ?_⟩
        have eo : T = toldOf Sq17.fresh rs := by rw [← L.o]; exact (List.append_nil _).symm
        rw [← eo]; exact L.t
      | cons r rest =>
        have hro := L.ok r List.mem_cons_self
        obtain ⟨k1, k9, q1, q2⟩ := hro.is.form
        obtain ⟨t, ht, hT⟩ := kF r.k k1 k9
        have fl : r.flat = r.k :: (r.ns ++ (if (formOf r.k).2 = 1 then r.row.length :: r.row else [])) := rfl
        have e0 : flatR rs = pre ++ r.flat ++ flatR rest := by rw [L.e, List.append_assoc]; rfl
        have e1 : flatR rs = (pre ++ [r.k]) ++ (r.ns ++ ((if (formOf r.k).2 = 1 then r.row.length :: r.row else []) ++ flatR rest)) := by rw [e0, fl]; simp
        have hlt : pre.length < (flatR rs).length := by rw [e1]; simp
        have g0 : (flatR rs)[pre.length]? = some r.k := by rw [e0, fl]; simp
        have g1 : ((flatR rs).drop (pre.length + 1)).take r.ns.length = r.ns := by
          rw [e1, List.drop_left' (by simp), List.take_left' rfl]
        rw [show decide ((pre.length : Int) < ((flatR rs).length : Int)) = true from decide_eq_true (by omega)]
        refine iteT ⟨_, rfl, _, rfl, a, _, _, _, rfl, rfl, la4, atI_nat (ivs_at g0), ?_⟩
        dsimp only [gName]
        refine ⟨_, rfl, aF, _, es, .ref t, _, rfl, rfl, dF, ht, rfl, t, _, rfl, hT H4, rfl, _, _, rfl, _, _, rfl, rfl, ?_⟩
        dsimp only [gName]
        refine ⟨_, rfl, _, _, rfl, rfl, _, rfl, _, _, rfl, rfl, ?_⟩
        rw [q1]
        refine ⟨_, rfl, _, rfl, _, _, rfl, rfl, _, rfl, _, rfl, _, rfl, a, _, rfl, la4, fun av hav => ?_⟩
        rw [show ((pre.length : Int) + 1) = ((pre.length + 1 : Nat) : Int) from rfl, ← Int.natCast_add, cut_both, Nat.add_sub_cancel_left, ivs_drop, ivs_take, g1]
        have s5 := Same.upd (.lst (ivs r.ns)) hav
        have v5' : upd H4 av (.lst (ivs r.ns)) av = some (.lst (ivs r.ns)) := upd_same
        generalize upd H4 av (.lst (ivs r.ns)) = H5 at *
        refine ⟨Nat.zero_le _, fun ar0 har0 => ?_⟩
        have s6 := Same.upd (.lst []) har0
        have r6 : upd H5 ar0 (.lst []) ar0 = some (.lst []) := upd_same
        generalize upd H5 ar0 (.lst []) = H6 at *
        have s46 := s5.trans s6
        refine ⟨_, rfl, ?_⟩
        dsimp only [gName]
        refine if_to (fun σ H7 => ∃ (v7 : Option V) (ra : Addr), σ = [some (.ref a), some (.ref x), some (.ref told), some (iv (pre ++ r.flat).length), some (iv r.k), some (iv r.ns.length), some (iv (formOf r.k).2), v7, some (.ref av), some (.ref ra), v10] ∧ H7 av = some (.lst (ivs r.ns)) ∧ H7 ra = some (.lst (ivs r.row)) ∧ Same H4 H7 ∧ H4 ra = none) (fun go => ?_) ?_
        · refine ⟨_, rfl, rfl, _, rfl, ?_⟩
          rw [show decide (V.int ((formOf r.k).2 : Int) = V.int 1) = decide ((formOf r.k).2 = 1) from dec_iv _ 1]
          rcases q2 with q2 | ⟨q2, q3⟩
          · have e2 : flatR rs = (pre ++ r.k :: r.ns) ++ (r.row.length :: (r.row ++ flatR rest)) := by rw [e1, if_pos q2]; simp
            have e3 : flatR rs = (pre ++ r.k :: (r.ns ++ [r.row.length])) ++ (r.row ++ flatR rest) := by rw [e2]; simp
            have g2 : (flatR rs)[pre.length + 1 + r.ns.length]? = some r.row.length := by
              rw [e2, List.getElem?_append_right (by simp; omega), show pre.length + 1 + r.ns.length - (pre ++ r.k :: r.ns).length = 0 from by simp; omega]; rfl
            have g3 : ((flatR rs).drop (pre.length + 1 + r.ns.length + 1)).take r.row.length = r.row := by
              rw [e3, List.drop_left' (by simp; omega), List.take_left' rfl]
            have g4 : (pre ++ r.flat).length = pre.length + 1 + r.ns.length + 1 + r.row.length := by rw [fl, if_pos q2]; simp; omega
            rw [decide_eq_true q2]
            refine iteT ⟨_, rfl, _, _, rfl, rfl, _, rfl, _, rfl, a, _, _, _, rfl, rfl, SqL.kept la4 (fun o e => s46 _ _ e), atI_nat (ivs_at g2), _, _, rfl, rfl, ?_⟩
            dsimp only [gName]
            refine ⟨_, rfl, _, rfl, _, _, rfl, rfl, _, rfl, _, rfl, _, rfl, a, _, rfl, SqL.kept la4 (fun o e => s46 _ _ e), fun ra hra => ?_⟩
            rw [show (((pre.length + 1 : Nat) : Int) + (r.ns.length : Int) + 1) = ((pre.length + 1 + r.ns.length + 1 : Nat) : Int) from rfl, ← Int.natCast_add (pre.length + 1 + r.ns.length + 1) r.row.length, cut_both, Nat.add_sub_cancel_left, ivs_drop, ivs_take, g3]
            have s7 := Same.upd (.lst (ivs r.row)) hra
            exact go _ _ ⟨_, ra, by rw [g4]; rfl, s7 _ _ (s6 _ _ v5'), upd_same, s46.trans s7, s46.free hra⟩
          · have g4 : (pre ++ r.flat).length = pre.length + 1 + r.ns.length := by rw [fl, if_neg (by omega)]; simp; omega
            rw [decide_eq_false (by omega)]
            exact iteF (go _ _ ⟨_, ar0, by rw [g4]; rfl, s6 _ _ v5', by rw [q3]; exact r6, s46, s5.free har0⟩)
        rintro σ H7 ⟨v7, ra, rfl, hv7, hr7, s47, nra⟩
        have ntl : H4 told ≠ none := by rw [L.t]; simp
        obtain ⟨G, dxs, ar', aw', ap', rs', qs', xs', S'⟩ := L.S
        have S7 : SessIn N c H7 x h := ⟨G, dxs, ar', aw', ap', rs', qs', xs', S'.go (.of S'.w s47)⟩
        have notN : ¬ N ra := fun n => S'.nt ra n nra
        refine ⟨_, rfl, _, rfl, _, rfl, _, rfl, N, x, av, ra, r.k, r.ns, r.row, h, r.x, rfl, S7, hv7, hr7, notN, hro.l, hro.is, fun H8 ans S8 kp nans hans => ?_⟩
        dsimp only [gName]
        have t8 : H8 told = some (.lst (T.map V.int)) := kp _ _ Nt (s47 _ _ L.t)
        have a8 : ∀ o, H a = some o → H8 a = some o := fun o e => kp _ _ ((hN a).mpr (.inr ⟨rfl, by rw [e]; simp⟩)) (s47 _ _ (L.a o e))
        have at' : ∀ o, H a = some o → a ≠ told := fun o e z => by subst z; rw [e] at ntold; cases ntold
        have hans : H8 ans = some (.lst ((ansOf h r.x).map V.int)) := hans
        have eo : T ++ ((ansOf h r.x).length : Int) :: (ansOf h r.x ++ toldOf (h.step r.x).1 rest) = toldOf Sq17.fresh rs := L.o
        have hlen : T.length + 1 + (ansOf h r.x).length ≤ 10000000 := by
          rw [← eo] at htl
          simp only [List.length_append, List.length_cons] at htl
          omega
        have ta : told ≠ ans := ne_of_none (s47 _ _ L.t) nans
        refine ⟨_, rfl, .inl ⟨rfl, _, sqL_of t8⟩, _, rfl, ans, _, rfl, .inl (sqL_of hans), told, _, _, rfl, rfl, t8, by rw [List.length_map]; omega, ?_⟩
        have S9 := SessIn.other (.lst (T.map V.int ++ [V.int (((ansOf h r.x).map V.int).length : Nat)])) S8 Nt ⟨_, t8⟩
        have t9 : upd H8 told (.lst (T.map V.int ++ [V.int (((ansOf h r.x).map V.int).length : Nat)])) told = some (.lst (T.map V.int ++ [V.int (((ansOf h r.x).map V.int).length : Nat)])) := upd_same
        have h9 : upd H8 told (.lst (T.map V.int ++ [V.int (((ansOf h r.x).map V.int).length : Nat)])) ans = some (.lst ((ansOf h r.x).map V.int)) := by rw [upd_ne ta.symm]; exact hans
        have a9 : ∀ o, H a = some o → upd H8 told (.lst (T.map V.int ++ [V.int (((ansOf h r.x).map V.int).length : Nat)])) a = some o := fun o e => by rw [upd_ne (at' o e)]; exact a8 o e
        generalize upd H8 told (.lst (T.map V.int ++ [V.int (((ansOf h r.x).map V.int).length : Nat)])) = H9 at *
        refine ⟨_, rfl, .inl ⟨rfl, _, sqL_of t9⟩, _, rfl, told, ans, _, _, rfl, rfl, t9, h9, by simp only [List.length_append, List.length_map, List.length_cons, List.length_nil]; omega, ?_⟩
        have S10 := SessIn.other (.lst (T.map V.int ++ [V.int (((ansOf h r.x).map V.int).length : Nat)] ++ (ansOf h r.x).map V.int)) S9 Nt ⟨_, t9⟩
        refine ⟨⟨pre ++ r.flat, rest, T ++ ((ansOf h r.x).length : Int) :: ansOf h r.x, (h.step r.x).1, _, _, _, v7, _, _, _, rfl, e0, fun q hq => L.ok q (List.mem_cons_of_mem _ hq), S10, ?_, fun o e => by rw [upd_ne (at' o e)]; exact a9 o e, ?_⟩, ?_⟩
        · rw [upd_same, List.length_map]; simp
        · rw [← eo]; simp
        · have : pre.length < (pre ++ r.flat).length := by rw [fl]; simp
          show (flatR rs).length - (pre ++ r.flat).length < (flatR rs).length - pre.length
          omega
end
end Mp

-- MpAll
set_option maxRecDepth 100000
set_option maxHeartbeats 8000000
/-! What the top has written: all of it together. -/
namespace Mp
open PySem PySem.Spec PyProof.Rows L2

def HasDf (K : PySem.W.Frag) (x : Str) (st : Stmt) : Prop := ∃ f, PySem.W.nsIn K mainGlobals x = some (some (.ref f)) ∧ ∃ fd, Fun K x x st f fd
def HasDm (K : PySem.W.Frag) (C : Addr) (x qual : Str) (st : Stmt) : Prop := ∃ f, PySem.W.findIn K (.ref C) x = some (some (.ref f)) ∧ PySem.W.isFn K (.ref f) = true ∧ ∃ fd, Fun K x qual st f fd
def HasC (K : PySem.W.Frag) (x : Str) (C : Addr) : Prop := PySem.W.nsIn K mainGlobals x = some (some (.ref C))
def HasMk (K : PySem.W.Frag) (C : Addr) : Prop := PySem.W.makesIn K C = true ∧ PySem.W.keepIn K (.ref C) = true
def HasI (K : PySem.W.Frag) (x : Str) (n : Int) : Prop := ∃ t, PySem.W.nsIn K mainGlobals x = some (some (.int n t))
def HasNo (K : PySem.W.Frag) (x : Str) : Prop := PySem.W.nsIn K mainGlobals x = some none
def HasPair (K : PySem.W.Frag) (t : Addr) (n r : Int) : Prop := ∃ u v m, K.lookup t = some { cls := .type "tuple", data := .seq #[.int n u, .int r v] m }
def HasInner (K : PySem.W.Frag) : Prop := ∃ (a : Addr) (its : Array Value) (n : Nat), PySem.W.nsIn K mainGlobals "INNER" = some (some (.ref a)) ∧ K.lookup a = some { cls := .type "tuple", data := .seq its n } ∧ Vals (ivs [0, 0, 0, 2, 2, 1, 1, 1, 0]) its.toList
structure IsForm (K : PySem.W.Frag) (e : DictEntry) (i n r : Int) : Prop where
  k : ∃ t, e.key = .int i t
  h : e.hash = hashInt i
  v : ∃ t, e.val = .ref t ∧ HasPair K t n r
def HasForms (K : PySem.W.Frag) : Prop := ∃ (a : Addr) (e1 e2 e3 e4 e5 e6 e7 e8 e9 : DictEntry) (n : Nat), PySem.W.nsIn K mainGlobals "FORMS" = some (some (.ref a)) ∧ K.lookup a = some { cls := .type "dict", data := .dict #[e1, e2, e3, e4, e5, e6, e7, e8, e9] n } ∧
  IsForm K e1 1 1 0 ∧ IsForm K e2 2 4 1 ∧ IsForm K e3 3 0 1 ∧ IsForm K e4 4 0 0 ∧ IsForm K e5 5 2 1 ∧ IsForm K e6 6 1 0 ∧ IsForm K e7 7 0 0 ∧ IsForm K e8 8 1 1 ∧ IsForm K e9 9 0 1
theorem HasI.mk {K : PySem.W.Frag} {x : Str} {n : Int} {t : Tok} (h : PySem.W.nsIn K mainGlobals x = some (some (.int n t))) : HasI K x n := ⟨t, h⟩
theorem HasPair.mk {K : PySem.W.Frag} {a : Addr} {n r : Int} {u v : Tok} {m : Nat} (h : K.lookup a = some { cls := .type "tuple", data := .seq #[.int n u, .int r v] m }) : HasPair K a n r := ⟨u, v, m, h⟩
theorem HasInner.mk {K : PySem.W.Frag} {a : Addr} {its : Array Value} {n : Nat} (h : PySem.W.nsIn K mainGlobals "INNER" = some (some (.ref a))) (l : K.lookup a = some { cls := .type "tuple", data := .seq its n }) (v : Vals (ivs [0, 0, 0, 2, 2, 1, 1, 1, 0]) its.toList) : HasInner K := ⟨a, its, n, h, l, v⟩
theorem HasForms.mk {K : PySem.W.Frag} {a : Addr} {e1 e2 e3 e4 e5 e6 e7 e8 e9 : DictEntry} {n : Nat} (h : PySem.W.nsIn K mainGlobals "FORMS" = some (some (.ref a))) (l : K.lookup a = some { cls := .type "dict", data := .dict #[e1, e2, e3, e4, e5, e6, e7, e8, e9] n })
    (f1 : IsForm K e1 1 1 0) (f2 : IsForm K e2 2 4 1) (f3 : IsForm K e3 3 0 1) (f4 : IsForm K e4 4 0 0) (f5 : IsForm K e5 5 2 1) (f6 : IsForm K e6 6 1 0) (f7 : IsForm K e7 7 0 0) (f8 : IsForm K e8 8 1 1) (f9 : IsForm K e9 9 0 1) : HasForms K := ⟨a, e1, e2, e3, e4, e5, e6, e7, e8, e9, n, h, l, f1, f2, f3, f4, f5, f6, f7, f8, f9⟩
theorem IsForm.mk2 {K : PySem.W.Frag} {i n r q : Int} {t : Tok} {a : Addr} (hq : q = hashInt i) (h : HasPair K a n r) : IsForm K ⟨q, .int i t, .ref a⟩ i n r := ⟨⟨t, rfl⟩, hq, a, rfl, h⟩
theorem keyIs_int (i j : Int) (t : Tok) : keyIs (.inl i) (.int j t) = (j == i) := rfl
theorem HasPair.sq {K : PySem.W.Frag} {t : Addr} {n r : Nat} (h : HasPair K t n r) (H : Hp) : SqT K H t [iv n, iv r] := by
  obtain ⟨u, v, m, e⟩ := h
  exact .inr ⟨_, _, m, e, rfl, rfl, by show 2 ≤ sizeLine; decide, .cons ⟨_, rfl⟩ (.cons ⟨_, rfl⟩ .nil)⟩
section
variable {P : Program} {w : World} {K : PySem.W.Frag} {h : Heap} {mg : Str → Option Value}
theorem HasForms.ok (X : K.In h) (G : h.Ns mainGlobals mg) (f : HasForms K) : Txf K mg := by
  obtain ⟨a, e1, e2, e3, e4, e5, e6, e7, e8, e9, n, g, l, f1, f2, f3, f4, f5, f6, f7, f8, f9⟩ := f
  obtain ⟨⟨k1, q1⟩, h1, t1, v1, p1⟩ := f1
  obtain ⟨⟨k2, q2⟩, h2, t2, v2, p2⟩ := f2
  obtain ⟨⟨k3, q3⟩, h3, t3, v3, p3⟩ := f3
  obtain ⟨⟨k4, q4⟩, h4, t4, v4, p4⟩ := f4
  obtain ⟨⟨k5, q5⟩, h5, t5, v5, p5⟩ := f5
  obtain ⟨⟨k6, q6⟩, h6, t6, v6, p6⟩ := f6
  obtain ⟨⟨k7, q7⟩, h7, t7, v7, p7⟩ := f7
  obtain ⟨⟨k8, q8⟩, h8, t8, v8, p8⟩ := f8
  obtain ⟨⟨k9, q9⟩, h9, t9, v9, p9⟩ := f9
  refine ⟨a, [e1, e2, e3, e4, e5, e6, e7, e8, e9], PySem.W.mg_of X G g, ⟨⟨n, l⟩, fun e he => ?_⟩, fun k k1' k9' => ?_⟩
  · simp only [List.mem_cons, List.not_mem_nil, or_false] at he
    rcases he with rfl | rfl | rfl | rfl | rfl | rfl | rfl | rfl | rfl
    · exact ⟨_, _, q1, h1⟩
    · exact ⟨_, _, q2, h2⟩
    · exact ⟨_, _, q3, h3⟩
    · exact ⟨_, _, q4, h4⟩
    · exact ⟨_, _, q5, h5⟩
    · exact ⟨_, _, q6, h6⟩
    · exact ⟨_, _, q7, h7⟩
    · exact ⟨_, _, q8, h8⟩
    · exact ⟨_, _, q9, h9⟩
  · simp only [List.find?_cons, q1, q2, q3, q4, q5, q6, q7, q8, q9, keyIs_int]
    have hk : k = 1 ∨ k = 2 ∨ k = 3 ∨ k = 4 ∨ k = 5 ∨ k = 6 ∨ k = 7 ∨ k = 8 ∨ k = 9 := by omega
    rcases hk with rfl | rfl | rfl | rfl | rfl | rfl | rfl | rfl | rfl
    · exact ⟨t1, congrArg some v1, p1.sq⟩
    · exact ⟨t2, congrArg some v2, p2.sq⟩
    · exact ⟨t3, congrArg some v3, p3.sq⟩
    · exact ⟨t4, congrArg some v4, p4.sq⟩
    · exact ⟨t5, congrArg some v5, p5.sq⟩
    · exact ⟨t6, congrArg some v6, p6.sq⟩
    · exact ⟨t7, congrArg some v7, p7.sq⟩
    · exact ⟨t8, congrArg some v8, p8.sq⟩
    · exact ⟨t9, congrArg some v9, p9.sq⟩
theorem HasInner.ok (X : K.In h) (G : h.Ns mainGlobals mg) (f : HasInner K) : ∃ a, mg "INNER" = some (.ref a) ∧ ∀ H, SqT K H a (ivs [0, 0, 0, 2, 2, 1, 1, 1, 0]) := by
  obtain ⟨a, its, n, g, l, v⟩ := f
  refine ⟨a, PySem.W.mg_of X G g, fun H => .inr ⟨_, its, n, l, rfl, rfl, ?_, v⟩⟩
  have e := v.length
  simp only [Array.length_toList] at e
  rw [← e]; show 9 ≤ sizeLine; decide
theorem HasI.ok {x : Str} {n : Int} (X : K.In h) (G : h.Ns mainGlobals mg) (f : HasI K x n) : ∃ t, mg x = some (.int n t) := by
  obtain ⟨t, f⟩ := f
  exact ⟨t, PySem.W.mg_of X G f⟩
/-- how a def's arguments bind -/
def Ar (x qual : Str) (st : Stmt) (ps : List Str) : Prop := ∀ (kV doc pm : Value) (an : Option Addr) (cdv ct : Value) (us : List Value), us.length = ps.length → bindArgs (PySem.W.fnOf x qual (defArgs st) (defBody st) (defScope st) .none kV doc pm an cdv ct) ⟨us, []⟩ = pure (ps.zip us)
theorem HasDf.ok {x : Str} {st : Stmt} {ps : List Str} (X : K.In h) (G : h.Ns mainGlobals mg) (d : HasDf K x st) (b : Ar x x st ps) : ∃ f fd, Df K mg x st ps f fd := by
  obtain ⟨f, g, fd, F⟩ := d
  exact ⟨f, fd, F, F.binds b, PySem.W.mg_of X G g⟩
theorem HasDm.ok {C : Addr} {x qual : Str} {st : Stmt} {ps : List Str} (d : HasDm K C x qual st) (b : Ar x qual st ps) : ∃ f fd, Dm K C x qual st ps f fd := by
  obtain ⟨f, g, i, fd, F⟩ := d
  exact ⟨f, fd, F, F.binds b, ⟨g, i, F.kp⟩⟩
theorem HasMk.ok {C f : Addr} {qual : Str} {st : Stmt} {ps : List Str} {fd : FuncData} (d : HasMk K C) (D : Dm K C "__init__" qual st ps f fd) : Mk K C f := ⟨d.1, D.m.at_, D.m.fn, d.2⟩
end

theorem all_mk0 {P : Program} {w : World} {K : PySem.W.Frag} {h : Heap} {mg : Str → Option Value} {fa CW : Addr} {c : Cc} (X : K.In h) (G : h.Ns mainGlobals mg) (hfa : mg "answers" = some (.ref fa))
    (gL : HasC K "Links" c.L) (kL : HasMk K c.L) (tL : Cls K c.L) (nL0 : NoAttr K c.L "table") (nL1 : NoAttr K c.L "chunks")
    (gM : HasC K "Matcher" c.M) (kM : HasMk K c.M) (tM : Cls K c.M) (nM0 : NoAttr K c.M "behind") (nM1 : NoAttr K c.M "ahead") (nM2 : NoAttr K c.M "by_byte") (nM3 : NoAttr K c.M "empty") (nM4 : NoAttr K c.M "first") (nM5 : NoAttr K c.M "last")
    (gR : HasC K "Rule" c.R) (kR : HasMk K c.R) (tR : Cls K c.R) (nR0 : NoAttr K c.R "mode") (nR1 : NoAttr K c.R "kind") (nR2 : NoAttr K c.R "does") (nR3 : NoAttr K c.R "to") (nR4 : NoAttr K c.R "matcher")
    (gP : HasC K "Piece" c.P) (kP : HasMk K c.P) (tP : Cls K c.P) (nP0 : NoAttr K c.P "kind") (nP1 : NoAttr K c.P "place") (nP2 : NoAttr K c.P "length") (nP3 : NoAttr K c.P "modes") (nP4 : NoAttr K c.P "far")
    (gW : HasC K "Way" CW) (kW : HasMk K CW) (tW : Cls K CW) (nW0 : NoAttr K CW "places") (nW1 : NoAttr K CW "tail") (nW2 : NoAttr K CW "modes") (nW3 : NoAttr K CW "done")
    (gS : HasC K "Session" c.S) (kS : HasMk K c.S) (tS : Cls K c.S) (nS0 : NoAttr K c.S "modes_there") (nS1 : NoAttr K c.S "rules") (nS2 : NoAttr K c.S "row") (nS3 : NoAttr K c.S "pieces")
    (dspan : HasDf K "read_span" sReadSpan)
    (dmemb : HasDf K "read_members" sReadMembers)
    (dpart : HasDf K "read_part" sReadPart)
    (dpatt : HasDf K "read_pattern" sReadPattern)
    (dnoth : HasDf K "matches_nothing" sNothing)
    (deith : HasDf K "either" sEither)
    (dstin : HasDf K "steps_in" sStepsIn)
    (dbest : HasDf K "best_match" sBest)
    (dmodb : HasDf K "modes_behind" sModes)
    (dcuto : HasDf K "cut_one" sCutOne)
    (dcut_ : HasDf K "cut" sCut)
    (dsame : HasDf K "same_piece" sSame)
    (dcodd : HasDf K "count_odd" sCountOdd)
    (dahea : HasDf K "count_same_ahead" sAhead)
    (dbehi : HasDf K "count_same_behind" sBehind)
    (dwdof : HasDf K "word_of" sWordOf)
    (dwdin : HasDf K "words_in" sWordsIn)
    (drank : HasDf K "rank" sRank)
    (dmore : HasDf K "ways_with_one_more" sMore)
    (dplac : HasDf K "best_places" sBestPlaces)
    (dwrit : HasDf K "write" sWrite)
    (dmayb : HasDf K "may_be_text" sMayBe)
    (danca : HasDf K "answer_call" sAnswerCall)
    (dansw : HasDf K "answers" sAnswers)
    (mlini : HasDm K c.L "__init__" "Links.__init__" sLInit)
    (mladd : HasDm K c.L "add_step" "Links.add_step" sAddStep)
    (mllea : HasDm K c.L "lead" "Links.lead" sLead)
    (mlchu : HasDm K c.L "reached_from_chunk" "Links.reached_from_chunk" sChunk)
    (mlrea : HasDm K c.L "reached" "Links.reached" sReached)
    (mmini : HasDm K c.M "__init__" "Matcher.__init__" sMInit)
    (mmlin : HasDm K c.M "link" "Matcher.link" sLink)
    (mmsin : HasDm K c.M "single" "Matcher.single" sSingle)
    (mmseq : HasDm K c.M "sequence" "Matcher.sequence" sSequence)
    (mmrep : HasDm K c.M "repeated" "Matcher.repeated" sRepeated)
    (mmsha : HasDm K c.M "shape_of" "Matcher.shape_of" sShapeOf)
    (mmfit : HasDm K c.M "fitting" "Matcher.fitting" sFitting)
    (mmpro : HasDm K c.M "promising" "Matcher.promising" sPromising)
    (mmsca : HasDm K c.M "scan" "Matcher.scan" sScan)
    (mrini : HasDm K c.R "__init__" "Rule.__init__" sRInit)
    (mpini : HasDm K c.P "__init__" "Piece.__init__" sPInit)
    (mptol : HasDm K c.P "told" "Piece.told" sTold)
    (mwini : HasDm K CW "__init__" "Way.__init__" sWInit)
    (mwcut : HasDm K CW "cut_on" "Way.cut_on" sCutOn)
    (mwout : HasDm K CW "outlook" "Way.outlook" sOutlook)
    (mwfol : HasDm K CW "follow" "Way.follow" sFollow)
    (mwfin : HasDm K CW "finish" "Way.finish" sFinish)
    (msini : HasDm K c.S "__init__" "Session.__init__" sSInit)
    (msbeg : HasDm K c.S "begin" "Session.begin" sBegin)
    (msadd : HasDm K c.S "add_rule" "Session.add_rule" sAddRule)
    (msset : HasDm K c.S "set_text" "Session.set_text" sSetText)
    (mspie : HasDm K c.S "tell_pieces" "Session.tell_pieces" sTellPieces)
    (msedi : HasDm K c.S "edit" "Session.edit" sEdit)
    (msat_ : HasDm K c.S "tell_at" "Session.tell_at" sTellAt)
    (mswor : HasDm K c.S "tell_words" "Session.tell_words" sTellWords)
    (mslon : HasDm K c.S "tell_longest" "Session.tell_longest" sTellLongest)
    (mswri : HasDm K c.S "write_tight" "Session.write_tight" sWriteTight)
    (msput : HasDm K c.S "put_text" "Session.put_text" sPutText)
    (zlen : HasNo K "len")
    (zmax : HasNo K "max")
    (zmin : HasNo K "min")
    (zrange : HasNo K "range")
    (zlist : HasNo K "list")
    (zreversed : HasNo K "reversed")
    (zzip : HasNo K "zip")
    (ztuple : HasNo K "tuple")
    (zsorted : HasNo K "sorted")
    (zenumerate : HasNo K "enumerate")
    (iTOP_LEVEL : HasI K "TOP_LEVEL" 40)
    (iTOP_BYTE : HasI K "TOP_BYTE" 255)
    (iNO_BYTE : HasI K "NO_BYTE" 0)
    (iONE_BYTE : HasI K "ONE_BYTE" 1)
    (iNONE_OF : HasI K "NONE_OF" 2)
    (iONE_BEHIND_OTHER : HasI K "ONE_BEHIND_OTHER" 3)
    (iEITHER : HasI K "EITHER" 4)
    (iANY_TIMES : HasI K "ANY_TIMES" 5)
    (iONCE_OR_MORE : HasI K "ONCE_OR_MORE" 6)
    (iONCE_OR_NOT : HasI K "ONCE_OR_NOT" 7)
    (iFROM_TO : HasI K "FROM_TO" 8)
    (iCHUNK_BITS : HasI K "CHUNK_BITS" 8)
    (iCHUNK_MASK : HasI K "CHUNK_MASK" 255)
    (iNOTHING : HasI K "NOTHING" 64)
    (iODD : HasI K "ODD" 65)
    (iFIRST_MODE : HasI K "FIRST_MODE" 0)
    (iMOST_OPEN : HasI K "MOST_OPEN" 16)
    (iOPENS : HasI K "OPENS" 1)
    (iLEAVES : HasI K "LEAVES" 2)
    (iGOES_OVER : HasI K "GOES_OVER" 3)
    (iMOST_MODES : HasI K "MOST_MODES" 8)
    (iMOST_RULES : HasI K "MOST_RULES" 24)
    (iMOST_BYTES : HasI K "MOST_BYTES" 200)
    (iMOST_WORDS : HasI K "MOST_WORDS" 9)
    (iTOP_KIND : HasI K "TOP_KIND" 64)
    (iTOP_DOES : HasI K "TOP_DOES" 3)
    (iBEGIN : HasI K "BEGIN" 1)
    (iRULE : HasI K "RULE" 2)
    (iTEXT : HasI K "TEXT" 3)
    (iPIECES : HasI K "PIECES" 4)
    (iEDIT : HasI K "EDIT" 5)
    (iAT : HasI K "AT" 6)
    (iWORDS : HasI K "WORDS" 7)
    (iLONGEST : HasI K "LONGEST" 8)
    (fI : HasInner K) (fF : HasForms K) :
    ∃ fd : FuncData, (∀ (s : Shared) (us : List Value), us.length = (["calls"] : List Str).length → BindsTo s fd ⟨us, []⟩ ((["calls"] : List Str).zip us)) ∧ ∀ base : Heap, K.In base → base.Ns mainGlobals mg → FnOk P w K mg base CX0 13 fa fd ["calls"] (spAnswers K) := by
  have TL : Cl K c.L := ⟨tL, nL0, nL1⟩
  have TM : Cm K c.M := ⟨tM, nM0, nM1, nM2, nM3, nM4, nM5⟩
  have TR : Cr K c.R := ⟨tR, nR0, nR1, nR2, nR3, nR4⟩
  have TP : Cp K c.P := ⟨tP, nP0, nP1, nP2, nP3, nP4⟩
  have TW : Cw K CW := ⟨tW, nW0, nW1, nW2, nW3⟩
  have TS_ : Cs K c.S := ⟨tS, nS0, nS1, nS2, nS3⟩
  have TX : Txt K mg := ⟨fI.ok X G, PySem.W.mg_none_of X G zlen, PySem.W.mg_none_of X G zmax, PySem.W.mg_none_of X G zmin, PySem.W.mg_none_of X G zrange, PySem.W.mg_none_of X G zlist, PySem.W.mg_none_of X G zreversed, PySem.W.mg_none_of X G zzip, PySem.W.mg_none_of X G ztuple, PySem.W.mg_none_of X G zsorted, PySem.W.mg_none_of X G zenumerate, iTOP_LEVEL.ok X G, iTOP_BYTE.ok X G, iNO_BYTE.ok X G, iONE_BYTE.ok X G, iNONE_OF.ok X G, iONE_BEHIND_OTHER.ok X G, iEITHER.ok X G, iANY_TIMES.ok X G, iONCE_OR_MORE.ok X G, iONCE_OR_NOT.ok X G, iFROM_TO.ok X G, iCHUNK_BITS.ok X G, iCHUNK_MASK.ok X G⟩
  have TC : Txc mg := ⟨iNOTHING.ok X G, iODD.ok X G, iFIRST_MODE.ok X G, iMOST_OPEN.ok X G, iOPENS.ok X G, iLEAVES.ok X G, iGOES_OVER.ok X G⟩
  have TS : Txs mg := ⟨iMOST_MODES.ok X G, iMOST_RULES.ok X G, iMOST_BYTES.ok X G, iMOST_WORDS.ok X G, iTOP_KIND.ok X G, iTOP_DOES.ok X G⟩
  have TH : Txh mg := ⟨iBEGIN.ok X G, iRULE.ok X G, iTEXT.ok X G, iPIECES.ok X G, iEDIT.ok X G, iAT.ok X G, iWORDS.ok X G, iLONGEST.ok X G⟩
  have TF := fF.ok X G
  obtain ⟨fspan, espan, Dspan⟩ := dspan.ok (ps := ["row", "at"]) X G (fun _ _ _ _ _ _ us hl => match us, hl with | [_, _], _ => rfl)
  obtain ⟨fmemb, ememb, Dmemb⟩ := dmemb.ok (ps := ["row", "at"]) X G (fun _ _ _ _ _ _ us hl => match us, hl with | [_, _], _ => rfl)
  obtain ⟨fpart, epart, Dpart⟩ := dpart.ok (ps := ["row", "at"]) X G (fun _ _ _ _ _ _ us hl => match us, hl with | [_, _], _ => rfl)
  obtain ⟨fpatt, epatt, Dpatt⟩ := dpatt.ok (ps := ["row"]) X G (fun _ _ _ _ _ _ us hl => match us, hl with | [_], _ => rfl)
  obtain ⟨fnoth, enoth, Dnoth⟩ := dnoth.ok (ps := ["shape"]) X G (fun _ _ _ _ _ _ us hl => match us, hl with | [_], _ => rfl)
  obtain ⟨feith, eeith, Deith⟩ := deith.ok (ps := ["left", "right"]) X G (fun _ _ _ _ _ _ us hl => match us, hl with | [_, _], _ => rfl)
  obtain ⟨fstin, estin, Dstin⟩ := dstin.ok (ps := ["steps"]) X G (fun _ _ _ _ _ _ us hl => match us, hl with | [_], _ => rfl)
  obtain ⟨fbest, ebest, Dbest⟩ := dbest.ok (ps := ["rules", "fits", "mode", "at"]) X G (fun _ _ _ _ _ _ us hl => match us, hl with | [_, _, _, _], _ => rfl)
  obtain ⟨fmodb, emodb, Dmodb⟩ := dmodb.ok (ps := ["modes", "rule"]) X G (fun _ _ _ _ _ _ us hl => match us, hl with | [_, _], _ => rfl)
  obtain ⟨fcuto, ecuto, Dcuto⟩ := dcuto.ok (ps := ["rules", "fits", "modes", "at"]) X G (fun _ _ _ _ _ _ us hl => match us, hl with | [_, _, _, _], _ => rfl)
  obtain ⟨fcut_, ecut_, Dcut_⟩ := dcut_.ok (ps := ["rules", "row"]) X G (fun _ _ _ _ _ _ us hl => match us, hl with | [_, _], _ => rfl)
  obtain ⟨fsame, esame, Dsame⟩ := dsame.ok (ps := ["old", "new"]) X G (fun _ _ _ _ _ _ us hl => match us, hl with | [_, _], _ => rfl)
  obtain ⟨fcodd, ecodd, Dcodd⟩ := dcodd.ok (ps := ["pieces"]) X G (fun _ _ _ _ _ _ us hl => match us, hl with | [_], _ => rfl)
  obtain ⟨fahea, eahea, Dahea⟩ := dahea.ok (ps := ["old", "new"]) X G (fun _ _ _ _ _ _ us hl => match us, hl with | [_, _], _ => rfl)
  obtain ⟨fbehi, ebehi, Dbehi⟩ := dbehi.ok (ps := ["old", "new", "most"]) X G (fun _ _ _ _ _ _ us hl => match us, hl with | [_, _, _], _ => rfl)
  obtain ⟨fwdof, ewdof, Dwdof⟩ := dwdof.ok (ps := ["piece", "row"]) X G (fun _ _ _ _ _ _ us hl => match us, hl with | [_, _], _ => rfl)
  obtain ⟨fwdin, ewdin, Dwdin⟩ := dwdin.ok (ps := ["pieces", "row"]) X G (fun _ _ _ _ _ _ us hl => match us, hl with | [_, _], _ => rfl)
  obtain ⟨frank, erank, Drank⟩ := drank.ok (ps := ["way"]) X G (fun _ _ _ _ _ _ us hl => match us, hl with | [_], _ => rfl)
  obtain ⟨fmore, emore, Dmore⟩ := dmore.ok (ps := ["rules", "words", "separator", "ways", "place"]) X G (fun _ _ _ _ _ _ us hl => match us, hl with | [_, _, _, _, _], _ => rfl)
  obtain ⟨fplac, eplac, Dplac⟩ := dplac.ok (ps := ["rules", "words", "separator"]) X G (fun _ _ _ _ _ _ us hl => match us, hl with | [_, _, _], _ => rfl)
  obtain ⟨fwrit, ewrit, Dwrit⟩ := dwrit.ok (ps := ["words", "places", "separator"]) X G (fun _ _ _ _ _ _ us hl => match us, hl with | [_, _, _], _ => rfl)
  obtain ⟨fmayb, emayb, Dmayb⟩ := dmayb.ok (ps := ["row"]) X G (fun _ _ _ _ _ _ us hl => match us, hl with | [_], _ => rfl)
  obtain ⟨fanca, eanca, Danca⟩ := danca.ok (ps := ["session", "call", "values", "row"]) X G (fun _ _ _ _ _ _ us hl => match us, hl with | [_, _, _, _], _ => rfl)
  obtain ⟨fansw, eansw, Dansw⟩ := dansw.ok (ps := ["calls"]) X G (fun _ _ _ _ _ _ us hl => match us, hl with | [_], _ => rfl)
  obtain ⟨flini, elini, Mlini⟩ := mlini.ok (ps := ["self"]) (fun _ _ _ _ _ _ us hl => match us, hl with | [_], _ => rfl)
  obtain ⟨fladd, eladd, Mladd⟩ := mladd.ok (ps := ["self"]) (fun _ _ _ _ _ _ us hl => match us, hl with | [_], _ => rfl)
  obtain ⟨fllea, ellea, Mllea⟩ := mllea.ok (ps := ["self", "starts", "ends"]) (fun _ _ _ _ _ _ us hl => match us, hl with | [_, _, _], _ => rfl)
  obtain ⟨flchu, elchu, Mlchu⟩ := mlchu.ok (ps := ["self", "start", "chunk"]) (fun _ _ _ _ _ _ us hl => match us, hl with | [_, _, _], _ => rfl)
  obtain ⟨flrea, elrea, Mlrea⟩ := mlrea.ok (ps := ["self", "steps"]) (fun _ _ _ _ _ _ us hl => match us, hl with | [_, _], _ => rfl)
  obtain ⟨fmini, emini, Mmini⟩ := mmini.ok (ps := ["self", "parts"]) (fun _ _ _ _ _ _ us hl => match us, hl with | [_, _], _ => rfl)
  obtain ⟨fmlin, emlin, Mmlin⟩ := mmlin.ok (ps := ["self", "last", "first"]) (fun _ _ _ _ _ _ us hl => match us, hl with | [_, _, _], _ => rfl)
  obtain ⟨fmsin, emsin, Mmsin⟩ := mmsin.ok (ps := ["self", "members"]) (fun _ _ _ _ _ _ us hl => match us, hl with | [_, _], _ => rfl)
  obtain ⟨fmseq, emseq, Mmseq⟩ := mmseq.ok (ps := ["self", "left", "right"]) (fun _ _ _ _ _ _ us hl => match us, hl with | [_, _, _], _ => rfl)
  obtain ⟨fmrep, emrep, Mmrep⟩ := mmrep.ok (ps := ["self", "sort", "inner"]) (fun _ _ _ _ _ _ us hl => match us, hl with | [_, _, _], _ => rfl)
  obtain ⟨fmsha, emsha, Mmsha⟩ := mmsha.ok (ps := ["self", "sort", "members", "shapes"]) (fun _ _ _ _ _ _ us hl => match us, hl with | [_, _, _, _], _ => rfl)
  obtain ⟨fmfit, emfit, Mmfit⟩ := mmfit.ok (ps := ["self", "row"]) (fun _ _ _ _ _ _ us hl => match us, hl with | [_, _], _ => rfl)
  obtain ⟨fmpro, empro, Mmpro⟩ := mmpro.ok (ps := ["self", "row"]) (fun _ _ _ _ _ _ us hl => match us, hl with | [_, _], _ => rfl)
  obtain ⟨fmsca, emsca, Mmsca⟩ := mmsca.ok (ps := ["self", "fitting", "place"]) (fun _ _ _ _ _ _ us hl => match us, hl with | [_, _, _], _ => rfl)
  obtain ⟨frini, erini, Mrini⟩ := mrini.ok (ps := ["self", "mode", "kind", "does", "to", "matcher"]) (fun _ _ _ _ _ _ us hl => match us, hl with | [_, _, _, _, _, _], _ => rfl)
  obtain ⟨fpini, epini, Mpini⟩ := mpini.ok (ps := ["self", "kind", "place", "length", "modes", "far"]) (fun _ _ _ _ _ _ us hl => match us, hl with | [_, _, _, _, _, _], _ => rfl)
  obtain ⟨fptol, eptol, Mptol⟩ := mptol.ok (ps := ["self"]) (fun _ _ _ _ _ _ us hl => match us, hl with | [_], _ => rfl)
  obtain ⟨fwini, ewini, Mwini⟩ := mwini.ok (ps := ["self", "places", "tail", "modes", "done"]) (fun _ _ _ _ _ _ us hl => match us, hl with | [_, _, _, _, _], _ => rfl)
  obtain ⟨fwcut, ewcut, Mwcut⟩ := mwcut.ok (ps := ["self", "rules", "fits", "words", "whole"]) (fun _ _ _ _ _ _ us hl => match us, hl with | [_, _, _, _, _], _ => rfl)
  obtain ⟨fwout, ewout, Mwout⟩ := mwout.ok (ps := ["self"]) (fun _ _ _ _ _ _ us hl => match us, hl with | [_], _ => rfl)
  obtain ⟨fwfol, ewfol, Mwfol⟩ := mwfol.ok (ps := ["self", "rules", "words"]) (fun _ _ _ _ _ _ us hl => match us, hl with | [_, _, _], _ => rfl)
  obtain ⟨fwfin, ewfin, Mwfin⟩ := mwfin.ok (ps := ["self", "rules", "words"]) (fun _ _ _ _ _ _ us hl => match us, hl with | [_, _, _], _ => rfl)
  obtain ⟨fsini, esini, Msini⟩ := msini.ok (ps := ["self"]) (fun _ _ _ _ _ _ us hl => match us, hl with | [_], _ => rfl)
  obtain ⟨fsbeg, esbeg, Msbeg⟩ := msbeg.ok (ps := ["self", "modes"]) (fun _ _ _ _ _ _ us hl => match us, hl with | [_, _], _ => rfl)
  obtain ⟨fsadd, esadd, Msadd⟩ := msadd.ok (ps := ["self", "values", "row"]) (fun _ _ _ _ _ _ us hl => match us, hl with | [_, _, _], _ => rfl)
  obtain ⟨fsset, esset, Msset⟩ := msset.ok (ps := ["self", "row"]) (fun _ _ _ _ _ _ us hl => match us, hl with | [_, _], _ => rfl)
  obtain ⟨fspie, espie, Mspie⟩ := mspie.ok (ps := ["self"]) (fun _ _ _ _ _ _ us hl => match us, hl with | [_], _ => rfl)
  obtain ⟨fsedi, esedi, Msedi⟩ := msedi.ok (ps := ["self", "at", "taken", "row"]) (fun _ _ _ _ _ _ us hl => match us, hl with | [_, _, _, _], _ => rfl)
  obtain ⟨fsat_, esat_, Msat_⟩ := msat_.ok (ps := ["self", "at"]) (fun _ _ _ _ _ _ us hl => match us, hl with | [_, _], _ => rfl)
  obtain ⟨fswor, eswor, Mswor⟩ := mswor.ok (ps := ["self"]) (fun _ _ _ _ _ _ us hl => match us, hl with | [_], _ => rfl)
  obtain ⟨fslon, eslon, Mslon⟩ := mslon.ok (ps := ["self", "number", "row"]) (fun _ _ _ _ _ _ us hl => match us, hl with | [_, _, _], _ => rfl)
  obtain ⟨fswri, eswri, Mswri⟩ := mswri.ok (ps := ["self", "separator"]) (fun _ _ _ _ _ _ us hl => match us, hl with | [_, _], _ => rfl)
  obtain ⟨fsput, esput, Msput⟩ := msput.ok (ps := ["self", "row"]) (fun _ _ _ _ _ _ us hl => match us, hl with | [_, _], _ => rfl)
  have KL := kL.ok Mlini
  have qL : mg "Links" = some (.ref c.L) := PySem.W.mg_of X G gL
  have KM := kM.ok Mmini
  have qM : mg "Matcher" = some (.ref c.M) := PySem.W.mg_of X G gM
  have KR := kR.ok Mrini
  have qR : mg "Rule" = some (.ref c.R) := PySem.W.mg_of X G gR
  have KP := kP.ok Mpini
  have qP : mg "Piece" = some (.ref c.P) := PySem.W.mg_of X G gP
  have KW := kW.ok Mwini
  have qW : mg "Way" = some (.ref CW) := PySem.W.mg_of X G gW
  have KS := kS.ok Msini
  have qS : mg "Session" = some (.ref c.S) := PySem.W.mg_of X G gS
  have e := hfa.symm.trans Dansw.g
  cases e
  obtain ⟨oc, od, kV, doc, pm, an, cdv, ct, osl, rfl, lk, hcd⟩ := id Dansw.F.ex
  refine ⟨PySem.W.fnOf "answers" "answers" (defArgs sAnswers) (defBody sAnswers) (defScope sAnswers) .none kV doc pm an cdv ct, fun s us hu => match us, hu with | [_], _ => .of_eq rfl, fun base _ _ => ?_⟩
  -- patterns
  have Gpart : FnOk P w K mg base CX0 2 _ _ ["row", "at"] (spReadPart K) := ok_readPart Dpart.F TX Dmemb Dspan
  have Gpatt : FnOk P w K mg base CX0 3 _ _ ["row"] (spReadPattern K) := ok_readPattern Dpatt.F TX Dpart Gpart
  -- matchers
  have Glea : FnOk P w K mg base CX0 2 _ _ ["self", "starts", "ends"] (spLead c.L) := ok_lead Mllea.F TL Dstin
  have Gchu : FnOk P w K mg base CX0 2 _ _ ["self", "start", "chunk"] (spChunk c.L) := ok_chunk Mlchu.F TL Dstin
  have Grea : FnOk P w K mg base CX0 3 _ _ ["self", "steps"] (spReached c.L) := ok_steps Mlrea.F TL TX Mlchu Gchu
  have Glin : FnOk P w K mg base CX0 3 _ _ ["self", "last", "first"] (spLink c.M c.L) := ok_link Mmlin.F TM TL Mllea Glea
  have Gsin : FnOk P w K mg base CX0 2 _ _ ["self", "members"] (spSingle c.M c.L) := ok_single Mmsin.F TM TL TX Mladd
  have Gseq : FnOk P w K mg base CX0 4 _ _ ["self", "left", "right"] (spSequence c.M c.L) := ok_sequence Mmseq.F TM Dnoth Mmlin Glin
  have Grep : FnOk P w K mg base CX0 4 _ _ ["self", "sort", "inner"] (spRepeated c.M c.L) := ok_repeated Mmrep.F TM TX Mmlin Glin
  have Gsha : FnOk P w K mg base CX0 5 _ _ ["self", "sort", "members", "shapes"] (spShapeOf c.M c.L) := ok_shapeOf Mmsha.F TM TX Mmsin Gsin Mmseq Gseq Deith Mmrep Grep
  have Gmin : FnOk P w K mg base CX0 6 _ _ ["self", "parts"] (spMInit c.M c.L) := ok_mInit Mmini.F TM TL TX qL KL Mlini.F Mlini.b Mmsha Gsha
  have Gsca : FnOk P w K mg base CX0 4 _ _ ["self", "fitting", "place"] (spScan K c.M c.L) := ok_scan Mmsca.F TM TL TX Mlrea Grea
  have Gpro : FnOk P w K mg base CX0 4 _ _ ["self", "row"] (spPromising K c.M c.L) := ok_promising Mmpro.F TM TL TX Mlrea Grea
  -- cutting
  have Gbes : FnOk P w K mg base CX0 5 _ _ ["rules", "fits", "mode", "at"] (spBest c.R c.M c.L) := ok_best Dbest.F TX TR TM Mmsca Gsca
  have Gone : FnOk P w K mg base CX0 6 _ _ ["rules", "fits", "modes", "at"] (spCutOne c.R c.M c.L c.P) := ok_cutOne Dcuto.F TX TC TR TP Dbest Gbes Dmodb KP Mpini.F Mpini.b qP
  have Gcut : FnOk P w K mg base CX0 7 _ _ ["rules", "row"] (spCut K c.R c.M c.L c.P) := ok_cut Dcut_.F TX TC TR TM TP Dcuto Gone Mmfit
  have Gwin : FnOk P w K mg base CX0 2 _ _ ["pieces", "row"] (spWordsIn K c.P) := ok_wordsIn Dwdin.F TP TC Dwdof
  -- ways
  have Gcon : FnOk P w K mg base CX0 7 _ _ ["self", "rules", "fits", "words", "whole"] (spCutOn K c.R c.M c.L c.P CW) := ok_cutOn Mwcut.F TW TX TC TP Dcuto Gone Dwdof
  have Gfol : FnOk P w K mg base CX0 8 _ _ ["self", "rules", "words"] (spFollow c.R c.M c.L c.P CW) := ok_follow Mwfol.F TW TR TM Mwcut Gcon Mmfit
  have Gfin : FnOk P w K mg base CX0 8 _ _ ["self", "rules", "words"] (spFinish c.R c.M c.L c.P CW) := ok_finish Mwfin.F TW TR TM TX Mwcut Gcon Mmpro Gpro
  have Gmor : FnOk P w K mg base CX0 9 _ _ ["rules", "words", "separator", "ways", "place"] (spMore K c.R c.M c.L CW) := ok_more Dmore.F TW TX Mwfol Gfol Mwout Drank KW Mwini.F Mwini.b qW
  have Gpla : FnOk P w K mg base CX0 10 _ _ ["rules", "words", "separator"] (spPlaces c.R c.M c.L) := ok_bestPlaces Dplac.F TW TX TC Mwfin Gfin Dmore Gmor KW Mwini.F Mwini.b qW
  -- the house
  have Gput : FnOk P w K mg base CX0 8 _ _ ["self", "row"] (spPutText c) := ok_putText Msput.F TS_ Dcut_ Gcut
  have Gbeg : FnOk P w K mg base CX0 9 _ _ ["self", "modes"] (spBegin c) := ok_begin Msbeg.F TS_ TS Msput Gput
  have Gset : FnOk P w K mg base CX0 9 _ _ ["self", "row"] (spSetText c) := ok_setText Msset.F TS_ TS TX TC TP Msput Gput Dmayb Dcodd
  have Gpie : FnOk P w K mg base CX0 2 _ _ ["self"] (spTellPieces c) := ok_tellPieces Mspie.F TS_ TX TP Mptol
  have Gwor : FnOk P w K mg base CX0 3 _ _ ["self"] (spTellWords c) := ok_tellWords Mswor.F TS_ TX Dwdin Gwin
  have Gat : FnOk P w K mg base CX0 2 _ _ ["self", "at"] (spTellAt c) := ok_tellAt Msat_.F TS_ TX TP Mptol
  have Glon : FnOk P w K mg base CX0 5 _ _ ["self", "number", "row"] (spTellLongest K c) := ok_tellLongest Mslon.F TS_ TX TS TR TM Mmsca Gsca Dmayb Mmfit
  have Gtig : FnOk P w K mg base CX0 11 _ _ ["self", "separator"] (spWriteTight c) := ok_writeTight Mswri.F TS_ TX TS TC TP Dplac Gpla Dmayb Dcodd Dwdin Gwin Dwrit
  have Gedi : FnOk P w K mg base CX0 9 _ _ ["self", "at", "taken", "row"] (spEdit c) := ok_edit Msedi.F TS_ TX TS TC TP Msput Gput Dmayb Dcodd Dahea Dbehi Dsame
  have Gadd : FnOk P w K mg base CX0 9 _ _ ["self", "values", "row"] (spAddRule K c) := ok_addRule Msadd.F TS_ TX TS TR Msput Gput Dpatt Gpatt KR Mrini.F Mrini.b qR KM Gmin Mmini.b qM
  have Ganc : FnOk P w K mg base CX0 12 _ _ ["session", "call", "values", "row"] (spAnswerCall K c) := ok_answerCall Danca.F TS_ TH Msbeg Gbeg Msadd Gadd Msset Gset Mspie Gpie Msedi Gedi Msat_ Gat Mswor Gwor Mslon Glon Mswri Gtig
  exact ok_answers Dansw.F TS_ TX TF KS Msini.F Msini.b qS Danca Ganc
theorem all_mk {P : Program} {w : World} {K : PySem.W.Frag} {h : Heap} {mg : Str → Option Value} {fa CL CM CR CP CW CS : Addr} (X : K.In h) (G : h.Ns mainGlobals mg) (hfa : mg "answers" = some (.ref fa))
    (gL : PySem.W.nsIn K mainGlobals "Links" = some (some (.ref CL))) (kL : HasMk K CL) (tL : Cls K CL) (nL0 : PySem.W.findIn K (.ref CL) "table" = some none) (nL1 : PySem.W.findIn K (.ref CL) "chunks" = some none)
    (gM : PySem.W.nsIn K mainGlobals "Matcher" = some (some (.ref CM))) (kM : HasMk K CM) (tM : Cls K CM) (nM0 : PySem.W.findIn K (.ref CM) "behind" = some none) (nM1 : PySem.W.findIn K (.ref CM) "ahead" = some none) (nM2 : PySem.W.findIn K (.ref CM) "by_byte" = some none) (nM3 : PySem.W.findIn K (.ref CM) "empty" = some none) (nM4 : PySem.W.findIn K (.ref CM) "first" = some none) (nM5 : PySem.W.findIn K (.ref CM) "last" = some none)
    (gR : PySem.W.nsIn K mainGlobals "Rule" = some (some (.ref CR))) (kR : HasMk K CR) (tR : Cls K CR) (nR0 : PySem.W.findIn K (.ref CR) "mode" = some none) (nR1 : PySem.W.findIn K (.ref CR) "kind" = some none) (nR2 : PySem.W.findIn K (.ref CR) "does" = some none) (nR3 : PySem.W.findIn K (.ref CR) "to" = some none) (nR4 : PySem.W.findIn K (.ref CR) "matcher" = some none)
    (gP : PySem.W.nsIn K mainGlobals "Piece" = some (some (.ref CP))) (kP : HasMk K CP) (tP : Cls K CP) (nP0 : PySem.W.findIn K (.ref CP) "kind" = some none) (nP1 : PySem.W.findIn K (.ref CP) "place" = some none) (nP2 : PySem.W.findIn K (.ref CP) "length" = some none) (nP3 : PySem.W.findIn K (.ref CP) "modes" = some none) (nP4 : PySem.W.findIn K (.ref CP) "far" = some none)
    (gW : PySem.W.nsIn K mainGlobals "Way" = some (some (.ref CW))) (kW : HasMk K CW) (tW : Cls K CW) (nW0 : PySem.W.findIn K (.ref CW) "places" = some none) (nW1 : PySem.W.findIn K (.ref CW) "tail" = some none) (nW2 : PySem.W.findIn K (.ref CW) "modes" = some none) (nW3 : PySem.W.findIn K (.ref CW) "done" = some none)
    (gS : PySem.W.nsIn K mainGlobals "Session" = some (some (.ref CS))) (kS : HasMk K CS) (tS : Cls K CS) (nS0 : PySem.W.findIn K (.ref CS) "modes_there" = some none) (nS1 : PySem.W.findIn K (.ref CS) "rules" = some none) (nS2 : PySem.W.findIn K (.ref CS) "row" = some none) (nS3 : PySem.W.findIn K (.ref CS) "pieces" = some none)
    (dspan : HasDf K "read_span" sReadSpan)
    (dmemb : HasDf K "read_members" sReadMembers)
    (dpart : HasDf K "read_part" sReadPart)
    (dpatt : HasDf K "read_pattern" sReadPattern)
    (dnoth : HasDf K "matches_nothing" sNothing)
    (deith : HasDf K "either" sEither)
    (dstin : HasDf K "steps_in" sStepsIn)
    (dbest : HasDf K "best_match" sBest)
    (dmodb : HasDf K "modes_behind" sModes)
    (dcuto : HasDf K "cut_one" sCutOne)
    (dcut_ : HasDf K "cut" sCut)
    (dsame : HasDf K "same_piece" sSame)
    (dcodd : HasDf K "count_odd" sCountOdd)
    (dahea : HasDf K "count_same_ahead" sAhead)
    (dbehi : HasDf K "count_same_behind" sBehind)
    (dwdof : HasDf K "word_of" sWordOf)
    (dwdin : HasDf K "words_in" sWordsIn)
    (drank : HasDf K "rank" sRank)
    (dmore : HasDf K "ways_with_one_more" sMore)
    (dplac : HasDf K "best_places" sBestPlaces)
    (dwrit : HasDf K "write" sWrite)
    (dmayb : HasDf K "may_be_text" sMayBe)
    (danca : HasDf K "answer_call" sAnswerCall)
    (dansw : HasDf K "answers" sAnswers)
    (mlini : HasDm K CL "__init__" "Links.__init__" sLInit)
    (mladd : HasDm K CL "add_step" "Links.add_step" sAddStep)
    (mllea : HasDm K CL "lead" "Links.lead" sLead)
    (mlchu : HasDm K CL "reached_from_chunk" "Links.reached_from_chunk" sChunk)
    (mlrea : HasDm K CL "reached" "Links.reached" sReached)
    (mmini : HasDm K CM "__init__" "Matcher.__init__" sMInit)
    (mmlin : HasDm K CM "link" "Matcher.link" sLink)
    (mmsin : HasDm K CM "single" "Matcher.single" sSingle)
    (mmseq : HasDm K CM "sequence" "Matcher.sequence" sSequence)
    (mmrep : HasDm K CM "repeated" "Matcher.repeated" sRepeated)
    (mmsha : HasDm K CM "shape_of" "Matcher.shape_of" sShapeOf)
    (mmfit : HasDm K CM "fitting" "Matcher.fitting" sFitting)
    (mmpro : HasDm K CM "promising" "Matcher.promising" sPromising)
    (mmsca : HasDm K CM "scan" "Matcher.scan" sScan)
    (mrini : HasDm K CR "__init__" "Rule.__init__" sRInit)
    (mpini : HasDm K CP "__init__" "Piece.__init__" sPInit)
    (mptol : HasDm K CP "told" "Piece.told" sTold)
    (mwini : HasDm K CW "__init__" "Way.__init__" sWInit)
    (mwcut : HasDm K CW "cut_on" "Way.cut_on" sCutOn)
    (mwout : HasDm K CW "outlook" "Way.outlook" sOutlook)
    (mwfol : HasDm K CW "follow" "Way.follow" sFollow)
    (mwfin : HasDm K CW "finish" "Way.finish" sFinish)
    (msini : HasDm K CS "__init__" "Session.__init__" sSInit)
    (msbeg : HasDm K CS "begin" "Session.begin" sBegin)
    (msadd : HasDm K CS "add_rule" "Session.add_rule" sAddRule)
    (msset : HasDm K CS "set_text" "Session.set_text" sSetText)
    (mspie : HasDm K CS "tell_pieces" "Session.tell_pieces" sTellPieces)
    (msedi : HasDm K CS "edit" "Session.edit" sEdit)
    (msat_ : HasDm K CS "tell_at" "Session.tell_at" sTellAt)
    (mswor : HasDm K CS "tell_words" "Session.tell_words" sTellWords)
    (mslon : HasDm K CS "tell_longest" "Session.tell_longest" sTellLongest)
    (mswri : HasDm K CS "write_tight" "Session.write_tight" sWriteTight)
    (msput : HasDm K CS "put_text" "Session.put_text" sPutText)
    (zlen : PySem.W.nsIn K mainGlobals "len" = some none)
    (zmax : PySem.W.nsIn K mainGlobals "max" = some none)
    (zmin : PySem.W.nsIn K mainGlobals "min" = some none)
    (zrange : PySem.W.nsIn K mainGlobals "range" = some none)
    (zlist : PySem.W.nsIn K mainGlobals "list" = some none)
    (zreversed : PySem.W.nsIn K mainGlobals "reversed" = some none)
    (zzip : PySem.W.nsIn K mainGlobals "zip" = some none)
    (ztuple : PySem.W.nsIn K mainGlobals "tuple" = some none)
    (zsorted : PySem.W.nsIn K mainGlobals "sorted" = some none)
    (zenumerate : PySem.W.nsIn K mainGlobals "enumerate" = some none)
    (iTOP_LEVEL : HasI K "TOP_LEVEL" 40)
    (iTOP_BYTE : HasI K "TOP_BYTE" 255)
    (iNO_BYTE : HasI K "NO_BYTE" 0)
    (iONE_BYTE : HasI K "ONE_BYTE" 1)
    (iNONE_OF : HasI K "NONE_OF" 2)
    (iONE_BEHIND_OTHER : HasI K "ONE_BEHIND_OTHER" 3)
    (iEITHER : HasI K "EITHER" 4)
    (iANY_TIMES : HasI K "ANY_TIMES" 5)
    (iONCE_OR_MORE : HasI K "ONCE_OR_MORE" 6)
    (iONCE_OR_NOT : HasI K "ONCE_OR_NOT" 7)
    (iFROM_TO : HasI K "FROM_TO" 8)
    (iCHUNK_BITS : HasI K "CHUNK_BITS" 8)
    (iCHUNK_MASK : HasI K "CHUNK_MASK" 255)
    (iNOTHING : HasI K "NOTHING" 64)
    (iODD : HasI K "ODD" 65)
    (iFIRST_MODE : HasI K "FIRST_MODE" 0)
    (iMOST_OPEN : HasI K "MOST_OPEN" 16)
    (iOPENS : HasI K "OPENS" 1)
    (iLEAVES : HasI K "LEAVES" 2)
    (iGOES_OVER : HasI K "GOES_OVER" 3)
    (iMOST_MODES : HasI K "MOST_MODES" 8)
    (iMOST_RULES : HasI K "MOST_RULES" 24)
    (iMOST_BYTES : HasI K "MOST_BYTES" 200)
    (iMOST_WORDS : HasI K "MOST_WORDS" 9)
    (iTOP_KIND : HasI K "TOP_KIND" 64)
    (iTOP_DOES : HasI K "TOP_DOES" 3)
    (iBEGIN : HasI K "BEGIN" 1)
    (iRULE : HasI K "RULE" 2)
    (iTEXT : HasI K "TEXT" 3)
    (iPIECES : HasI K "PIECES" 4)
    (iEDIT : HasI K "EDIT" 5)
    (iAT : HasI K "AT" 6)
    (iWORDS : HasI K "WORDS" 7)
    (iLONGEST : HasI K "LONGEST" 8)
    (fI : HasInner K) (fF : HasForms K) :
    ∃ fd : FuncData, (∀ (s : Shared) (us : List Value), us.length = (["calls"] : List Str).length → BindsTo s fd ⟨us, []⟩ ((["calls"] : List Str).zip us)) ∧ ∀ base : Heap, K.In base → base.Ns mainGlobals mg → FnOk P w K mg base CX0 13 fa fd ["calls"] (spAnswers K) :=
  all_mk0 (c := ⟨CS, CR, CM, CL, CP⟩) X G hfa gL kL tL nL0 nL1 gM kM tM nM0 nM1 nM2 nM3 nM4 nM5 gR kR tR nR0 nR1 nR2 nR3 nR4 gP kP tP nP0 nP1 nP2 nP3 nP4 gW kW tW nW0 nW1 nW2 nW3 gS kS tS nS0 nS1 nS2 nS3 dspan dmemb dpart dpatt dnoth deith dstin dbest dmodb dcuto dcut_ dsame dcodd dahea dbehi dwdof dwdin drank dmore dplac dwrit dmayb danca dansw mlini mladd mllea mlchu mlrea mmini mmlin mmsin mmseq mmrep mmsha mmfit mmpro mmsca mrini mpini mptol mwini mwcut mwout mwfol mwfin msini msbeg msadd msset mspie msedi msat_ mswor mslon mswri msput zlen zmax zmin zrange zlist zreversed zzip ztuple zsorted zenumerate iTOP_LEVEL iTOP_BYTE iNO_BYTE iONE_BYTE iNONE_OF iONE_BEHIND_OTHER iEITHER iANY_TIMES iONCE_OR_MORE iONCE_OR_NOT iFROM_TO iCHUNK_BITS iCHUNK_MASK iNOTHING iODD iFIRST_MODE iMOST_OPEN iOPENS iLEAVES iGOES_OVER iMOST_MODES iMOST_RULES iMOST_BYTES iMOST_WORDS iTOP_KIND iTOP_DOES iBEGIN iRULE iTEXT iPIECES iEDIT iAT iWORDS iLONGEST fI fF
end Mp

-- MpAsk
set_option maxRecDepth 100000
set_option maxHeartbeats 4000000
/-! What is asked, as calls of ours. -/
namespace Mp
open PySem PySem.Spec PyProof.Rows L2
open Sq17 (House)

def cst (l : List Nat) : List Int := l.map fun n : Nat => (n : Int)
theorem cst_app (a b : List Nat) : cst (a ++ b) = cst a ++ cst b := List.map_append
theorem cst_cons (a : Nat) (b : List Nat) : cst (a :: b) = (a : Int) :: cst b := rfl
theorem nat_of {z : Int} {b : Nat} (h : Sq17Neutral.natural z b = true) : ((z.toNat : Nat) : Int) = z := by
  unfold Sq17Neutral.natural at h
  rw [Bool.and_eq_true, decide_eq_true_eq] at h
  exact Int.toNat_of_nonneg h.1
theorem row_of {b : Nat} {l : List Int} (h : Sq17Neutral.long (fun z => Sq17Neutral.natural z b) l = true) : l.length ≤ 1024 ∧ cst (l.map Int.toNat) = l := by
  unfold Sq17Neutral.long at h
  rw [Bool.and_eq_true, decide_eq_true_eq, List.all_eq_true] at h
  refine ⟨h.1, ?_⟩
  unfold cst
  rw [List.map_map]
  have : ∀ z ∈ l, ((fun n : Nat => (n : Int)) ∘ Int.toNat) z = z := fun z hz => nat_of (h.2 z hz)
  conv => rhs; rw [← List.map_id l]
  exact List.map_congr_left this
/-- what a call of the specification is here -/
structure RecIs (c : List (List Int)) (r : Rec) : Prop where
  ok : RecOk r
  f : PyFlat.put1 c = cst r.flat
  x : Sq17Neutral.callOf c = some r.x
theorem rec_of {c : List (List Int)} (h : Sq17Neutral.asked1 c = true) : ∃ r, RecIs c r := by
  unfold Sq17Neutral.asked1 at h
  split at h
  · next a =>
    exact ⟨⟨1, [a.toNat], [], .begin_ a.toNat⟩, ⟨.b _, Nat.zero_le _⟩, by show [1, a] = [1, ((a.toNat : Nat) : Int)]; rw [nat_of h], rfl⟩
  · next a b c d l =>
    simp only [Bool.and_eq_true] at h
    obtain ⟨ha, hb, hc, hd, hl⟩ := h
    obtain ⟨h1, h2⟩ := row_of hl
    refine ⟨⟨2, [a.toNat, b.toNat, c.toNat, d.toNat], l.map Int.toNat, .rule a.toNat b.toNat c.toNat d.toNat (l.map Int.toNat)⟩, ⟨.r _ _ _ _ _, by rw [List.length_map]; exact h1⟩, ?_, rfl⟩
    show [2, a, b, c, d] ++ (((l.length : Nat) : Int) :: l ++ []) = 2 :: ((a.toNat : Nat) : Int) :: ((b.toNat : Nat) : Int) :: ((c.toNat : Nat) : Int) :: ((d.toNat : Nat) : Int) :: (((l.map Int.toNat).length : Nat) : Int) :: cst (l.map Int.toNat)
    rw [nat_of ha, nat_of hb, nat_of hc, nat_of hd, h2, List.length_map]; simp
  · next l =>
    obtain ⟨h1, h2⟩ := row_of h
    refine ⟨⟨3, [], l.map Int.toNat, .text (l.map Int.toNat)⟩, ⟨.t _, by rw [List.length_map]; exact h1⟩, ?_, rfl⟩
    show [3] ++ (((l.length : Nat) : Int) :: l ++ []) = 3 :: (((l.map Int.toNat).length : Nat) : Int) :: cst (l.map Int.toNat)
    rw [h2, List.length_map]; simp
  · exact ⟨⟨4, [], [], .pieces⟩, ⟨.p, Nat.zero_le _⟩, rfl, rfl⟩
  · next a b l =>
    simp only [Bool.and_eq_true] at h
    obtain ⟨ha, hb, hl⟩ := h
    obtain ⟨h1, h2⟩ := row_of hl
    refine ⟨⟨5, [a.toNat, b.toNat], l.map Int.toNat, .edit a.toNat b.toNat (l.map Int.toNat)⟩, ⟨.e _ _ _, by rw [List.length_map]; exact h1⟩, ?_, rfl⟩
    show [5, a, b] ++ (((l.length : Nat) : Int) :: l ++ []) = 5 :: ((a.toNat : Nat) : Int) :: ((b.toNat : Nat) : Int) :: (((l.map Int.toNat).length : Nat) : Int) :: cst (l.map Int.toNat)
    rw [nat_of ha, nat_of hb, h2, List.length_map]; simp
  · next a =>
    exact ⟨⟨6, [a.toNat], [], .at_ a.toNat⟩, ⟨.a _, Nat.zero_le _⟩, by show [6, a] = [6, ((a.toNat : Nat) : Int)]; rw [nat_of h], rfl⟩
  · exact ⟨⟨7, [], [], .words⟩, ⟨.w, Nat.zero_le _⟩, rfl, rfl⟩
  · next a l =>
    simp only [Bool.and_eq_true] at h
    obtain ⟨ha, hl⟩ := h
    obtain ⟨h1, h2⟩ := row_of hl
    refine ⟨⟨8, [a.toNat], l.map Int.toNat, .longest a.toNat (l.map Int.toNat)⟩, ⟨.l _ _, by rw [List.length_map]; exact h1⟩, ?_, rfl⟩
    show [8, a] ++ (((l.length : Nat) : Int) :: l ++ []) = 8 :: ((a.toNat : Nat) : Int) :: (((l.map Int.toNat).length : Nat) : Int) :: cst (l.map Int.toNat)
    rw [nat_of ha, h2, List.length_map]; simp
  · next l =>
    obtain ⟨h1, h2⟩ := row_of h
    refine ⟨⟨9, [], l.map Int.toNat, .tight (l.map Int.toNat)⟩, ⟨.g _, by rw [List.length_map]; exact h1⟩, ?_, rfl⟩
    show [9] ++ (((l.length : Nat) : Int) :: l ++ []) = 9 :: (((l.map Int.toNat).length : Nat) : Int) :: cst (l.map Int.toNat)
    rw [h2, List.length_map]; simp
  · cases h
theorem recs_of : ∀ {cs : List (List (List Int))}, (∀ c ∈ cs, Sq17Neutral.asked1 c = true) → ∃ rs : List Rec, (∀ r ∈ rs, RecOk r) ∧ PyFlat.put cs = cst (flatR rs) ∧ ∀ h : House, PyFlat.told (PyFlat.played Sq17Neutral.step h cs) = toldOf h rs
  | [], _ => ⟨[], by simp, rfl, fun _ => rfl⟩
  | c :: cs, h => by
    obtain ⟨r, hr⟩ := rec_of (h c List.mem_cons_self)
    obtain ⟨rs, h1, h2, h3⟩ := recs_of (cs := cs) fun d hd => h d (List.mem_cons_of_mem _ hd)
    refine ⟨r :: rs, fun q hq => ?_, ?_, fun s => ?_⟩
    · rcases List.mem_cons.mp hq with rfl | hq
      · exact hr.ok
      · exact h1 q hq
    · show PyFlat.put1 c ++ PyFlat.put cs = cst (r.flat ++ flatR rs)
      rw [hr.f, h2, cst_app]
    · have e : Sq17Neutral.step s c = ((s.step r.x).1, ansOf s r.x) := by
        unfold Sq17Neutral.step
        rw [hr.x]; rfl
      show (PyFlat.told ((Sq17Neutral.step s c).2 :: PyFlat.played Sq17Neutral.step (Sq17Neutral.step s c).1 cs)) = _
      rw [e]
      show (((ansOf s r.x).length : Int) :: ansOf s r.x) ++ PyFlat.told (PyFlat.played Sq17Neutral.step (s.step r.x).1 cs) = _
      rw [h3]; rfl
theorem whole_id (c : List (List Int)) : PySq17.whole c = c := by
  unfold PySq17.whole
  split <;> rfl
theorem ask_of {l : List Int} (h : PySq17.answers_asked l = true) : ∃ rs : List Rec, l = cst (flatR rs) ∧ (∀ r ∈ rs, RecOk r) ∧ toldOf Sq17.fresh rs = PySq17.answers l ∧ (toldOf Sq17.fresh rs).length ≤ 10000000 := by
  unfold PySq17.answers_asked at h
  cases e : PyFlat.calls PySq17.shape l.length l with
  | none => rw [e] at h; cases h
  | some raw =>
    rw [e] at h
    simp only [Bool.and_eq_true] at h
    obtain ⟨⟨_, ha⟩, hs⟩ := h
    have wid : raw.map PySq17.whole = raw := by
      conv => rhs; rw [← List.map_id raw]
      exact List.map_congr_left fun c _ => whole_id c
    rw [wid] at ha
    unfold Sq17Neutral.asked at ha
    simp only [Bool.and_eq_true, List.all_eq_true] at ha
    obtain ⟨rs, h1, h2, h3⟩ := recs_of ha.2.2.1
    have hput := (PyFlat.put_calls _ _ _ e).1
    have ea : PySq17.answers l = toldOf Sq17.fresh rs := by
      unfold PySq17.answers PySq17.calls
      rw [e]
      show PyFlat.told (PyFlat.played Sq17Neutral.step Sq17Neutral.start (raw.map PySq17.whole)) = _
      rw [wid]; exact h3 _
    refine ⟨rs, hput.trans h2, h1, ea.symm, ?_⟩
    unfold PyFlat.short at hs
    rw [decide_eq_true_eq, ea] at hs
    exact hs
theorem cst_iv (l : List Nat) : (cst l).map V.int = ivs l := by unfold cst; rw [List.map_map]; rfl
end Mp

-- Head1
set_option maxRecDepth 100000
set_option maxHeartbeats 8000000
open PySem PySem.W PyProof.Rows
theorem PySem.Challenge.cw_modedpieces_s01_answers_holds : PySem.Challenge.rw_modedpieces_s01_answers.Holds := by
  w_on; k_headS; (case hw => exact ⟨[.list [.int 4]], by decide +kernel, by decide +kernel⟩)
  k_fillS
  refine L2.walk_specK (r := PySem.Challenge.rw_modedpieces_s01_answers) (k := 13) (CX := L2.CX0) (ps := ["calls"]) (sp := Mp.spAnswers) (by decide +kernel) rfl rfl ⟨rfl, by decide, by decide⟩ (fun w h Y => PySem.W.kIn_of Y) ?F ?S (fun _ _ _ _ z => z)
  case F =>
    intro w mg fa h Y KX G hmg
    refine' Mp.all_mk (fa := fa) KX G hmg ?gL ?kL ?tL ?nL0 ?nL1 ?gM ?kM ?tM ?nM0 ?nM1 ?nM2 ?nM3 ?nM4 ?nM5 ?gR ?kR ?tR ?nR0 ?nR1 ?nR2 ?nR3 ?nR4 ?gP ?kP ?tP ?nP0 ?nP1 ?nP2 ?nP3 ?nP4 ?gW ?kW ?tW ?nW0 ?nW1 ?nW2 ?nW3 ?gS ?kS ?tS ?nS0 ?nS1 ?nS2 ?nS3 ?dspan ?dmemb ?dpart ?dpatt ?dnoth ?deith ?dstin ?dbest ?dmodb ?dcuto ?dcut_ ?dsame ?dcodd ?dahea ?dbehi ?dwdof ?dwdin ?drank ?dmore ?dplac ?dwrit ?dmayb ?danca ?dansw ?mlini ?mladd ?mllea ?mlchu ?mlrea ?mmini ?mmlin ?mmsin ?mmseq ?mmrep ?mmsha ?mmfit ?mmpro ?mmsca ?mrini ?mpini ?mptol ?mwini ?mwcut ?mwout ?mwfol ?mwfin ?msini ?msbeg ?msadd ?msset ?mspie ?msedi ?msat_ ?mswor ?mslon ?mswri ?msput ?zlen ?zmax ?zmin ?zrange ?zlist ?zreversed ?zzip ?ztuple ?zsorted ?zenumerate ?iTOP_LEVEL ?iTOP_BYTE ?iNO_BYTE ?iONE_BYTE ?iNONE_OF ?iONE_BEHIND_OTHER ?iEITHER ?iANY_TIMES ?iONCE_OR_MORE ?iONCE_OR_NOT ?iFROM_TO ?iCHUNK_BITS ?iCHUNK_MASK ?iNOTHING ?iODD ?iFIRST_MODE ?iMOST_OPEN ?iOPENS ?iLEAVES ?iGOES_OVER ?iMOST_MODES ?iMOST_RULES ?iMOST_BYTES ?iMOST_WORDS ?iTOP_KIND ?iTOP_DOES ?iBEGIN ?iRULE ?iTEXT ?iPIECES ?iEDIT ?iAT ?iWORDS ?iLONGEST ?fI ?fF
    (case gL => k_is)
    (case kL => refine' ⟨?x, ?y⟩; (case x => k_is); (case y => k_is))
    (case tL => refine' ⟨?x, ?y, ?z, ?u⟩; (case x => k_is); (case y => k_is); (case z => k_is); (case u => k_is))
    (case nL0 => k_is)
    (case nL1 => k_is)
    (case gM => k_is)
    (case kM => refine' ⟨?x, ?y⟩; (case x => k_is); (case y => k_is))
    (case tM => refine' ⟨?x, ?y, ?z, ?u⟩; (case x => k_is); (case y => k_is); (case z => k_is); (case u => k_is))
    (case nM0 => k_is)
    (case nM1 => k_is)
    (case nM2 => k_is)
    (case nM3 => k_is)
    (case nM4 => k_is)
    (case nM5 => k_is)
    (case gR => k_is)
    (case kR => refine' ⟨?x, ?y⟩; (case x => k_is); (case y => k_is))
    (case tR => refine' ⟨?x, ?y, ?z, ?u⟩; (case x => k_is); (case y => k_is); (case z => k_is); (case u => k_is))
    (case nR0 => k_is)
    (case nR1 => k_is)
    (case nR2 => k_is)
    (case nR3 => k_is)
    (case nR4 => k_is)
    (case gP => k_is)
    (case kP => refine' ⟨?x, ?y⟩; (case x => k_is); (case y => k_is))
    (case tP => refine' ⟨?x, ?y, ?z, ?u⟩; (case x => k_is); (case y => k_is); (case z => k_is); (case u => k_is))
    (case nP0 => k_is)
    (case nP1 => k_is)
    (case nP2 => k_is)
    (case nP3 => k_is)
    (case nP4 => k_is)
    (case gW => k_is)
    (case kW => refine' ⟨?x, ?y⟩; (case x => k_is); (case y => k_is))
    (case tW => refine' ⟨?x, ?y, ?z, ?u⟩; (case x => k_is); (case y => k_is); (case z => k_is); (case u => k_is))
    (case nW0 => k_is)
    (case nW1 => k_is)
    (case nW2 => k_is)
    (case nW3 => k_is)
    (case gS => k_is)
    (case kS => refine' ⟨?x, ?y⟩; (case x => k_is); (case y => k_is))
    (case tS => refine' ⟨?x, ?y, ?z, ?u⟩; (case x => k_is); (case y => k_is); (case z => k_is); (case u => k_is))
    (case nS0 => k_is)
    (case nS1 => k_is)
    (case nS2 => k_is)
    (case nS3 => k_is)
    (case dspan => refine' ⟨_, ?x, _, L2.fun_mk ?l ?c ?k⟩; (case x => k_is); (case l => k_is); (case c => k_is); (case k => k_is))
    (case dmemb => refine' ⟨_, ?x, _, L2.fun_mk ?l ?c ?k⟩; (case x => k_is); (case l => k_is); (case c => k_is); (case k => k_is))
    (case dpart => refine' ⟨_, ?x, _, L2.fun_mk ?l ?c ?k⟩; (case x => k_is); (case l => k_is); (case c => k_is); (case k => k_is))
    (case dpatt => refine' ⟨_, ?x, _, L2.fun_mk ?l ?c ?k⟩; (case x => k_is); (case l => k_is); (case c => k_is); (case k => k_is))
    (case dnoth => refine' ⟨_, ?x, _, L2.fun_mk ?l ?c ?k⟩; (case x => k_is); (case l => k_is); (case c => k_is); (case k => k_is))
    (case deith => refine' ⟨_, ?x, _, L2.fun_mk ?l ?c ?k⟩; (case x => k_is); (case l => k_is); (case c => k_is); (case k => k_is))
    (case dstin => refine' ⟨_, ?x, _, L2.fun_mk ?l ?c ?k⟩; (case x => k_is); (case l => k_is); (case c => k_is); (case k => k_is))
    (case dbest => refine' ⟨_, ?x, _, L2.fun_mk ?l ?c ?k⟩; (case x => k_is); (case l => k_is); (case c => k_is); (case k => k_is))
    (case dmodb => refine' ⟨_, ?x, _, L2.fun_mk ?l ?c ?k⟩; (case x => k_is); (case l => k_is); (case c => k_is); (case k => k_is))
    (case dcuto => refine' ⟨_, ?x, _, L2.fun_mk ?l ?c ?k⟩; (case x => k_is); (case l => k_is); (case c => k_is); (case k => k_is))
    (case dcut_ => refine' ⟨_, ?x, _, L2.fun_mk ?l ?c ?k⟩; (case x => k_is); (case l => k_is); (case c => k_is); (case k => k_is))
    (case dsame => refine' ⟨_, ?x, _, L2.fun_mk ?l ?c ?k⟩; (case x => k_is); (case l => k_is); (case c => k_is); (case k => k_is))
    (case dcodd => refine' ⟨_, ?x, _, L2.fun_mk ?l ?c ?k⟩; (case x => k_is); (case l => k_is); (case c => k_is); (case k => k_is))
    (case dahea => refine' ⟨_, ?x, _, L2.fun_mk ?l ?c ?k⟩; (case x => k_is); (case l => k_is); (case c => k_is); (case k => k_is))
    (case dbehi => refine' ⟨_, ?x, _, L2.fun_mk ?l ?c ?k⟩; (case x => k_is); (case l => k_is); (case c => k_is); (case k => k_is))
    (case dwdof => refine' ⟨_, ?x, _, L2.fun_mk ?l ?c ?k⟩; (case x => k_is); (case l => k_is); (case c => k_is); (case k => k_is))
    (case dwdin => refine' ⟨_, ?x, _, L2.fun_mk ?l ?c ?k⟩; (case x => k_is); (case l => k_is); (case c => k_is); (case k => k_is))
    (case drank => refine' ⟨_, ?x, _, L2.fun_mk ?l ?c ?k⟩; (case x => k_is); (case l => k_is); (case c => k_is); (case k => k_is))
    (case dmore => refine' ⟨_, ?x, _, L2.fun_mk ?l ?c ?k⟩; (case x => k_is); (case l => k_is); (case c => k_is); (case k => k_is))
    (case dplac => refine' ⟨_, ?x, _, L2.fun_mk ?l ?c ?k⟩; (case x => k_is); (case l => k_is); (case c => k_is); (case k => k_is))
    (case dwrit => refine' ⟨_, ?x, _, L2.fun_mk ?l ?c ?k⟩; (case x => k_is); (case l => k_is); (case c => k_is); (case k => k_is))
    (case dmayb => refine' ⟨_, ?x, _, L2.fun_mk ?l ?c ?k⟩; (case x => k_is); (case l => k_is); (case c => k_is); (case k => k_is))
    (case danca => refine' ⟨_, ?x, _, L2.fun_mk ?l ?c ?k⟩; (case x => k_is); (case l => k_is); (case c => k_is); (case k => k_is))
    (case dansw => refine' ⟨_, ?x, _, L2.fun_mk ?l ?c ?k⟩; (case x => k_is); (case l => k_is); (case c => k_is); (case k => k_is))
    (case mlini => refine' ⟨_, ?x, ?i, _, L2.fun_mk ?l ?c ?k⟩; (case x => k_is); (case i => k_is); (case l => k_is); (case c => k_is); (case k => k_is))
    (case mladd => refine' ⟨_, ?x, ?i, _, L2.fun_mk ?l ?c ?k⟩; (case x => k_is); (case i => k_is); (case l => k_is); (case c => k_is); (case k => k_is))
    (case mllea => refine' ⟨_, ?x, ?i, _, L2.fun_mk ?l ?c ?k⟩; (case x => k_is); (case i => k_is); (case l => k_is); (case c => k_is); (case k => k_is))
    (case mlchu => refine' ⟨_, ?x, ?i, _, L2.fun_mk ?l ?c ?k⟩; (case x => k_is); (case i => k_is); (case l => k_is); (case c => k_is); (case k => k_is))
    (case mlrea => refine' ⟨_, ?x, ?i, _, L2.fun_mk ?l ?c ?k⟩; (case x => k_is); (case i => k_is); (case l => k_is); (case c => k_is); (case k => k_is))
    (case mmini => refine' ⟨_, ?x, ?i, _, L2.fun_mk ?l ?c ?k⟩; (case x => k_is); (case i => k_is); (case l => k_is); (case c => k_is); (case k => k_is))
    (case mmlin => refine' ⟨_, ?x, ?i, _, L2.fun_mk ?l ?c ?k⟩; (case x => k_is); (case i => k_is); (case l => k_is); (case c => k_is); (case k => k_is))
    (case mmsin => refine' ⟨_, ?x, ?i, _, L2.fun_mk ?l ?c ?k⟩; (case x => k_is); (case i => k_is); (case l => k_is); (case c => k_is); (case k => k_is))
    (case mmseq => refine' ⟨_, ?x, ?i, _, L2.fun_mk ?l ?c ?k⟩; (case x => k_is); (case i => k_is); (case l => k_is); (case c => k_is); (case k => k_is))
    (case mmrep => refine' ⟨_, ?x, ?i, _, L2.fun_mk ?l ?c ?k⟩; (case x => k_is); (case i => k_is); (case l => k_is); (case c => k_is); (case k => k_is))
    (case mmsha => refine' ⟨_, ?x, ?i, _, L2.fun_mk ?l ?c ?k⟩; (case x => k_is); (case i => k_is); (case l => k_is); (case c => k_is); (case k => k_is))
    (case mmfit => refine' ⟨_, ?x, ?i, _, L2.fun_mk ?l ?c ?k⟩; (case x => k_is); (case i => k_is); (case l => k_is); (case c => k_is); (case k => k_is))
    (case mmpro => refine' ⟨_, ?x, ?i, _, L2.fun_mk ?l ?c ?k⟩; (case x => k_is); (case i => k_is); (case l => k_is); (case c => k_is); (case k => k_is))
    (case mmsca => refine' ⟨_, ?x, ?i, _, L2.fun_mk ?l ?c ?k⟩; (case x => k_is); (case i => k_is); (case l => k_is); (case c => k_is); (case k => k_is))
    (case mrini => refine' ⟨_, ?x, ?i, _, L2.fun_mk ?l ?c ?k⟩; (case x => k_is); (case i => k_is); (case l => k_is); (case c => k_is); (case k => k_is))
    (case mpini => refine' ⟨_, ?x, ?i, _, L2.fun_mk ?l ?c ?k⟩; (case x => k_is); (case i => k_is); (case l => k_is); (case c => k_is); (case k => k_is))
    (case mptol => refine' ⟨_, ?x, ?i, _, L2.fun_mk ?l ?c ?k⟩; (case x => k_is); (case i => k_is); (case l => k_is); (case c => k_is); (case k => k_is))
    (case mwini => refine' ⟨_, ?x, ?i, _, L2.fun_mk ?l ?c ?k⟩; (case x => k_is); (case i => k_is); (case l => k_is); (case c => k_is); (case k => k_is))
    (case mwcut => refine' ⟨_, ?x, ?i, _, L2.fun_mk ?l ?c ?k⟩; (case x => k_is); (case i => k_is); (case l => k_is); (case c => k_is); (case k => k_is))
    (case mwout => refine' ⟨_, ?x, ?i, _, L2.fun_mk ?l ?c ?k⟩; (case x => k_is); (case i => k_is); (case l => k_is); (case c => k_is); (case k => k_is))
    (case mwfol => refine' ⟨_, ?x, ?i, _, L2.fun_mk ?l ?c ?k⟩; (case x => k_is); (case i => k_is); (case l => k_is); (case c => k_is); (case k => k_is))
    (case mwfin => refine' ⟨_, ?x, ?i, _, L2.fun_mk ?l ?c ?k⟩; (case x => k_is); (case i => k_is); (case l => k_is); (case c => k_is); (case k => k_is))
    (case msini => refine' ⟨_, ?x, ?i, _, L2.fun_mk ?l ?c ?k⟩; (case x => k_is); (case i => k_is); (case l => k_is); (case c => k_is); (case k => k_is))
    (case msbeg => refine' ⟨_, ?x, ?i, _, L2.fun_mk ?l ?c ?k⟩; (case x => k_is); (case i => k_is); (case l => k_is); (case c => k_is); (case k => k_is))
    (case msadd => refine' ⟨_, ?x, ?i, _, L2.fun_mk ?l ?c ?k⟩; (case x => k_is); (case i => k_is); (case l => k_is); (case c => k_is); (case k => k_is))
    (case msset => refine' ⟨_, ?x, ?i, _, L2.fun_mk ?l ?c ?k⟩; (case x => k_is); (case i => k_is); (case l => k_is); (case c => k_is); (case k => k_is))
    (case mspie => refine' ⟨_, ?x, ?i, _, L2.fun_mk ?l ?c ?k⟩; (case x => k_is); (case i => k_is); (case l => k_is); (case c => k_is); (case k => k_is))
    (case msedi => refine' ⟨_, ?x, ?i, _, L2.fun_mk ?l ?c ?k⟩; (case x => k_is); (case i => k_is); (case l => k_is); (case c => k_is); (case k => k_is))
    (case msat_ => refine' ⟨_, ?x, ?i, _, L2.fun_mk ?l ?c ?k⟩; (case x => k_is); (case i => k_is); (case l => k_is); (case c => k_is); (case k => k_is))
    (case mswor => refine' ⟨_, ?x, ?i, _, L2.fun_mk ?l ?c ?k⟩; (case x => k_is); (case i => k_is); (case l => k_is); (case c => k_is); (case k => k_is))
    (case mslon => refine' ⟨_, ?x, ?i, _, L2.fun_mk ?l ?c ?k⟩; (case x => k_is); (case i => k_is); (case l => k_is); (case c => k_is); (case k => k_is))
    (case mswri => refine' ⟨_, ?x, ?i, _, L2.fun_mk ?l ?c ?k⟩; (case x => k_is); (case i => k_is); (case l => k_is); (case c => k_is); (case k => k_is))
    (case msput => refine' ⟨_, ?x, ?i, _, L2.fun_mk ?l ?c ?k⟩; (case x => k_is); (case i => k_is); (case l => k_is); (case c => k_is); (case k => k_is))
    (case zlen => k_is)
    (case zmax => k_is)
    (case zmin => k_is)
    (case zrange => k_is)
    (case zlist => k_is)
    (case zreversed => k_is)
    (case zzip => k_is)
    (case ztuple => k_is)
    (case zsorted => k_is)
    (case zenumerate => k_is)
    (case iTOP_LEVEL => refine' Mp.HasI.mk ?x; (case x => k_is))
    (case iTOP_BYTE => refine' Mp.HasI.mk ?x; (case x => k_is))
    (case iNO_BYTE => refine' Mp.HasI.mk ?x; (case x => k_is))
    (case iONE_BYTE => refine' Mp.HasI.mk ?x; (case x => k_is))
    (case iNONE_OF => refine' Mp.HasI.mk ?x; (case x => k_is))
    (case iONE_BEHIND_OTHER => refine' Mp.HasI.mk ?x; (case x => k_is))
    (case iEITHER => refine' Mp.HasI.mk ?x; (case x => k_is))
    (case iANY_TIMES => refine' Mp.HasI.mk ?x; (case x => k_is))
    (case iONCE_OR_MORE => refine' Mp.HasI.mk ?x; (case x => k_is))
    (case iONCE_OR_NOT => refine' Mp.HasI.mk ?x; (case x => k_is))
    (case iFROM_TO => refine' Mp.HasI.mk ?x; (case x => k_is))
    (case iCHUNK_BITS => refine' Mp.HasI.mk ?x; (case x => k_is))
    (case iCHUNK_MASK => refine' Mp.HasI.mk ?x; (case x => k_is))
    (case iNOTHING => refine' Mp.HasI.mk ?x; (case x => k_is))
    (case iODD => refine' Mp.HasI.mk ?x; (case x => k_is))
    (case iFIRST_MODE => refine' Mp.HasI.mk ?x; (case x => k_is))
    (case iMOST_OPEN => refine' Mp.HasI.mk ?x; (case x => k_is))
    (case iOPENS => refine' Mp.HasI.mk ?x; (case x => k_is))
    (case iLEAVES => refine' Mp.HasI.mk ?x; (case x => k_is))
    (case iGOES_OVER => refine' Mp.HasI.mk ?x; (case x => k_is))
    (case iMOST_MODES => refine' Mp.HasI.mk ?x; (case x => k_is))
    (case iMOST_RULES => refine' Mp.HasI.mk ?x; (case x => k_is))
    (case iMOST_BYTES => refine' Mp.HasI.mk ?x; (case x => k_is))
    (case iMOST_WORDS => refine' Mp.HasI.mk ?x; (case x => k_is))
    (case iTOP_KIND => refine' Mp.HasI.mk ?x; (case x => k_is))
    (case iTOP_DOES => refine' Mp.HasI.mk ?x; (case x => k_is))
    (case iBEGIN => refine' Mp.HasI.mk ?x; (case x => k_is))
    (case iRULE => refine' Mp.HasI.mk ?x; (case x => k_is))
    (case iTEXT => refine' Mp.HasI.mk ?x; (case x => k_is))
    (case iPIECES => refine' Mp.HasI.mk ?x; (case x => k_is))
    (case iEDIT => refine' Mp.HasI.mk ?x; (case x => k_is))
    (case iAT => refine' Mp.HasI.mk ?x; (case x => k_is))
    (case iWORDS => refine' Mp.HasI.mk ?x; (case x => k_is))
    (case iLONGEST => refine' Mp.HasI.mk ?x; (case x => k_is))
    (case fI => refine' Mp.HasInner.mk ?x ?y ?z; (case x => k_is); (case y => k_is); (case z => exact .cons ⟨_, rfl⟩ <| .cons ⟨_, rfl⟩ <| .cons ⟨_, rfl⟩ <| .cons ⟨_, rfl⟩ <| .cons ⟨_, rfl⟩ <| .cons ⟨_, rfl⟩ <| .cons ⟨_, rfl⟩ <| .cons ⟨_, rfl⟩ <| .cons ⟨_, rfl⟩ <| .nil))
    (case fF => refine' Mp.HasForms.mk ?x ?y ?f1 ?f2 ?f3 ?f4 ?f5 ?f6 ?f7 ?f8 ?f9; (case x => k_is); (case y => k_is); (case f1 => refine' Mp.IsForm.mk2 (by decide +kernel) (Mp.HasPair.mk ?zz); (case zz => k_is)); (case f2 => refine' Mp.IsForm.mk2 (by decide +kernel) (Mp.HasPair.mk ?zz); (case zz => k_is)); (case f3 => refine' Mp.IsForm.mk2 (by decide +kernel) (Mp.HasPair.mk ?zz); (case zz => k_is)); (case f4 => refine' Mp.IsForm.mk2 (by decide +kernel) (Mp.HasPair.mk ?zz); (case zz => k_is)); (case f5 => refine' Mp.IsForm.mk2 (by decide +kernel) (Mp.HasPair.mk ?zz); (case zz => k_is)); (case f6 => refine' Mp.IsForm.mk2 (by decide +kernel) (Mp.HasPair.mk ?zz); (case zz => k_is)); (case f7 => refine' Mp.IsForm.mk2 (by decide +kernel) (Mp.HasPair.mk ?zz); (case zz => k_is)); (case f8 => refine' Mp.IsForm.mk2 (by decide +kernel) (Mp.HasPair.mk ?zz); (case zz => k_is)); (case f9 => refine' Mp.IsForm.mk2 (by decide +kernel) (Mp.HasPair.mk ?zz); (case zz => k_is)))
  case S =>
    intro K H xs a hO hwi hask hx
    cases hx with
    | cons h1 h2 =>
      cases h2
      cases h1 with
      | lst hs ha =>
        have e := L2.ints_dw a.1 _ ha
        subst e
        obtain ⟨rs, r1, r2, r3, r4⟩ := Mp.ask_of (l := a.1) hask
        rw [r1, Mp.cst_iv] at hs
        refine ⟨_, rs, rfl, hs, r2, r4, fun H' p hp => ?_⟩
        rw [r3] at hp
        exact .lst (L2.SqL.of hp) (L2.dw_ints _)

import PyProof.Rows.All
import Wide.All
import OpenK.AllK
import Wide.FinOn
import Open.SpecLaws
import KE.OsGo
import HandS.ForSpec
import HandS.Comp
import HandS.Dict
import HandS.Iter
import HandS.WordsDict
import HandS.Flow
import HandS.SortKw
import HandS.SortInts
import HandS.Codes
import KE.DatumOrd
import KE.KMinBuiltin
import PySem.Challenge.RW_grantsback_s01_answers
set_option Elab.async false
set_option maxRecDepth 100000
set_option maxHeartbeats 2000000
namespace Gb
open Wm01
abbrev G := Wm01.Grant
/-! ### lists -/
theorem take_snoc {α : Type} : ∀ {l : List α} {i : Nat} {x : α}, l[i]? = some x → l.take (i + 1) = l.take i ++ [x]
  | [], i, x, h => by simp at h
  | a :: l, 0, x, h => by
    have e : a = x := Option.some.inj h
    subst e
    rfl
  | a :: l, i + 1, x, h => by
    have ih := take_snoc (l := l) (i := i) (x := x) h
    show a :: l.take (i + 1) = a :: l.take i ++ [x]
    rw [ih]
    rfl
/-! ### what somebody has -/
/-- by grants of one right -/
def hv (l : List G) (u : Nat) : Nat := if (l.any fun g => g.taker == u && g.pass) = true then 2 else if (l.any fun g => g.taker == u) = true then 1 else 0
theorem hv_nil (u : Nat) : hv [] u = 0 := rfl
theorem hv_snoc (l : List G) (g : G) (u : Nat) : hv (l ++ [g]) u = if g.taker = u then (if 1 + flag g.pass > hv l u then 1 + flag g.pass else hv l u) else hv l u := by
  unfold hv
  rw [List.any_append, List.any_append]
  by_cases h : g.taker = u
  · subst h
    cases hp : g.pass <;> cases h1 : (l.any fun x => x.taker == g.taker && x.pass) <;> cases h2 : (l.any fun x => x.taker == g.taker) <;> simp [hp, flag]
  · simp [h]
theorem hv_le (l : List G) (u : Nat) : hv l u ≤ 2 := by
  unfold hv
  split
  · omega
  · split <;> omega
theorem hv_has (l : List G) {u : Nat} (r : Nat) (hu : u ≠ 0) : hv (l.filter fun g => g.right == r) u = has l u r := by
  unfold hv has
  rw [if_neg hu, List.any_filter, List.any_filter]
  have e1 : (fun (x : G) => x.right == r && (x.taker == u && x.pass)) = fun g => g.taker == u && (g.right == r && g.pass) := by
    funext x
    cases x.right == r <;> cases x.taker == u <;> rfl
  have e2 : (fun (x : G) => x.right == r && (x.taker == u)) = fun g => g.taker == u && g.right == r := by
    funext x
    cases x.right == r <;> cases x.taker == u <;> rfl
  rw [e1, e2]
/-- what_user_has, whoever is asked -/
def wh (l : List G) (u r : Nat) : Nat := hv (l.filter fun g => g.right == r) u
theorem wh_two (l : List G) (u r : Nat) : decide (wh l u r = 2) = l.any fun g => g.taker == u && (g.right == r && g.pass) := by
  unfold wh hv
  rw [List.any_filter, List.any_filter]
  have e1 : (fun (x : G) => x.right == r && (x.taker == u && x.pass)) = fun g => g.taker == u && (g.right == r && g.pass) := by
    funext x
    cases x.right == r <;> cases x.taker == u <;> rfl
  rw [e1]
  cases h : (l.any fun g => g.taker == u && (g.right == r && g.pass)) with
  | true => simp
  | false =>
    simp only [Bool.false_eq_true, if_false]
    split <;> simp
theorem may_iff (l : List G) (u r : Nat) : mayGive l u r = (decide (u = 0) || decide (wh l u r = 2)) := by
  unfold mayGive
  rw [wh_two]
  cases h : u == 0 with
  | true => rw [decide_eq_true (beq_iff_eq.mp h)]
  | false => rw [decide_eq_false (by intro e; rw [beq_iff_eq.mpr e] at h; cases h)]
/-! ### what stands -/
theorem standFrom_snoc (g : G) : ∀ (m l : List G), standFrom l (m ++ [g]) = if mayGive (standFrom l m) g.giver g.right = true then standFrom l m ++ [g] else standFrom l m
  | [], l => by
    show (if mayGive l g.giver g.right = true then standFrom (l ++ [g]) [] else standFrom l []) = _
    rfl
  | x :: m, l => by
    show (if mayGive l x.giver x.right = true then standFrom (l ++ [x]) (m ++ [g]) else standFrom l (m ++ [g])) = _
    by_cases h : mayGive l x.giver x.right = true
    · rw [if_pos h, standFrom_snoc g m]
      have e : standFrom l (x :: m) = standFrom (l ++ [x]) m := if_pos h
      rw [e]
    · rw [if_neg h, standFrom_snoc g m]
      have e : standFrom l (x :: m) = standFrom l m := if_neg h
      rw [e]
theorem stand_snoc (m : List G) (g : G) : stand (m ++ [g]) = if mayGive (stand m) g.giver g.right = true then stand m ++ [g] else stand m := standFrom_snoc g m []
theorem standFrom_sub : ∀ (m l : List G), ∃ m', m'.Sublist m ∧ standFrom l m = l ++ m'
  | [], l => ⟨[], List.Sublist.refl _, (List.append_nil l).symm⟩
  | x :: m, l => by
    by_cases h : mayGive l x.giver x.right = true
    · obtain ⟨m', s, e⟩ := standFrom_sub m (l ++ [x])
      refine ⟨x :: m', s.cons_cons x, ?_⟩
      have e0 : standFrom l (x :: m) = standFrom (l ++ [x]) m := if_pos h
      rw [e0, e, List.append_assoc]
      rfl
    · obtain ⟨m', s, e⟩ := standFrom_sub m l
      refine ⟨m', s.cons x, ?_⟩
      have e0 : standFrom l (x :: m) = standFrom l m := if_neg h
      rw [e0, e]
theorem stand_sub (m : List G) : (stand m).Sublist m := by
  obtain ⟨m', s, e⟩ := standFrom_sub m []
  unfold stand
  rw [e]
  exact s
/-! ### taken over -/
theorem over_snoc (a b r : Nat) (g : G) : ∀ (m l : List G), takeOver a b r l (m ++ [g]) = if mayGive (takeOver a b r l m) g.giver g.right = true then takeOver a b r l m ++ [g]
    else if g.giver = b ∧ g.right = r ∧ g.taker ≠ a then takeOver a b r l m ++ [{ g with giver := a }] else takeOver a b r l m
  | [], l => by
    show (if mayGive l g.giver g.right = true then takeOver a b r (l ++ [g]) [] else if g.giver = b ∧ g.right = r ∧ g.taker ≠ a then takeOver a b r (l ++ [{ g with giver := a }]) [] else takeOver a b r l []) = _
    rfl
  | x :: m, l => by
    show (if mayGive l x.giver x.right = true then takeOver a b r (l ++ [x]) (m ++ [g]) else if x.giver = b ∧ x.right = r ∧ x.taker ≠ a then takeOver a b r (l ++ [{ x with giver := a }]) (m ++ [g]) else takeOver a b r l (m ++ [g])) = _
    by_cases h : mayGive l x.giver x.right = true
    · have e : takeOver a b r l (x :: m) = takeOver a b r (l ++ [x]) m := if_pos h
      rw [if_pos h, over_snoc a b r g m, e]
    · by_cases h2 : x.giver = b ∧ x.right = r ∧ x.taker ≠ a
      · have e : takeOver a b r l (x :: m) = takeOver a b r (l ++ [{ x with giver := a }]) m := (if_neg h).trans (if_pos h2)
        rw [if_neg h, if_pos h2, over_snoc a b r g m, e]
      · have e : takeOver a b r l (x :: m) = takeOver a b r l m := (if_neg h).trans (if_neg h2)
        rw [if_neg h, if_neg h2, over_snoc a b r g m, e]
/-- what of a grant stays whoever is its giver -/
def ky (g : G) : Nat × Nat × Nat × Bool := (g.num, g.taker, g.right, g.pass)
theorem g_ext {g h : G} (k : ky g = ky h) (e : g.giver = h.giver) : g = h := by
  cases g
  cases h
  simp only [ky, Prod.mk.injEq] at k
  obtain ⟨k1, k2, k3, k4⟩ := k
  simp only at e
  subst k1 k2 k3 k4 e
  rfl
/-- what is taken over of m: of each either itself or itself with a for b -/
theorem over_from (a b r : Nat) : ∀ (m l : List G), ∃ m', (m'.map ky).Sublist (m.map ky) ∧ (∀ g ∈ m', g ∈ m ∨ ∃ h ∈ m, h.giver = b ∧ g = { h with giver := a }) ∧ takeOver a b r l m = l ++ m'
  | [], l => ⟨[], List.Sublist.refl _, by simp, (List.append_nil l).symm⟩
  | x :: m, l => by
    by_cases h : mayGive l x.giver x.right = true
    · obtain ⟨m', s, q, e⟩ := over_from a b r m (l ++ [x])
      refine ⟨x :: m', by rw [List.map_cons, List.map_cons]; exact s.cons_cons _, fun g hg => ?_, ?_⟩
      · rcases List.mem_cons.mp hg with rfl | hg
        · exact .inl (List.mem_cons_self)
        · rcases q g hg with z | ⟨h', z, w⟩
          · exact .inl (List.mem_cons_of_mem _ z)
          · exact .inr ⟨h', List.mem_cons_of_mem _ z, w⟩
      · have e0 : takeOver a b r l (x :: m) = takeOver a b r (l ++ [x]) m := if_pos h
        rw [e0, e, List.append_assoc]
        rfl
    · by_cases h2 : x.giver = b ∧ x.right = r ∧ x.taker ≠ a
      · obtain ⟨m', s, q, e⟩ := over_from a b r m (l ++ [{ x with giver := a }])
        refine ⟨{ x with giver := a } :: m', by rw [List.map_cons, List.map_cons]; exact s.cons_cons _, fun g hg => ?_, ?_⟩
        · rcases List.mem_cons.mp hg with rfl | hg
          · exact .inr ⟨x, List.mem_cons_self, h2.1, rfl⟩
          · rcases q g hg with z | ⟨h', z, w⟩
            · exact .inl (List.mem_cons_of_mem _ z)
            · exact .inr ⟨h', List.mem_cons_of_mem _ z, w⟩
        · have e0 : takeOver a b r l (x :: m) = takeOver a b r (l ++ [{ x with giver := a }]) m := (if_neg h).trans (if_pos h2)
          rw [e0, e, List.append_assoc]
          rfl
      · obtain ⟨m', s, q, e⟩ := over_from a b r m l
        refine ⟨m', by rw [List.map_cons]; exact s.cons _, fun g hg => ?_, ?_⟩
        · rcases q g hg with z | ⟨h', z, w⟩
          · exact .inl (List.mem_cons_of_mem _ z)
          · exact .inr ⟨h', List.mem_cons_of_mem _ z, w⟩
        · have e0 : takeOver a b r l (x :: m) = takeOver a b r l m := (if_neg h).trans (if_neg h2)
          rw [e0, e]
/-! ### who has less -/
def upTo (n : Nat) : List Nat := (List.range n).map fun i => i + 1
theorem upTo_succ (n : Nat) : upTo (n + 1) = upTo n ++ [n + 1] := by
  unfold upTo
  rw [List.range_succ, List.map_append]
  rfl
theorem losers_eq (l m : List G) (r : Nat) : losers l m r = (upTo 12).filter fun u => decide (wh m u r < wh l u r) := by
  unfold losers
  show (upTo 12).filter _ = _
  refine List.filter_congr fun u hu => ?_
  have hu0 : u ≠ 0 := by
    intro e
    subst e
    unfold upTo at hu
    obtain ⟨i, _, h⟩ := List.mem_map.mp hu
    omega
  unfold wh
  rw [hv_has m r hu0, hv_has l r hu0]
/-! ### all stand -/
theorem snoc_ind {α : Type} {P : List α → Prop} (h0 : P []) (h1 : ∀ l x, P l → P (l ++ [x])) (l : List α) : P l := by
  have key : ∀ (m : List α), P m.reverse := by
    intro m
    induction m with
    | nil => exact h0
    | cons x m ih =>
      rw [List.reverse_cons]
      exact h1 _ _ ih
  have := key l.reverse
  rwa [List.reverse_reverse] at this
theorem may_mono {l m : List G} {u r : Nat} (h : mayGive l u r = true) (s : ∀ g ∈ l, g ∈ m) : mayGive m u r = true := by
  unfold mayGive at h ⊢
  rcases (Bool.or_eq_true _ _).mp h with z | z
  · rw [z, Bool.true_or]
  · obtain ⟨g, hg, q⟩ := List.any_eq_true.mp z
    rw [List.any_eq_true.mpr ⟨g, s g hg, q⟩, Bool.or_true]
theorem stands_snoc {m : List G} {g : G} : stand (m ++ [g]) = m ++ [g] ↔ stand m = m ∧ mayGive m g.giver g.right = true := by
  rw [stand_snoc]
  constructor
  · intro h
    by_cases c : mayGive (stand m) g.giver g.right = true
    · rw [if_pos c] at h
      have e := List.append_cancel_right h
      rw [e] at c
      exact ⟨e, c⟩
    · rw [if_neg c] at h
      have e := congrArg List.length h
      have le := (stand_sub m).length_le
      rw [List.length_append] at e
      simp at e
      omega
  · rintro ⟨e, c⟩
    rw [e, if_pos c]
theorem stands_left {m : List G} : ∀ {n : List G}, stand (m ++ n) = m ++ n → stand m = m := by
  intro n
  induction n using snoc_ind with
  | h0 =>
    intro h
    rwa [List.append_nil] at h
  | h1 l x ih =>
    intro h
    rw [← List.append_assoc] at h
    exact ih (stands_snoc.mp h).1
theorem stands_mid {m n : List G} {x : G} (h : stand (m ++ x :: n) = m ++ x :: n) : stand m = m ∧ mayGive m x.giver x.right = true := by
  have e : m ++ x :: n = (m ++ [x]) ++ n := by simp
  rw [e] at h
  exact stands_snoc.mp (stands_left h)
theorem stand_stands (m : List G) : stand (stand m) = stand m := by
  induction m using snoc_ind with
  | h0 => rfl
  | h1 l x ih =>
    rw [stand_snoc]
    by_cases c : mayGive (stand l) x.giver x.right = true
    · rw [if_pos c]
      exact stands_snoc.mpr ⟨ih, c⟩
    · rw [if_neg c]
      exact ih
theorem over_append (a b r : Nat) : ∀ (m n l : List G), takeOver a b r l (m ++ n) = takeOver a b r (takeOver a b r l m) n
  | [], _, _ => rfl
  | x :: m, n, l => by
    show (if mayGive l x.giver x.right = true then takeOver a b r (l ++ [x]) (m ++ n) else if x.giver = b ∧ x.right = r ∧ x.taker ≠ a then takeOver a b r (l ++ [{ x with giver := a }]) (m ++ n) else takeOver a b r l (m ++ n)) = takeOver a b r (if mayGive l x.giver x.right = true then takeOver a b r (l ++ [x]) m else if x.giver = b ∧ x.right = r ∧ x.taker ≠ a then takeOver a b r (l ++ [{ x with giver := a }]) m else takeOver a b r l m) n
    split
    · exact over_append a b r m n _
    · split
      · exact over_append a b r m n _
      · exact over_append a b r m n _
theorem over_same (a b r : Nat) {l : List G} (h : stand l = l) : takeOver a b r [] l = l := by
  induction l using snoc_ind with
  | h0 => rfl
  | h1 l x ih =>
    obtain ⟨h1, h2⟩ := stands_snoc.mp h
    rw [over_snoc, ih h1, if_pos h2]
theorem over_stands (a b r : Nat) : ∀ (m l : List G), stand l = l → mayGive l a r = true → stand (takeOver a b r l m) = takeOver a b r l m
  | [], _, h, _ => h
  | x :: m, l, h, k => by
    show stand (if mayGive l x.giver x.right = true then takeOver a b r (l ++ [x]) m else if x.giver = b ∧ x.right = r ∧ x.taker ≠ a then takeOver a b r (l ++ [{ x with giver := a }]) m else takeOver a b r l m) = _
    have mono : ∀ y : G, mayGive (l ++ [y]) a r = true := fun y => may_mono k fun g hg => List.mem_append_left _ hg
    by_cases c : mayGive l x.giver x.right = true
    · have e : takeOver a b r l (x :: m) = takeOver a b r (l ++ [x]) m := if_pos c
      rw [if_pos c, e]
      exact over_stands a b r m _ (stands_snoc.mpr ⟨h, c⟩) (mono x)
    · by_cases c2 : x.giver = b ∧ x.right = r ∧ x.taker ≠ a
      · have e : takeOver a b r l (x :: m) = takeOver a b r (l ++ [{ x with giver := a }]) m := (if_neg c).trans (if_pos c2)
        rw [if_neg c, if_pos c2, e]
        refine over_stands a b r m _ (stands_snoc.mpr ⟨h, ?_⟩) (mono _)
        show mayGive l a x.right = true
        rw [c2.2.1]
        exact k
      · have e : takeOver a b r l (x :: m) = takeOver a b r l m := (if_neg c).trans (if_neg c2)
        rw [if_neg c, if_neg c2, e]
        exact over_stands a b r m l h k
theorem first_split {α : Type} {p : α → Bool} : ∀ {l : List α}, l.any p = true → ∃ m x n, l = m ++ x :: n ∧ p x = true ∧ ∀ y ∈ m, p y = false
  | [], h => by cases h
  | y :: l, h => by
    cases c : p y with
    | true => exact ⟨[], y, l, rfl, c, by simp⟩
    | false =>
      rw [List.any_cons, c, Bool.false_or] at h
      obtain ⟨m, x, n, e, px, q⟩ := first_split h
      exact ⟨y :: m, x, n, by rw [e]; rfl, px, fun z hz => by
        rcases List.mem_cons.mp hz with rfl | hz
        · exact c
        · exact q z hz⟩
theorem kept_stands {l : List G} {a b r : Nat} (h : stand l = l) (k : l.any (by_ a b r) = true) : stand (keptOver l a b r) = keptOver l a b r := by
  obtain ⟨m, x, n, rfl, px, q⟩ := first_split k
  obtain ⟨h1, h2⟩ := stands_mid h
  have e : (m ++ x :: n).filter (fun g => !by_ a b r g) = m ++ n.filter (fun g => !by_ a b r g) := by
    rw [List.filter_append, List.filter_cons, px]
    have e1 : m.filter (fun g => !by_ a b r g) = m := List.filter_eq_self.mpr fun y hy => by rw [q y hy]; rfl
    rw [e1]
    rfl
  unfold keptOver
  rw [e, over_append, over_same a b r h1]
  refine over_stands a b r _ _ h1 ?_
  unfold by_ at px
  simp only [Bool.and_eq_true, beq_iff_eq] at px
  rw [px.1, px.2.2] at h2
  exact h2
/-! ### what holds of a house between two calls -/
structure HInv (s : Wm01.House) : Prop where
  up : s.grants.Pairwise (fun g h => g.num < h.num)
  num : ∀ g ∈ s.grants, 1 ≤ g.num ∧ g.num < s.next
  tak : ∀ g ∈ s.grants, isUser g.taker = true ∧ isRight g.right = true
  giv : ∀ g ∈ s.grants, g.giver ≤ 12
  few : ∀ r, (s.grants.filter fun g => g.right == r).length ≤ 14
  std : stand s.grants = s.grants
  len : s.grants.length < s.next
theorem inv_init : HInv Wm01.init := ⟨List.Pairwise.nil, by simp [Wm01.init], by simp [Wm01.init], by simp [Wm01.init], fun r => by simp [Wm01.init], rfl, by simp [Wm01.init]⟩
theorem few_ky (l : List G) (r : Nat) : (l.filter fun g => g.right == r).length = (l.map ky).countP fun k => k.2.2.1 == r := by
  rw [List.countP_map, List.countP_eq_length_filter]
  rfl
/-- fewer grants, some of them with another giver -/
theorem HInv.less {s : Wm01.House} (h : HInv s) {m : List G} (sub : (m.map ky).Sublist (s.grants.map ky)) (gv : ∀ g ∈ m, g.giver ≤ 12) (st : stand m = m) : HInv { s with grants := m } := by
  have mem : ∀ g ∈ m, ∃ g' ∈ s.grants, ky g' = ky g := fun g hg => List.mem_map.mp (sub.subset (List.mem_map_of_mem hg))
  refine ⟨?_, fun g hg => ?_, fun g hg => ?_, gv, fun r => ?_, st, ?_⟩
  · have u : (s.grants.map ky).Pairwise (fun a b => a.1 < b.1) := List.pairwise_map.mpr h.up
    have v : (m.map ky).Pairwise (fun a b => a.1 < b.1) := u.sublist sub
    have w := List.pairwise_map.mp v
    exact w
  · obtain ⟨g', hg', e⟩ := mem g hg
    have e1 : g'.num = g.num := congrArg (·.1) e
    rw [← e1]
    exact h.num g' hg'
  · obtain ⟨g', hg', e⟩ := mem g hg
    have e1 : g'.taker = g.taker := congrArg (·.2.1) e
    have e2 : g'.right = g.right := congrArg (·.2.2.1) e
    rw [← e1, ← e2]
    exact h.tak g' hg'
  · show (m.filter _).length ≤ 14
    rw [few_ky]
    exact Nat.le_trans sub.countP_le (by rw [← few_ky]; exact h.few r)
  · have le := sub.length_le
    rw [List.length_map, List.length_map] at le
    exact Nat.lt_of_le_of_lt le h.len
theorem HInv.sub {s : Wm01.House} (h : HInv s) {m : List G} (sub : m.Sublist s.grants) : HInv { s with grants := stand m } :=
  h.less (((stand_sub m).trans sub).map ky) (fun g hg => h.giv g (((stand_sub m).trans sub).subset hg)) (stand_stands m)
theorem inv_revoked {s : Wm01.House} (h : HInv s) (a b r : Nat) : HInv { s with grants := revoked s.grants a b r } := h.sub List.filter_sublist
theorem isTriple_iff {a b r : Nat} : isTriple a b r = true ↔ a ≤ 12 ∧ isUser b = true ∧ isRight r = true ∧ a ≠ b := by
  unfold isTriple
  simp
theorem kept_from (l : List G) (a b r : Nat) : ((keptOver l a b r).map ky).Sublist (l.map ky) ∧ ∀ g ∈ keptOver l a b r, g ∈ l ∨ ∃ h ∈ l, h.giver = b ∧ g = { h with giver := a } := by
  obtain ⟨m', s, q, e⟩ := over_from a b r (l.filter fun g => !by_ a b r g) []
  unfold keptOver
  rw [e, List.nil_append]
  refine ⟨s.trans (List.filter_sublist.map ky), fun g hg => ?_⟩
  rcases q g hg with z | ⟨h, z, w⟩
  · exact .inl (List.mem_filter.mp z).1
  · exact .inr ⟨h, (List.mem_filter.mp z).1, w⟩
theorem inv_kept {s : Wm01.House} (h : HInv s) {a b r : Nat} (t : a ≤ 12) (k : anyBy s a b r = true) : HInv { s with grants := keptOver s.grants a b r } := by
  obtain ⟨sb, q⟩ := kept_from s.grants a b r
  refine h.less sb (fun g hg => ?_) (kept_stands h.std k)
  rcases q g hg with z | ⟨g', _, _, rfl⟩
  · exact h.giv g z
  · exact t
theorem inv_grant {s : Wm01.House} (h : HInv s) {a b r : Nat} {p : Bool} (t : isTriple a b r = true) (m : mayGive s.grants a r = true) (f : (s.grants.filter fun g => g.right == r).length < 14) :
    HInv ⟨s.grants ++ [⟨s.next, a, b, r, p⟩], s.next + 1⟩ := by
  obtain ⟨t1, t2, t3, _⟩ := isTriple_iff.mp t
  have mem : ∀ {P : G → Prop}, (∀ g ∈ s.grants, P g) → P ⟨s.next, a, b, r, p⟩ → ∀ g ∈ s.grants ++ [⟨s.next, a, b, r, p⟩], P g := fun h1 h2 g hg => by
    rcases List.mem_append.mp hg with z | z
    · exact h1 g z
    · rw [List.mem_singleton.mp z]
      exact h2
  refine ⟨?_, mem (fun g hg => ⟨(h.num g hg).1, Nat.lt_succ_of_lt (h.num g hg).2⟩) ⟨Nat.lt_of_le_of_lt (Nat.zero_le _) h.len, Nat.lt_succ_self _⟩, mem h.tak ⟨t2, t3⟩, mem h.giv t1, fun r' => ?_, stands_snoc.mpr ⟨h.std, m⟩, ?_⟩
  · refine List.pairwise_append.mpr ⟨h.up, List.pairwise_singleton _ _, fun g hg g' hg' => ?_⟩
    rw [List.mem_singleton.mp hg']
    exact (h.num g hg).2
  · show ((s.grants ++ [_]).filter _).length ≤ 14
    rw [List.filter_append, List.length_append]
    by_cases c : r = r'
    · subst c
      exact Nat.le_trans (Nat.add_le_add_left (List.length_filter_le _ _) _) f
    · have e : (([⟨s.next, a, b, r, p⟩] : List G).filter fun g => g.right == r') = [] := by simp [c]
      rw [e]
      exact h.few r'
  · show (s.grants ++ [_]).length < s.next + 1
    rw [List.length_append]
    have := h.len
    simp
    omega
theorem step_inv {s : Wm01.House} (h : HInv s) (c : Wm01.Call) : HInv (Wm01.step s c).1 := by
  cases c with
  | grant a b r p =>
    show HInv (if isTriple a b r = false ∨ 1 < p then (s, [-1]) else if mayGive s.grants a r = false then (s, [-6]) else if 14 ≤ (s.grants.filter fun g => g.right == r).length then (s, [-5]) else
    (⟨s.grants ++ [⟨s.next, a, b, r, p == 1⟩], s.next + 1⟩, Wm01.ints [s.next])).1
    split
    · exact h
    · next c1 =>
      split
      · exact h
      · next c2 =>
        split
        · exact h
        · next c3 =>
          refine inv_grant h ?_ (by simpa using c2) (by omega)
          have : ¬ isTriple a b r = false := fun e => c1 (.inl e)
          simpa using this
  | revoke a b r =>
    show HInv (if isTriple a b r = false then (s, [-1]) else if anyBy s a b r = false then (s, [-3]) else
    ({ s with grants := revoked s.grants a b r }, Wm01.ints [s.grants.length - (revoked s.grants a b r).length])).1
    split
    · exact h
    · split
      · exact h
      · exact inv_revoked h a b r
  | over a b r =>
    show HInv (if isTriple a b r = false then (s, [-1]) else if anyBy s a b r = false then (s, [-3]) else
    ({ s with grants := keptOver s.grants a b r }, Wm01.ints [s.grants.length - (keptOver s.grants a b r).length, ((keptOver s.grants a b r).filter fun g => !s.grants.contains g).length])).1
    split
    · exact h
    · next c1 =>
      split
      · exact h
      · next c2 =>
        have t : isTriple a b r = true := by simpa using c1
        exact inv_kept h (isTriple_iff.mp t).1 (by simpa using c2)
  | careful a b r =>
    show HInv (if isTriple a b r = false then (s, [-1]) else if anyBy s a b r = false then (s, [-3]) else
    if (losers s.grants (revoked s.grants a b r) r).all (fun u => u == b) = false then (s, [-6]) else
    ({ s with grants := revoked s.grants a b r }, Wm01.ints [s.grants.length - (revoked s.grants a b r).length])).1
    split
    · exact h
    · split
      · exact h
      · split
        · exact h
        · exact inv_revoked h a b r
  | leave u =>
    show HInv (if isUser u = false then (s, [-1]) else
    ({ s with grants := stand (s.grants.filter fun g => g.giver != u && g.taker != u) }, Wm01.ints [s.grants.length - (stand (s.grants.filter fun g => g.giver != u && g.taker != u)).length])).1
    split
    · exact h
    · exact h.sub List.filter_sublist
  | has u r => exact h
  | chain u r => exact h
  | behind n => exact h
  | fewest u r => exact h
  | users r => exact h
  | grants r => exact h
  | lose a b r => exact h
theorem step_next {s : Wm01.House} (c : Wm01.Call) : (Wm01.step s c).1.next ≤ s.next + 1 := by
  cases c <;> simp only [Wm01.step] <;> (repeat' split) <;> simp
/-! ### who has a new giver -/
theorem num_inj : ∀ {l : List G}, l.Pairwise (fun g h => g.num < h.num) → ∀ {g h : G}, g ∈ l → h ∈ l → g.num = h.num → g = h
  | [], _, _, _, hg, _, _ => by cases hg
  | x :: l, p, g, h, hg, hh, e => by
    obtain ⟨p1, p2⟩ := List.pairwise_cons.mp p
    rcases List.mem_cons.mp hg with eg | hg'
    · rcases List.mem_cons.mp hh with eh | hh'
      · rw [eg, eh]
      · have := p1 h hh'
        rw [eg] at e
        omega
    · rcases List.mem_cons.mp hh with eh | hh'
      · have := p1 g hg'
        rw [eh] at e
        omega
      · exact num_inj p2 hg' hh' e
/-- of what is taken over: its own giver of old, and whether that is another -/
theorem kept_giver {l : List G} {a b r : Nat} (hp : l.Pairwise (fun g h => g.num < h.num)) (ne : a ≠ b) {g : G} (hg : g ∈ keptOver l a b r) : ∃ h ∈ l, h.num = g.num ∧ (!l.contains g) = decide (g.giver ≠ h.giver) := by
  rcases (kept_from l a b r).2 g hg with z | ⟨h, z, w, rfl⟩
  · refine ⟨g, z, rfl, ?_⟩
    have : l.contains g = true := List.contains_iff_mem.mpr z
    rw [this]
    simp
  · refine ⟨h, z, rfl, ?_⟩
    have : l.contains { h with giver := a } = false := by
      cases c : l.contains { h with giver := a } with
      | false => rfl
      | true =>
        have m := List.contains_iff_mem.mp c
        have e := num_inj hp m z rfl
        have e2 : a = h.giver := congrArg (·.giver) e
        exact absurd (e2.trans w) ne
    rw [this]
    simp [w, ne]
end Gb
namespace Gb
open Wm01
/-! ### one right by itself -/
abbrev ofR (r : Nat) (l : List G) : List G := l.filter fun g => g.right == r
theorem may_ofR (l : List G) (u r : Nat) : mayGive (ofR r l) u r = mayGive l u r := by
  unfold mayGive ofR
  rw [List.any_filter]
  have e : (fun (x : G) => x.right == r && (x.taker == u && (x.right == r && x.pass))) = fun g => g.taker == u && (g.right == r && g.pass) := by
    funext x
    cases x.right == r <;> cases x.taker == u <;> rfl
  rw [e]
theorem standFrom_ofR (r : Nat) : ∀ (m l : List G), ofR r (standFrom l m) = standFrom (ofR r l) (ofR r m)
  | [], _ => rfl
  | x :: m, l => by
    cases c : x.right == r with
    | true =>
      have er : x.right = r := beq_iff_eq.mp c
      have e1 : ofR r (x :: m) = x :: ofR r m := by
        unfold ofR
        rw [List.filter_cons, if_pos c]
      have e2 : ofR r (l ++ [x]) = ofR r l ++ [x] := by
        unfold ofR
        rw [List.filter_append, List.filter_cons, if_pos c]
        rfl
      have em : mayGive (ofR r l) x.giver x.right = mayGive l x.giver x.right := by
        rw [er]
        exact may_ofR l x.giver r
      rw [e1]
      show ofR r (if mayGive l x.giver x.right = true then standFrom (l ++ [x]) m else standFrom l m) = if mayGive (ofR r l) x.giver x.right = true then standFrom (ofR r l ++ [x]) (ofR r m) else standFrom (ofR r l) (ofR r m)
      rw [em]
      split
      · rw [standFrom_ofR r m, e2]
      · exact standFrom_ofR r m l
    | false =>
      have e1 : ofR r (x :: m) = ofR r m := by
        unfold ofR
        rw [List.filter_cons, if_neg (by rw [c]; exact Bool.false_ne_true)]
      have e2 : ofR r (l ++ [x]) = ofR r l := by
        unfold ofR
        rw [List.filter_append, List.filter_cons, if_neg (by rw [c]; exact Bool.false_ne_true)]
        exact List.append_nil _
      rw [e1]
      show ofR r (if mayGive l x.giver x.right = true then standFrom (l ++ [x]) m else standFrom l m) = _
      split
      · rw [standFrom_ofR r m, e2]
      · exact standFrom_ofR r m l
theorem stand_ofR (r : Nat) (m : List G) : ofR r (stand m) = stand (ofR r m) := standFrom_ofR r m []
theorem has_ofR (l : List G) (u r : Nat) : has (ofR r l) u r = has l u r := by
  unfold has ofR
  rw [List.any_filter, List.any_filter]
  have e1 : (fun (x : G) => x.right == r && (x.taker == u && (x.right == r && x.pass))) = fun g => g.taker == u && (g.right == r && g.pass) := by
    funext x
    cases x.right == r <;> cases x.taker == u <;> rfl
  have e2 : (fun (x : G) => x.right == r && (x.taker == u && x.right == r)) = fun g => g.taker == u && g.right == r := by
    funext x
    cases x.right == r <;> cases x.taker == u <;> rfl
  rw [e1, e2]
theorem wh_ofR (l : List G) (u r : Nat) : wh (ofR r l) u r = wh l u r := by
  unfold wh ofR
  rw [List.filter_filter]
  simp only [Bool.and_self]
/-- what is left without some grants -/
abbrev wo (ns : List Nat) (l : List G) : List G := l.filter fun h => !ns.contains h.num
theorem wo_ofR (r : Nat) (ns : List Nat) (l : List G) : ofR r (wo ns l) = wo ns (ofR r l) := by
  unfold ofR wo
  rw [List.filter_filter, List.filter_filter]
  congr 1
  funext g
  rw [Bool.and_comm]
theorem cuts_ofR (l : List G) (u r : Nat) (ns : List Nat) : cuts (ofR r l) u r ns = cuts l u r ns := by
  show (has (stand (wo ns (ofR r l))) u r == 0) = (has (stand (wo ns l)) u r == 0)
  rw [← wo_ofR, ← stand_ofR, has_ofR]
theorem fewest_ofR (l : List G) (u r : Nat) : fewest (ofR r l) u r = fewest l u r := by
  have e : ofR r (ofR r l) = ofR r l := by
    unfold ofR
    rw [List.filter_filter]
    simp only [Bool.and_self]
  have e2 : cuts (ofR r l) u r = cuts l u r := funext fun ns => cuts_ofR l u r ns
  show (((List.range (((ofR r (ofR r l)).map fun g => g.num).length + 1)).flatMap fun k => choices k ((ofR r (ofR r l)).map fun g => g.num)).find? (cuts (ofR r l) u r)).getD ((ofR r (ofR r l)).map fun g => g.num) = _
  rw [e, e2]
  rfl
/-! ### more grants, more stands -/
theorem standFrom_mono : ∀ {m m' : List G}, m.Sublist m' → ∀ {l l' : List G}, (∀ g ∈ l, g ∈ l') → ∀ g ∈ standFrom l m, g ∈ standFrom l' m' := by
  intro m m' s
  induction s with
  | slnil => exact fun h g hg => h g hg
  | cons x s ih =>
    intro l l' h g hg
    show g ∈ (if mayGive l' x.giver x.right = true then standFrom (l' ++ [x]) _ else standFrom l' _)
    split
    · exact ih (fun g hg => List.mem_append_left _ (h g hg)) g hg
    · exact ih h g hg
  | cons_cons x s ih =>
    rename_i m1 m2
    intro l l' h g hg
    have hg' : g ∈ (if mayGive l x.giver x.right = true then standFrom (l ++ [x]) m1 else standFrom l m1) := hg
    show g ∈ (if mayGive l' x.giver x.right = true then standFrom (l' ++ [x]) m2 else standFrom l' m2)
    by_cases c : mayGive l x.giver x.right = true
    · rw [if_pos c] at hg'
      rw [if_pos (may_mono c h)]
      refine ih (fun y hy => ?_) g hg'
      rcases List.mem_append.mp hy with z | z
      · exact List.mem_append_left _ (h y z)
      · exact List.mem_append_right _ z
    · rw [if_neg c] at hg'
      split
      · exact ih (fun y hy => List.mem_append_left _ (h y hy)) g hg'
      · exact ih h g hg'
theorem stand_mono {m m' : List G} (s : m.Sublist m') : ∀ g ∈ stand m, g ∈ stand m' := standFrom_mono s (fun _ h => h)
theorem filter_sub {α : Type} {p q : α → Bool} : ∀ (l : List α), (∀ x ∈ l, p x = true → q x = true) → (l.filter p).Sublist (l.filter q)
  | [], _ => List.Sublist.refl _
  | x :: l, h => by
    have ih := filter_sub l fun y hy => h y (List.mem_cons_of_mem _ hy)
    rw [List.filter_cons, List.filter_cons]
    by_cases c : p x = true
    · rw [if_pos c, if_pos (h x List.mem_cons_self c)]
      exact ih.cons_cons _
    · rw [if_neg c]
      split
      · exact ih.cons _
      · exact ih
theorem has_zero {l : List G} {u r : Nat} (hu : u ≠ 0) : has l u r = 0 ↔ ∀ g ∈ l, ¬ (g.taker = u ∧ g.right = r) := by
  unfold has
  rw [if_neg hu]
  constructor
  · intro h g hg ⟨e1, e2⟩
    have a : (l.any fun g => g.taker == u && g.right == r) = true := List.any_eq_true.mpr ⟨g, hg, by simp [e1, e2]⟩
    rw [a] at h
    split at h
    · omega
    · simp at h
  · intro h
    have a : (l.any fun g => g.taker == u && g.right == r) = false := by
      cases c : (l.any fun g => g.taker == u && g.right == r) with
      | false => rfl
      | true =>
        obtain ⟨g, hg, q⟩ := List.any_eq_true.mp c
        simp only [Bool.and_eq_true, beq_iff_eq] at q
        exact absurd q (h g hg)
    have b : (l.any fun g => g.taker == u && (g.right == r && g.pass)) = false := by
      cases c : (l.any fun g => g.taker == u && (g.right == r && g.pass)) with
      | false => rfl
      | true =>
        obtain ⟨g, hg, q⟩ := List.any_eq_true.mp c
        simp only [Bool.and_eq_true, beq_iff_eq] at q
        exact absurd ⟨q.1, q.2.1⟩ (h g hg)
    rw [a, b]
    rfl
theorem cuts_mono {l : List G} {u r : Nat} {ns ns' : List Nat} (hu : u ≠ 0) (s : ∀ n ∈ ns, n ∈ ns') (h : cuts l u r ns = true) : cuts l u r ns' = true := by
  have h0 : has (stand (wo ns l)) u r = 0 := beq_iff_eq.mp h
  refine beq_iff_eq.mpr ((has_zero hu).mpr fun g hg => (has_zero hu).mp h0 g (stand_mono (filter_sub l fun x _ hx => ?_) g hg))
  cases c : ns.contains x.num with
  | false => rfl
  | true =>
    have m := s _ (List.contains_iff_mem.mp c)
    rw [List.contains_iff_mem.mpr m] at hx
    exact hx
/-- without any grant of it they have none -/
theorem cuts_all {l : List G} {u r : Nat} (hu : u ≠ 0) : cuts l u r ((ofR r l).map fun g => g.num) = true := by
  refine beq_iff_eq.mpr ((has_zero hu).mpr fun g hg ⟨_, e2⟩ => ?_)
  have m := (stand_sub _).subset hg
  obtain ⟨m1, m2⟩ := List.mem_filter.mp m
  have k : ((ofR r l).map fun g => g.num).contains g.num = true := List.contains_iff_mem.mpr (List.mem_map_of_mem (List.mem_filter.mpr ⟨m1, by simp [e2]⟩))
  rw [k] at m2
  cases m2
/-! ### the rows of so many -/
theorem choices_zero (ns : List Nat) : choices 0 ns = [[]] := by
  cases ns <;> rfl
theorem mem_choices : ∀ (k : Nat) (ns c : List Nat), c ∈ choices k ns ↔ c.Sublist ns ∧ c.length = k
  | 0, ns, c => by
    rw [choices_zero, List.mem_singleton]
    constructor
    · rintro rfl
      exact ⟨List.nil_sublist _, rfl⟩
    · rintro ⟨_, h⟩
      exact List.eq_nil_of_length_eq_zero h
  | k + 1, [], c => by
    show c ∈ [] ↔ _
    constructor
    · intro h
      cases h
    · rintro ⟨s, h⟩
      rw [List.sublist_nil.mp s] at h
      cases h
  | k + 1, x :: l, c => by
    show c ∈ (choices k l).map (fun c => x :: c) ++ choices (k + 1) l ↔ _
    rw [List.mem_append, List.mem_map, mem_choices (k + 1) l c]
    constructor
    · rintro (⟨d, hd, rfl⟩ | ⟨s, h⟩)
      · obtain ⟨s, h⟩ := (mem_choices k l d).mp hd
        exact ⟨s.cons_cons x, by rw [List.length_cons, h]⟩
      · exact ⟨s.cons x, h⟩
    · rintro ⟨s, h⟩
      cases s with
      | cons _ s => exact .inr ⟨s, h⟩
      | cons_cons _ s =>
        rename_i d
        exact .inl ⟨d, (mem_choices k l d).mpr ⟨s, by simpa using h⟩, rfl⟩
/-- rows of one length: the lower number at the first place at which they differ -/
def lexlt : List Nat → List Nat → Prop
  | x :: a, y :: b => x < y ∨ (x = y ∧ lexlt a b)
  | _, _ => False
theorem choices_up : ∀ (k : Nat) (ns : List Nat), ns.Pairwise (· < ·) → (choices k ns).Pairwise lexlt
  | 0, ns, _ => by
    rw [choices_zero]
    exact List.pairwise_singleton _ _
  | _ + 1, [], _ => List.Pairwise.nil
  | k + 1, x :: l, h => by
    obtain ⟨h1, h2⟩ := List.pairwise_cons.mp h
    show ((choices k l).map (fun c => x :: c) ++ choices (k + 1) l).Pairwise lexlt
    refine List.pairwise_append.mpr ⟨List.pairwise_map.mpr ((choices_up k l h2).imp fun q => .inr ⟨rfl, q⟩), choices_up (k + 1) l h2, fun a ha b hb => ?_⟩
    obtain ⟨c, _, rfl⟩ := List.mem_map.mp ha
    obtain ⟨s, e⟩ := (mem_choices (k + 1) l b).mp hb
    cases b with
    | nil => cases e
    | cons y b => exact .inl (h1 y (s.subset List.mem_cons_self))
/-- before: shorter, or as long and lower -/
def before (a b : List Nat) : Prop := a.length < b.length ∨ (a.length = b.length ∧ lexlt a b)
def rowsOf (ns : List Nat) : List (List Nat) := (List.range (ns.length + 1)).flatMap fun k => choices k ns
theorem mem_rows {ns c : List Nat} : c ∈ rowsOf ns ↔ c.Sublist ns := by
  unfold rowsOf
  rw [List.mem_flatMap]
  constructor
  · rintro ⟨k, _, h⟩
    exact ((mem_choices k ns c).mp h).1
  · intro h
    exact ⟨c.length, List.mem_range.mpr (Nat.lt_succ_of_le h.length_le), (mem_choices _ ns c).mpr ⟨h, rfl⟩⟩
theorem rows_up {ns : List Nat} (h : ns.Pairwise (· < ·)) : (rowsOf ns).Pairwise before := by
  unfold rowsOf
  generalize ns.length + 1 = m
  induction m with
  | zero => exact List.Pairwise.nil
  | succ m ih =>
    rw [List.range_succ, List.flatMap_append]
    refine List.pairwise_append.mpr ⟨ih, ?_, fun a ha b hb => ?_⟩
    · show ((choices m ns) ++ []).Pairwise before
      rw [List.append_nil]
      refine (choices_up m ns h).imp_of_mem fun {a b} ha hb q => .inr ⟨?_, q⟩
      rw [((mem_choices m ns a).mp ha).2, ((mem_choices m ns b).mp hb).2]
    · obtain ⟨k, hk, ha⟩ := List.mem_flatMap.mp ha
      have hb' : b ∈ choices m ns := by simpa using hb
      refine .inl ?_
      rw [((mem_choices k ns a).mp ha).2, ((mem_choices m ns b).mp hb').2]
      exact List.mem_range.mp hk
theorem lex_irr : ∀ (a : List Nat), ¬ lexlt a a
  | [], h => h
  | x :: a, h => by
    rcases h with h | ⟨_, h⟩
    · omega
    · exact lex_irr a h
theorem lex_anti : ∀ (a b : List Nat), lexlt a b → ¬ lexlt b a
  | [], _, h, _ => by cases h
  | _ :: _, [], h, _ => by cases h
  | x :: a, y :: b, h, k => by
    rcases h with h | ⟨e, h⟩
    · rcases k with k | ⟨e', _⟩
      · omega
      · omega
    · rcases k with k | ⟨_, k⟩
      · omega
      · exact lex_anti a b h k
theorem before_anti {a b : List Nat} (h : before a b) : ¬ before b a := by
  rintro (k | ⟨k1, k2⟩)
  · rcases h with h | ⟨h, _⟩ <;> omega
  · rcases h with h | ⟨_, h⟩
    · omega
    · exact lex_anti a b h k2
theorem find_first {α : Type} {R : α → α → Prop} {p : α → Bool} : ∀ {l : List α}, l.Pairwise R → ∀ x ∈ l, p x = true → (∀ y ∈ l, p y = true → y = x ∨ R x y) → (∀ a b, R a b → ¬ R b a) → l.find? p = some x
  | [], _, x, hx, _, _, _ => by cases hx
  | z :: l, hp, x, hx, px, hmin, anti => by
    obtain ⟨h1, h2⟩ := List.pairwise_cons.mp hp
    by_cases c : p z = true
    · rw [List.find?_cons_of_pos c]
      rcases hmin z List.mem_cons_self c with e | e
      · rw [e]
      · rcases List.mem_cons.mp hx with e' | hx'
        · rw [e']
        · exact absurd (h1 x hx') (anti _ _ e)
    · rw [List.find?_cons_of_neg c]
      rcases List.mem_cons.mp hx with e' | hx'
      · rw [e'] at px
        exact absurd px c
      · exact find_first h2 x hx' px (fun y hy => hmin y (List.mem_cons_of_mem _ hy)) anti
/-- **what is told by fewest, by what it is**: any row that cuts off and ahead of which none does -/
theorem fewest_is {l : List G} {u r : Nat} {x : List Nat} (up : l.Pairwise (fun g h => g.num < h.num)) (s : x.Sublist ((ofR r l).map fun g => g.num)) (hx : cuts l u r x = true)
    (hmin : ∀ y : List Nat, y.Sublist ((ofR r l).map fun g => g.num) → cuts l u r y = true → y = x ∨ before x y) : fewest l u r = x := by
  have up' : ((ofR r l).map fun g => g.num).Pairwise (· < ·) := List.pairwise_map.mpr (up.sublist List.filter_sublist)
  show ((rowsOf ((ofR r l).map fun g => g.num)).find? (cuts l u r)).getD _ = x
  rw [find_first (rows_up up') x (mem_rows.mpr s) hx (fun y hy py => hmin y (mem_rows.mp hy) py) (fun a b => before_anti)]
  rfl
/-! ### the chain -/
theorem firstTo_ahead {m n : List G} {g : G} (h : mayGive m g.giver g.right = true) (h0 : g.giver ≠ 0) : ∃ x ∈ m, firstTo (m ++ g :: n) g.giver g.right true = some x := by
  unfold mayGive at h
  have z : (g.giver == 0) = false := by simpa using h0
  rw [z, Bool.false_or] at h
  unfold firstTo
  rw [List.find?_append]
  cases e : m.find? fun x => x.taker == g.giver && (x.right == g.right && (!true || x.pass)) with
  | some x => exact ⟨x, List.mem_of_find?_eq_some e, rfl⟩
  | none =>
    obtain ⟨y, hy, q⟩ := List.any_eq_true.mp h
    have := List.find?_eq_none.mp e y hy
    simp only [Bool.not_true, Bool.false_or] at this
    exact absurd q this
/-- who gave stands ahead -/
theorem first_lower {s : Wm01.House} (h : HInv s) {g : G} (hg : g ∈ s.grants) (h0 : g.giver ≠ 0) : ∃ x ∈ s.grants, firstTo s.grants g.giver g.right true = some x ∧ x.num < g.num := by
  obtain ⟨m, n, e⟩ := List.append_of_mem hg
  have st := h.std
  rw [e] at st
  obtain ⟨_, hm⟩ := stands_mid st
  obtain ⟨x, hx, f⟩ := firstTo_ahead (n := n) hm h0
  have up := h.up
  rw [e] at up ⊢
  exact ⟨x, List.mem_append_left _ hx, f, (List.pairwise_append.mp up).2.2 x hx g List.mem_cons_self⟩
/-- how many stand ahead -/
def ahead (l : List G) (n : Nat) : Nat := (l.filter fun g => decide (g.num < n)).length
theorem ahead_lt {l : List G} {x : G} {n : Nat} (hx : x ∈ l) (h : x.num < n) : ahead l x.num < ahead l n := by
  unfold ahead
  obtain ⟨a, b, rfl⟩ := List.append_of_mem hx
  rw [List.filter_append, List.filter_append, List.length_append, List.length_append, List.filter_cons, List.filter_cons, if_neg (by simp), if_pos (by simp [h]), List.length_cons]
  have h1 := (filter_sub (p := fun g : G => decide (g.num < x.num)) (q := fun g => decide (g.num < n)) a (fun g _ hp => by simp at hp ⊢; omega)).length_le
  have h2 := (filter_sub (p := fun g : G => decide (g.num < x.num)) (q := fun g => decide (g.num < n)) b (fun g _ hp => by simp at hp ⊢; omega)).length_le
  omega
theorem chain_fuel {s : Wm01.House} (h : HInv s) : ∀ (k : Nat) (g : G), g ∈ s.grants → ahead s.grants g.num ≤ k → ∀ f, ahead s.grants g.num ≤ f → chainTo s.grants f g = chainTo s.grants k g := by
  intro k
  induction k with
  | zero =>
    intro g hg hk f hf
    by_cases h0 : g.giver = 0
    · cases f with
      | zero => rfl
      | succ f =>
        show (if g.giver = 0 then [g.num] else _) = [g.num]
        rw [if_pos h0]
    · obtain ⟨x, hx, _, lt⟩ := first_lower h hg h0
      have := ahead_lt hx lt
      omega
  | succ k ih =>
    intro g hg hk f hf
    by_cases h0 : g.giver = 0
    · cases f with
      | zero =>
        show [g.num] = (if g.giver = 0 then [g.num] else _)
        rw [if_pos h0]
      | succ f =>
        show (if g.giver = 0 then [g.num] else _) = (if g.giver = 0 then [g.num] else _)
        rw [if_pos h0, if_pos h0]
    · obtain ⟨x, hx, fx, lt⟩ := first_lower h hg h0
      have al := ahead_lt hx lt
      cases f with
      | zero => omega
      | succ f =>
        show (if g.giver = 0 then [g.num] else match firstTo s.grants g.giver g.right true with
          | none => [g.num]
          | some h => chainTo s.grants f h ++ [g.num]) = (if g.giver = 0 then [g.num] else match firstTo s.grants g.giver g.right true with
          | none => [g.num]
          | some h => chainTo s.grants k h ++ [g.num])
        rw [if_neg h0, if_neg h0, fx]
        show chainTo s.grants f x ++ [g.num] = chainTo s.grants k x ++ [g.num]
        rw [ih x hx (by omega) f (by omega)]
/-- the chain to a grant -/
def chn (l : List G) (g : G) : List Nat := chainTo l l.length g
theorem ahead_len (l : List G) (n : Nat) : ahead l n ≤ l.length := List.length_filter_le _ _
theorem chn_house {l : List G} {g : G} (h0 : g.giver = 0) : chn l g = [g.num] := by
  unfold chn
  cases l.length with
  | zero => rfl
  | succ f =>
    show (if g.giver = 0 then [g.num] else _) = [g.num]
    rw [if_pos h0]
theorem chn_step {s : Wm01.House} (h : HInv s) {g x : G} (hg : g ∈ s.grants) (h0 : g.giver ≠ 0) (fx : firstTo s.grants g.giver g.right true = some x) : chn s.grants g = chn s.grants x ++ [g.num] := by
  obtain ⟨x', hx, fx', lt⟩ := first_lower h hg h0
  have e : x' = x := Option.some.inj (fx'.symm.trans fx)
  subst e
  have al := ahead_lt hx lt
  unfold chn
  have e1 := chain_fuel h s.grants.length g hg (ahead_len _ _) (s.grants.length + 1) (Nat.le_succ_of_le (ahead_len _ _))
  rw [← e1]
  show (if g.giver = 0 then [g.num] else match firstTo s.grants g.giver g.right true with
    | none => [g.num]
    | some h => chainTo s.grants s.grants.length h ++ [g.num]) = _
  rw [if_neg h0, fx]
theorem chain_eq (l : List G) (u r : Nat) : Wm01.chain l u r = match firstTo l u r false with
    | none => []
    | some g => chn l g := rfl
/-! ### what falls -/
/-- by numbers: what stays of grants is told by its numbers -/
theorem falls_num {l : List G} (up : l.Pairwise (fun g h => g.num < h.num)) (ns : List Nat) : falls l ns = (l.filter fun g => !((stand (wo ns l)).map fun h => h.num).contains g.num).map fun g => g.num := by
  unfold falls
  congr 1
  refine List.filter_congr fun g hg => ?_
  congr 1
  have sb : ∀ h ∈ stand (wo ns l), h ∈ l := fun h hh => List.filter_sublist.subset ((stand_sub _).subset hh)
  show (stand (wo ns l)).contains g = _
  cases c : (stand (wo ns l)).contains g with
  | true =>
    exact (List.contains_iff_mem.mpr (List.mem_map_of_mem (List.contains_iff_mem.mp c))).symm
  | false =>
    cases c2 : ((stand (wo ns l)).map fun h => h.num).contains g.num with
    | false => rfl
    | true =>
      obtain ⟨h, hh, e⟩ := List.mem_map.mp (List.contains_iff_mem.mp c2)
      have e' := num_inj up (sb h hh) hg e
      rw [e'] at hh
      rw [List.contains_iff_mem.mpr hh] at c
      cases c
end Gb
namespace Gb
/-! ### a line's calls as one list -/
def flatN : Wm01.Call → List Nat
  | .grant a b r p => [0, a, b, r, p]
  | .revoke a b r => [1, a, b, r]
  | .over a b r => [2, a, b, r]
  | .careful a b r => [3, a, b, r]
  | .leave u => [4, u]
  | .has u r => [5, u, r]
  | .chain u r => [6, u, r]
  | .behind n => [7, n]
  | .fewest u r => [8, u, r]
  | .users r => [9, r]
  | .grants r => [10, r]
  | .lose a b r => [11, a, b, r]
def flat (c : Wm01.Call) : List Int := (flatN c).map fun (n : Nat) => (n : Int)
theorem callIn_flat {l : List Nat} {c : Wm01.Call} (h : Wm01Neutral.callIn l = some c) : l = flatN c := by
  unfold Wm01Neutral.callIn at h
  split at h <;> first | (cases h; rfl) | cases h
theorem callOf_flat {l : List Int} {c : Wm01.Call} (h : Wm01Neutral.callOf l = some c) : l = flat c := by
  unfold Wm01Neutral.callOf at h
  split at h
  · cases h
  · next k =>
    have e := callIn_flat h
    have k' : l.all Wm01Neutral.nat = true := by simpa using k
    unfold flat
    rw [← e, List.map_map]
    have : l.map ((fun (n : Nat) => (n : Int)) ∘ Int.toNat) = l.map id := List.map_congr_left fun x hx => by
      have q := List.all_eq_true.mp k' x hx
      unfold Wm01Neutral.nat at q
      simp only [Bool.and_eq_true, decide_eq_true_eq] at q
      show (x.toNat : Int) = x
      omega
    rw [this, List.map_id]
theorem whole_id (c : List (List Int)) : PyWm01.whole c = c := by
  unfold PyWm01.whole
  split <;> rfl
theorem ite_zero {c : Prop} [Decidable c] {m n k : Nat} {o : Option (Nat × Nat)} (ih : o = some (n, k) → k = 0) (h : (if c then some (m, 0) else o) = some (n, k)) : k = 0 := by
  by_cases hc : c
  · rw [if_pos hc] at h
    cases h
    rfl
  · rw [if_neg hc] at h
    exact ih h
theorem shape_zero {p : Int} {n k : Nat} (h : PyWm01.shape p = some (n, k)) : k = 0 := by
  unfold PyWm01.shape at h
  revert h
  iterate 12 refine ite_zero ?_
  intro h
  cases h
theorem call_head {l t : List Int} {c : List (List Int)} (h : PyFlat.call PyWm01.shape l = some (c, t)) : l = c.headD [] ++ t := by
  cases l with
  | nil => cases h
  | cons p r =>
    cases e : PyWm01.shape p with
    | none =>
      simp only [PyFlat.call, e] at h
      cases h
    | some q =>
      obtain ⟨n, k⟩ := q
      have k0 := shape_zero e
      subst k0
      simp only [PyFlat.call, e, PyFlat.rows] at h
      by_cases ge : r.length < n
      · rw [if_pos ge] at h
        cases h
      · rw [if_neg ge] at h
        cases h
        show p :: r = (p :: r.take n) ++ r.drop n
        rw [List.cons_append, List.take_append_drop]
theorem calls_flat : ∀ (f : Nat) (l : List Int) (raw : List (List (List Int))), PyFlat.calls PyWm01.shape f l = some raw → l = raw.flatMap fun c => c.headD []
  | f, [], raw, h => by
    have e : some ([] : List (List (List Int))) = some raw := by
      cases f <;> exact h
    cases e
    rfl
  | 0, _ :: _, _, h => by cases h
  | f + 1, p :: r, raw, h => by
    unfold PyFlat.calls at h
    split at h
    · cases h
    · next c t e =>
      split at h
      · cases h
      · next cs e2 =>
        cases h
        rw [call_head e, calls_flat f t cs e2]
        rfl
/-- the calls one behind another: each one's answer -/
def plays : Wm01.House → List Wm01.Call → List (List Int)
  | _, [] => []
  | s, c :: l => (Wm01.step s c).2 :: plays (Wm01.step s c).1 l
theorem played_plays : ∀ (raw : List (List (List Int))) (s : Wm01.House), (raw.all fun c => Wm01Neutral.asked1 (c.headD [])) = true → ∃ cs : List Wm01.Call,
    cs.length = raw.length ∧ (raw.flatMap fun c => c.headD []) = cs.flatMap flat ∧ PyFlat.played (fun s c => Wm01Neutral.step s (c.headD [])) s raw = plays s cs
  | [], s, _ => ⟨[], rfl, rfl, rfl⟩
  | c :: raw, s, h => by
    rw [List.all_cons, Bool.and_eq_true] at h
    obtain ⟨x, hx⟩ : ∃ x, Wm01Neutral.callOf (c.headD []) = some x := Option.isSome_iff_exists.mp h.1
    have st : Wm01Neutral.step s (c.headD []) = Wm01.step s x := by
      unfold Wm01Neutral.step
      rw [hx]
    obtain ⟨cs, e1, e2, e3⟩ := played_plays raw (Wm01.step s x).1 h.2
    refine ⟨x :: cs, by rw [List.length_cons, List.length_cons, e1], ?_, ?_⟩
    · rw [List.flatMap_cons, List.flatMap_cons, e2, ← callOf_flat hx]
    · show (Wm01Neutral.step s (c.headD [])).2 :: PyFlat.played _ (Wm01Neutral.step s (c.headD [])).1 raw = (Wm01.step s x).2 :: plays (Wm01.step s x).1 cs
      rw [st, e3]
theorem asked_calls {ns : List Int} (h : PyWm01.answers_asked ns = true) : ∃ cs : List Wm01.Call, ns = cs.flatMap flat ∧ cs.length ≤ 60 ∧ PyWm01.answers ns = PyFlat.told (plays Wm01.init cs) ∧ (PyWm01.answers ns).length ≤ 10000000 := by
  unfold PyWm01.answers_asked at h
  split at h
  · cases h
  · next raw e =>
    have ew : raw.map PyWm01.whole = raw := by
      rw [show PyWm01.whole = id from funext whole_id, List.map_id]
    rw [ew] at h
    simp only [Bool.and_eq_true] at h
    obtain ⟨⟨⟨⟨_, h60⟩, _⟩, ha⟩, hs⟩ := h
    unfold Wm01Neutral.asked at ha
    rw [Bool.and_eq_true, List.all_map] at ha
    obtain ⟨cs, e1, e2, e3⟩ := played_plays raw Wm01.init ha.1
    refine ⟨cs, (calls_flat _ _ _ e).trans e2, by rw [e1]; exact of_decide_eq_true h60, ?_, of_decide_eq_true hs⟩
    unfold PyWm01.answers PyWm01.calls
    rw [e]
    show PyFlat.told (PyFlat.played _ _ (raw.map PyWm01.whole)) = _
    rw [ew]
    exact congrArg PyFlat.told e3
theorem told_cons (a : List Int) (l : List (List Int)) : PyFlat.told (a :: l) = ((a.length : Int) :: a) ++ PyFlat.told l := by
  unfold PyFlat.told
  rw [List.flatMap_cons]
theorem told_append (l m : List (List Int)) : PyFlat.told (l ++ m) = PyFlat.told l ++ PyFlat.told m := by
  unfold PyFlat.told
  rw [List.flatMap_append]
/-- the house behind so many calls -/
def runs : Wm01.House → List Wm01.Call → Wm01.House
  | s, [] => s
  | s, c :: l => runs (Wm01.step s c).1 l
theorem plays_append : ∀ (l m : List Wm01.Call) (s : Wm01.House), plays s (l ++ m) = plays s l ++ plays (runs s l) m
  | [], _, _ => rfl
  | c :: l, m, s => by
    show (Wm01.step s c).2 :: plays (Wm01.step s c).1 (l ++ m) = _
    rw [plays_append l m]
    rfl
theorem runs_snoc : ∀ (l : List Wm01.Call) (c : Wm01.Call) (s : Wm01.House), runs s (l ++ [c]) = (Wm01.step (runs s l) c).1
  | [], _, _ => rfl
  | d :: l, c, s => runs_snoc l c (Wm01.step s d).1
theorem runs_inv : ∀ (l : List Wm01.Call) {s : Wm01.House}, HInv s → HInv (runs s l)
  | [], _, h => h
  | c :: l, _, h => runs_inv l (step_inv h c)
theorem runs_next : ∀ (l : List Wm01.Call) (s : Wm01.House), (runs s l).next ≤ s.next + l.length
  | [], _ => Nat.le_refl _
  | c :: l, s => by
    have h := runs_next l (Wm01.step s c).1
    have k := step_next (s := s) c
    show (runs (Wm01.step s c).1 l).next ≤ s.next + (l.length + 1)
    omega
theorem plays_snoc (l : List Wm01.Call) (c : Wm01.Call) (s : Wm01.House) : PyFlat.told (plays s (l ++ [c])) = PyFlat.told (plays s l) ++ (((Wm01.step (runs s l) c).2.length : Int) :: (Wm01.step (runs s l) c).2) := by
  rw [plays_append, told_append]
  show _ ++ PyFlat.told [(Wm01.step (runs s l) c).2] = _
  rw [told_cons]
  show _ ++ ((_ :: _) ++ []) = _
  rw [List.append_nil]
end Gb
namespace Gb
open Wm01
/-! ### cut off, of grants of one right -/
/-- without the grants of these numbers none that stands is given to u -/
def cut (u : Nat) (gs : List G) (ns : List Nat) : Prop := ∀ g ∈ stand (wo ns gs), g.taker ≠ u
theorem wo_nil (l : List G) : wo [] l = l := List.filter_eq_self.mpr fun _ _ => rfl
theorem wo_snoc (ns : List Nat) (p : List G) (g : G) : wo ns (p ++ [g]) = if g.num ∈ ns then wo ns p else wo ns p ++ [g] := by
  unfold wo
  rw [List.filter_append]
  by_cases c : g.num ∈ ns
  · rw [if_pos c]
    have e : [g].filter (fun h => !ns.contains h.num) = [] := by
      rw [List.filter_cons, if_neg (by rw [List.contains_iff_mem.mpr c]; decide)]
      rfl
    rw [e, List.append_nil]
  · rw [if_neg c]
    have e : [g].filter (fun h => !ns.contains h.num) = [g] := by
      rw [List.filter_cons, if_pos]
      · rfl
      · cases d : ns.contains g.num with
        | true => exact absurd (List.contains_iff_mem.mp d) c
        | false => rfl
    rw [e]
theorem may_snoc {r : Nat} (l : List G) (g : G) (n : Nat) (hr : g.right = r) : mayGive (l ++ [g]) n r = (mayGive l n r || (g.taker == n && g.pass)) := by
  unfold mayGive
  rw [List.any_append]
  have e : ([g].any fun g => g.taker == n && (g.right == r && g.pass)) = (g.taker == n && g.pass) := by
    rw [List.any_cons, List.any_nil, Bool.or_false, hr, beq_self_eq_true, Bool.true_and]
  rw [e, Bool.or_assoc]
/-- what shortest_chain knows of the grants p: the chains to u, a chain to each who may give -/
structure SInv (u r : Nat) (p : List G) (tu : List (List G)) (tg : Nat → Option (List G)) : Prop where
  may : ∀ n, (tg n).isSome = mayGive (stand p) n r
  none_ : tu = [] → ∀ g ∈ stand p, g.taker ≠ u
  subU : ∀ c ∈ tu, c.Sublist p
  subG : ∀ n c, tg n = some c → c.Sublist p
  robU : ∀ c ∈ tu, ∀ ns : List Nat, (∀ h ∈ c, h.num ∉ ns) → ∃ h ∈ stand (wo ns p), h.taker = u
  robG : ∀ n c, tg n = some c → ∀ ns : List Nat, (∀ h ∈ c, h.num ∉ ns) → mayGive (stand (wo ns p)) n r = true
  oneG : ∀ n c, tg n = some c → (∀ h ∈ c, h.taker ≠ u) ∨ ∃ c' ∈ tu, c'.length ≤ c.length
  oneU : ∀ c ∈ tu, ∃ c0 g, c = c0 ++ [g] ∧ ((∀ h ∈ c0, h.taker ≠ u) ∨ ∃ c' ∈ tu, c'.length ≤ c0.length)
def tg0 : Nat → Option (List G) := fun n => if n = 0 then some [] else none
theorem sinv_nil (u r : Nat) : SInv u r [] [] tg0 := by
  have st : stand [] = [] := rfl
  have h0 : ∀ n c, tg0 n = some c → n = 0 ∧ c = [] := fun n c e => by
    unfold tg0 at e
    split at e
    · next z => exact ⟨z, (Option.some.inj e).symm⟩
    · cases e
  refine ⟨fun n => ?_, fun _ g hg => (by rw [st] at hg; cases hg), fun c hc => by (cases hc), fun n c e => ?_, fun c hc => by (cases hc), fun n c e ns _ => ?_, fun n c e => ?_, fun c hc => by (cases hc)⟩
  · unfold tg0 mayGive
    by_cases c : n = 0
    · subst c; rfl
    · rw [if_neg c, beq_eq_false_iff_ne.mpr c, st]
      rfl
  · rw [(h0 n c e).2]
    exact List.nil_sublist _
  · rw [(h0 n c e).1]
    unfold mayGive
    rfl
  · rw [(h0 n c e).2]
    exact .inl (by simp)
theorem stand_old (p : List G) (g : G) (ns : List Nat) : ∀ x ∈ stand (wo ns p), x ∈ stand (wo ns (p ++ [g])) :=
  stand_mono (by
    rw [wo_snoc]
    split
    · exact List.Sublist.refl _
    · exact List.sublist_append_left _ _)
theorem SInv.skip {u r : Nat} {p : List G} {tu : List (List G)} {tg : Nat → Option (List G)} (h : SInv u r p tu tg) {g : G} (hr : g.right = r) (hn : tg g.giver = none) : SInv u r (p ++ [g]) tu tg := by
  have m : mayGive (stand p) g.giver g.right = false := by
    rw [hr, ← h.may, hn]
    rfl
  have st : stand (p ++ [g]) = stand p := by
    rw [stand_snoc, if_neg (by rw [m]; decide)]
  have sub : p.Sublist (p ++ [g]) := List.sublist_append_left _ _
  exact ⟨fun n => by rw [st]; exact h.may n, fun e => by rw [st]; exact h.none_ e, fun c hc => (h.subU c hc).trans sub, fun n c e => (h.subG n c e).trans sub,
    fun c hc ns q => by
      obtain ⟨x, hx, e⟩ := h.robU c hc ns q
      exact ⟨x, stand_old p g ns x hx, e⟩,
    fun n c e ns q => may_mono (h.robG n c e ns q) (stand_old p g ns), h.oneG, h.oneU⟩
/-- the function with another value at one place -/
def putT (tg : Nat → Option (List G)) (n : Nat) (c : List G) : Nat → Option (List G) := fun m => if m = n then some c else tg m
theorem SInv.go {u r : Nat} {p : List G} {tu : List (List G)} {tg tg' : Nat → Option (List G)} (h : SInv u r p tu tg) {g : G} {c : List G} (hr : g.right = r) (hn : tg g.giver = some c)
    (ht : (tg' = tg ∧ (g.pass = false ∨ tg g.taker ≠ none)) ∨ (tg' = putT tg g.taker (c ++ [g]) ∧ g.pass = true)) : SInv u r (p ++ [g]) (if g.taker = u then tu ++ [c ++ [g]] else tu) tg' := by
  have m : mayGive (stand p) g.giver g.right = true := by
    rw [hr, ← h.may, hn]
    rfl
  have st : stand (p ++ [g]) = stand p ++ [g] := by
    rw [stand_snoc, if_pos m]
  have sub : p.Sublist (p ++ [g]) := List.sublist_append_left _ _
  have subC : (c ++ [g]).Sublist (p ++ [g]) := (h.subG _ c hn).append (List.Sublist.refl _)
  -- the new chain holds
  have robC : ∀ ns : List Nat, (∀ x ∈ c ++ [g], x.num ∉ ns) → g ∈ stand (wo ns (p ++ [g])) := fun ns q => by
    have q1 := h.robG _ c hn ns fun x hx => q x (List.mem_append_left _ hx)
    have q2 := q g (List.mem_append_right _ (List.mem_singleton.mpr rfl))
    rw [wo_snoc, if_neg q2, stand_snoc, hr, if_pos q1]
    exact List.mem_append_right _ (List.mem_singleton.mpr rfl)
  have memU : ∀ x, x ∈ (if g.taker = u then tu ++ [c ++ [g]] else tu) → x ∈ tu ∨ (g.taker = u ∧ x = c ++ [g]) := fun x hx => by
    split at hx
    · next z =>
      rcases List.mem_append.mp hx with y | y
      · exact .inl y
      · exact .inr ⟨z, List.mem_singleton.mp y⟩
    · exact .inl hx
  have oldU : ∀ x ∈ tu, x ∈ (if g.taker = u then tu ++ [c ++ [g]] else tu) := fun x hx => by
    split
    · exact List.mem_append_left _ hx
    · exact hx
  have newU : g.taker = u → c ++ [g] ∈ (if g.taker = u then tu ++ [c ++ [g]] else tu) := fun z => by
    rw [if_pos z]
    exact List.mem_append_right _ (List.mem_singleton.mpr rfl)
  have memG : ∀ n x, tg' n = some x → tg n = some x ∨ (n = g.taker ∧ x = c ++ [g] ∧ g.pass = true) := fun n x e => by
    rcases ht with ⟨z, _⟩ | ⟨z, zp⟩
    · rw [z] at e
      exact .inl e
    · rw [z] at e
      unfold putT at e
      split at e
      · next y => exact .inr ⟨y, (Option.some.inj e).symm, zp⟩
      · exact .inl e
  have oldG : ∀ x : List G, ((∀ y ∈ x, y.taker ≠ u) ∨ ∃ c' ∈ tu, c'.length ≤ x.length) → ((∀ y ∈ x, y.taker ≠ u) ∨ ∃ c' ∈ (if g.taker = u then tu ++ [c ++ [g]] else tu), c'.length ≤ x.length) := fun x q => by
    rcases q with q | ⟨c', h1, h2⟩
    · exact .inl q
    · exact .inr ⟨c', oldU c' h1, h2⟩
  refine ⟨fun n => ?_, fun e => ?_, fun x hx => ?_, fun n x e => ?_, fun x hx ns q => ?_, fun n x e ns q => ?_, fun n x e => ?_, fun x hx => ?_⟩
  · rw [st, may_snoc _ _ _ hr, ← h.may n]
    rcases ht with ⟨z, z2⟩ | ⟨z, zp⟩
    · rw [z]
      by_cases e : g.taker = n
      · rcases z2 with z2 | z2
        · rw [z2, Bool.and_false, Bool.or_false]
        · rw [e] at z2
          cases d : tg n with
          | none => exact absurd d z2
          | some _ => rfl
      · rw [beq_eq_false_iff_ne.mpr e, Bool.false_and, Bool.or_false]
    · rw [z, zp, Bool.and_true]
      unfold putT
      by_cases e : n = g.taker
      · rw [if_pos e, e, beq_self_eq_true, Bool.or_true]
        rfl
      · rw [if_neg e, beq_eq_false_iff_ne.mpr (fun y => e y.symm), Bool.or_false]
  · intro x hx
    rw [st] at hx
    by_cases z : g.taker = u
    · rw [if_pos z] at e
      exact absurd e (by simp)
    · rw [if_neg z] at e
      rcases List.mem_append.mp hx with y | y
      · exact h.none_ e x y
      · rw [List.mem_singleton.mp y]
        exact z
  · rcases memU x hx with y | ⟨_, y⟩
    · exact (h.subU x y).trans sub
    · rw [y]
      exact subC
  · rcases memG n x e with y | ⟨_, y, _⟩
    · exact (h.subG n x y).trans sub
    · rw [y]
      exact subC
  · rcases memU x hx with y | ⟨z, y⟩
    · obtain ⟨w, hw, e⟩ := h.robU x y ns q
      exact ⟨w, stand_old p g ns w hw, e⟩
    · rw [y] at q
      exact ⟨g, robC ns q, z⟩
  · rcases memG n x e with y | ⟨z, y, zp⟩
    · exact may_mono (h.robG n x y ns q) (stand_old p g ns)
    · rw [y] at q
      have := robC ns q
      unfold mayGive
      rw [List.any_eq_true.mpr ⟨g, this, by rw [z, hr, zp]; simp⟩, Bool.or_true]
  · rcases memG n x e with y | ⟨z, y, _⟩
    · exact oldG x (h.oneG n x y)
    · rw [y]
      by_cases w : g.taker = u
      · exact .inr ⟨_, newU w, Nat.le_refl _⟩
      · rcases h.oneG _ c hn with q | ⟨c', h1, h2⟩
        · refine .inl fun a ha => ?_
          rcases List.mem_append.mp ha with b | b
          · exact q a b
          · rw [List.mem_singleton.mp b]
            exact w
        · refine .inr ⟨c', oldU c' h1, ?_⟩
          rw [List.length_append]
          omega
  · rcases memU x hx with y | ⟨_, y⟩
    · obtain ⟨c0, g0, e, q⟩ := h.oneU x y
      exact ⟨c0, g0, e, oldG c0 q⟩
    · exact ⟨c, g, y, oldG c (h.oneG _ c hn)⟩
/-- what shortest_chain gives -/
structure IsSC (u : Nat) (gs c : List G) : Prop where
  no : c = [] → cut u gs []
  sub : c.Sublist gs
  rob : c ≠ [] → ∀ ns : List Nat, (∀ h ∈ c, h.num ∉ ns) → ¬ cut u gs ns
  len : c.length + (gs.filter fun g => g.taker == u).length ≤ gs.length + 1
theorem filter_split (p : G → Bool) (l : List G) : (l.filter p).length + (l.filter fun x => !p x).length = l.length := by
  induction l with
  | nil => rfl
  | cons x l ih =>
    cases h : p x
    · rw [List.filter_cons, if_neg (by rw [h]; decide), List.filter_cons, if_pos (by rw [h]; rfl), List.length_cons, List.length_cons]
      omega
    · rw [List.filter_cons, if_pos h, List.filter_cons, if_neg (by rw [h]; decide), List.length_cons, List.length_cons]
      omega
theorem SInv.out0 {u r : Nat} {p : List G} {tg : Nat → Option (List G)} (h : SInv u r p [] tg) : IsSC u p [] :=
  ⟨fun _ g hg => by rw [wo_nil] at hg; exact h.none_ rfl g hg, List.nil_sublist _, fun z => absurd rfl z, by
    have := List.length_filter_le (fun g : G => g.taker == u) p
    show 0 + _ ≤ _
    omega⟩
theorem SInv.out {u r : Nat} {p : List G} {tu : List (List G)} {tg : Nat → Option (List G)} (h : SInv u r p tu tg) {c : List G} (hc : c ∈ tu) (hm : ∀ c' ∈ tu, c.length ≤ c'.length) : IsSC u p c := by
  obtain ⟨c0, g, e, q⟩ := h.oneU c hc
  have sub := h.subU c hc
  refine ⟨fun z => ?_, sub, fun _ ns q hcut => ?_, ?_⟩
  · rw [e] at z
    exact absurd z (by simp)
  · obtain ⟨x, hx, ex⟩ := h.robU c hc ns q
    exact hcut x hx ex
  · have q' : ∀ x ∈ c0, x.taker ≠ u := by
      rcases q with q | ⟨c', h1, h2⟩
      · exact q
      · have := hm c' h1
        rw [e, List.length_append] at this
        simp at this
        omega
    have s2 := (sub.filter fun g => !(g.taker == u)).length_le
    have s1 := filter_split (fun g => g.taker == u) p
    have e1 : (c.filter fun g => !(g.taker == u)).length ≥ c0.length := by
      rw [e, List.filter_append, List.length_append]
      have : c0.filter (fun g => !(g.taker == u)) = c0 := List.filter_eq_self.mpr fun x hx => by
        rw [beq_eq_false_iff_ne.mpr (q' x hx)]
        rfl
      rw [this]
      omega
    have e2 : c.length = c0.length + 1 := by
      rw [e, List.length_append]
      rfl
    omega
end Gb
namespace Gb
open Wm01
/-- without one grant -/
abbrev oth (g : G) (gs : List G) : List G := gs.filter fun h => h.num != g.num
theorem wo_oth {g : G} {gs : List G} {y y' : List Nat} (h : ∀ n, n ∈ y' ↔ n = g.num ∨ n ∈ y) : wo y (oth g gs) = wo y' gs := by
  unfold wo oth
  rw [List.filter_filter]
  refine List.filter_congr fun x _ => ?_
  by_cases c : x.num ∈ y'
  · rw [List.contains_iff_mem.mpr c]
    rcases (h _).mp c with e | e
    · rw [e]
      simp
    · rw [List.contains_iff_mem.mpr e]
      rfl
  · have c1 : y'.contains x.num = false := by
      cases d : y'.contains x.num with
      | false => rfl
      | true => exact absurd (List.contains_iff_mem.mp d) c
    have c2 : y.contains x.num = false := by
      cases d : y.contains x.num with
      | false => rfl
      | true => exact absurd ((h _).mpr (.inr (List.contains_iff_mem.mp d))) c
    have c3 : x.num ≠ g.num := fun e => c ((h _).mpr (.inl e))
    rw [c1, c2]
    simp [c3]
theorem cut_oth {u : Nat} {g : G} {gs : List G} {y y' : List Nat} (h : ∀ n, n ∈ y' ↔ n = g.num ∨ n ∈ y) : cut u (oth g gs) y ↔ cut u gs y' := by
  unfold cut
  rw [wo_oth h]
theorem oth_len {g : G} : ∀ {gs : List G}, gs.Pairwise (fun g h => g.num < h.num) → g ∈ gs → (oth g gs).length + 1 = gs.length
  | [], _, h => by cases h
  | x :: gs, p, h => by
    obtain ⟨p1, p2⟩ := List.pairwise_cons.mp p
    unfold oth
    rcases List.mem_cons.mp h with e | h'
    · subst e
      have e1 : (gs.filter fun h => h.num != g.num) = gs := List.filter_eq_self.mpr fun y hy => by
        have := p1 y hy
        simp
        omega
      rw [List.filter_cons, if_neg (by simp), e1]
      rfl
    · have := p1 g h'
      rw [List.filter_cons, if_pos (by simp; omega), List.length_cons, List.length_cons]
      have ih := oth_len p2 h'
      unfold oth at ih
      omega
/-- nobody is cut off by fewer -/
def Least (u : Nat) (gs : List G) (k : Nat) : Prop := ∀ y : List Nat, y.Nodup → cut u gs y → k ≤ y.length
theorem nodup_filter {y : List Nat} (n : Nat) (h : y.Nodup) : (y.filter fun m => m != n).Nodup := h.sublist List.filter_sublist
theorem Least.oth {u : Nat} {gs : List G} {k : Nat} (h : Least u gs (k + 1)) (g : G) : Least u (oth g gs) k := fun y nd hc => by
  have hy : ∀ n, n ∈ (g.num :: y.filter fun m => m != g.num) ↔ n = g.num ∨ n ∈ y := fun n => by
    rw [List.mem_cons, List.mem_filter]
    constructor
    · rintro (e | ⟨e, _⟩)
      · exact .inl e
      · exact .inr e
    · rintro (e | e)
      · exact .inl e
      · by_cases c : n = g.num
        · exact .inl c
        · exact .inr ⟨e, by simpa using c⟩
  have := h (g.num :: y.filter fun m => m != g.num) (List.nodup_cons.mpr ⟨by simp, nodup_filter _ nd⟩) ((cut_oth hy).mp hc)
  have le := List.length_filter_le (fun m => m != g.num) y
  rw [List.length_cons] at this
  omega
/-- what rows_that_cut gives -/
structure IsRows (u : Nat) (gs : List G) (most : Nat) (rows : List (List Nat)) : Prop where
  cut : ∀ x ∈ rows, cut u gs x
  up : ∀ x ∈ rows, x.Pairwise (· < ·)
  mem : ∀ x ∈ rows, ∀ n ∈ x, n ∈ gs.map fun g => g.num
  len : ∀ x ∈ rows, x.length ≤ most
  all : ∀ y : List Nat, y.Nodup → Gb.cut u gs y → y.length ≤ most → ∃ x ∈ rows, ∀ n ∈ x, n ∈ y
  few : rows.length ≤ (gs.length + 1 - most) ^ most
theorem rows_none {u : Nat} {gs : List G} {most : Nat} (h : Gb.cut u gs []) (l : Least u gs most) : IsRows u gs most [[]] := by
  have m0 : most = 0 := by
    have := l [] List.nodup_nil h
    rw [List.length_nil] at this
    omega
  subst m0
  refine ⟨fun x hx => ?_, fun x hx => ?_, fun x hx => ?_, fun x hx => ?_, fun y _ _ _ => ⟨[], List.mem_singleton.mpr rfl, by simp⟩, by simp⟩
  all_goals rw [List.mem_singleton.mp hx]
  · exact h
  · exact List.Pairwise.nil
  · simp
  · simp
theorem rows_zero {u : Nat} {gs c : List G} (h : IsSC u gs c) (hc : c ≠ []) : IsRows u gs 0 [] := by
  refine ⟨by simp, by simp, by simp, by simp, fun y _ hy le => ?_, by simp⟩
  have e : y = [] := List.eq_nil_of_length_eq_zero (by omega)
  subst e
  exact absurd hy (h.rob hc [] (by simp))
/-- the rows by the first grants of a chain -/
structure PRows (u : Nat) (gs : List G) (m : Nat) (cs : List G) (rows : List (List Nat)) : Prop where
  cut : ∀ x ∈ rows, cut u gs x
  up : ∀ x ∈ rows, x.Pairwise (· < ·)
  mem : ∀ x ∈ rows, ∀ n ∈ x, n ∈ gs.map fun g => g.num
  len : ∀ x ∈ rows, x.length ≤ m + 1
  all : ∀ g ∈ cs, ∀ y : List Nat, y.Nodup → Gb.cut u gs y → y.length ≤ m + 1 → g.num ∈ y → ∃ x ∈ rows, ∀ n ∈ x, n ∈ y
  few : rows.length ≤ cs.length * (gs.length - m) ^ m
theorem prows_nil (u : Nat) (gs : List G) (m : Nat) : PRows u gs m [] [] := ⟨by simp, by simp, by simp, by simp, by simp, by simp⟩
/-- a row with one number more, in order -/
def Rx (n : Nat) (row x : List Nat) : Prop := x.Perm (row ++ [n]) ∧ x.Pairwise (· ≤ ·)
theorem lt_of_le_nodup : ∀ {x : List Nat}, x.Pairwise (· ≤ ·) → x.Nodup → x.Pairwise (· < ·)
  | [], _, _ => List.Pairwise.nil
  | a :: x, h, nd => by
    obtain ⟨h1, h2⟩ := List.pairwise_cons.mp h
    obtain ⟨n1, n2⟩ := List.nodup_cons.mp nd
    refine List.pairwise_cons.mpr ⟨fun b hb => ?_, lt_of_le_nodup h2 n2⟩
    have le := h1 b hb
    have ne : a ≠ b := fun e => n1 (by rw [e]; exact hb)
    omega
theorem up_nodup {x : List Nat} (h : x.Pairwise (· < ·)) : x.Nodup := h.imp fun {a b} (q : a < b) => by
  show a ≠ b
  omega
theorem PRows.add {u : Nat} {gs cs : List G} {m : Nat} {rows rs new : List (List Nat)} {g : G} (h : PRows u gs m cs rows) (pw : gs.Pairwise (fun g h => g.num < h.num)) (hg : g ∈ gs) (r : IsRows u (oth g gs) m rs)
    (h1 : ∀ x ∈ new, ∃ row ∈ rs, Rx g.num row x) (h2 : ∀ row ∈ rs, ∃ x ∈ new, Rx g.num row x) (h3 : new.length = rs.length) : PRows u gs m (cs ++ [g]) (rows ++ new) := by
  have mx : ∀ {row x : List Nat}, Rx g.num row x → ∀ n, n ∈ x ↔ n = g.num ∨ n ∈ row := fun {row x} q n => by
    rw [q.1.mem_iff, List.mem_append, List.mem_singleton]
    exact Or.comm
  have two : ∀ {P : List Nat → Prop}, (∀ x ∈ rows, P x) → (∀ x ∈ new, P x) → ∀ x ∈ rows ++ new, P x := fun a b x hx => by
    rcases List.mem_append.mp hx with z | z
    · exact a x z
    · exact b x z
  refine ⟨two h.cut fun x hx => ?_, two h.up fun x hx => ?_, two h.mem fun x hx => ?_, two h.len fun x hx => ?_, fun g' hg' y nd hc le hy => ?_, ?_⟩
  · obtain ⟨row, hr, q⟩ := h1 x hx
    exact (cut_oth (mx q)).mp (r.cut row hr)
  · obtain ⟨row, hr, q⟩ := h1 x hx
    refine lt_of_le_nodup q.2 (q.1.nodup_iff.mpr ?_)
    refine List.nodup_append.mpr ⟨up_nodup (r.up row hr), by simp, fun a ha b hb => ?_⟩
    rw [List.mem_singleton.mp hb]
    intro e
    obtain ⟨z, hz, ez⟩ := List.mem_map.mp (r.mem row hr a ha)
    have := (List.mem_filter.mp hz).2
    rw [ez, e] at this
    simp at this
  · obtain ⟨row, hr, q⟩ := h1 x hx
    intro n hn
    rcases (mx q n).mp hn with e | e
    · rw [e]
      exact List.mem_map_of_mem hg
    · obtain ⟨z, hz, ez⟩ := List.mem_map.mp (r.mem row hr n e)
      rw [← ez]
      exact List.mem_map_of_mem (List.mem_filter.mp hz).1
  · obtain ⟨row, hr, q⟩ := h1 x hx
    have := r.len row hr
    rw [q.1.length_eq, List.length_append]
    simp
    omega
  · rcases List.mem_append.mp hg' with z | z
    · obtain ⟨x, hx, q⟩ := h.all g' z y nd hc le hy
      exact ⟨x, List.mem_append_left _ hx, q⟩
    · rw [List.mem_singleton.mp z] at hy
      have hy1 : ∀ n, n ∈ y ↔ n = g.num ∨ n ∈ y.filter fun m => m != g.num := fun n => by
        rw [List.mem_filter]
        constructor
        · intro e
          by_cases c : n = g.num
          · exact .inl c
          · exact .inr ⟨e, by simpa using c⟩
        · rintro (e | ⟨e, _⟩)
          · rw [e]
            exact hy
          · exact e
      have lt : (y.filter fun m => m != g.num).length < y.length := by
        have := List.length_filter_lt_length_iff_exists (p := fun m => m != g.num) (l := y)
        exact this.mpr ⟨g.num, hy, by simp⟩
      obtain ⟨row, hr, q⟩ := r.all _ (nodup_filter g.num nd) ((cut_oth hy1).mpr hc) (by omega)
      obtain ⟨x, hx, qx⟩ := h2 row hr
      refine ⟨x, List.mem_append_right _ hx, fun n hn => (hy1 n).mpr ?_⟩
      rcases (mx qx n).mp hn with e | e
      · exact .inl e
      · exact .inr (q n e)
  · have f1 := h.few
    have f2 := r.few
    have e : (oth g gs).length + 1 - m = gs.length - m := by rw [oth_len pw hg]
    rw [e] at f2
    rw [List.length_append, List.length_append, h3]
    show _ ≤ (cs.length + 1) * _
    rw [Nat.add_mul, Nat.one_mul]
    omega
theorem toU_cut (u : Nat) (gs : List G) : Gb.cut u gs ((gs.filter fun g => g.taker == u).map fun g => g.num) := by
  intro g hg e
  have m := (stand_sub _).subset hg
  obtain ⟨m1, m2⟩ := List.mem_filter.mp m
  have k : ((gs.filter fun g => g.taker == u).map fun g => g.num).contains g.num = true := List.contains_iff_mem.mpr (List.mem_map_of_mem (List.mem_filter.mpr ⟨m1, by simp [e]⟩))
  rw [k] at m2
  cases m2
theorem chain_short {u : Nat} {gs c : List G} {m : Nat} (pw : gs.Pairwise (fun g h => g.num < h.num)) (h : IsSC u gs c) (l : Least u gs (m + 1)) : c.length ≤ gs.length - m := by
  have nd : ((gs.filter fun g => g.taker == u).map fun g => g.num).Nodup := up_nodup (List.pairwise_map.mpr (pw.sublist List.filter_sublist))
  have := l _ nd (toU_cut u gs)
  rw [List.length_map] at this
  have le := h.len
  omega
theorem PRows.done {u : Nat} {gs c : List G} {m : Nat} {rows : List (List Nat)} (h : PRows u gs m c rows) (pw : gs.Pairwise (fun g h => g.num < h.num)) (sc : IsSC u gs c) (hc : c ≠ []) (l : Least u gs (m + 1)) : IsRows u gs (m + 1) rows := by
  refine ⟨h.cut, h.up, h.mem, h.len, fun y nd hy le => ?_, ?_⟩
  · have : ¬ ∀ g ∈ c, g.num ∉ y := fun q => sc.rob hc y q hy
    have : ∃ g ∈ c, g.num ∈ y := by
      refine Classical.byContradiction fun z => this fun g hg hy => z ⟨g, hg, hy⟩
    obtain ⟨g, hg, q⟩ := this
    exact h.all g hg y nd hy le q
  · have e : gs.length + 1 - (m + 1) = gs.length - m := by omega
    rw [e, Nat.pow_succ, Nat.mul_comm]
    exact Nat.le_trans h.few (Nat.mul_le_mul_right _ (chain_short pw sc l))
/-! ### no more rows than a list may have -/
theorem pow_small {n k : Nat} (hn : n ≤ 14) (hk : k ≤ 14) : (n + 1 - k) ^ k ≤ 10077696 := by
  refine Nat.le_trans (Nat.pow_le_pow_left (show n + 1 - k ≤ 15 - k by omega) k) ?_
  have : ∀ k, k < 15 → (15 - k) ^ k ≤ 10077696 := by decide
  exact this k (by omega)
/-- while the rows are made there is room for one more -/
theorem rows_room {u : Nat} {gs c cs : List G} {m i j : Nat} {rows rs : List (List Nat)} {g : G} (h : PRows u gs m cs rows) (pw : gs.Pairwise (fun g h => g.num < h.num)) (sc : IsSC u gs c) (l : Least u gs (m + 1)) (hg : g ∈ gs) (r : IsRows u (oth g gs) m rs) (hi : cs.length = i) (lt : i < c.length) (hj : j ≤ rs.length) (h14 : gs.length ≤ 14) (hm : m < 14) :
    rows.length + j ≤ 10077696 := by
  have b := pow_small (n := gs.length) (k := m + 1) h14 (by omega)
  have e : gs.length + 1 - (m + 1) = gs.length - m := by omega
  have e2 : (oth g gs).length + 1 - m = gs.length - m := by rw [oth_len pw hg]
  have f1 := h.few
  have f2 := r.few
  have f3 := chain_short pw sc l
  rw [e, Nat.pow_succ, Nat.mul_comm] at b
  rw [e2] at f2
  have f4 : (cs.length + 1) * (gs.length - m) ^ m ≤ (gs.length - m) * (gs.length - m) ^ m := Nat.mul_le_mul_right _ (by omega)
  rw [Nat.add_mul, Nat.one_mul] at f4
  omega
/-! ### the fewest -/
theorem cut_ofR {l : List G} {u r : Nat} {ns : List Nat} (hu : u ≠ 0) : cuts l u r ns = true ↔ cut u (ofR r l) ns := by
  rw [← cuts_ofR]
  unfold cut
  show (has (stand (wo ns (ofR r l))) u r == 0) = true ↔ _
  rw [beq_iff_eq, has_zero hu]
  constructor
  · intro h g hg e
    have m1 := List.filter_sublist.subset ((stand_sub _).subset hg)
    have m2 := (List.mem_filter.mp m1).2
    exact h g hg ⟨e, beq_iff_eq.mp m2⟩
  · rintro h g hg ⟨e, _⟩
    exact h g hg e
theorem rise_sub : ∀ {x ns : List Nat}, x.Pairwise (· < ·) → ns.Pairwise (· < ·) → (∀ n ∈ x, n ∈ ns) → x.Sublist ns
  | [], _, _, _, _ => List.nil_sublist _
  | a :: x, [], _, _, h => by cases h a List.mem_cons_self
  | a :: x, b :: ns, hx, hn, h => by
    obtain ⟨x1, x2⟩ := List.pairwise_cons.mp hx
    obtain ⟨n1, n2⟩ := List.pairwise_cons.mp hn
    by_cases e : a = b
    · subst e
      refine (rise_sub x2 n2 fun n hm => ?_).cons_cons a
      rcases List.mem_cons.mp (h n (List.mem_cons_of_mem _ hm)) with z | z
      · have := x1 n hm
        omega
      · exact z
    · refine (rise_sub hx n2 fun n hm => ?_).cons b
      have ab : b < a := by
        rcases List.mem_cons.mp (h a List.mem_cons_self) with z | z
        · exact absurd z e
        · exact n1 a z
      rcases List.mem_cons.mp (h n hm) with z | z
      · rcases List.mem_cons.mp hm with w | w
        · omega
        · have := x1 n w
          omega
      · exact z
theorem rise_eq {x y : List Nat} (hx : x.Pairwise (· < ·)) (hy : y.Pairwise (· < ·)) (h : ∀ n ∈ x, n ∈ y) (le : y.length ≤ x.length) : x = y := (rise_sub hx hy h).eq_of_length_le le
theorem next_least {u : Nat} {gs : List G} {most : Nat} (h : IsRows u gs most []) : Least u gs (most + 1) := fun y nd hc => by
  by_cases c : y.length ≤ most
  · obtain ⟨x, hx, _⟩ := h.all y nd hc c
    cases hx
  · omega
theorem least_zero (u : Nat) (gs : List G) : Least u gs 0 := fun _ _ _ => Nat.zero_le _
theorem all_cut (u : Nat) (gs : List G) : Gb.cut u gs (gs.map fun g => g.num) := by
  intro g hg _
  have m := (stand_sub _).subset hg
  obtain ⟨m1, m2⟩ := List.mem_filter.mp m
  rw [List.contains_iff_mem.mpr (List.mem_map_of_mem m1)] at m2
  cases m2
theorem least_le {u : Nat} {gs : List G} {k : Nat} (pw : gs.Pairwise (fun g h => g.num < h.num)) (h : Least u gs k) : k ≤ gs.length := by
  have := h _ (up_nodup (List.pairwise_map.mpr pw)) (all_cut u gs)
  rwa [List.length_map] at this
/-- lists of numbers by their first difference -/
def lexB : List Nat → List Nat → Bool
  | [], [] => false
  | [], _ :: _ => true
  | _ :: _, [] => false
  | x :: xs, y :: ys => if x = y then lexB xs ys else decide (x < y)
theorem lexB_not : ∀ {x y : List Nat}, x.length = y.length → lexB y x = false → y = x ∨ lexlt x y
  | [], [], _, _ => .inl rfl
  | [], _ :: _, e, _ => by cases e
  | _ :: _, [], e, _ => by cases e
  | a :: x, b :: y, e, h => by
    unfold lexB at h
    by_cases c : b = a
    · subst c
      rw [if_pos rfl] at h
      rcases lexB_not (by simpa using e) h with z | z
      · exact .inl (by rw [z])
      · exact .inr (.inr ⟨rfl, z⟩)
    · rw [if_neg c] at h
      have := of_decide_eq_false h
      exact .inr (.inl (by omega))
theorem fewest_rows {l : List G} {u r most : Nat} {rows : List (List Nat)} {x : List Nat} (hu : u ≠ 0) (up : l.Pairwise (fun g h => g.num < h.num)) (h : IsRows u (ofR r l) most rows) (ls : Least u (ofR r l) most) (hx : x ∈ rows) (hm : ∀ y ∈ rows, lexB y x = false) : fewest l u r = x := by
  have upn : ((ofR r l).map fun g => g.num).Pairwise (· < ·) := List.pairwise_map.mpr (up.sublist List.filter_sublist)
  have eq : ∀ y ∈ rows, y.length = most := fun y hy => by
    have := ls y (up_nodup (h.up y hy)) (h.cut y hy)
    have := h.len y hy
    omega
  refine fewest_is up (rise_sub (h.up x hx) upn (h.mem x hx)) ((cut_ofR hu).mpr (h.cut x hx)) fun y sy cy => ?_
  have cy' := (cut_ofR hu).mp cy
  have upy : y.Pairwise (· < ·) := upn.sublist sy
  have le := ls y (up_nodup upy) cy'
  by_cases c : y.length = most
  · obtain ⟨z, hz, q⟩ := h.all y (up_nodup upy) cy' (by omega)
    have e : z = y := rise_eq (h.up z hz) upy q (by rw [eq z hz]; omega)
    subst e
    rcases lexB_not (by rw [eq x hx, c]) (hm z hz) with w | w
    · exact .inl w
    · exact .inr (.inr ⟨by rw [eq x hx, c], w⟩)
  · refine .inr (.inl ?_)
    rw [eq x hx]
    omega
end Gb
namespace Gb
open PySem PySem.Spec PyProof.Rows L2
/-! ### tests -/
theorem if_t {c : Bool} {A B : Prop} (hc : c = true) (h : A) : if c = true then A else B := by
  rw [if_pos hc]
  exact h
theorem if_f {c : Bool} {A B : Prop} (hc : c = false) (h : B) : if c = true then A else B := by
  rw [hc, if_neg Bool.false_ne_true]
  exact h
/-! ### a grant in the heap -/
def gF (g : G) : List (Str × V) := [("number", .int g.num), ("giver", .int g.giver), ("taker", .int g.taker), ("right", .int g.right), ("onward", .int (Wm01.flag g.pass))]
theorem lk_here {k : Str} {v : V} {r : List (Str × V)} : List.lookup k ((k, v) :: r) = some v := by
  have e : (k == k) = true := beq_self_eq_true k
  simp only [List.lookup, e]
theorem lk_past {k g : Str} {v : V} {r : List (Str × V)} (h : (k == g) = false) : List.lookup k ((g, v) :: r) = List.lookup k r := by
  simp only [List.lookup, h]
theorem put_here {f : Str} {v x : V} {r : List (Str × V)} : putF f v ((f, x) :: r) = (f, v) :: r := if_pos rfl
theorem put_past {f g : Str} {v x : V} {r : List (Str × V)} (h : ¬ g = f) : putF f v ((g, x) :: r) = (g, x) :: putF f v r := if_neg h
theorem gF_number (g : G) : (gF g).lookup ("number" : Str) = some (.int g.num) := lk_here
theorem gF_giver (g : G) : (gF g).lookup ("giver" : Str) = some (.int g.giver) := (lk_past (by decide +kernel)).trans lk_here
theorem gF_taker (g : G) : (gF g).lookup ("taker" : Str) = some (.int g.taker) := (lk_past (by decide +kernel)).trans ((lk_past (by decide +kernel)).trans lk_here)
theorem gF_right (g : G) : (gF g).lookup ("right" : Str) = some (.int g.right) := (lk_past (by decide +kernel)).trans ((lk_past (by decide +kernel)).trans ((lk_past (by decide +kernel)).trans lk_here))
theorem gF_onward (g : G) : (gF g).lookup ("onward" : Str) = some (.int (Wm01.flag g.pass)) := (lk_past (by decide +kernel)).trans ((lk_past (by decide +kernel)).trans ((lk_past (by decide +kernel)).trans ((lk_past (by decide +kernel)).trans lk_here)))
/-- at a the grant g -/
def GAt (C : Addr) (H : Hp) (a : Addr) (g : G) : Prop := ∃ dx, H a = some (.ins C dx (gF g))
theorem GAt.same {C a : Addr} {H H' : Hp} {g : G} (h : GAt C H a g) (s : Same H H') : GAt C H' a g := by
  obtain ⟨dx, e⟩ := h
  exact ⟨dx, s _ _ e⟩
/-- at l a list of the grants gs -/
def LG (C : Addr) (H : Hp) (l : Addr) (gs : List G) : Prop := ∃ ps : List (Addr × G), ps.map (·.2) = gs ∧ H l = some (.lst (ps.map fun p => V.ref p.1)) ∧ ∀ p ∈ ps, GAt C H p.1 p.2
theorem LG.same {C l : Addr} {H H' : Hp} {gs : List G} (h : LG C H l gs) (s : Same H H') : LG C H' l gs := by
  obtain ⟨ps, e, hl, q⟩ := h
  exact ⟨ps, e, s _ _ hl, fun p hp => (q p hp).same s⟩
theorem LG.ne_none {C l q : Addr} {H : Hp} {gs : List G} (h : LG C H l gs) (hq : H q = none) : l ≠ q := by
  obtain ⟨ps, e, hl, _⟩ := h
  exact ne_of_none hl hq
/-- an item of such a list -/
theorem ps_item {ps : List (Addr × G)} {i : Nat} {x : V} (h : (ps.map fun p => V.ref p.1)[i]? = some x) : ∃ p, ps[i]? = some p ∧ x = .ref p.1 := by
  rw [List.getElem?_map] at h
  cases e : ps[i]? with
  | none =>
    rw [e] at h
    cases h
  | some p =>
    rw [e] at h
    exact ⟨p, rfl, (Option.some.inj h).symm⟩
theorem same_new {H : Hp} {p : Addr} {o : HO} (h : H p = none) : Same H (upd H p o) := fun b o' e => by
  rw [upd_ne (ne_of_none e h)]
  exact e
/-- what was tracked ahead of a new thing stays, whatever that becomes -/
theorem same_upd {H H' : Hp} {p : Addr} {o : HO} (h : H p = none) (s : Same H H') : Same H (upd H' p o) := fun b o' e => by
  rw [upd_ne (ne_of_none e h)]
  exact s b o' e
/-- [x for x in grants if test]: the test is worth f -/
theorem lc_filter {C l : Addr} {K : PySem.W.Frag} {H : Hp} {gs : List G} {σ : L2.St} {i : Nat} {tt : TT} {Qd : Addr → Hp → Prop} (f : G → Bool) (h : LG C H l gs) (len : gs.length ≤ 1000) (hw : ∀ x : V, wipe ((wipe σ [i]).set i (some x)) [i] = wipe σ [i])
    (hv : ∀ x : V, ((wipe σ [i]).set i (some x))[i]? = some (some x))
    (ht : ∀ (a : Addr) (g : G) (H' : Hp) (Qt : Bool → Hp → Prop), g ∈ gs → Same H H' → GAt C H' a g → Qt (f g) H' → tt ((wipe σ [i]).set i (some (.ref a))) H' Qt)
    (k : ∀ (H' : Hp) (q : Addr), Same H H' → H q = none → LG C H' q (gs.filter f) → Qd q H') :
    (fun (J : It) (H1 : Hp) => ∀ D, H1 D = none → ∃ W : Nat → Nat → Hp → Prop, (∃ m, W 0 m (upd H1 D (.lst []))) ∧ ∀ n m H, W n m H →
      (J.stop n H ∧ Qd D H) ∨ (J.go n H ∧ ∃ Nx : Hp → Prop, (∀ H', Nx H' → ∃ m', m' < m ∧ W (n + 1) m' H') ∧ ∀ x H', J.yld n H x H' → gName i x (wipe σ [i]) H' fun σ2 H2 => wipe σ2 [i] = wipe σ [i] ∧ tt σ2 H2 fun b H3 =>
        if b = true then tVar i σ2 H3 fun y H4 => ∃ acc, H4 D = some (.lst acc) ∧ acc.length < sizeLine ∧ Nx (upd H4 D (.lst (acc ++ [y]))) else Nx H3)) (Itl K l) H := by
  intro D hD
  obtain ⟨ps, e, hl, q⟩ := h
  subst e
  rw [List.length_map] at len
  refine lc_list (K := K) (a := l) (xs := ps.map fun p => V.ref p.1) (fun j H' => Same H H' ∧ H' D = some (.lst (((ps.take j).filter fun p => f p.2).map fun p => V.ref p.1))) ⟨same_new hD, upd_same⟩ (fun j H' _ ⟨s, _⟩ => SqL.of (s _ _ hl)) ?_ ?_
  · rintro j x H' hj ⟨s, hd⟩
    obtain ⟨p, hp, rfl⟩ := ps_item hj
    have mem : p ∈ ps := List.mem_of_getElem? hp
    refine ⟨hw _, ht p.1 p.2 H' _ (List.mem_map_of_mem mem) s ((q p mem).same s) ?_⟩
    cases c : f p.2 with
    | true =>
      refine iteT ⟨_, hv _, _, hd, ?_, same_upd hD s, ?_⟩
      · rw [List.length_map]
        refine Nat.lt_of_le_of_lt (List.length_filter_le _ _) ?_
        rw [List.length_take]
        exact Nat.lt_of_le_of_lt (Nat.le_trans (Nat.min_le_right _ _) len) (by decide)
      · rw [upd_same, take_snoc hp, List.filter_append, List.map_append]
        have e1 : [p].filter (fun p => f p.2) = [p] := by
          rw [List.filter_cons, if_pos (show f p.2 = true from c)]
          rfl
        rw [e1]
        rfl
    | false =>
      refine iteF ⟨s, ?_⟩
      rw [hd, take_snoc hp, List.filter_append]
      have e1 : [p].filter (fun p => f p.2) = [] := by
        rw [List.filter_cons, if_neg (by rw [c]; exact Bool.false_ne_true)]
        rfl
      rw [e1, List.append_nil]
  · rintro H' ⟨s, hd⟩
    refine k H' D s hD ⟨(ps.filter fun p => f p.2), ?_, ?_, fun p hp => (q p (List.mem_filter.mp hp).1).same s⟩
    · rw [List.filter_map]
      rfl
    · rw [hd, List.length_map, List.take_length]
/-! ### what stands at a name -/
/-- the def of the text that is called nm -/
structure Df (K : PySem.W.Frag) (mg : Str → Option Value) (nm : Str) (st : Stmt) (ps : List Str) : Prop where
  ex : ∃ (f : Addr) (fd : FuncData), mg nm = some (.ref f) ∧ Fun K nm nm st f fd ∧ Binds K fd ps []
/-- the def that is called nm keeps its promise -/
structure Ok (P : Program) (w : World) (K : PySem.W.Frag) (mg : Str → Option Value) (base : Heap) (k : Nat) (nm : Str) (ps : List Str) (sp : Sp) : Prop where
  ex : ∃ (f : Addr) (fd : FuncData), mg nm = some (.ref f) ∧ PySem.W.keepIn K (.ref f) = true ∧ Binds K fd ps [] ∧ FnOk P w K mg base CX0 k f fd ps sp
theorem Ok.mono {P : Program} {w : World} {K : PySem.W.Frag} {mg : Str → Option Value} {base : Heap} {j k : Nat} {nm : Str} {ps : List Str} {sp : Sp} (h : Ok P w K mg base j nm ps sp) (le : j ≤ k) : Ok P w K mg base k nm ps sp := by
  obtain ⟨f, fd, a, b, c, d⟩ := h.ex
  exact ⟨f, fd, a, b, c, d.mono le⟩
theorem Df.ok {P : Program} {w : World} {K : PySem.W.Frag} {mg : Str → Option Value} {base : Heap} {nm : Str} {st : Stmt} {N ps : List Str} {k : Nat} {sp : Sp} (F : Df K mg nm st ps) (S : FnScope N ps (defScope st)) (len : ∀ vs H Q E, sp vs H Q E → vs.length = ps.length)
    (hbody : ∀ (f : Addr) (cdv : Value) (A : Around) (outer : List Env) (s : Shared) (H : Hp) (vs : List V) (Q : VK) (E : XK), Room k (A.deeper (envOfC nm (defScope st) s.heap.objs.size f cdv)) → sp vs H Q E →
      ∃ t, PSs (cxOf CX0 P w K mg base N nm (defScope st) f cdv A outer s H E).nox (defBody st) t ∧ t { nx := fun _ H' => Q .non H', rt := Q } (start N vs) H) : Ok P w K mg base (k + 1) nm ps sp := by
  obtain ⟨f, fd, m, F, b⟩ := F.ex
  exact ⟨f, fd, m, F.kp, b, F.ok S len (fun cdv A outer s H vs Q E hr h => hbody f cdv A outer s H vs Q E hr h)⟩
/-- a grant more at the end of a list -/
theorem LG.push {C q a : Addr} {H : Hp} {gs : List G} {g : G} (h : LG C H q gs) (hg : GAt C H a g) : ∃ xs : List V, H q = some (.lst xs) ∧ xs.length = gs.length ∧ LG C (upd H q (.lst (xs ++ [.ref a]))) q (gs ++ [g]) := by
  obtain ⟨ps, e, hl, k⟩ := h
  subst e
  have up : ∀ {b : Addr} {g' : G}, GAt C H b g' → GAt C (upd H q (.lst (ps.map (fun p => V.ref p.1) ++ [.ref a]))) b g' := fun {b g'} ⟨dx, hb⟩ => ⟨dx, by
    rw [upd_ne (ne_of hb hl (by intro z; cases z))]
    exact hb⟩
  refine ⟨_, hl, by rw [List.length_map, List.length_map], ps ++ [(a, g)], by rw [List.map_append]; rfl, ?_, fun p hp => ?_⟩
  · rw [upd_same, List.map_append]
    rfl
  · rcases List.mem_append.mp hp with z | z
    · exact up (k p z)
    · rw [List.mem_singleton.mp z]
      exact up hg
theorem LG.nil {C q : Addr} {H : Hp} (h : H q = some (.lst [])) : LG C H q [] := ⟨[], rfl, h, fun _ hp => by cases hp⟩
/-- a walk over a list of grants: the item, and how the part that is taken grows -/
theorem LG.item {C l : Addr} {H : Hp} {gs : List G} (h : LG C H l gs) : ∃ xs : List V, H l = some (.lst xs) ∧ xs.length = gs.length ∧
    ∀ i x, xs[i]? = some x → ∃ (a : Addr) (g : G), x = .ref a ∧ GAt C H a g ∧ gs[i]? = some g ∧ gs.take (i + 1) = gs.take i ++ [g] := by
  obtain ⟨ps, e, hl, k⟩ := h
  subst e
  refine ⟨_, hl, by rw [List.length_map, List.length_map], fun i x hx => ?_⟩
  obtain ⟨p, hp, rfl⟩ := ps_item hx
  have e : (ps.map (·.2))[i]? = some p.2 := by rw [List.getElem?_map, hp]; rfl
  exact ⟨p.1, p.2, rfl, k p (List.mem_of_getElem? hp), e, take_snoc e⟩
/-- a class that makes its objects by a promise -/
structure Mks (P : Program) (w : World) (K : PySem.W.Frag) (mg : Str → Option Value) (base : Heap) (k : Nat) (C : Addr) (ps : List Str) (sp : Sp) : Prop where
  ex : ∃ (f : Addr) (fd : FuncData), Mk K C f ∧ Binds K fd ps [] ∧ FnOk P w K mg base CX0 k f fd ps sp
/-- the method of a class -/
structure Mt (P : Program) (w : World) (K : PySem.W.Frag) (mg : Str → Option Value) (base : Heap) (k : Nat) (C : Addr) (nm : Str) (ps : List Str) (sp : Sp) : Prop where
  ex : ∃ (f : Addr) (fd : FuncData), Meth K C nm f ∧ Binds K fd ps [] ∧ FnOk P w K mg base CX0 k f fd ps sp
theorem small {n : Nat} (h : n ≤ 1000) : n < sizeLine := Nat.lt_of_le_of_lt h (by decide)
end Gb
namespace Gb
open PySem PySem.Spec PyProof.Rows
/-! ### min(xs, key=len, default=d) -/
/-- all that stood stands -/
abbrev Kp (h0 h : Heap) : Prop := ∀ b o, h0.get? b = some o → h.get? b = some o
section
variable {prog : Program} {w : World} {A : Around} {s : Shared} {h0 : Heap} {l I S : Addr} {vs : List Value} {kf : Nat → Int} {kw : List (Str × Value)} {R : Result → Shared → Prop}
/-- len of each item, wherever what stood stands -/
def KeyLen (prog : Program) (w : World) (A : Around) (s : Shared) (h0 : Heap) (vs : List Value) (kf : Nat → Int) : Prop :=
  ∀ i v, vs[i]? = some v → ∀ (h : Heap) (tk : Nat) (Q E : Value → Shared → Prop), Kp h0 h → (∀ t tk', Q (.int (kf i) t) { s with heap := h, toks := tk' }) → wpAny (model prog w) A.in1 (call (.builtin "len") [v]) Q E { s with heap := h, toks := tk }
theorem kp_iter {h h' : Heap} (hI : h0.get? I = none) (k : Kp h0 h) (q : ∀ b o, b ∉ [I] → h.get? b = some o → h'.get? b = some o) : Kp h0 h' := fun b o e => q b o (fun z => by
    rw [List.mem_singleton.mp z, hI] at e
    cases e) (k b o e)
theorem kp_upd {h : Heap} {f : Obj → Obj} (hS : h0.get? S = none) (k : Kp h0 h) : Kp h0 (h.update S f) := fun b o e => (Heap.get?_update_other _ _ (fun z => by
    rw [← z, hS] at e
    cases e)).trans (k b o e)
theorem mn_loop (hh : A.handled = none) (hl : h0.IsList l vs.toArray) (hI : h0.get? I = none) (hS : h0.get? S = none) (hSI : S ≠ I) (key : KeyLen prog w A s h0 vs kf)
    (hR : ∀ i v h' tk', vs[i]? = some v → (∀ j, j < vs.length → kf i ≤ kf j) → Kp h0 h' → R (.ok (.ret v)) { s with heap := h', toks := tk' }) :
    ∀ (k j i : Nat) (h : Heap) (tk : Nat) (vb : Value) (tb : Tok) (c : Nat), vs.length - j = k → j ≤ vs.length → Kp h0 h → h.get? S = some (seqObj "list" #[vb, .int (kf i) tb] c) → h.IsListIter I l j → vs[i]? = some vb → (∀ j', j' < j → kf i ≤ kf j') →
      codeAny (model prog w) A (.builtin "min.loop" ⟨[.ref I, .builtin "len", .ref S], kw⟩) R { s with heap := h, toks := tk } := by
  have nm : (toString "min" ++ toString ".loop" : String) = "min.loop" := by decide
  have hlI : l ≠ I := fun z => by
    obtain ⟨o, ho, _⟩ := id hl
    rw [z, hI] at ho
    cases ho
  have W := Walks.list (prog := prog) (w := w) (A := A.in1) hh I l hlI vs.toArray
  have up : ∀ {h : Heap}, Kp h0 h → h.IsList l vs.toArray := fun k => hl.at fun o e => k l o e
  intro k
  induction k with
  | zero =>
    intro j i h tk vb tb c hk hj hkp gS it hv best
    refine codeAny_builtin PySem.F.entry_min_loop ?_; rw [Around.under_plainId PySem.F.plain_min_loop _]; show wpAny _ A.in1 (seqItems? (.ref S) >>= _) _ _ _; refine wpAny_bind (wpAny_seqItems gS rfl ?_); show wpAny _ A.in1 (tryCatch (pyNext (.ref I)) _ >>= _) _ _ _
    refine wpAny_bind (wpAny_tryCatch (W.done _ _ _ ⟨by rw [List.size_toArray, show vs.length = j by omega]; exact it, up hkp⟩ fun h' tk' q => ?_))
    have gS' := q S _ (by simpa using hSI) gS
    show wpAny _ A.in1 (updateSeq S (fun _ => #[]) >>= _) _ _ { s with heap := h', toks := tk' }
    refine wpAny_bind (wpAny_updateSeq gS' rfl (wpAny_bind (wpAny_letGo (wpAny_pure (hR i vb _ _ hv (fun j' hj' => best j' (by omega)) (kp_upd hS (kp_iter hI hkp q)))))))
  | succ k ih =>
    intro j i h tk vb tb c hk hj hkp gS it hv best
    refine codeAny_builtin PySem.F.entry_min_loop ?_; rw [Around.under_plainId PySem.F.plain_min_loop _]; show wpAny _ A.in1 (seqItems? (.ref S) >>= _) _ _ _; refine wpAny_bind (wpAny_seqItems gS rfl ?_); show wpAny _ A.in1 (tryCatch (pyNext (.ref I)) _ >>= _) _ _ _
    refine wpAny_bind (wpAny_tryCatch (W.item j _ _ _ (by rw [List.size_toArray]; omega) ⟨it, up hkp⟩ fun v h' tk' hP st q => ?_))
    have hvj : vs[j]? = some v := by simpa using hP
    have gS' := q S _ (by simpa using hSI) gS
    have hkp' := kp_iter hI hkp q
    show wpAny _ A.in1 (tryCatch (holding [v] (call (.builtin "len") [v])) _ >>= _) _ _ { s with heap := h', toks := tk' }
    refine wpAny_bind (wpAny_tryCatch (wpAny_holding (key j v hvj h' tk' _ _ hkp' fun t2 tk2 => ?_)))
    show wpAny _ A.in1 (tryCatch (holding [v, .int (kf j) t2] (richCompare .Lt (.int (kf j) t2) (.int (kf i) tb) >>= _)) _ >>= _) _ _ { s with heap := h', toks := tk2 }
    refine wpAny_bind (wpAny_tryCatch (wpAny_holding (wpAny_bind (CmpOf.ints_lt (prog := prog) (w := w) (A := A.in1) (P := fun i v => ∃ t, v = .int (kf i) t) kf (fun i v h => h) j i _ _ _ _ _ ⟨t2, rfl⟩ ⟨tb, rfl⟩ (wpAny_bind (wpAny_holding (wpAny_truthy_bool (wpAny_bind (wpAny_letGo (wpAny_pure ?_))))))))))
    by_cases b : kf j < kf i
    · simp only [b, decide_true, if_true]
      refine wpAny_bind (wpAny_updateSeq gS' rfl (wpAny_bind (wpAny_letGo ?_)))
      rw [nm]
      obtain ⟨c2, hc2⟩ : ∃ c2, (h'.update S (Obj.mapSeq fun _ => #[v, .int (kf j) t2])).get? S = some (seqObj "list" #[v, .int (kf j) t2] c2) := ⟨_, get?_update_seq gS' fun _ => #[v, .int (kf j) t2]⟩
      refine wpAny_pure ⟨plainId_quiet PySem.F.plain_min_loop _, ih (j + 1) j _ _ v t2 c2 (by omega) (by omega) (kp_upd hS hkp') hc2 (st.1.at fun o e => (Heap.get?_update_other _ _ hSI).trans e) hvj fun j' hj' => ?_⟩
      by_cases e : j' = j
      · subst e
        exact Int.le_refl _
      · have := best j' (by omega)
        omega
    · simp only [b, decide_false, Bool.false_eq_true, if_false]
      refine wpAny_bind (wpAny_letGo ?_)
      rw [nm]
      refine wpAny_pure ⟨plainId_quiet PySem.F.plain_min_loop _, ih (j + 1) i _ _ vb tb c (by omega) (by omega) hkp' gS' st.1 hv fun j' hj' => ?_⟩
      by_cases e : j' = j
      · subst e
        omega
      · exact best j' (by omega)
theorem args_min_kd (a v d : Value) : argsOk "min" ⟨[a], [(Str.ofString "key", v), (Str.ofString "default", d)]⟩ := by unfold argsOk; kernel_rfl
theorem min_len {E : Value → Shared → Prop} {d : Value} {Q : Value → Shared → Prop} (hh : A.handled = none) (hl : s.heap.IsList l vs.toArray) (key : KeyLen prog w A s s.heap vs kf)
    (hd : vs = [] → ∀ h' tk', Kp s.heap h' → Q d { s with heap := h', toks := tk' })
    (hR : ∀ i v h' tk', vs[i]? = some v → (∀ j, j < vs.length → kf i ≤ kf j) → Kp s.heap h' → Q v { s with heap := h', toks := tk' }) :
    wpAny (model prog w) A (call (.builtin "min") [.ref l] [(Str.ofString "key", .builtin "len"), (Str.ofString "default", d)]) Q E s := by
  have nm : (toString "min" ++ toString ".loop" : String) = "min.loop" := by decide
  refine kmb_tree PySem.F.kind_min PySem.F.plain_min PySem.F.entry_min (args_min_kd _ _ _) ?_
  show wpAny _ A.in1 (Builtin.Builtins.bindParams "min" ["key", "default"] 0 ⟨[], [(Str.ofString "key", .builtin "len"), (Str.ofString "default", d)]⟩ >>= _) _ _ s
  refine wpAny_bind (wpAny_of_eq (show Builtin.Builtins.bindParams "min" ["key", "default"] 0 ⟨[], [(Str.ofString "key", .builtin "len"), (Str.ofString "default", d)]⟩ = pure [some (.builtin "len"), some d] from rfl) ?_)
  refine wpAny_bind (wpAny_pure (wpAny_bind (wpAny_pyIter_list hl (wpAny_bind (wpAny_newList ?_ (Nat.zero_le _))))))
  rw [nm]
  generalize eIo : ({ cls := .type "list_iterator", data := .fields #[.ref l, .int 0 0] } : Obj) = oI
  have gI1 : (s.heap.push oI).get? s.heap.objs.size = some oI := Heap.get?_push_size _ (by rw [← eIo]; rfl)
  generalize eS : (s.heap.push oI).objs.size = S
  have hS' : S = s.heap.objs.size + 1 := by rw [← eS]; exact size_push' ..
  have gS : ((s.heap.push oI).push (seqObj "list" #[] 0)).get? S = some (seqObj "list" #[] 0) := by
    rw [← eS]
    exact Heap.get?_push_size _ rfl
  have kp2 : Kp s.heap ((s.heap.push oI).push (seqObj "list" #[] 0)) := fun b o e => Heap.get?_push_of_some _ (Heap.get?_push_of_some _ e)
  have gI : ((s.heap.push oI).push (seqObj "list" #[] 0)).get? s.heap.objs.size = some oI := Heap.get?_push_of_some _ gI1
  have nI : s.heap.get? s.heap.objs.size = none := Heap.get?_none_of_le (Nat.le_refl _)
  have nS : s.heap.get? S = none := Heap.get?_none_of_le (by omega)
  have hSI : S ≠ s.heap.objs.size := by omega
  have hlI : l ≠ s.heap.objs.size := fun z => by
    obtain ⟨o, ho, _⟩ := id hl
    rw [z, nI] at ho
    cases ho
  have it : ((s.heap.push oI).push (seqObj "list" #[] 0)).IsListIter s.heap.objs.size l 0 := ⟨_, gI, by rw [← eIo], by rw [← eIo]; rfl⟩
  have W := Walks.list (prog := prog) (w := w) (A := A.in1) hh s.heap.objs.size l hlI vs.toArray
  have up : ∀ {h : Heap}, Kp s.heap h → h.IsList l vs.toArray := fun k => hl.at fun o e => k l o e
  refine wpAny_pure ⟨plainId_quiet PySem.F.plain_min_loop _, codeAny_builtin PySem.F.entry_min_loop ?_⟩; rw [Around.under_plainId PySem.F.plain_min_loop _]; show wpAny _ A.in1 (seqItems? (.ref S) >>= _) _ _ _; refine wpAny_bind (wpAny_seqItems gS rfl ?_); show wpAny _ A.in1 (tryCatch (pyNext (.ref s.heap.objs.size)) _ >>= _) _ _ _
  by_cases h0 : vs = []
  · refine wpAny_bind (wpAny_tryCatch (W.done _ _ _ ⟨by rw [h0]; exact it, up kp2⟩ fun h' tk' q => ?_))
    show wpAny _ A.in1 (rule _ >>= _) _ _ { s with heap := h', toks := tk' }
    exact wpAny_bind (wpAny_rule (wpAny_pure (hd h0 h' tk' (kp_iter nI kp2 q))))
  · have pos : 0 < vs.length := by
      cases vs with
      | nil => exact absurd rfl h0
      | cons _ _ => exact Nat.zero_lt_succ _
    refine wpAny_bind (wpAny_tryCatch (W.item 0 _ _ _ (by rw [List.size_toArray]; exact pos) ⟨it, up kp2⟩ fun v h' tk' hP st q => ?_))
    have hv0 : vs[0]? = some v := by simpa using hP
    have gS' := q S _ (by simpa using hSI) gS
    have hkp' := kp_iter nI kp2 q
    show wpAny _ A.in1 (tryCatch (holding [v] (call (.builtin "len") [v])) _ >>= _) _ _ { s with heap := h', toks := tk' }
    refine wpAny_bind (wpAny_tryCatch (wpAny_holding (key 0 v hv0 h' tk' _ _ hkp' fun t2 tk2 => ?_)))
    show wpAny _ A.in1 (updateSeq S (fun _ => #[v, .int (kf 0) t2]) >>= _) _ _ { s with heap := h', toks := tk2 }
    refine wpAny_bind (wpAny_updateSeq gS' rfl ?_)
    rw [nm]
    obtain ⟨c2, hc2⟩ : ∃ c2, (h'.update S (Obj.mapSeq fun _ => #[v, .int (kf 0) t2])).get? S = some (seqObj "list" #[v, .int (kf 0) t2] c2) := ⟨_, get?_update_seq gS' fun _ => #[v, .int (kf 0) t2]⟩
    refine wpAny_pure ⟨plainId_quiet PySem.F.plain_min_loop _, mn_loop hh hl nI nS hSI key hR _ 1 0 _ _ v t2 c2 rfl pos (kp_upd nS hkp') hc2 (st.1.at fun o e => (Heap.get?_update_other _ _ hSI).trans e) hv0 fun j' hj' => ?_⟩
    have e : j' = 0 := by omega
    subst e
    exact Int.le_refl _
end
open L2
/-! ### xs == [] -/
def rEq0 (K : PySem.W.Frag) : R2 := fun x y H Q => ∃ (a b : Addr) (xs : List V), x = .ref a ∧ y = .ref b ∧ SqL K H a xs ∧ SqL K H b [] ∧ Q (.bl xs.isEmpty) H
theorem op_eq0 {X : Cx} (hu : X.A.units < cLine) : OpR X (compareOp .Eq) (rEq0 X.K) := by
  intro pins s σ H x y v u Q I rx ry h
  obtain ⟨a, b, xs, rfl, rfl, ha, hb, q⟩ := h
  obtain rfl : v = Value.ref a := rx
  obtain rfl : u = Value.ref b := ry
  obtain ⟨its, rv, hl, _⟩ := I.list ha
  obtain ⟨jts, rw2, hm, _⟩ := I.list hb
  have e : jts = [] := by
    cases rw2
    rfl
  subst e
  cases xs with
  | nil =>
    cases rv
    exact PySem.SeqAt.eq_listAt (e := fun _ => true) hl.isList hm.isList rfl hu (fun j h1 _ => absurd h1 (Nat.not_lt_zero _)) ⟨.bl _, H, I, rfl, q⟩
  | cons z zs =>
    cases rv
    exact PySem.SeqAt.eq_list_lengthsAt hl.isList hm.isList (by simp) hu ⟨.bl _, H, I, rfl, q⟩
/-! ### min(rows), rows of whole numbers -/
theorem ll_trans : ∀ {x y z : List Int}, PySem.W.listLt x y = true → PySem.W.listLt y z = true → PySem.W.listLt x z = true
  | [], [], _, h, _ => by cases h
  | _ :: _, [], _, h, _ => by cases h
  | _, _ :: _, [], _, h => by cases h
  | [], _ :: _, _ :: _, _, _ => rfl
  | a :: x, b :: y, c :: z, h, k => by
    unfold PySem.W.listLt at h k ⊢
    by_cases e1 : a = b
    · subst e1
      rw [if_pos rfl] at h
      by_cases e2 : a = c
      · rw [if_pos e2] at k ⊢
        exact ll_trans h k
      · rw [if_neg e2] at k ⊢
        exact k
    · rw [if_neg e1] at h
      have h' : a < b := of_decide_eq_true h
      by_cases e2 : b = c
      · subst e2
        rw [if_neg e1]
        exact h
      · rw [if_neg e2] at k
        have k' : b < c := of_decide_eq_true k
        rw [if_neg (by omega)]
        exact decide_eq_true (by omega)
theorem ll_irr : ∀ (x : List Int), PySem.W.listLt x x = false
  | [] => rfl
  | a :: x => by
    unfold PySem.W.listLt
    rw [if_pos rfl]
    exact ll_irr x
theorem ll_total : ∀ {x m : List Int}, PySem.W.listLt x m = false → m ≠ x → PySem.W.listLt m x = true
  | [], [], _, h => absurd rfl h
  | [], _ :: _, h, _ => by cases h
  | _ :: _, [], _, _ => rfl
  | a :: x, b :: m, h, k => by
    unfold PySem.W.listLt at h ⊢
    by_cases e : a = b
    · subst e
      rw [if_pos rfl] at h ⊢
      exact ll_total h fun z => k (by rw [z])
    · rw [if_neg e] at h
      rw [if_neg (fun z => e z.symm)]
      have : ¬ a < b := of_decide_eq_false h
      exact decide_eq_true (by omega)
theorem min_least : ∀ (xs : List (List Int)) (x : List Int), ∀ y ∈ x :: xs, PySem.W.listLt y (PySem.W.minOf x xs) = false
  | [], x, y, hy => by
    rw [List.mem_singleton.mp hy]
    exact ll_irr x
  | z :: xs, x, y, hy => by
    show PySem.W.listLt y (PySem.W.minOf (if PySem.W.listLt z x = true then z else x) xs) = false
    have ih := min_least xs (if PySem.W.listLt z x = true then z else x)
    have i0 := ih _ List.mem_cons_self
    rcases List.mem_cons.mp hy with e | hy
    · subst e
      by_cases c : PySem.W.listLt z y = true
      · rw [if_pos c] at i0 ⊢
        cases d : PySem.W.listLt y (PySem.W.minOf z xs) with
        | false => rfl
        | true => rw [ll_trans c d] at i0; cases i0
      · rw [if_neg c] at i0 ⊢
        exact i0
    · rcases List.mem_cons.mp hy with e | hy
      · subst e
        by_cases c : PySem.W.listLt y x = true
        · rw [if_pos c] at i0 ⊢
          exact i0
        · rw [if_neg c] at i0 ⊢
          cases d : PySem.W.listLt y (PySem.W.minOf x xs) with
          | false => rfl
          | true =>
            -- y < m and not x ≤ ..: m ≤ x, so y < m ≤ x
            exfalso
            apply c
            by_cases e : PySem.W.minOf x xs = x
            · rw [e] at d
              exact d
            · exact ll_trans d (ll_total i0 e)
      · exact ih y (List.mem_cons_of_mem _ hy)
def rMinRows (K : PySem.W.Frag) : List V → Hp → VK → Prop := fun vs H Q => ∃ (a : Addr) (ps : List (Addr × List Int)), vs = [.ref a] ∧ SqL K H a (ps.map fun p => V.ref p.1) ∧ (∀ p ∈ ps, SqL K H p.1 (p.2.map V.int)) ∧ ps ≠ [] ∧
  ∀ p ∈ ps, (∀ q ∈ ps, PySem.W.listLt q.2 p.2 = false) → Q (.ref p.1) H
theorem dp_ints {K : PySem.W.Frag} {H : Hp} : ∀ (ns : List Int), DpAll K H (ns.map V.int) (ns.map PyData.int)
  | [] => .nil
  | n :: ns => .cons (.int n) (dp_ints ns)
theorem dp_rows {K : PySem.W.Frag} {H : Hp} : ∀ (ps : List (Addr × List Int)), (∀ p ∈ ps, SqL K H p.1 (p.2.map V.int)) → DpAll K H (ps.map fun p => V.ref p.1) ((ps.map fun p => p.2).map fun r => PyData.list (r.map PyData.int))
  | [], _ => .nil
  | p :: ps, h => .cons (.lst (h p List.mem_cons_self) (dp_ints p.2)) (dp_rows ps fun q hq => h q (List.mem_cons_of_mem _ hq))
theorem reads_ints {h : Heap} : ∀ {vs : List Value} {ns ms : List Int} {as : List Addr}, Vals (ns.map V.int) vs → ReadsAll h vs (ms.map PyData.int) as → ns = ms
  | [], [], [], _, _, _ => rfl
  | [], [], _ :: _, _, _, r => by cases r
  | [], _ :: _, _, _, r, _ => by cases r
  | _ :: _, [], _, _, r, _ => by cases r
  | v :: vs, n :: ns, [], _, _, r => by cases r
  | v :: vs, n :: ns, m :: ms, _, r, q => by
    cases r with
    | cons r1 r2 =>
      cases q with
      | cons q1 q2 =>
        obtain ⟨t, rfl⟩ := r1
        cases q1
        rw [reads_ints r2 q2]
theorem cr_minRows {X : Cx} (hc : X.calm = true) (hu : X.A.units + 8 < cLine) : CallR X (.builtin "min") (rMinRows X.K) := by
  intro pins s σ H vs us Q I r h
  obtain ⟨a, ps, rfl, hs, hp, hne, q⟩ := h
  obtain ⟨its, rv, hl, _⟩ := I.list hs
  rw [Vals.ref1 r]
  obtain ⟨as, ra⟩ := Dp.readsAll I _ _ its (dp_rows ps hp) rv
  obtain ⟨p0, ps', e0⟩ : ∃ p0 ps', ps = p0 :: ps' := by
    cases ps with
    | nil => exact absurd rfl hne
    | cons p0 ps' => exact ⟨p0, ps', rfl⟩
  have hold : PySem.W.HoldAll s.heap its.toArray.toList (p0.2 :: ps'.map fun p => p.2) := ⟨as, by
    rw [e0] at ra
    exact ra⟩
  refine PySem.W.min_list_datum (I.ok.hd hc) hl.isList hold (show X.A.units + 1 + 1 < cLine by omega) fun i v h' tk hi hv hk => ?_
  have I' : Inv X pins σ H { s with heap := h', toks := tk } := I.kept hk
  have hi' : its[i]? = some v := by simpa using hi
  have lt : i < its.length := (List.getElem?_eq_some_iff.mp hi').1
  obtain ⟨p, hp1⟩ : ∃ p, ps[i]? = some p := ⟨_, List.getElem?_eq_getElem (by
    have := rv.length
    rw [List.length_map] at this
    omega)⟩
  obtain ⟨u, hu1, hu2⟩ := rv.get (i := i) (x := V.ref p.1) (by rw [List.getElem?_map, hp1]; rfl)
  rw [hi'] at hu1
  cases hu1
  obtain rfl : v = Value.ref p.1 := hu2
  have mem : p ∈ ps := List.mem_of_getElem? hp1
  obtain ⟨jts, rj, hj, _⟩ := I'.list (hp p mem)
  obtain ⟨bs, rb⟩ := hv
  have e : p.2 = PySem.W.minOf p0.2 (ps'.map fun p => p.2) := by
    obtain ⟨o, n, ho, _, _, hd⟩ := hj
    generalize PySem.W.minOf p0.2 (ps'.map fun p => p.2) = m at rb
    have rb' : Reads h' (.ref p.1) (.list (m.map PyData.int)) bs := rb
    cases rb' with
    | list ho2 _ hd2 hall =>
      have ho' : h'.get? p.1 = some o := ho
      rw [ho'] at ho2
      cases ho2
      rw [hd] at hd2
      injection hd2 with e1 _
      rw [← e1] at hall
      exact reads_ints rj (by simpa using hall)
  refine ⟨.ref p.1, H, I', rfl, q p mem fun z hz => ?_⟩
  rw [e]
  refine min_least _ _ z.2 ?_
  rw [e0] at hz
  rcases List.mem_cons.mp hz with y | y
  · rw [y]
    exact List.mem_cons_self
  · exact List.mem_cons_of_mem _ (List.mem_map_of_mem y)
/-! ### min(xs, key=len, default=d) over the layer -/
def tMinLen (K : PySem.W.Frag) (te td : TE) : TE := fun σ H Q => te σ H fun x H1 => td σ H1 fun y H2 => ∃ (a : Addr) (ps : List (Addr × List V)), x = .ref a ∧ SqL K H2 a (ps.map fun p => V.ref p.1) ∧ (∀ p ∈ ps, SqL K H2 p.1 p.2) ∧ (ps = [] → Q y H2) ∧
  ∀ p ∈ ps, (∀ q ∈ ps, p.2.length ≤ q.2.length) → Q (.ref p.1) H2
theorem pe_minLen {X : Cx} {e d : Expr} {te td : TE} {p p1 k1 k2 pos : Pos} (hc : X.calm = true) (hg : Gl X "min") (hm : X.mg "min" = none) (hg2 : Gl X "len") (hm2 : X.mg "len" = none) (he : PE X e te) (hd : PE X d td)
    (h1 : backTo pos (starEach [e] X.env) = (false, eval e X.env) :: backTo pos (starEach [] X.env) := by rfl) (h2 : (backTo pos (starEach [e] X.env)).any (·.1) = false := by rfl) (h3 : starEach [e] X.env = (false, eval e X.env) :: starEach [] X.env := by rfl) :
    PE X (.Call (.Name "min" p) [e] [⟨some "key", .Name "len" p1, k1⟩, ⟨some "default", d, k2⟩] pos) (tMinLen X.K te td) := by
  refine ⟨fun pins s σ H Q I h => ?_⟩
  refine wpAny_Call_Name_kw (ld_blt (u := .builtin "min") I hg hm (by decide +kernel) ?_)
  refine PyProof.Rows.callWith_kw (thn ((pa_cons he pa_nil h3).run pos pins s σ H (fun xs H1 => match xs with
    | [x] => td σ H1 fun y H2 => ∃ (a : Addr) (ps : List (Addr × List V)), x = .ref a ∧ SqL X.K H2 a (ps.map fun p => V.ref p.1) ∧ (∀ p ∈ ps, SqL X.K H2 p.1 p.2) ∧ (ps = [] → Q y H2) ∧ ∀ p ∈ ps, (∀ q ∈ ps, p.2.length ≤ q.2.length) → Q (.ref p.1) H2
    | _ => False) I h) fun us s1 ⟨vs, H1, I1, r1, q1⟩ => ?_) h1 h2
  match vs, q1 with
  | [x], q1 =>
    obtain ⟨u, rfl, rx⟩ := vals1 r1
    show wpAny _ _ (evalAll [(do let v ← eval (.Name "len" p1) X.env; standAt pos; pure v), (do let v ← eval d X.env; standAt pos; pure v)]) _ _ s1
    refine wpAny_evalAll_cons (wpAny_bind (ld_blt (u := .builtin "len") I1 hg2 hm2 (by decide +kernel) (wpAny_bind (wpAny_standAt (wpAny_pure ?_)))))
    refine wpAny_evalAll_cons (wpAny_bind (thn (hd.run pins s1 σ H1 _ I1 q1) fun w2 s2 ⟨y, H2, I2, ry, a, ps, ex, hs, hp, hn, hq⟩ => wpAny_bind (wpAny_standAt (wpAny_pure (wpAny_evalAll_nil ?_)))))
    subst ex
    obtain rfl : u = Value.ref a := rx
    obtain ⟨its, rv, hl, _⟩ := I2.list hs
    have len : its.length = ps.length := by
      have := rv.length
      rw [List.length_map] at this
      omega
    have at_ : ∀ {i : Nat} {v : Value}, its[i]? = some v → ∃ q, ps[i]? = some q ∧ v = Value.ref q.1 := fun {i v} hi => by
      have lt : i < its.length := (List.getElem?_eq_some_iff.mp hi).1
      obtain ⟨q, hq1⟩ : ∃ q, ps[i]? = some q := ⟨_, List.getElem?_eq_getElem (by omega)⟩
      obtain ⟨u, hu1, hu2⟩ := rv.get (i := i) (x := V.ref q.1) (by rw [List.getElem?_map, hq1]; rfl)
      rw [hi] at hu1
      cases hu1
      exact ⟨q, hq1, hu2⟩
    refine min_len (kf := fun i => (((ps[i]?.map fun q => q.2.length).getD 0 : Nat) : Int)) (I2.ok.hd hc) hl.isList (fun i v hi h tk Q' E' hk k => ?_) (fun e h' tk' hk => ?_) fun i v h' tk' hi hmin hk => ?_
    · obtain ⟨q, hq1, rfl⟩ := at_ hi
      have I3 : Inv X pins σ H2 { s2 with heap := h, toks := tk } := I2.kept hk
      obtain ⟨jts, rj, hj, hz⟩ := I3.list (hp q (List.mem_of_getElem? hq1))
      have lj := rj.length
      have l63 := line63
      refine PySem.Calls.call_len_list (A := X.A.in1) hj.isList (by rw [List.size_toArray]; omega) ?_
      have e : ((jts.toArray.size : Nat) : Int) = (((ps[i]?.map fun q => q.2.length).getD 0 : Nat) : Int) := by
        rw [hq1, List.size_toArray, ← lj]
        rfl
      rw [e]
      exact k _ _
    · refine ⟨y, H2, I2.kept hk, ry, hn ?_⟩
      have : ps.length = 0 := by
        rw [← len, e]
        rfl
      exact List.eq_nil_of_length_eq_zero this
    · obtain ⟨q, hq1, rfl⟩ := at_ hi
      refine ⟨.ref q.1, H2, I2.kept hk, rfl, hq q (List.mem_of_getElem? hq1) fun z hz => ?_⟩
      obtain ⟨j, hj⟩ := List.getElem?_of_mem hz
      have := hmin j (by
        have := (List.getElem?_eq_some_iff.mp hj).1
        omega)
      rw [hq1, hj] at this
      have t2 : ((q.2.length : Nat) : Int) ≤ ((z.2.length : Nat) : Int) := this
      omega
end Gb
namespace Gb
open PySem PySem.Spec PyProof.Rows L2
def top (i : Nat) : Stmt := PySem.Challenge.pw_grantsback_s01_answers.main.body.getD i (.Pass ⟨0, 0, 0, 0⟩)
abbrev sGrantInit : Stmt := inClass (top 4) 0
abbrev sIsUser : Stmt := top 5
abbrev sIsRight : Stmt := top 6
abbrev sOfRight : Stmt := top 7
abbrev sIsBetween : Stmt := top 8
abbrev sWhatUserHas : Stmt := top 9
abbrev sMayGive : Stmt := top 10
abbrev sWhatStands : Stmt := top 11
abbrev sWithoutBetween : Stmt := top 12
abbrev sTakenBack : Stmt := top 13
abbrev sTakenOver : Stmt := top 14
abbrev sNewGivers : Stmt := top 15
abbrev sGone : Stmt := top 16
abbrev sUsersWith : Stmt := top 17
abbrev sUsersLess : Stmt := top 18
/-- the class Grant, and the constants -/
structure Txt (K : PySem.W.Frag) (mg : Str → Option Value) (C : Addr) : Prop where
  cl : Cls K C
  nNumber : NoAttr K C "number"
  nGiver : NoAttr K C "giver"
  nTaker : NoAttr K C "taker"
  nRight : NoAttr K C "right"
  nOnward : NoAttr K C "onward"
  mgC : mg "Grant" = some (.ref C)
  house : ∃ t, mg "HOUSE" = some (.int 0 t)
  lastUser : ∃ t, mg "LAST_USER" = some (.int 12 t)
  lastRight : ∃ t, mg "LAST_RIGHT" = some (.int 4 t)
  max : mg "max" = none
  len : mg "len" = none
  range : mg "range" = none
  min : mg "min" = none
  sorted : mg "sorted" = none
section
variable {P : Program} {w : World} {K : PySem.W.Frag} {mg : Str → Option Value} {base : Heap} {C : Addr}
/-! ### is_user, is_right -/
def spIsUser : Sp := fun vs H Q _ => ∃ u : Nat, vs = [.int u] ∧ Q (.bl (Wm01.isUser u)) H
theorem scIsUser : FnScope ["user"] ["user"] (defScope sIsUser) := ⟨rfl, rfl, rfl, by decide +kernel, rfl, by decide +kernel, by decide +kernel⟩
theorem ok_is_user (F : Df K mg "is_user" sIsUser ["user"]) (T : Txt K mg C) : Ok P w K mg base 1 "is_user" ["user"] spIsUser := by
  obtain ⟨f, fd, m, F, b⟩ := F.ex
  obtain ⟨t, ht⟩ := T.lastUser
  refine ⟨f, fd, m, F.kp, b, F.ok scIsUser (fun vs H Q E h => ?_) (fun cdv A outer s H vs Q E hr h => ?_)⟩
  · obtain ⟨u, rfl, _⟩ := h
    rfl
  · obtain ⟨u, rfl, k⟩ := h
    refine ⟨_, pss_one (ps_ret (pe_chain op_le op_le pe_int (pv 0) (pe_glob (v := .int 12) (by rfl) ht ⟨_, rfl⟩))), ?_⟩
    refine ⟨_, rfl, _, _, rfl, rfl, _, rfl, ?_⟩
    unfold Wm01.isUser at k
    by_cases c : (1 : Int) ≤ (u : Int)
    · refine if_t (decide_eq_true c) ⟨_, _, rfl, rfl, ?_⟩
      have e : (decide (1 ≤ u) && decide (u ≤ 12)) = decide ((u : Int) ≤ 12) := by
        rw [decide_eq_true (show 1 ≤ u by omega), Bool.true_and]
        exact decide_eq_decide.mpr (by omega)
      rw [e] at k
      exact k
    · refine if_f (decide_eq_false c) ?_
      have e : (decide (1 ≤ u) && decide (u ≤ 12)) = false := by
        rw [decide_eq_false (show ¬ 1 ≤ u by omega), Bool.false_and]
      rw [e] at k
      exact k
def spIsRight : Sp := fun vs H Q _ => ∃ u : Nat, vs = [.int u] ∧ Q (.bl (Wm01.isRight u)) H
theorem scIsRight : FnScope ["right"] ["right"] (defScope sIsRight) := ⟨rfl, rfl, rfl, by decide +kernel, rfl, by decide +kernel, by decide +kernel⟩
theorem ok_is_right (F : Df K mg "is_right" sIsRight ["right"]) (T : Txt K mg C) : Ok P w K mg base 1 "is_right" ["right"] spIsRight := by
  obtain ⟨f, fd, m, F, b⟩ := F.ex
  obtain ⟨t, ht⟩ := T.lastRight
  refine ⟨f, fd, m, F.kp, b, F.ok scIsRight (fun vs H Q E h => ?_) (fun cdv A outer s H vs Q E hr h => ?_)⟩
  · obtain ⟨u, rfl, _⟩ := h
    rfl
  · obtain ⟨u, rfl, k⟩ := h
    refine ⟨_, pss_one (ps_ret (pe_chain op_le op_le pe_int (pv 0) (pe_glob (v := .int 4) (by rfl) ht ⟨_, rfl⟩))), ?_⟩
    refine ⟨_, rfl, _, _, rfl, rfl, _, rfl, ?_⟩
    unfold Wm01.isRight at k
    by_cases c : (1 : Int) ≤ (u : Int)
    · refine if_t (decide_eq_true c) ⟨_, _, rfl, rfl, ?_⟩
      have e : (decide (1 ≤ u) && decide (u ≤ 4)) = decide ((u : Int) ≤ 4) := by
        rw [decide_eq_true (show 1 ≤ u by omega), Bool.true_and]
        exact decide_eq_decide.mpr (by omega)
      rw [e] at k
      exact k
    · refine if_f (decide_eq_false c) ?_
      have e : (decide (1 ≤ u) && decide (u ≤ 4)) = false := by
        rw [decide_eq_false (show ¬ 1 ≤ u by omega), Bool.false_and]
      rw [e] at k
      exact k
/-! ### of_right -/
/-- a new list of grants comes out, all else stands -/
def news (C : Addr) (H : Hp) (gs : List G) (Q : VK) : Prop := ∀ (H' : Hp) (q : Addr), Same H H' → H q = none → LG C H' q gs → Q (.ref q) H'
def spOfRight (C : Addr) : Sp := fun vs H Q _ => ∃ (r : Nat) (l : Addr) (gs : List G), vs = [.int r, .ref l] ∧ LG C H l gs ∧ gs.length ≤ 1000 ∧ news C H (gs.filter fun g => g.right == r) Q
theorem v_eq (m n : Nat) : decide (V.int (m : Int) = V.int (n : Int)) = (m == n) := by
  by_cases c : m = n
  · subst c
    rw [decide_eq_true rfl, beq_self_eq_true]
  · rw [decide_eq_false (by intro e; injection e with e; omega)]
    exact (beq_eq_false_iff_ne.mpr c).symm
theorem scOfRight : FnScope ["right", "grants", "grant"] ["right", "grants"] (defScope sOfRight) := ⟨rfl, rfl, rfl, by decide +kernel, rfl, by decide +kernel, by decide +kernel⟩
theorem ok_of_right (F : Df K mg "of_right" sOfRight ["right", "grants"]) (T : Txt K mg C) : Ok P w K mg base 1 "of_right" ["right", "grants"] (spOfRight C) := by
  obtain ⟨f, fd, m, F, b⟩ := F.ex
  refine ⟨f, fd, m, F.kp, b, F.ok scOfRight (fun vs H Q E h => ?_) (fun cdv A outer s H vs Q E hr h => ?_)⟩
  · obtain ⟨r, l, gs, rfl, _⟩ := h
    rfl
  · obtain ⟨r, l, gs, rfl, hl, len, k⟩ := h
    refine ⟨_, pss_one (ps_ret (pe_lc (own := [("grant", 2)]) (g := gName 2) (tt := tTest (tOp rEq (tFld K (tVar 2) "right") (tVar 0))) rfl scOfRight.nd (pi_list (pv 1)) (blkOk_by (own := [("grant", 2)]) (N := ["right", "grants", "grant"]) (sc := defScope sOfRight) (by decide +kernel))
      (fun _ _ _ _ _ => pg_name (i := 2) scOfRight.nd rfl (Or.inl rfl)) (fun _ _ _ _ _ => by exact pts_one (pt_cmpR op_eq (pe_fld (pv 2) rfl) (pv 0) (nomark _))) (fun _ _ _ _ _ => by exact pv 2))), ?_⟩
    have hl' := hl
    obtain ⟨ps, e, hq, _⟩ := hl'
    refine ⟨_, rfl, l, rfl, ⟨_, SqL.of hq⟩, lc_filter (fun g => g.right == r) hl len (fun _ => rfl) (fun _ => rfl) (fun a g H' Qt _ s hg hQ => ?_) k⟩
    obtain ⟨dx, hg⟩ := hg
    refine ⟨_, rfl, a, C, dx, _, _, rfl, hg, T.cl, T.nRight, gF_right g, _, rfl, rfl, _, rfl, ?_⟩
    rw [v_eq]
    exact hQ
/-! ### is_between -/
def spIsBetween (C : Addr) : Sp := fun vs H Q _ => ∃ (a b r : Nat) (x : Addr) (g : G), vs = [.int a, .int b, .int r, .ref x] ∧ GAt C H x g ∧ Q (.bl (Wm01.by_ a b r g)) H
theorem scIsBetween : FnScope ["giver", "taker", "right", "grant"] ["giver", "taker", "right", "grant"] (defScope sIsBetween) := ⟨rfl, rfl, rfl, by decide +kernel, rfl, by decide +kernel, by decide +kernel⟩
theorem ok_is_between (F : Df K mg "is_between" sIsBetween ["giver", "taker", "right", "grant"]) (T : Txt K mg C) : Ok P w K mg base 1 "is_between" ["giver", "taker", "right", "grant"] (spIsBetween C) := by
  refine F.ok scIsBetween (fun vs H Q E h => ?_) (fun f cdv A outer s H vs Q E hr h => ?_)
  · obtain ⟨a, b, r, x, g, rfl, _⟩ := h
    rfl
  · obtain ⟨a, b, r, x, g, rfl, ⟨dx, hg⟩, k⟩ := h
    refine ⟨_, pss_one (ps_ret (pe_and (pe_cmpR op_eq (pe_fld (pv 3) rfl) (pv 0) (nomark _)) (pe_and (pe_cmpR op_eq (pe_fld (pv 3) rfl) (pv 1) (nomark _)) (pe_one (pe_cmpR op_eq (pe_fld (pv 3) rfl) (pv 2) (nomark _)))))), ?_⟩
    unfold Wm01.by_ at k
    refine ⟨_, rfl, x, C, dx, _, _, rfl, hg, T.cl, T.nGiver, gF_giver g, _, rfl, rfl, _, rfl, ?_⟩
    rw [v_eq]
    cases c1 : g.giver == a with
    | false =>
      rw [c1] at k
      exact iteF k
    | true =>
      rw [c1] at k
      refine iteT ⟨_, rfl, x, C, dx, _, _, rfl, hg, T.cl, T.nTaker, gF_taker g, _, rfl, rfl, _, rfl, ?_⟩
      rw [v_eq]
      cases c2 : g.taker == b with
      | false =>
        rw [c2] at k
        exact iteF k
      | true =>
        rw [c2] at k
        refine iteT ⟨_, rfl, x, C, dx, _, _, rfl, hg, T.cl, T.nRight, gF_right g, _, rfl, rfl, ?_⟩
        rw [v_eq]
        exact k
/-! ### what_user_has -/
def spHas (C : Addr) : Sp := fun vs H Q _ => ∃ (u r : Nat) (l : Addr) (gs : List G), vs = [.int u, .int r, .ref l] ∧ LG C H l gs ∧ gs.length ≤ 1000 ∧ ∀ H', Same H H' → Q (.int (wh gs u r)) H'
theorem scHas : FnScope ["user", "right", "grants", "most", "grant"] ["user", "right", "grants"] (defScope sWhatUserHas) := ⟨rfl, rfl, rfl, by decide +kernel, rfl, by decide +kernel, by decide +kernel⟩
theorem ok_has (F : Df K mg "what_user_has" sWhatUserHas ["user", "right", "grants"]) (T : Txt K mg C) (OR : Ok P w K mg base 1 "of_right" ["right", "grants"] (spOfRight C)) : Ok P w K mg base 2 "what_user_has" ["user", "right", "grants"] (spHas C) := by
  obtain ⟨fo, fdo, mo, ko, bo, Go⟩ := OR.ex
  refine F.ok scHas (fun vs H Q E h => ?_) (fun f cdv A outer s H vs Q E hr h => ?_)
  · obtain ⟨u, r, l, gs, rfl, _⟩ := h
    rfl
  · obtain ⟨u, r, l, gs, rfl, hl, len, k⟩ := h
    refine ⟨_, pss_cons (ps_set (i := 3) scHas.nd rfl (Or.inl rfl) pe_int)
      (pss_cons (ps_for PassesOwn.never rfl (pi_list (pe_call Go hr rfl mo ko bo .nil pass0 (pa_cons (pv 1) (pa_cons (pv 2) pa_nil)))) (pg_name (i := 4) scHas.nd rfl (Or.inl rfl))
        (pss_one (ps_if (pt_cmpR op_eq (pe_fld (pv 4) rfl) (pv 0) (nomark _))
          (pss_one (ps_set (i := 3) scHas.nd rfl (Or.inl rfl) (pe_callB (call_max2 rfl) (by rfl) T.max (by decide +kernel) (pa_cons (pv 3) (pa_cons (pe_op op_add pe_int (pe_fld (pv 4) rfl)) pa_nil)))))
          pss_nil)))
      (pss_one (ps_ret (pv 3)))), ?_⟩
    refine ⟨_, rfl, _, rfl, r, l, gs, rfl, hl, len, fun H1 q s1 hq h1 => ?_⟩
    obtain ⟨xs, hxs, hlen, item⟩ := h1.item
    refine ⟨q, rfl, ⟨_, SqL.of hxs⟩, for_list (K := K) (a := q) (xs := xs) (fun i σ H' => ∃ v : Option V, σ = [some (.int u), some (.int r), some (.ref l), some (.int (hv ((gs.filter fun g => g.right == r).take i) u)), v] ∧ Same H1 H')
      ⟨none, rfl, Same.refl _⟩ (fun i σ H' _ ⟨_, _, s2⟩ => SqL.of (s2 _ _ hxs)) ?_ ?_⟩
    · rintro i x σ H' hi ⟨v, rfl, s2⟩
      obtain ⟨a, g, rfl, hg, _, tk⟩ := item i x hi
      obtain ⟨dx, hg⟩ := hg.same s2
      refine ⟨_, rfl, a, C, dx, _, _, rfl, hg, T.cl, T.nTaker, gF_taker g, _, rfl, rfl, _, rfl, ?_⟩
      rw [v_eq, tk]
      have sn := hv_snoc ((gs.filter fun g => g.right == r).take i) g u
      cases c : g.taker == u with
      | false =>
        rw [if_neg (by intro e; rw [beq_iff_eq.mpr e] at c; cases c)] at sn
        refine iteF ⟨some (.ref a), ?_, s2⟩
        rw [sn]
        rfl
      | true =>
        rw [if_pos (beq_iff_eq.mp c)] at sn
        refine iteT ⟨_, rfl, _, rfl, a, C, dx, _, _, rfl, hg, T.cl, T.nOnward, gF_onward g, _, _, rfl, rfl, _, _, rfl, some (.ref a), ?_, s2⟩
        rw [sn]
        have e : (if (1 : Int) + ((Wm01.flag g.pass : Nat) : Int) > ((hv ((gs.filter fun g => g.right == r).take i) u : Nat) : Int) then (1 : Int) + ((Wm01.flag g.pass : Nat) : Int) else ((hv ((gs.filter fun g => g.right == r).take i) u : Nat) : Int))
            = (((if 1 + Wm01.flag g.pass > hv ((gs.filter fun g => g.right == r).take i) u then 1 + Wm01.flag g.pass else hv ((gs.filter fun g => g.right == r).take i) u) : Nat) : Int) := by
          split <;> split <;> omega
        rw [e]
        rfl
    · rintro σ H' ⟨v, rfl, s2⟩
      refine ⟨_, rfl, ?_⟩
      rw [hlen, List.take_length]
      exact k H' (s1.trans s2)
/-! ### may_give -/
def spMay (C : Addr) : Sp := fun vs H Q _ => ∃ (u r : Nat) (l : Addr) (gs : List G), vs = [.int u, .int r, .ref l] ∧ LG C H l gs ∧ gs.length ≤ 1000 ∧ ∀ H', Same H H' → Q (.bl (Wm01.mayGive gs u r)) H'
theorem scMay : FnScope ["giver", "right", "grants"] ["giver", "right", "grants"] (defScope sMayGive) := ⟨rfl, rfl, rfl, by decide +kernel, rfl, by decide +kernel, by decide +kernel⟩
theorem ok_may (F : Df K mg "may_give" sMayGive ["giver", "right", "grants"]) (T : Txt K mg C) (OH : Ok P w K mg base 2 "what_user_has" ["user", "right", "grants"] (spHas C)) : Ok P w K mg base 3 "may_give" ["giver", "right", "grants"] (spMay C) := by
  obtain ⟨fo, fdo, mo, ko, bo, Go⟩ := OH.ex
  obtain ⟨t, ht⟩ := T.house
  refine F.ok scMay (fun vs H Q E h => ?_) (fun f cdv A outer s H vs Q E hr h => ?_)
  · obtain ⟨u, r, l, gs, rfl, _⟩ := h
    rfl
  · obtain ⟨u, r, l, gs, rfl, hl, len, k⟩ := h
    refine ⟨_, pss_one (ps_ret (pe_or (pe_cmpR op_eq (pv 0) (pe_glob (v := .int 0) (by rfl) ht ⟨_, rfl⟩) (nomark _)) (pe_one (pe_cmpR op_eq (pe_call Go hr rfl mo ko bo .nil pass0 (pa_cons (pv 0) (pa_cons (pv 1) (pa_cons (pv 2) pa_nil)))) pe_int (nomark _))))), ?_⟩
    rw [may_iff] at k
    refine ⟨_, rfl, rfl, _, rfl, ?_⟩
    by_cases c : u = 0
    · subst c
      refine if_t (decide_eq_true rfl) ?_
      have := k H (Same.refl _)
      rw [decide_eq_true rfl, Bool.true_or] at this
      exact this
    · refine if_f (decide_eq_false (by intro e; injection e with e; omega)) ?_
      refine ⟨_, rfl, _, rfl, _, rfl, u, r, l, gs, rfl, hl, len, fun H' s' => ⟨rfl, ?_⟩⟩
      have := k H' s'
      rw [decide_eq_false c, Bool.false_or] at this
      have e : decide (V.int ((wh gs u r : Nat) : Int) = V.int 2) = decide (wh gs u r = 2) := decide_eq_decide.mpr ⟨fun e => by injection e with e; omega, fun e => by rw [e]; rfl⟩
      rw [e]
      exact this
/-! ### what_stands -/
def spStands (C : Addr) : Sp := fun vs H Q _ => ∃ (l : Addr) (gs : List G), vs = [.ref l] ∧ LG C H l gs ∧ gs.length ≤ 1000 ∧ news C H (Wm01.stand gs) Q
theorem scStands : FnScope ["grants", "standing", "grant"] ["grants"] (defScope sWhatStands) := ⟨rfl, rfl, rfl, by decide +kernel, rfl, by decide +kernel, by decide +kernel⟩
theorem ok_stands (F : Df K mg "what_stands" sWhatStands ["grants"]) (T : Txt K mg C) (OM : Ok P w K mg base 3 "may_give" ["giver", "right", "grants"] (spMay C)) : Ok P w K mg base 4 "what_stands" ["grants"] (spStands C) := by
  obtain ⟨fo, fdo, mo, ko, bo, Go⟩ := OM.ex
  refine F.ok scStands (fun vs H Q E h => ?_) (fun f cdv A outer s H vs Q E hr h => ?_)
  · obtain ⟨l, gs, rfl, _⟩ := h
    rfl
  · obtain ⟨l, gs, rfl, hl, len, k⟩ := h
    refine ⟨_, pss_cons (ps_set (i := 1) scStands.nd rfl (Or.inl rfl) (pe_lst pa_nil))
      (pss_cons (ps_for PassesOwn.never rfl (pi_list (pv 0)) (pg_name (i := 2) scStands.nd rfl (Or.inl rfl))
        (pss_one (ps_if (pt_val (pe_call Go hr rfl mo ko bo .nil pass0 (pa_cons (pe_fld (pv 2) rfl) (pa_cons (pe_fld (pv 2) rfl) (pa_cons (pv 1) pa_nil)))))
          (pss_one (ps_expr (pe_bm PySem.F.plainAttrs_list PySem.F.slot_list_append PySem.F.type_list_append mt_append (pv 1) (pa_cons (pv 2) pa_nil))))
          pss_nil)))
      (pss_one (ps_ret (pv 1)))), ?_⟩
    refine ⟨Nat.zero_le _, fun q hq => ?_⟩
    obtain ⟨xs, hxs, hlen, item⟩ := hl.item
    have s0 : Same H (upd H q (.lst [])) := same_new hq
    refine ⟨_, rfl, l, rfl, ⟨_, SqL.of (s0 _ _ hxs)⟩, for_list (K := K) (a := l) (xs := xs) (fun i σ H' => ∃ v : Option V, σ = [some (.ref l), some (.ref q), v] ∧ Same H H' ∧ LG C H' q (Wm01.stand (gs.take i)))
      ⟨none, rfl, s0, LG.nil upd_same⟩ (fun i σ H' _ ⟨_, _, s2, _⟩ => SqL.of (s2 _ _ hxs)) ?_ ?_⟩
    · rintro i x σ H' hi ⟨v, rfl, s2, hst⟩
      obtain ⟨a, g, rfl, hg, _, tk⟩ := item i x hi
      have hg1 := hg.same s2
      obtain ⟨dx, hg2⟩ := hg1
      have lst : (Wm01.stand (gs.take i)).length ≤ 1000 := Nat.le_trans (stand_sub _).length_le (Nat.le_trans (by rw [List.length_take]; exact Nat.min_le_right _ _) len)
      refine ⟨_, rfl, a, C, dx, _, _, rfl, hg2, T.cl, T.nGiver, gF_giver g, _, rfl, a, C, dx, _, _, rfl, hg2, T.cl, T.nRight, gF_right g, _, rfl, _, _, q, _, rfl, hst, lst, fun H2 s3 => ⟨_, rfl, ?_⟩⟩
      rw [tk, stand_snoc]
      cases c : Wm01.mayGive (Wm01.stand (gs.take i)) g.giver g.right with
      | false =>
        refine iteF ⟨some (.ref a), rfl, s2.trans s3, ?_⟩
        rw [if_neg (by exact Bool.false_ne_true)]
        exact hst.same s3
      | true =>
        obtain ⟨ys, hys, hyl, hp⟩ := (hst.same s3).push (hg.same (s2.trans s3))
        refine iteT ⟨_, rfl, .inl ⟨rfl, _, SqL.of hys⟩, _, rfl, q, ys, _, rfl, rfl, hys, by rw [hyl]; exact small lst, some (.ref a), rfl, same_upd hq (s2.trans s3), ?_⟩
        rw [if_pos rfl]
        exact hp
    · rintro σ H' ⟨v, rfl, s2, hst⟩
      rw [hlen, List.take_length] at hst
      exact ⟨_, rfl, k H' q s2 hq hst⟩
/-! ### without_between, taken_back -/
def spWithout (C : Addr) : Sp := fun vs H Q _ => ∃ (a b r : Nat) (l : Addr) (gs : List G), vs = [.int a, .int b, .int r, .ref l] ∧ LG C H l gs ∧ gs.length ≤ 1000 ∧ news C H (gs.filter fun g => !Wm01.by_ a b r g) Q
theorem scWithout : FnScope ["giver", "taker", "right", "grants", "grant"] ["giver", "taker", "right", "grants"] (defScope sWithoutBetween) := ⟨rfl, rfl, rfl, by decide +kernel, rfl, by decide +kernel, by decide +kernel⟩
theorem ok_without (F : Df K mg "without_between" sWithoutBetween ["giver", "taker", "right", "grants"]) (OB : Ok P w K mg base 1 "is_between" ["giver", "taker", "right", "grant"] (spIsBetween C)) :
    Ok P w K mg base 2 "without_between" ["giver", "taker", "right", "grants"] (spWithout C) := by
  obtain ⟨fo, fdo, mo, ko, bo, Go⟩ := OB.ex
  refine F.ok scWithout (fun vs H Q E h => ?_) (fun f cdv A outer s H vs Q E hr h => ?_)
  · obtain ⟨a, b, r, l, gs, rfl, _⟩ := h
    rfl
  · obtain ⟨a, b, r, l, gs, rfl, hl, len, k⟩ := h
    refine ⟨_, pss_one (ps_ret (pe_lc (own := [("grant", 4)]) (g := gName 4) (tt := tNot (tB (tCall (spIsBetween C) [] E0 (tCons (tVar 0) (tCons (tVar 1) (tCons (tVar 2) (tCons (tVar 4) tNil))))))) rfl scWithout.nd (pi_list (pv 3))
      (blkOk_by (own := [("grant", 4)]) (N := ["giver", "taker", "right", "grants", "grant"]) (sc := defScope sWithoutBetween) (by decide +kernel))
      (fun _ _ _ _ _ => pg_name (i := 4) scWithout.nd rfl (Or.inl rfl)) (fun _ _ _ _ _ => by exact pts_one (pt_not (pt_val (pe_call Go hr rfl mo ko bo .nil pass0 (pa_cons (pv 0) (pa_cons (pv 1) (pa_cons (pv 2) (pa_cons (pv 4) pa_nil)))))))) (fun _ _ _ _ _ => by exact pv 4))), ?_⟩
    have hl' := hl
    obtain ⟨ps, e, hq, _⟩ := hl'
    refine ⟨_, rfl, l, rfl, ⟨_, SqL.of hq⟩, lc_filter (fun g => !Wm01.by_ a b r g) hl len (fun _ => rfl) (fun _ => rfl) (fun x g H' Qt _ s hg hQ => ?_) k⟩
    exact ⟨_, rfl, _, rfl, _, rfl, _, rfl, a, b, r, x, g, rfl, hg, _, rfl, hQ⟩
def spTakenBack (C : Addr) : Sp := fun vs H Q _ => ∃ (a b r : Nat) (l : Addr) (gs : List G), vs = [.int a, .int b, .int r, .ref l] ∧ LG C H l gs ∧ gs.length ≤ 1000 ∧ news C H (Wm01.revoked gs a b r) Q
theorem scTakenBack : FnScope ["giver", "taker", "right", "grants"] ["giver", "taker", "right", "grants"] (defScope sTakenBack) := ⟨rfl, rfl, rfl, by decide +kernel, rfl, by decide +kernel, by decide +kernel⟩
theorem ok_taken_back (F : Df K mg "taken_back" sTakenBack ["giver", "taker", "right", "grants"]) (OW : Ok P w K mg base 4 "without_between" ["giver", "taker", "right", "grants"] (spWithout C)) (OS : Ok P w K mg base 4 "what_stands" ["grants"] (spStands C)) :
    Ok P w K mg base 5 "taken_back" ["giver", "taker", "right", "grants"] (spTakenBack C) := by
  obtain ⟨fo, fdo, mo, ko, bo, Go⟩ := OW.ex
  obtain ⟨fs, fds, ms, ks, bs, Gs⟩ := OS.ex
  refine F.ok scTakenBack (fun vs H Q E h => ?_) (fun f cdv A outer s H vs Q E hr h => ?_)
  · obtain ⟨a, b, r, l, gs, rfl, _⟩ := h
    rfl
  · obtain ⟨a, b, r, l, gs, rfl, hl, len, k⟩ := h
    refine ⟨_, pss_one (ps_ret (pe_call Gs hr rfl ms ks bs .nil pass0 (pa_cons (pe_call Go hr rfl mo ko bo .nil pass0 (pa_cons (pv 0) (pa_cons (pv 1) (pa_cons (pv 2) (pa_cons (pv 3) pa_nil))))) pa_nil))), ?_⟩
    refine ⟨_, rfl, _, rfl, _, rfl, _, rfl, a, b, r, l, gs, rfl, hl, len, fun H1 q1 s1 hq1 h1 => ?_⟩
    exact ⟨q1, _, rfl, h1, Nat.le_trans (List.length_filter_le _ _) len, fun H2 q2 s2 hq2 h2 => k H2 q2 (s1.trans s2) (s1.free hq2) h2⟩
/-! ### Grant(..) -/
def spGrantInit (C : Addr) : Sp := fun vs H Q _ => ∃ (p dx : Addr) (g : G), vs = [.ref p, .int g.num, .int g.giver, .int g.taker, .int g.right, .int (Wm01.flag g.pass)] ∧ H p = some (.ins C dx []) ∧
  ∀ H' : Hp, GAt C H' p g → (∀ b o, H b = some o → b ≠ p → H' b = some o) → Q .non H'
theorem scGrantInit : FnScope ["self", "number", "giver", "taker", "right", "onward"] ["self", "number", "giver", "taker", "right", "onward"] (defScope sGrantInit) := ⟨rfl, rfl, rfl, by decide +kernel, rfl, by decide +kernel, by decide +kernel⟩
theorem gF_new (g : G) : putF "onward" (.int (Wm01.flag g.pass)) (putF "right" (.int g.right) (putF "taker" (.int g.taker) (putF "giver" (.int g.giver) (putF "number" (.int g.num) [])))) = gF g := by
  have e1 : putF "number" (V.int g.num) [] = ([("number", V.int g.num)] : List (Str × V)) := rfl
  have e2 : putF "giver" (V.int g.giver) ([("number", V.int g.num)] : List (Str × V)) = ([("number", V.int g.num), ("giver", V.int g.giver)] : List (Str × V)) := (put_past (by decide +kernel)).trans rfl
  have e3 : putF "taker" (V.int g.taker) ([("number", V.int g.num), ("giver", V.int g.giver)] : List (Str × V)) = ([("number", V.int g.num), ("giver", V.int g.giver), ("taker", V.int g.taker)] : List (Str × V)) :=
    (put_past (by decide +kernel)).trans (congrArg _ ((put_past (by decide +kernel)).trans rfl))
  have e4 : putF "right" (V.int g.right) ([("number", V.int g.num), ("giver", V.int g.giver), ("taker", V.int g.taker)] : List (Str × V)) = ([("number", V.int g.num), ("giver", V.int g.giver), ("taker", V.int g.taker), ("right", V.int g.right)] : List (Str × V)) :=
    (put_past (by decide +kernel)).trans (congrArg _ ((put_past (by decide +kernel)).trans (congrArg _ ((put_past (by decide +kernel)).trans rfl))))
  rw [e1, e2, e3, e4]
  exact (put_past (by decide +kernel)).trans (congrArg _ ((put_past (by decide +kernel)).trans (congrArg _ ((put_past (by decide +kernel)).trans (congrArg _ ((put_past (by decide +kernel)).trans rfl))))))
theorem ok_grant_init {f : Addr} {fd : FuncData} (F : Fun K "__init__" "Grant.__init__" sGrantInit f fd) (T : Txt K mg C) : FnOk P w K mg base CX0 1 f fd ["self", "number", "giver", "taker", "right", "onward"] (spGrantInit C) := by
  refine F.ok scGrantInit (fun vs H Q E h => ?_) (fun cdv A outer s H vs Q E hr h => ?_)
  · obtain ⟨p, dx, g, rfl, _⟩ := h
    rfl
  · obtain ⟨p, dx, g, rfl, hp, k⟩ := h
    refine ⟨_, pss_cons (ps_fld (pv 0) (pv 1) rfl) (pss_cons (ps_fld (pv 0) (pv 2) rfl) (pss_cons (ps_fld (pv 0) (pv 3) rfl) (pss_cons (ps_fld (pv 0) (pv 4) rfl) (pss_one (ps_fld (pv 0) (pv 5) rfl))))), ?_⟩
    refine ⟨_, rfl, _, rfl, p, C, dx, [], rfl, hp, T.cl, T.nNumber, (by show 0 < 1000; decide), ?_⟩
    refine ⟨_, rfl, _, rfl, p, C, dx, _, rfl, upd_same, T.cl, T.nGiver, (by show 1 < 1000; decide), ?_⟩
    refine ⟨_, rfl, _, rfl, p, C, dx, _, rfl, upd_same, T.cl, T.nTaker, (by show 2 < 1000; decide), ?_⟩
    refine ⟨_, rfl, _, rfl, p, C, dx, _, rfl, upd_same, T.cl, T.nRight, (by show 3 < 1000; decide), ?_⟩
    refine ⟨_, rfl, _, rfl, p, C, dx, _, rfl, upd_same, T.cl, T.nOnward, (by show 4 < 1000; decide), ?_⟩
    exact k _ ⟨dx, Eq.trans upd_same (congrArg (fun q => some (HO.ins C dx q)) (gF_new g))⟩ fun b o e hb => by
      rw [upd_ne hb, upd_ne hb, upd_ne hb, upd_ne hb, upd_ne hb]
      exact e
/-! ### taken_over -/
def spTakenOver (C : Addr) : Sp := fun vs H Q _ => ∃ (a b r : Nat) (l : Addr) (gs : List G), vs = [.int a, .int b, .int r, .ref l] ∧ LG C H l gs ∧ gs.length ≤ 1000 ∧ news C H (Wm01.keptOver gs a b r) Q
theorem over_len (a b r : Nat) (m : List G) : (Wm01.takeOver a b r [] m).length ≤ m.length := by
  obtain ⟨m', s, _, e⟩ := over_from a b r m []
  have le := s.length_le
  rw [List.length_map, List.length_map] at le
  rw [e]
  exact le
theorem scTakenOver : FnScope ["giver", "taker", "right", "grants", "kept", "grant"] ["giver", "taker", "right", "grants"] (defScope sTakenOver) := ⟨rfl, rfl, rfl, by decide +kernel, rfl, by decide +kernel, by decide +kernel⟩
theorem ok_taken_over (F : Df K mg "taken_over" sTakenOver ["giver", "taker", "right", "grants"]) (T : Txt K mg C) (OW : Ok P w K mg base 3 "without_between" ["giver", "taker", "right", "grants"] (spWithout C)) (OM : Ok P w K mg base 3 "may_give" ["giver", "right", "grants"] (spMay C))
    (OG : Mks P w K mg base 1 C ["self", "number", "giver", "taker", "right", "onward"] (spGrantInit C)) : Ok P w K mg base 4 "taken_over" ["giver", "taker", "right", "grants"] (spTakenOver C) := by
  obtain ⟨fo, fdo, mo, ko, bo, Go⟩ := OW.ex
  obtain ⟨fm, fdm, mm, km, bm, Gm⟩ := OM.ex
  obtain ⟨fg, fdg, Mg, bg, Gg⟩ := OG.ex
  refine F.ok scTakenOver (fun vs H Q E h => ?_) (fun f cdv A outer s H vs Q E hr h => ?_)
  · obtain ⟨a, b, r, l, gs, rfl, _⟩ := h
    rfl
  · obtain ⟨a, b, r, l, gs, rfl, hl, len, k⟩ := h
    have hr2 : Room 2 _ := hr.mono (by decide)
    refine ⟨_, pss_cons (ps_set (i := 4) scTakenOver.nd rfl (Or.inl rfl) (pe_lst pa_nil))
      (pss_cons (ps_for PassesOwn.never rfl (pi_list (pe_call Go hr rfl mo ko bo .nil pass0 (pa_cons (pv 0) (pa_cons (pv 1) (pa_cons (pv 2) (pa_cons (pv 3) pa_nil)))))) (pg_name (i := 5) scTakenOver.nd rfl (Or.inl rfl))
        (pss_one (ps_if (pt_val (pe_call Gm hr rfl mm km bm .nil pass0 (pa_cons (pe_fld (pv 5) rfl) (pa_cons (pe_fld (pv 5) rfl) (pa_cons (pv 4) pa_nil)))))
          (pss_one (ps_expr (pe_bm PySem.F.plainAttrs_list PySem.F.slot_list_append PySem.F.type_list_append mt_append (pv 4) (pa_cons (pv 5) pa_nil))))
          (pss_one (ps_if (PW.pt (pw_and (pt_cmpR op_eq (pe_fld (pv 5) rfl) (pv 1) (nomark _)) (pw_and (pt_cmpR op_eq (pe_fld (pv 5) rfl) (pv 2) (nomark _)) (pw_and1 (pt_cmpR op_ne (pe_fld (pv 5) rfl) (pv 0) (nomark _))))))
            (pss_one (ps_expr (pe_bm PySem.F.plainAttrs_list PySem.F.slot_list_append PySem.F.type_list_append mt_append (pv 4) (pa_cons (pe_make Mg Gg hr2 rfl T.mgC bg .nil pass0 (pa_cons (pe_fld (pv 5) rfl) (pa_cons (pv 0) (pa_cons (pe_fld (pv 5) rfl) (pa_cons (pv 2) (pa_cons (pe_fld (pv 5) rfl) pa_nil)))))) pa_nil))))
            pss_nil)))))
      (pss_one (ps_ret (pv 4)))), ?_⟩
    refine ⟨Nat.zero_le _, fun q hq => ?_⟩
    have s0 : Same H (upd H q (.lst [])) := same_new hq
    refine ⟨_, rfl, _, rfl, _, rfl, _, rfl, a, b, r, l, gs, rfl, hl.same s0, len, fun H1 q1 s1 hq1 h1 => ?_⟩
    obtain ⟨xs, hxs, hlen, item⟩ := h1.item
    have lenf : (gs.filter fun g => !Wm01.by_ a b r g).length ≤ 1000 := Nat.le_trans (List.length_filter_le _ _) len
    have nqq : q1 ≠ q := fun e => by
      rw [e, upd_same] at hq1
      cases hq1
    refine ⟨q1, rfl, ⟨_, SqL.of hxs⟩, for_list (K := K) (a := q1) (xs := xs) (fun i σ H' => ∃ v : Option V, σ = [some (.int a), some (.int b), some (.int r), some (.ref l), some (.ref q), v] ∧ Same H H' ∧ (∀ c o, H1 c = some o → c ≠ q → H' c = some o) ∧ LG C H' q (Wm01.takeOver a b r [] ((gs.filter fun g => !Wm01.by_ a b r g).take i)))
      ⟨none, rfl, s0.trans s1, fun c o e _ => e, (LG.nil upd_same).same s1⟩ (fun i σ H' _ ⟨_, _, _, s2, _⟩ => SqL.of (s2 _ _ hxs nqq)) ?_ ?_⟩
    · rintro i x σ H' hi ⟨v, rfl, s2, s3, hst⟩
      obtain ⟨x, g, rfl, hg, _, tk⟩ := item i x hi
      obtain ⟨dx, hg0⟩ := hg
      have hgq : x ≠ q := by
        obtain ⟨ys, hys, _⟩ := ((LG.nil (C := C) (upd_same : (upd H q (.lst [])) q = some (.lst []))).same s1).item
        exact ne_of hg0 hys (by intro z; cases z)
      have hg2 := s3 _ _ hg0 hgq
      have lst : (Wm01.takeOver a b r [] ((gs.filter fun g => !Wm01.by_ a b r g).take i)).length ≤ 1000 := Nat.le_trans (over_len _ _ _ _) (Nat.le_trans (by rw [List.length_take]; exact Nat.min_le_right _ _) lenf)
      refine ⟨_, rfl, x, C, dx, _, _, rfl, hg2, T.cl, T.nGiver, gF_giver g, _, rfl, x, C, dx, _, _, rfl, hg2, T.cl, T.nRight, gF_right g, _, rfl, _, _, q, _, rfl, hst, lst, fun H2 s4 => ⟨_, rfl, ?_⟩⟩
      have hg3 := s4 _ _ hg2
      rw [tk, over_snoc]
      cases c : Wm01.mayGive (Wm01.takeOver a b r [] ((gs.filter fun g => !Wm01.by_ a b r g).take i)) g.giver g.right with
      | true =>
        obtain ⟨ys, hys, hyl, hp⟩ := (hst.same s4).push ⟨dx, hg3⟩
        refine iteT ⟨_, rfl, .inl ⟨rfl, _, SqL.of hys⟩, _, rfl, q, ys, _, rfl, rfl, hys, by rw [hyl]; exact small lst, some (.ref x), rfl, same_upd hq (s2.trans s4), fun c o e hc => by rw [upd_ne hc]; exact s4 _ _ (s3 _ _ e hc), ?_⟩
        rw [if_pos rfl]
        exact hp
      | false =>
        refine iteF ?_
        rw [if_neg (by exact Bool.false_ne_true)]
        refine ⟨_, rfl, x, C, dx, _, _, rfl, hg3, T.cl, T.nGiver, gF_giver g, _, rfl, rfl, _, rfl, ?_⟩
        rw [v_eq]
        by_cases c1 : g.giver = b
        · refine if_t (beq_iff_eq.mpr c1) ⟨_, rfl, x, C, dx, _, _, rfl, hg3, T.cl, T.nRight, gF_right g, _, rfl, rfl, _, rfl, ?_⟩
          rw [v_eq]
          by_cases c2 : g.right = r
          · refine if_t (beq_iff_eq.mpr c2) ⟨_, rfl, x, C, dx, _, _, rfl, hg3, T.cl, T.nTaker, gF_taker g, _, rfl, rfl, _, rfl, ?_⟩
            rw [v_eq]
            by_cases c3 : g.taker = a
            · refine if_f (by rw [c3, beq_self_eq_true]; rfl) ⟨some (.ref x), rfl, s2.trans s4, fun c o e hc => s4 _ _ (s3 _ _ e hc), ?_⟩
              rw [if_neg (fun z => z.2.2 c3)]
              exact hst.same s4
            · refine if_t (by rw [beq_eq_false_iff_ne.mpr c3]; rfl) ?_
              rw [if_pos ⟨c1, c2, c3⟩]
              obtain ⟨ys, hys, hyl, _⟩ := (hst.same s4).push ⟨dx, hg3⟩
              refine ⟨_, rfl, .inl ⟨rfl, _, SqL.of hys⟩, _, rfl, x, C, dx, _, _, rfl, hg3, T.cl, T.nNumber, gF_number g, _, rfl, _, rfl, x, C, dx, _, _, rfl, hg3, T.cl, T.nTaker, gF_taker g, _, rfl, _, rfl, x, C, dx, _, _, rfl, hg3, T.cl, T.nOnward, gF_onward g, ?_⟩
              intro y dy ny ndy ney
              refine ⟨y, dy, { g with giver := a }, by rw [← c2]; rfl, upd_same, fun H3 J kp => ⟨rfl, ?_⟩⟩
              have s5 : Same H2 H3 := Same.made ny ndy kp
              obtain ⟨zs, hzs, hzl, hp⟩ := (hst.same (s4.trans s5)).push J
              refine ⟨q, zs, _, rfl, rfl, hzs, by rw [hzl]; exact small lst, some (.ref x), rfl, same_upd hq ((s2.trans s4).trans s5), fun c o e hc => by rw [upd_ne hc]; exact s5 _ _ (s4 _ _ (s3 _ _ e hc)), hp⟩
          · refine if_f (beq_eq_false_iff_ne.mpr c2) (iteF ⟨some (.ref x), rfl, s2.trans s4, fun c o e hc => s4 _ _ (s3 _ _ e hc), ?_⟩)
            rw [if_neg (fun z => c2 z.2.1)]
            exact hst.same s4
        · refine if_f (beq_eq_false_iff_ne.mpr c1) (iteF ⟨some (.ref x), rfl, s2.trans s4, fun c o e hc => s4 _ _ (s3 _ _ e hc), ?_⟩)
          rw [if_neg (fun z => c1 z.1)]
          exact hst.same s4
    · rintro σ H' ⟨v, rfl, s2, _, hst⟩
      rw [hlen, List.take_length] at hst
      exact ⟨_, rfl, k H' q s2 hq hst⟩
/-! ### how_many_new_givers -/
/-- the dict of givers by number -/
def gvK (l : List G) : List (Key × V) := l.foldl (fun d g => putK d (Sum.inl (g.num : Int)) (.int g.giver)) []
theorem gvK_snoc (l : List G) (g : G) : gvK (l ++ [g]) = putK (gvK l) (Sum.inl (g.num : Int)) (.int g.giver) := by
  unfold gvK
  rw [List.foldl_append]
  rfl
theorem putK_len (d : List (Key × V)) (k : Key) (v : V) : (putK d k v).length ≤ d.length + 1 := by
  unfold putK
  split
  · rw [List.length_map]
    omega
  · rw [List.length_append]
    exact Nat.le_refl _
theorem gvK_len (l : List G) : (gvK l).length ≤ l.length := by
  induction l using snoc_ind with
  | h0 => exact Nat.le_refl _
  | h1 l x ih =>
    rw [gvK_snoc, List.length_append]
    exact Nat.le_trans (putK_len _ _ _) (Nat.add_le_add_right ih 1)
theorem gvK_get : ∀ {l : List G}, l.Pairwise (fun g h => g.num < h.num) → ∀ h ∈ l, valV (gvK l) (Sum.inl (h.num : Int)) = some (.int h.giver) := by
  intro l
  induction l using snoc_ind with
  | h0 => intro _ h hh; cases hh
  | h1 l x ih =>
    intro p h hh
    obtain ⟨p1, _, p3⟩ := List.pairwise_append.mp p
    rw [gvK_snoc, valV_put]
    rcases List.mem_append.mp hh with z | z
    · have lt := p3 h z x (List.mem_singleton.mpr rfl)
      rw [if_neg (by intro e; injection e with e; omega)]
      exact ih p1 h z
    · rw [List.mem_singleton.mp z, if_pos rfl]
def spNewGivers (C : Addr) : Sp := fun vs H Q _ => ∃ (l1 l2 : Addr) (before after : List G) (f : G → Bool), vs = [.ref l1, .ref l2] ∧ LG C H l1 before ∧ LG C H l2 after ∧ before.length ≤ 1000 ∧ after.length ≤ 1000 ∧ before.Pairwise (fun g h => g.num < h.num) ∧
  (∀ g ∈ after, ∃ h ∈ before, h.num = g.num ∧ f g = decide (g.giver ≠ h.giver)) ∧ ∀ H', Same H H' → Q (.int ((after.filter f).length : Nat)) H'
theorem scNewGivers : FnScope ["before", "after", "giver_before", "grant"] ["before", "after"] (defScope sNewGivers) := ⟨rfl, rfl, rfl, by decide +kernel, rfl, by decide +kernel, by decide +kernel⟩
theorem ok_new_givers (F : Df K mg "how_many_new_givers" sNewGivers ["before", "after"]) (T : Txt K mg C) : Ok P w K mg base 1 "how_many_new_givers" ["before", "after"] (spNewGivers C) := by
  refine F.ok scNewGivers (fun vs H Q E h => ?_) (fun f cdv A outer s H vs Q E hr h => ?_)
  · obtain ⟨l1, l2, before, after, f, rfl, _⟩ := h
    rfl
  · obtain ⟨l1, l2, before, after, f, rfl, h1, h2, len1, len2, pw, hf, k⟩ := h
    have hu := hu_of hr
    refine ⟨_, pss_cons (ps_set (i := 2) scNewGivers.nd rfl (Or.inr rfl) pe_dnewK)
      (pss_cons (ps_for PassesOwn.never rfl (pi_list (pv 0)) (pg_name (i := 3) scNewGivers.nd rfl (Or.inl rfl))
        (pss_one (ps_dput hu (pv 2) (pe_fld (pv 3) rfl) (pe_fld (pv 3) rfl) rfl)))
      (pss_one (ps_ret (pe_callB call_len_seq (by rfl) T.len PySem.boot_len (pa_cons (pe_lc (own := [("grant", 3)]) (g := gName 3) (tt := tTest (tOp rNe (tFld K (tVar 3) "giver") (tDGet (tVar 2) (tFld K (tVar 3) "number")))) rfl scNewGivers.nd (pi_list (pv 1))
        (blkOk_by (own := [("grant", 3)]) (N := ["before", "after", "giver_before", "grant"]) (sc := defScope sNewGivers) (by decide +kernel))
        (fun _ _ _ _ _ => pg_name (i := 3) scNewGivers.nd rfl (Or.inl rfl)) (fun _ _ _ _ _ => by exact pts_one (pt_cmpR op_ne (pe_fld (pv 3) rfl) (pe_dget hu (pv 2) (pe_fld (pv 3) rfl) (fun _ _ => rfl)) (nomark _))) (fun _ _ _ _ _ => by exact pv 3)) pa_nil))))), ?_⟩
    intro d hd
    obtain ⟨xs, hxs, hlen, item⟩ := h1.item
    have s0 : Same H (upd H d (.dK [])) := same_new hd
    refine ⟨_, rfl, l1, rfl, ⟨_, SqL.of (s0 _ _ hxs)⟩, for_list (K := K) (a := l1) (xs := xs) (fun i σ H' => ∃ v : Option V, σ = [some (.ref l1), some (.ref l2), some (.ref d), v] ∧ Same H H' ∧ H' d = some (.dK (gvK (before.take i))))
      ⟨none, rfl, s0, upd_same⟩ (fun i σ H' _ ⟨_, _, s2, _⟩ => SqL.of (s2 _ _ hxs)) ?_ ?_⟩
    · rintro i x σ H' hi ⟨v, rfl, s2, hdk⟩
      obtain ⟨a, g, rfl, hg, _, tk⟩ := item i x hi
      obtain ⟨dx, hg2⟩ := hg.same s2
      have lt : (gvK (before.take i)).length < sizeLine := small (Nat.le_trans (gvK_len _) (Nat.le_trans (by rw [List.length_take]; exact Nat.min_le_right _ _) len1))
      refine ⟨_, rfl, a, C, dx, _, _, rfl, hg2, T.cl, T.nGiver, gF_giver g, _, rfl, _, rfl, a, C, dx, _, _, rfl, hg2, T.cl, T.nNumber, gF_number g, d, _, rfl, DPut.k (k := Sum.inl (g.num : Int)) hdk lt, some (.ref a), rfl, same_upd hd s2, ?_⟩
      rw [upd_same, tk, gvK_snoc]
    · rintro σ H' ⟨v, rfl, s2, hdk⟩
      rw [hlen, List.take_length] at hdk
      obtain ⟨ys, hys, _, _⟩ := (h2.same s2).item
      refine ⟨_, rfl, l2, rfl, ⟨_, SqL.of hys⟩, lc_filter f (h2.same s2) len2 (fun _ => rfl) (fun _ => rfl) (fun x g H2 Qt mem s3 hg hQ => ?_) (fun H2 q s3 hq hg => ?_)⟩
      · obtain ⟨dx, hg2⟩ := hg
        obtain ⟨h, hh, en, ef⟩ := hf g mem
        have get := gvK_get pw h hh
        rw [en] at get
        refine ⟨_, rfl, x, C, dx, _, _, rfl, hg2, T.cl, T.nGiver, gF_giver g, _, rfl, _, rfl, x, C, dx, _, _, rfl, hg2, T.cl, T.nNumber, gF_number g, d, V.int h.giver, rfl, ?_, rfl, _, rfl, ?_⟩
        · rw [← get]
          exact DGet.k (k := Sum.inl (g.num : Int)) (s3 _ _ hdk)
        · rw [ef] at hQ
          have e : (!decide (V.int (g.giver : Int) = V.int (h.giver : Int))) = decide (g.giver ≠ h.giver) := by
            rw [v_eq]
            by_cases c : g.giver = h.giver
            · simp [c]
            · simp [c]
          rw [e]
          exact hQ
      · obtain ⟨zs, hzs, hzl, _⟩ := hg.item
        refine ⟨q, zs, rfl, .inl (SqL.of hzs), ?_⟩
        rw [hzl]
        exact k H2 (s2.trans s3)
/-! ### users_with_less -/
/-- a list of whole numbers at q -/
def LN (H : Hp) (q : Addr) (ns : List Nat) : Prop := H q = some (.lst (ns.map fun (n : Nat) => V.int (n : Int)))
def newN (H : Hp) (ns : List Nat) (Q : VK) : Prop := ∀ (H' : Hp) (q : Addr), Same H H' → H q = none → LN H' q ns → Q (.ref q) H'
/-- a comprehension over a list, whatever it holds: what is tested may call and make -/
theorem lc_gen {α : Type} {l : Addr} {K : PySem.W.Frag} {H : Hp} {σ : L2.St} {i : Nat} {tt : TT} {te : TE} {Qd : Addr → Hp → Prop} (as : List α) (val out : α → V) (f : α → Bool) (hl : H l = some (.lst (as.map val))) (len : as.length ≤ 1000) (hw : ∀ x : V, wipe ((wipe σ [i]).set i (some x)) [i] = wipe σ [i])
    (ht : ∀ a ∈ as, ∀ (H' : Hp) (Qt : Bool → Hp → Prop), Same H H' → (∀ H'', Same H' H'' → Qt (f a) H'') → tt ((wipe σ [i]).set i (some (val a))) H' Qt)
    (he : ∀ a ∈ as, ∀ (H' : Hp) (Q : VK), Same H H' → Q (out a) H' → te ((wipe σ [i]).set i (some (val a))) H' Q)
    (k : ∀ (H' : Hp) (q : Addr), Same H H' → H q = none → H' q = some (.lst ((as.filter f).map out)) → Qd q H') :
    (fun (J : It) (H1 : Hp) => ∀ D, H1 D = none → ∃ W : Nat → Nat → Hp → Prop, (∃ m, W 0 m (upd H1 D (.lst []))) ∧ ∀ n m H, W n m H →
      (J.stop n H ∧ Qd D H) ∨ (J.go n H ∧ ∃ Nx : Hp → Prop, (∀ H', Nx H' → ∃ m', m' < m ∧ W (n + 1) m' H') ∧ ∀ x H', J.yld n H x H' → gName i x (wipe σ [i]) H' fun σ2 H2 => wipe σ2 [i] = wipe σ [i] ∧ tt σ2 H2 fun b H3 =>
        if b = true then te σ2 H3 fun y H4 => ∃ acc, H4 D = some (.lst acc) ∧ acc.length < sizeLine ∧ Nx (upd H4 D (.lst (acc ++ [y]))) else Nx H3)) (Itl K l) H := by
  intro D hD
  refine lc_list (K := K) (a := l) (xs := as.map val) (fun j H' => Same H H' ∧ H' D = some (.lst (((as.take j).filter f).map out))) ⟨same_new hD, upd_same⟩ (fun j H' _ ⟨s, _⟩ => SqL.of (s _ _ hl)) ?_ ?_
  · rintro j x H' hj ⟨s, hd⟩
    obtain ⟨a, ha, rfl⟩ : ∃ a, as[j]? = some a ∧ x = val a := by
      rw [List.getElem?_map] at hj
      cases e : as[j]? with
      | none =>
        rw [e] at hj
        cases hj
      | some a =>
        rw [e] at hj
        exact ⟨a, rfl, (Option.some.inj hj).symm⟩
    have mem : a ∈ as := List.mem_of_getElem? ha
    refine ⟨hw _, ht a mem H' _ s fun H2 s2 => ?_⟩
    have hd2 := s2 _ _ hd
    cases c : f a with
    | true =>
      refine iteT (he a mem H2 _ (s.trans s2) ⟨_, hd2, ?_, same_upd hD (s.trans s2), ?_⟩)
      · rw [List.length_map]
        refine Nat.lt_of_le_of_lt (List.length_filter_le _ _) ?_
        rw [List.length_take]
        exact Nat.lt_of_le_of_lt (Nat.le_trans (Nat.min_le_right _ _) len) (by decide)
      · rw [upd_same, take_snoc ha, List.filter_append, List.map_append]
        have e1 : [a].filter f = [a] := by
          rw [List.filter_cons, if_pos c]
          rfl
        rw [e1]
        rfl
    | false =>
      refine iteF ⟨s.trans s2, ?_⟩
      rw [hd2, take_snoc ha, List.filter_append]
      have e1 : [a].filter f = [] := by
        rw [List.filter_cons, if_neg (by rw [c]; exact Bool.false_ne_true)]
        rfl
      rw [e1, List.append_nil]
  · rintro H' ⟨s, hd⟩
    refine k H' D s hD ?_
    rw [hd, List.length_map, List.take_length]
/-- [x.number for x in grants if ..] -/
theorem lc_nums {C l : Addr} {K : PySem.W.Frag} {H : Hp} {gs : List G} {σ : L2.St} {i : Nat} {tt : TT} {te : TE} {Qd : Addr → Hp → Prop} (f : G → Bool) (h : LG C H l gs) (len : gs.length ≤ 1000) (hw : ∀ x : V, wipe ((wipe σ [i]).set i (some x)) [i] = wipe σ [i])
    (ht : ∀ (a : Addr) (g : G) (H' : Hp) (Qt : Bool → Hp → Prop), Same H H' → GAt C H' a g → (∀ H'', Same H' H'' → Qt (f g) H'') → tt ((wipe σ [i]).set i (some (.ref a))) H' Qt)
    (he : ∀ (a : Addr) (g : G) (H' : Hp) (Q : VK), Same H H' → GAt C H' a g → Q (.int g.num) H' → te ((wipe σ [i]).set i (some (.ref a))) H' Q)
    (k : ∀ (H' : Hp) (q : Addr), Same H H' → H q = none → LN H' q ((gs.filter f).map fun g => g.num) → Qd q H') :
    (fun (J : It) (H1 : Hp) => ∀ D, H1 D = none → ∃ W : Nat → Nat → Hp → Prop, (∃ m, W 0 m (upd H1 D (.lst []))) ∧ ∀ n m H, W n m H →
      (J.stop n H ∧ Qd D H) ∨ (J.go n H ∧ ∃ Nx : Hp → Prop, (∀ H', Nx H' → ∃ m', m' < m ∧ W (n + 1) m' H') ∧ ∀ x H', J.yld n H x H' → gName i x (wipe σ [i]) H' fun σ2 H2 => wipe σ2 [i] = wipe σ [i] ∧ tt σ2 H2 fun b H3 =>
        if b = true then te σ2 H3 fun y H4 => ∃ acc, H4 D = some (.lst acc) ∧ acc.length < sizeLine ∧ Nx (upd H4 D (.lst (acc ++ [y]))) else Nx H3)) (Itl K l) H := by
  obtain ⟨ps, e, hl, q⟩ := h
  subst e
  rw [List.length_map] at len
  refine lc_gen (i := i) ps (fun p => V.ref p.1) (fun p => V.int p.2.num) (fun p => f p.2) hl len hw (fun p hp H' Qt s hQ => ht p.1 p.2 H' Qt s ((q p hp).same s) hQ) (fun p hp H' Q s hQ => he p.1 p.2 H' Q s ((q p hp).same s) hQ) fun H' q s hq hd => k H' q s hq ?_
  unfold LN
  rw [hd, List.filter_map, List.map_map, List.map_map]
  rfl
/-! ### numbers_gone -/
theorem in_nats (n : Nat) (ns : List Nat) : inV (V.int (n : Int)) (ns.map fun (m : Nat) => V.int (m : Int)) = ns.contains n := by
  unfold inV
  induction ns with
  | nil => rfl
  | cons m ns ih =>
    rw [List.map_cons, List.any_cons, ih, List.contains_cons]
    congr 1
    show ((m : Int) == (n : Int)) = (n == m)
    by_cases c : n = m
    · subst c
      rw [beq_self_eq_true, beq_self_eq_true]
    · rw [beq_eq_false_iff_ne.mpr c, beq_eq_false_iff_ne.mpr (by omega)]
theorem flat_nats (ns : List Nat) : (ns.map fun (m : Nat) => V.int (m : Int)).all flatV = true := by
  rw [List.all_map]
  exact List.all_eq_true.mpr fun _ _ => rfl
def goneN (before after : List G) : List Nat := (before.filter fun g => !(after.map fun h => h.num).contains g.num).map fun g => g.num
def spGone (C : Addr) : Sp := fun vs H Q _ => ∃ (l1 l2 : Addr) (before after : List G), vs = [.ref l1, .ref l2] ∧ LG C H l1 before ∧ LG C H l2 after ∧ before.length ≤ 1000 ∧ after.length ≤ 1000 ∧ newN H (goneN before after) Q
theorem scGone : FnScope ["before", "after", "kept", "grant"] ["before", "after"] (defScope sGone) := ⟨rfl, rfl, rfl, by decide +kernel, rfl, by decide +kernel, by decide +kernel⟩
theorem ok_gone (F : Df K mg "numbers_gone" sGone ["before", "after"]) (T : Txt K mg C) : Ok P w K mg base 1 "numbers_gone" ["before", "after"] (spGone C) := by
  refine F.ok scGone (fun vs H Q E h => ?_) (fun f cdv A outer s H vs Q E hr h => ?_)
  · obtain ⟨l1, l2, before, after, rfl, _⟩ := h
    rfl
  · obtain ⟨l1, l2, before, after, rfl, h1, h2, len1, len2, k⟩ := h
    refine ⟨_, pss_cons (ps_set (i := 2) scGone.nd rfl (Or.inr rfl) (pe_lc (own := [("grant", 3)]) (g := gName 3) (tt := tYes) (te := tFld K (tVar 3) "number") rfl scGone.nd (pi_list (pv 1))
        (blkOk_by (own := [("grant", 3)]) (N := ["before", "after", "kept", "grant"]) (sc := defScope sGone) (by decide +kernel))
        (fun _ _ _ _ _ => pg_name (i := 3) scGone.nd rfl (Or.inl rfl)) (fun _ _ _ _ _ => pts_nil) (fun _ _ _ _ _ => by exact pe_fld (pv 3) rfl)))
      (pss_one (ps_ret (pe_lc (own := [("grant", 3)]) (g := gName 3) (tt := tTest (tOp (rIn K true) (tFld K (tVar 3) "number") (tVar 2))) (te := tFld K (tVar 3) "number") rfl scGone.nd (pi_list (pv 0))
        (blkOk_by (own := [("grant", 3)]) (N := ["before", "after", "kept", "grant"]) (sc := defScope sGone) (by decide +kernel))
        (fun _ _ _ _ _ => pg_name (i := 3) scGone.nd rfl (Or.inl rfl)) (fun _ _ _ _ _ => by exact pts_one (pt_cmpR op_notIn_seq (pe_fld (pv 3) rfl) (pv 2) rfl)) (fun _ _ _ _ _ => by exact pe_fld (pv 3) rfl)))), ?_⟩
    obtain ⟨ys, hys, _, _⟩ := h2.item
    refine ⟨_, rfl, l2, rfl, ⟨_, SqL.of hys⟩, lc_nums (fun _ => true) h2 len2 (fun _ => rfl) (fun a g H' Qt _ _ hQ => hQ _ (Same.refl _)) (fun a g H' Q' _ hg hQ => ?_) (fun H1 q s1 hq hk => ?_)⟩
    · obtain ⟨dx, hg⟩ := hg
      exact ⟨_, rfl, a, C, dx, _, _, rfl, hg, T.cl, T.nNumber, gF_number g, hQ⟩
    · rw [List.filter_eq_self.mpr (fun _ _ => rfl)] at hk
      have h1' := h1.same s1
      obtain ⟨xs, hxs, _, _⟩ := h1'.item
      refine ⟨_, rfl, l1, rfl, ⟨_, SqL.of hxs⟩, lc_nums (fun g => !(after.map fun h => h.num).contains g.num) h1' len1 (fun _ => rfl) (fun a g H' Qt s2 hg hQ => ?_) (fun a g H' Q' _ hg hQ => ?_) (fun H2 q2 s2 hq2 hk2 => ?_)⟩
      · obtain ⟨dx, hg⟩ := hg
        refine ⟨_, rfl, a, C, dx, _, _, rfl, hg, T.cl, T.nNumber, gF_number g, _, rfl, q, _, rfl, .inl (SqL.of (s2 _ _ hk)), rfl, flat_nats _, _, rfl, ?_⟩
        rw [in_nats]
        exact hQ _ (Same.refl _)
      · obtain ⟨dx, hg⟩ := hg
        exact ⟨_, rfl, a, C, dx, _, _, rfl, hg, T.cl, T.nNumber, gF_number g, hQ⟩
      · exact k H2 q2 (s1.trans s2) (s1.free hq2) hk2
/-! ### users_with -/
def withN (r : Nat) (gs : List G) : List Nat := (upTo 12).filter fun u => decide (0 < wh gs u r)
def spWith (C : Addr) : Sp := fun vs H Q _ => ∃ (r : Nat) (l : Addr) (gs : List G), vs = [.int r, .ref l] ∧ LG C H l gs ∧ gs.length ≤ 1000 ∧ newN H (withN r gs) Q
theorem upTo_len (n : Nat) : (upTo n).length = n := by
  unfold upTo
  rw [List.length_map, List.length_range]
theorem scWith : FnScope ["right", "grants", "user"] ["right", "grants"] (defScope sUsersWith) := ⟨rfl, rfl, rfl, by decide +kernel, rfl, by decide +kernel, by decide +kernel⟩
theorem ok_with (F : Df K mg "users_with" sUsersWith ["right", "grants"]) (T : Txt K mg C) (OH : Ok P w K mg base 2 "what_user_has" ["user", "right", "grants"] (spHas C)) : Ok P w K mg base 3 "users_with" ["right", "grants"] (spWith C) := by
  obtain ⟨fo, fdo, mo, ko, bo, Go⟩ := OH.ex
  obtain ⟨t, ht⟩ := T.lastUser
  refine F.ok scWith (fun vs H Q E h => ?_) (fun f cdv A outer s H vs Q E hr h => ?_)
  · obtain ⟨r, l, gs, rfl, _⟩ := h
    rfl
  · obtain ⟨r, l, gs, rfl, h1, len1, k⟩ := h
    refine ⟨_, pss_one (ps_ret (pe_lc (own := [("user", 2)]) (g := gName 2) (tt := tTest (tOp (rI0 fun i j => .bl (decide (j < i))) (tCall (spHas C) [] E0 (tCons (tVar 2) (tCons (tVar 0) (tCons (tVar 1) tNil)))) (tC (.int 0)))) (te := tVar 2) rfl scWith.nd (pi_range2 (by rfl) T.range (pa_cons pe_int (pa_cons (pe_op op_add (pe_glob (v := .int 12) (by rfl) ht ⟨_, rfl⟩) pe_int) pa_nil)))
        (blkOk_by (own := [("user", 2)]) (N := ["right", "grants", "user"]) (sc := defScope sUsersWith) (by decide +kernel))
        (fun _ _ _ _ _ => pg_name (i := 2) scWith.nd rfl (Or.inl rfl)) (fun _ _ _ _ _ => by exact pts_one (pt_cmpR op_gt (pe_call Go hr rfl mo ko bo .nil pass0 (pa_cons (pv 2) (pa_cons (pv 0) (pa_cons (pv 1) pa_nil)))) pe_int (nomark _))) (fun _ _ _ _ _ => by exact pv 2))), ?_⟩
    refine ⟨_, _, rfl, rfl, _, _, rfl, (by decide), fun D hD => lc_range (lo := 1) (n := (12 + 1 - 1 : Int).toNat) (fun i H' => Same H H' ∧ LN H' D ((upTo i).filter fun u => decide (0 < wh gs u r))) ⟨same_new hD, upd_same⟩ ?_ ?_⟩
    · rintro i H' hi ⟨s2, hd⟩
      have ei : V.int (1 + (i : Int)) = V.int ((i + 1 : Nat) : Int) := by
        rw [Int.add_comm]
        rfl
      rw [ei]
      refine ⟨rfl, _, rfl, _, rfl, _, rfl, i + 1, r, l, gs, rfl, h1.same s2, len1, fun H2 s3 => ⟨_, _, rfl, rfl, _, rfl, ?_⟩⟩
      have hd2 := s3 _ _ hd
      rw [upTo_succ, List.filter_append]
      by_cases c : 0 < wh gs (i + 1) r
      · refine if_t (decide_eq_true (by omega)) ⟨_, rfl, _, hd2, ?_, same_upd hD (s2.trans s3), ?_⟩
        · rw [List.length_map]
          refine small (Nat.le_trans (List.length_filter_le _ _) ?_)
          rw [upTo_len]
          have : (12 + 1 - 1 : Int).toNat = 12 := rfl
          omega
        · unfold LN
          have e : [i + 1].filter (fun u => decide (0 < wh gs u r)) = [i + 1] := by
            rw [List.filter_cons, if_pos (decide_eq_true c)]
            rfl
          rw [upd_same, e, List.map_append]
          rfl
      · refine if_f (decide_eq_false (by omega)) ⟨s2.trans s3, ?_⟩
        have e : [i + 1].filter (fun u => decide (0 < wh gs u r)) = [] := by
          rw [List.filter_cons, if_neg (by rw [decide_eq_false c]; exact Bool.false_ne_true)]
          rfl
        rw [e, List.append_nil]
        exact hd2
    · rintro H' ⟨s2, hd⟩
      exact k H' D s2 hD hd
/-! ### users_with_less -/
def spLess (C : Addr) : Sp := fun vs H Q _ => ∃ (r : Nat) (l1 l2 : Addr) (before after : List G), vs = [.int r, .ref l1, .ref l2] ∧ LG C H l1 before ∧ LG C H l2 after ∧ before.length ≤ 1000 ∧ after.length ≤ 1000 ∧ newN H (Wm01.losers before after r) Q
theorem losers_with (before after : List G) (r : Nat) : Wm01.losers before after r = (withN r before).filter fun u => decide (wh after u r < wh before u r) := by
  rw [losers_eq]
  unfold withN
  rw [List.filter_filter]
  refine List.filter_congr fun u _ => ?_
  by_cases c : wh after u r < wh before u r
  · rw [decide_eq_true c, decide_eq_true (by omega)]
    rfl
  · rw [decide_eq_false c]
    rfl
theorem scLess : FnScope ["right", "before", "after", "user"] ["right", "before", "after"] (defScope sUsersLess) := ⟨rfl, rfl, rfl, by decide +kernel, rfl, by decide +kernel, by decide +kernel⟩
theorem ok_less (F : Df K mg "users_with_less" sUsersLess ["right", "before", "after"]) (OH : Ok P w K mg base 3 "what_user_has" ["user", "right", "grants"] (spHas C)) (OW : Ok P w K mg base 3 "users_with" ["right", "grants"] (spWith C)) : Ok P w K mg base 4 "users_with_less" ["right", "before", "after"] (spLess C) := by
  obtain ⟨fo, fdo, mo, ko, bo, Go⟩ := OH.ex
  obtain ⟨fw, fdw, mw, kw, bw, Gw⟩ := OW.ex
  refine F.ok scLess (fun vs H Q E h => ?_) (fun f cdv A outer s H vs Q E hr h => ?_)
  · obtain ⟨r, l1, l2, before, after, rfl, _⟩ := h
    rfl
  · obtain ⟨r, l1, l2, before, after, rfl, h1, h2, len1, len2, k⟩ := h
    rw [losers_with] at k
    refine ⟨_, pss_one (ps_ret (pe_lc (own := [("user", 3)]) (g := gName 3) (tt := tTest (tOp (rI0 fun i j => .bl (decide (i < j))) (tCall (spHas C) [] E0 (tCons (tVar 3) (tCons (tVar 0) (tCons (tVar 2) tNil)))) (tCall (spHas C) [] E0 (tCons (tVar 3) (tCons (tVar 0) (tCons (tVar 1) tNil)))))) (te := tVar 3) rfl scLess.nd
        (pi_list (pe_call Gw hr rfl mw kw bw .nil pass0 (pa_cons (pv 0) (pa_cons (pv 1) pa_nil))))
        (blkOk_by (own := [("user", 3)]) (N := ["right", "before", "after", "user"]) (sc := defScope sUsersLess) (by decide +kernel))
        (fun _ _ _ _ _ => pg_name (i := 3) scLess.nd rfl (Or.inl rfl)) (fun _ _ _ _ _ => by exact pts_one (pt_cmpR op_lt (pe_call Go hr rfl mo ko bo .nil pass0 (pa_cons (pv 3) (pa_cons (pv 0) (pa_cons (pv 2) pa_nil)))) (pe_call Go hr rfl mo ko bo .nil pass0 (pa_cons (pv 3) (pa_cons (pv 0) (pa_cons (pv 1) pa_nil)))) (nomark _))) (fun _ _ _ _ _ => by exact pv 3))), ?_⟩
    refine ⟨_, rfl, _, rfl, r, l1, before, rfl, h1, len1, fun H1 q1 s1 hq1 hk1 => ?_⟩
    have lenW : (withN r before).length ≤ 1000 := Nat.le_trans (List.length_filter_le _ _) (by rw [upTo_len]; decide)
    refine ⟨q1, rfl, ⟨_, SqL.of hk1⟩, lc_gen (i := 3) (withN r before) (fun u => V.int (u : Int)) (fun u => V.int (u : Int)) (fun u => decide (wh after u r < wh before u r)) hk1 lenW (fun _ => rfl) (fun u hu H' Qt s2 hQ => ?_) (fun u hu H' Q' s2 hQ => ⟨_, rfl, hQ⟩) (fun H2 q s2 hq hk2 => k H2 q (s1.trans s2) (s1.free hq) hk2)⟩
    refine ⟨_, rfl, _, rfl, _, rfl, u, r, l2, after, rfl, h2.same (s1.trans s2), len2, fun H3 s3 => ?_⟩
    refine ⟨_, rfl, _, rfl, _, rfl, u, r, l1, before, rfl, h1.same ((s1.trans s2).trans s3), len1, fun H4 s4 => ⟨_, _, rfl, rfl, _, rfl, ?_⟩⟩
    have e : decide (((wh after u r : Nat) : Int) < ((wh before u r : Nat) : Int)) = decide (wh after u r < wh before u r) := decide_eq_decide.mpr (by omega)
    rw [e]
    exact hQ _ (s3.trans s4)
end
end Gb
namespace Gb
open PySem PySem.Spec PyProof.Rows L2
abbrev sFirstTo : Stmt := top 20
abbrev sChainTo : Stmt := top 21
abbrev sShort : Stmt := top 22
abbrev sRows : Stmt := top 23
abbrev sFewest : Stmt := top 24
/-- a list of grants with one more ahead of it -/
theorem LG.cons {C a x : Addr} {H : Hp} {c : List G} {g : G} (h : LG C H a c) (hx : GAt C H x g) : ∃ xs : List V, H a = some (.lst xs) ∧ xs.length = c.length ∧ ∀ (H2 : Hp) (p : Addr), Same H H2 → H2 p = some (.lst ([.ref x] ++ xs)) → LG C H2 p (g :: c) := by
  obtain ⟨ps, e, hl, k⟩ := h
  subst e
  refine ⟨_, hl, by rw [List.length_map, List.length_map], fun H2 p s hp => ⟨(x, g) :: ps, rfl, hp, fun q hq => ?_⟩⟩
  rcases List.mem_cons.mp hq with z | z
  · rw [z]
    exact hx.same s
  · exact (k q z).same s
/-- a list of grants with one more behind it -/
theorem LG.snoc {C a x : Addr} {H : Hp} {c : List G} {g : G} (h : LG C H a c) (hx : GAt C H x g) : ∃ xs : List V, H a = some (.lst xs) ∧ xs.length = c.length ∧ ∀ (H2 : Hp) (p : Addr), Same H H2 → H2 p = some (.lst (xs ++ [.ref x])) → LG C H2 p (c ++ [g]) := by
  obtain ⟨ps, e, hl, k⟩ := h
  subst e
  refine ⟨_, hl, by rw [List.length_map, List.length_map], fun H2 p s hp => ⟨ps ++ [(x, g)], by rw [List.map_append]; rfl, by rw [hp, List.map_append]; rfl, fun q hq => ?_⟩⟩
  rcases List.mem_append.mp hq with z | z
  · exact (k q z).same s
  · rw [List.mem_singleton.mp z]
    exact hx.same s
theorem LG.one {C p x : Addr} {H : Hp} {g : G} (hx : GAt C H x g) (hp : H p = some (.lst [.ref x])) : LG C H p [g] := ⟨[(x, g)], rfl, hp, fun q hq => by
  rw [List.mem_singleton.mp hq]
  exact hx⟩
section
variable {P : Program} {w : World} {K : PySem.W.Frag} {mg : Str → Option Value} {base : Heap} {C : Addr}
/-! ### first_to -/
def spFirst (C : Addr) : Sp := fun vs H Q _ => ∃ (u : Nat) (l : Addr) (gs : List G) (g : G), vs = [.int u, .ref l] ∧ LG C H l gs ∧ gs.length ≤ 1000 ∧ (gs.find? fun g => g.taker == u) = some g ∧ ∀ (H' : Hp) (a : Addr), Same H H' → GAt C H' a g → Q (.ref a) H'
theorem scFirst : FnScope ["user", "grants", "grant"] ["user", "grants"] (defScope sFirstTo) := ⟨rfl, rfl, rfl, by decide +kernel, rfl, by decide +kernel, by decide +kernel⟩
theorem ok_first (F : Df K mg "first_to" sFirstTo ["user", "grants"]) (T : Txt K mg C) : Ok P w K mg base 1 "first_to" ["user", "grants"] (spFirst C) := by
  refine F.ok scFirst (fun vs H Q E h => ?_) (fun f cdv A outer s H vs Q E hr h => ?_)
  · obtain ⟨u, l, gs, g, rfl, _⟩ := h
    rfl
  · obtain ⟨u, l, gs, g, rfl, hl, len, hf, k⟩ := h
    refine ⟨_, pss_one (ps_ret (pe_ix ix_list (pe_lc (own := [("grant", 2)]) (g := gName 2) (tt := tTest (tOp rEq (tFld K (tVar 2) "taker") (tVar 0))) rfl scFirst.nd (pi_list (pv 1)) (blkOk_by (own := [("grant", 2)]) (N := ["user", "grants", "grant"]) (sc := defScope sFirstTo) (by decide +kernel))
      (fun _ _ _ _ _ => pg_name (i := 2) scFirst.nd rfl (Or.inl rfl)) (fun _ _ _ _ _ => by exact pts_one (pt_cmpR op_eq (pe_fld (pv 2) rfl) (pv 0) (nomark _))) (fun _ _ _ _ _ => by exact pv 2)) pe_int (fun _ _ => rfl))), ?_⟩
    obtain ⟨ys, hys, _, _⟩ := hl.item
    refine ⟨_, rfl, l, rfl, ⟨_, SqL.of hys⟩, lc_filter (fun g => g.taker == u) hl len (fun _ => rfl) (fun _ => rfl) (fun a g H' Qt _ s hg hQ => ?_) (fun H1 q s1 hq h1 => ?_)⟩
    · obtain ⟨dx, hg⟩ := hg
      refine ⟨_, rfl, a, C, dx, _, _, rfl, hg, T.cl, T.nTaker, gF_taker g, _, rfl, rfl, _, rfl, ?_⟩
      rw [v_eq]
      exact hQ
    · obtain ⟨xs, hxs, hlen, item⟩ := h1.item
      have h0 : (gs.filter fun g => g.taker == u)[0]? = some g := by
        rw [← List.head?_eq_getElem?, List.head?_filter]
        exact hf
      have lt : 0 < xs.length := by
        rw [hlen]
        exact (List.getElem?_eq_some_iff.mp h0).1
      have hx : xs[0]? = some xs[0] := List.getElem?_eq_getElem lt
      obtain ⟨a, g', ea, hg, hg', _⟩ := item 0 _ hx
      rw [h0] at hg'
      cases hg'
      refine ⟨q, xs, 0, xs[0], rfl, rfl, SqL.of hxs, atI_nat (j := 0) hx, ?_⟩
      rw [ea]
      exact k H1 a s1 hg
/-! ### chain_to -/
def spChain (C : Addr) : Sp := fun vs H Q _ => ∃ (u r : Nat) (l : Addr) (s : Wm01.House), vs = [.int u, .int r, .ref l] ∧ LG C H l s.grants ∧ HInv s ∧ s.grants.length ≤ 999 ∧ (∃ g, Wm01.firstTo s.grants u r false = some g) ∧
  ∀ (H' : Hp) (q : Addr) (c : List G), Same H H' → LG C H' q c → (c.map fun g => g.num) = Wm01.chain s.grants u r → c.length ≤ 1000 → Q (.ref q) H'
theorem first_false (l : List G) (u r : Nat) : Wm01.firstTo l u r false = (ofR r l).find? fun g => g.taker == u := by
  unfold Wm01.firstTo ofR
  rw [List.find?_filter]
  congr 1
  funext g
  simp only [Bool.not_false, Bool.true_or, Bool.and_true]
  cases g.right == r <;> cases g.taker == u <;> rfl
theorem first_true (l : List G) (u r : Nat) : Wm01.firstTo l u r true = ((ofR r l).filter fun g => g.pass).find? fun g => g.taker == u := by
  unfold Wm01.firstTo ofR
  rw [List.find?_filter, List.find?_filter]
  congr 1
  funext g
  simp only [Bool.not_true, Bool.false_or]
  cases g.right == r <;> cases g.taker == u <;> cases g.pass <;> rfl
theorem chainTo_len (l : List G) : ∀ (f : Nat) (g : G), (Wm01.chainTo l f g).length ≤ f + 1
  | 0, _ => Nat.le_refl _
  | f + 1, g => by
    show (if g.giver = 0 then [g.num] else match Wm01.firstTo l g.giver g.right true with
      | none => [g.num]
      | some h => Wm01.chainTo l f h ++ [g.num]).length ≤ f + 1 + 1
    split
    · show 1 ≤ _
      omega
    · split
      · show 1 ≤ _
        omega
      · rename_i h _
        rw [List.length_append]
        have := chainTo_len l f h
        show _ + 1 ≤ _
        omega
theorem first_has {l : List G} {u r : Nat} {p : Bool} {g : G} (h : Wm01.firstTo l u r p = some g) : g ∈ l ∧ g.right = r := by
  unfold Wm01.firstTo at h
  have h1 := List.find?_some h
  simp only [Bool.and_eq_true, beq_iff_eq] at h1
  exact ⟨List.mem_of_find?_eq_some h, h1.2.1⟩
theorem scChain : FnScope ["user", "right", "grants", "given", "with_leave", "link", "chain", "grant"] ["user", "right", "grants"] (defScope sChainTo) := ⟨rfl, rfl, rfl, by decide +kernel, rfl, by decide +kernel, by decide +kernel⟩
theorem ok_chain (F : Df K mg "chain_to" sChainTo ["user", "right", "grants"]) (T : Txt K mg C) (OR : Ok P w K mg base 1 "of_right" ["right", "grants"] (spOfRight C)) (OF : Ok P w K mg base 1 "first_to" ["user", "grants"] (spFirst C)) :
    Ok P w K mg base 2 "chain_to" ["user", "right", "grants"] (spChain C) := by
  obtain ⟨fo, fdo, mo, ko, bo, Go⟩ := OR.ex
  obtain ⟨ff, fdf, mf, kf, bf, Gf⟩ := OF.ex
  obtain ⟨t, ht⟩ := T.house
  refine F.ok scChain (fun vs H Q E h => ?_) (fun f cdv A outer sh H vs Q E hr h => ?_)
  · obtain ⟨u, r, l, s, rfl, _⟩ := h
    rfl
  · obtain ⟨u, r, l, s, rfl, hl, inv, len0, ⟨g0, hg0⟩, k⟩ := h
    have len : s.grants.length ≤ 1000 := Nat.le_succ_of_le len0
    refine ⟨_, pss_cons (ps_set (i := 3) scChain.nd rfl (Or.inl rfl) (pe_call Go hr rfl mo ko bo .nil pass0 (pa_cons (pv 1) (pa_cons (pv 2) pa_nil))))
      (pss_cons (ps_setLc (i := 4) (own := [("grant", 7)]) (g := gName 7) (tt := tTest (tOp rEq (tFld K (tVar 7) "onward") (tC (.int 1)))) rfl scChain.nd rfl rfl (sw_true rfl rfl rfl (by decide +kernel)) (pi_list (pv 3))
        (blkOk_by (own := [("grant", 7)]) (N := ["user", "right", "grants", "given", "with_leave", "link", "chain", "grant"]) (sc := defScope sChainTo) (by decide +kernel))
        (fun _ _ _ _ _ => pg_name (i := 7) scChain.nd rfl (Or.inl rfl)) (fun _ _ _ _ _ => by exact pts_one (pt_cmpR op_eq (pe_fld (pv 7) rfl) pe_int (nomark _))) (fun _ _ _ _ _ => by exact pv 7))
      (pss_cons (ps_set (i := 5) scChain.nd rfl (Or.inl rfl) (pe_call Gf hr rfl mf kf bf .nil pass0 (pa_cons (pv 0) (pa_cons (pv 3) pa_nil))))
      (pss_cons (ps_set (i := 6) scChain.nd rfl (Or.inl rfl) (pe_lst (pa_cons (pv 5) pa_nil)))
      (pss_cons (ps_while PassesOwn.never (pt_cmpR op_ne (pe_fld (pv 5) rfl) (pe_glob (v := .int 0) (by rfl) ht ⟨_, rfl⟩) (nomark _))
        (pss_cons (ps_set (i := 5) scChain.nd rfl (Or.inl rfl) (pe_call Gf hr rfl mf kf bf .nil pass0 (pa_cons (pe_fld (pv 5) rfl) (pa_cons (pv 4) pa_nil))))
        (pss_one (ps_set (i := 6) scChain.nd rfl (Or.inl rfl) (pe_op op_cat (pe_lst (pa_cons (pv 5) pa_nil)) (pv 6))))))
      (pss_one (ps_ret (pv 6))))))), ?_⟩
    -- given = of_right(right, grants)
    refine ⟨_, rfl, _, rfl, r, l, s.grants, rfl, hl, len, fun H1 q1 s1 hq1 h1 => ?_⟩
    have len1 : (ofR r s.grants).length ≤ 1000 := Nat.le_trans (List.length_filter_le _ _) len
    obtain ⟨ys, hys, _, _⟩ := h1.item
    -- with_leave
    refine ⟨_, rfl, q1, rfl, ⟨_, SqL.of hys⟩, lc_filter (fun g => g.pass) h1 len1 (fun _ => rfl) (fun _ => rfl) (fun a g H' Qt _ s2 hg hQ => ?_) (fun H2 q2 s2 hq2 h2 => ?_)⟩
    · obtain ⟨dx, hg⟩ := hg
      refine ⟨_, rfl, a, C, dx, _, _, rfl, hg, T.cl, T.nOnward, gF_onward g, rfl, _, rfl, ?_⟩
      have e : decide (V.int ((Wm01.flag g.pass : Nat) : Int) = V.int 1) = g.pass := by
        cases g.pass <;> decide
      rw [e]
      exact hQ
    have len2 : ((ofR r s.grants).filter fun g => g.pass).length ≤ 1000 := Nat.le_trans (List.length_filter_le _ _) len1
    -- link = first_to(user, given)
    refine ⟨_, rfl, _, rfl, u, q1, _, g0, rfl, h1.same s2, len1, by rw [← first_false]; exact hg0, fun H3 a3 s3 hg3 => ?_⟩
    -- chain = [link]
    refine ⟨_, rfl, by show 1 ≤ sizeLine; decide, fun c4 hc4 => ?_⟩
    have s4 : Same H3 (upd H3 c4 (.lst [.ref a3])) := same_new hc4
    have sH : Same H (upd H3 c4 (.lst [.ref a3])) := ((s1.trans s2).trans s3).trans s4
    have m0 := first_has hg0
    have whole : Wm01.chain s.grants u r = chn s.grants g0 := by rw [chain_eq, hg0]
    have wl : (Wm01.chain s.grants u r).length ≤ 1000 := by
      rw [whole]
      have := chainTo_len s.grants s.grants.length g0
      unfold chn
      omega
    -- while link.giver != HOUSE
    refine ⟨fun m σ H' => ∃ (a c : Addr) (g : G) (rest : List G), m = ahead s.grants g.num ∧ σ = [some (.int u), some (.int r), some (.ref l), some (.ref q1), some (.ref q2), some (.ref a), some (.ref c), none] ∧ Same H H' ∧ LG C H' q2 ((ofR r s.grants).filter fun g => g.pass) ∧
      GAt C H' a g ∧ g ∈ s.grants ∧ g.right = r ∧ LG C H' c (g :: rest) ∧ chn s.grants g ++ (rest.map fun g => g.num) = Wm01.chain s.grants u r,
      ⟨_, a3, c4, g0, [], rfl, rfl, sH, h2.same (s3.trans s4), hg3.same s4, m0.1, m0.2, LG.one (hg3.same s4) upd_same, by rw [whole, List.map_nil, List.append_nil]⟩, ?_⟩
    rintro m σ H' ⟨a, c, g, rest, rfl, rfl, s5, h5, hg5, mem, hr5, hc5, e5⟩
    obtain ⟨dx, hg6⟩ := id hg5
    refine ⟨_, rfl, a, C, dx, _, _, rfl, hg6, T.cl, T.nGiver, gF_giver g, rfl, _, rfl, ?_⟩
    by_cases h0 : g.giver = 0
    · refine if_f (by rw [h0]; rfl) ⟨_, rfl, k H' c (g :: rest) s5 hc5 ?_ ?_⟩
      · rw [← e5, chn_house h0]
        rfl
      · have e6 : ((g :: rest).map fun g => g.num).length = (Wm01.chain s.grants u r).length := by
          rw [← e5, chn_house h0]
          rfl
        rw [List.length_map] at e6
        omega
    · have ne : (!decide (V.int (g.giver : Int) = V.int 0)) = true := by
        rw [decide_eq_false (by intro z; injection z with z; omega)]
        rfl
      obtain ⟨x, hx, fx, lt⟩ := first_lower inv mem h0
      have fx' := fx
      rw [hr5, first_true] at fx'
      refine if_t ne ⟨fun σ' H'' => ∃ m', m' < ahead s.grants g.num ∧ ∃ (a c : Addr) (g : G) (rest : List G), m' = ahead s.grants g.num ∧ σ' = [some (.int u), some (.int r), some (.ref l), some (.ref q1), some (.ref q2), some (.ref a), some (.ref c), none] ∧ Same H H'' ∧ LG C H'' q2 ((ofR r s.grants).filter fun g => g.pass) ∧
        GAt C H'' a g ∧ g ∈ s.grants ∧ g.right = r ∧ LG C H'' c (g :: rest) ∧ chn s.grants g ++ (rest.map fun g => g.num) = Wm01.chain s.grants u r, fun _ _ z => z, ?_⟩
      -- link = first_to(link.giver, with_leave)
      refine ⟨_, rfl, a, C, dx, _, _, rfl, hg6, T.cl, T.nGiver, gF_giver g, _, rfl, g.giver, q2, _, x, rfl, h5, len2, fx', fun H7 a7 s7 hg7 => ?_⟩
      -- chain = [link] + chain
      refine ⟨_, rfl, by show 1 ≤ sizeLine; decide, fun p8 hp8 => ⟨_, rfl, ?_⟩⟩
      have s8 : Same H7 (upd H7 p8 (.lst [.ref a7])) := same_new hp8
      obtain ⟨xs, hxs, hlx, hcons⟩ := (hc5.same (s7.trans s8)).cons (hg7.same s8)
      have e9 := chn_step inv mem h0 fx
      have e10 : chn s.grants x ++ ((g :: rest).map fun g => g.num) = Wm01.chain s.grants u r := by
        rw [← e5, e9, List.append_assoc]
        rfl
      refine ⟨p8, c, _, xs, rfl, rfl, upd_same, hxs, ?_, fun p9 hp9 => ?_⟩
      · have e11 := congrArg List.length e10
        rw [List.length_append, List.length_map] at e11
        rw [hlx]
        have : (10000 : Nat) < sizeLine := by decide
        show 1 + _ ≤ _
        omega
      · have s9 := same_new (o := .lst ([.ref a7] ++ xs)) hp9
        exact ⟨_, ahead_lt hx lt, a7, p9, x, g :: rest, rfl, rfl, ((s5.trans s7).trans s8).trans s9, h5.same ((s7.trans s8).trans s9), hg7.same (s8.trans s9), hx, (first_has fx).2.trans hr5, hcons _ p9 s9 upd_same, e10⟩
end
end Gb
namespace Gb
open PySem PySem.Spec PyProof.Rows L2
theorem LG.not' {C q a : Addr} {H : Hp} {gs : List G} {o : HO} (h : LG C H q gs) (e : H a = some o) (ne : ∀ xs, o ≠ .lst xs) : q ≠ a := by
  obtain ⟨ps, _, hl, _⟩ := h
  intro z
  rw [z, e] at hl
  exact ne _ (Option.some.inj hl)
/-- another thing that is no grant is written -/
theorem LG.upd' {C q a : Addr} {H : Hp} {gs : List G} {o o' : HO} (h : LG C H q gs) (nq : q ≠ a) (e : H a = some o) (ne : ∀ dx fs, o ≠ .ins C dx fs) : LG C (upd H a o') q gs := by
  obtain ⟨ps, e1, hl, k⟩ := h
  refine ⟨ps, e1, by rw [upd_ne nq]; exact hl, fun p hp => ?_⟩
  obtain ⟨dx, hg⟩ := k p hp
  exact ⟨dx, by rw [upd_ne (fun z => by rw [z, e] at hg; exact ne _ _ (Option.some.inj hg))]; exact hg⟩
theorem GAt.upd' {C x a : Addr} {H : Hp} {g : G} {o o' : HO} (h : GAt C H x g) (e : H a = some o) (ne : ∀ dx fs, o ≠ .ins C dx fs) : GAt C (upd H a o') x g := by
  obtain ⟨dx, hg⟩ := h
  exact ⟨dx, by rw [upd_ne (fun z => by rw [z, e] at hg; exact ne _ _ (Option.some.inj hg))]; exact hg⟩
/-! ### lists of chains -/
/-- at q a list of lists of grants, none of which is at q itself -/
def LL (C : Addr) (H : Hp) (q : Addr) (cs : List (List G)) : Prop := ∃ ps : List (Addr × List G), ps.map (·.2) = cs ∧ H q = some (.lst (ps.map fun p => V.ref p.1)) ∧ ∀ p ∈ ps, p.1 ≠ q ∧ LG C H p.1 p.2
theorem LL.same {C q : Addr} {H H' : Hp} {cs : List (List G)} (h : LL C H q cs) (s : Same H H') : LL C H' q cs := by
  obtain ⟨ps, e, hl, k⟩ := h
  exact ⟨ps, e, s _ _ hl, fun p hp => ⟨(k p hp).1, (k p hp).2.same s⟩⟩
theorem LL.push {C q a : Addr} {H : Hp} {cs : List (List G)} {c : List G} (h : LL C H q cs) (na : a ≠ q) (hc : LG C H a c) : ∃ xs : List V, H q = some (.lst xs) ∧ xs.length = cs.length ∧ LL C (upd H q (.lst (xs ++ [.ref a]))) q (cs ++ [c]) := by
  obtain ⟨ps, e, hl, k⟩ := h
  subst e
  refine ⟨_, hl, by rw [List.length_map, List.length_map], ps ++ [(a, c)], by rw [List.map_append]; rfl, by rw [upd_same, List.map_append]; rfl, fun p hp => ?_⟩
  have up : ∀ {b : Addr} {d : List G}, b ≠ q → LG C H b d → LG C (upd H q (.lst (ps.map (fun p => V.ref p.1) ++ [.ref a]))) b d := fun nb hb => hb.upd' nb hl (by intro dx fs z; cases z)
  rcases List.mem_append.mp hp with z | z
  · exact ⟨(k p z).1, up (k p z).1 (k p z).2⟩
  · rw [List.mem_singleton.mp z]
    exact ⟨na, up na hc⟩
theorem LL.upd {C q d : Addr} {H : Hp} {cs : List (List G)} {kvs kvs' : List (Key × V)} (h : LL C H q cs) (e : H d = some (.dK kvs)) : LL C (upd H d (.dK kvs')) q cs := by
  obtain ⟨ps, e1, hl, k⟩ := h
  refine ⟨ps, e1, by rw [upd_ne (ne_of hl e (by intro z; cases z))]; exact hl, fun p hp => ⟨(k p hp).1, (k p hp).2.upd' ((k p hp).2.not' e (by intro xs z; cases z)) e (by intro dx fs z; cases z)⟩⟩
/-! ### the dict of chains by who may give -/
def DG (C : Addr) (H : Hp) (q d : Addr) (m : Nat) (tg : Nat → Option (List G)) : Prop := ∃ kvs : List (Key × V), H d = some (.dK kvs) ∧ kvs.length ≤ m + 1 ∧
  ∀ n : Nat, (valV kvs (Sum.inl (n : Int)) = none ∧ tg n = none) ∨ ∃ (a : Addr) (c : List G), valV kvs (Sum.inl (n : Int)) = some (.ref a) ∧ a ≠ q ∧ LG C H a c ∧ tg n = some c
theorem DG.same {C q d : Addr} {m : Nat} {H H' : Hp} {tg : Nat → Option (List G)} (h : DG C H q d m tg) (s : Same H H') : DG C H' q d m tg := by
  obtain ⟨kvs, e, len, k⟩ := h
  refine ⟨kvs, s _ _ e, len, fun n => ?_⟩
  rcases k n with z | ⟨a, c, z1, z2, z3, z4⟩
  · exact .inl z
  · exact .inr ⟨a, c, z1, z2, z3.same s, z4⟩
theorem DG.more {C q d : Addr} {m m' : Nat} {H : Hp} {tg : Nat → Option (List G)} (h : DG C H q d m tg) (le : m ≤ m') : DG C H q d m' tg := by
  obtain ⟨kvs, e, len, k⟩ := h
  exact ⟨kvs, e, by omega, k⟩
theorem DG.push {C q d : Addr} {m : Nat} {H : Hp} {tg : Nat → Option (List G)} {xs ys : List V} (h : DG C H q d m tg) (e : H q = some (.lst xs)) : DG C (upd H q (.lst ys)) q d m tg := by
  obtain ⟨kvs, ek, len, k⟩ := h
  refine ⟨kvs, by rw [upd_ne (ne_of ek e (by intro z; cases z))]; exact ek, len, fun n => ?_⟩
  rcases k n with z | ⟨a, c, z1, z2, z3, z4⟩
  · exact .inl z
  · exact .inr ⟨a, c, z1, z2, z3.upd' z2 e (by intro dx fs z; cases z), z4⟩
theorem DG.put {C q d a : Addr} {m n : Nat} {H : Hp} {tg : Nat → Option (List G)} {c : List G} (h : DG C H q d m tg) (na : a ≠ q) (hc : LG C H a c) : ∃ kvs : List (Key × V), H d = some (.dK kvs) ∧ kvs.length ≤ m + 1 ∧
    DG C (upd H d (.dK (putK kvs (Sum.inl (n : Int)) (.ref a)))) q d (m + 1) (putT tg n c) := by
  obtain ⟨kvs, ek, len, k⟩ := h
  have up : ∀ {b : Addr} {x : List G}, LG C H b x → LG C (upd H d (.dK (putK kvs (Sum.inl (n : Int)) (.ref a)))) b x := fun hb => hb.upd' (hb.not' ek (by intro xs z; cases z)) ek (by intro dx fs z; cases z)
  refine ⟨kvs, ek, len, _, upd_same, Nat.le_trans (putK_len _ _ _) (by omega), fun n' => ?_⟩
  rw [valV_put]
  unfold putT
  by_cases c1 : n' = n
  · subst c1
    rw [if_pos rfl, if_pos rfl]
    exact .inr ⟨a, c, rfl, na, up hc, rfl⟩
  · rw [if_neg c1, if_neg (by intro z; injection z with z; omega)]
    rcases k n' with z | ⟨a', c', z1, z2, z3, z4⟩
    · exact .inl z
    · exact .inr ⟨a', c', z1, z2, up z3, z4⟩
/-- what a list that is tracked holds -/
def itemsAt (H : Hp) (a : Addr) : List V := match H a with
  | some (.lst xs) => xs
  | _ => []
theorem itemsAt_of {H : Hp} {a : Addr} {xs : List V} (h : H a = some (.lst xs)) : itemsAt H a = xs := by
  unfold itemsAt
  rw [h]
section
variable {P : Program} {w : World} {K : PySem.W.Frag} {mg : Str → Option Value} {base : Heap} {C : Addr}
/-! ### shortest_chain -/
def spShort (C : Addr) : Sp := fun vs H Q _ => ∃ (u r : Nat) (l : Addr) (gs : List G), vs = [.int u, .ref l] ∧ LG C H l gs ∧ gs.length ≤ 1000 ∧ (∀ g ∈ gs, g.right = r) ∧ ∀ (H' : Hp) (q : Addr) (c : List G), Same H H' → LG C H' q c → IsSC u gs c → Q (.ref q) H'
theorem scShort : FnScope ["user", "grants", "to_user", "to_giver", "grant", "chain"] ["user", "grants"] (defScope sShort) := ⟨rfl, rfl, rfl, by decide +kernel, rfl, by decide +kernel, by decide +kernel⟩
theorem ok_short (F : Df K mg "shortest_chain" sShort ["user", "grants"]) (T : Txt K mg C) : Ok P w K mg base 1 "shortest_chain" ["user", "grants"] (spShort C) := by
  obtain ⟨t, ht⟩ := T.house
  refine F.ok scShort (fun vs H Q E h => ?_) (fun f cdv A outer sh H vs Q E hr h => ?_)
  · obtain ⟨u, r, l, gs, rfl, _⟩ := h
    rfl
  · obtain ⟨u, r, l, gs, rfl, hl, len, hrt, k⟩ := h
    have hu := hu_of hr
    refine ⟨_, pss_cons (ps_set (i := 2) scShort.nd rfl (Or.inl rfl) (pe_lst pa_nil))
      (pss_cons (ps_set (i := 3) scShort.nd rfl (Or.inl rfl) (pe_disp (pps_cons (pe_glob (v := .int 0) (by rfl) ht ⟨_, rfl⟩) (pe_lst pa_nil) pps_nil) rfl rfl (by intro z; cases z) (by decide)))
      (pss_cons (ps_for PassesOwn.never rfl (pi_list (pv 1)) (pg_name (i := 4) scShort.nd rfl (Or.inl rfl))
        (pss_one (ps_if (pt_cmp (pc_din hu (pe_fld (pv 4) rfl) (pv 3)))
          (pss_cons (ps_set (i := 5) scShort.nd rfl (Or.inl rfl) (pe_op op_cat (pe_dget hu (pv 3) (pe_fld (pv 4) rfl) (fun _ _ => rfl)) (pe_lst (pa_cons (pv 4) pa_nil))))
          (C8.pss_cut (ps_if (pt_cmpR op_eq (pe_fld (pv 4) rfl) (pv 0) (nomark _))
            (pss_one (ps_expr (pe_bm PySem.F.plainAttrs_list PySem.F.slot_list_append PySem.F.type_list_append mt_append (pv 2) (pa_cons (pv 5) pa_nil)))) pss_nil)
          (pss_one (ps_if (PW.pt (pw_and (pt_cmpR op_eq (pe_fld (pv 4) rfl) pe_int (nomark _)) (pw_and1 (PW.pt (pw_or (pt_cmp (pc_dnotin hu (pe_fld (pv 4) rfl) (pv 3)))
              (pw_or1 (pt_cmpR op_lt (pe_callB call_len_seq (by rfl) T.len PySem.boot_len (pa_cons (pv 5) pa_nil)) (pe_callB call_len_seq (by rfl) T.len PySem.boot_len (pa_cons (pe_dget hu (pv 3) (pe_fld (pv 4) rfl) (fun _ _ => rfl)) pa_nil)) (nomark _))))))))
            (pss_one (ps_dput hu (pv 3) (pe_fld (pv 4) rfl) (pv 5) rfl)) pss_nil))))
          pss_nil)))
      (pss_one (ps_ret (pe_minLen rfl (by rfl) T.min (by rfl) T.len (pv 2) (pe_lst pa_nil)))))), ?_⟩
    -- to_user = []; to_giver = {HOUSE: []}
    refine ⟨Nat.zero_le _, fun q hq => fun d hd => ?_⟩
    have s1 : Same H (upd H q (.lst [])) := same_new hq
    have nqd : q ≠ d := fun z => by
      rw [← z, upd_same] at hd
      cases hd
    have hdH : H d = none := s1.free hd
    refine ⟨Nat.zero_le _, fun e he => ⟨?_, [(Sum.inl 0, .ref e)], rfl, (by show 1 ≤ 15; decide), ?_⟩⟩
    · rw [upd_ne (fun z => by rw [← z, upd_same] at he; cases he), upd_same]
    have ned : e ≠ d := fun z => by
      rw [z, upd_same] at he
      cases he
    have neq : e ≠ q := fun z => by
      rw [z, upd_ne nqd, upd_same] at he
      cases he
    generalize eH : upd (upd (upd (upd H q (.lst [])) d (.dK [])) e (.lst [])) d (.dK (mergeK [] [(Sum.inl 0, .ref e)])) = H0
    have heH : H e = none := by
      rw [upd_ne ned, upd_ne neq] at he
      exact he
    have sH0 : Same H H0 := fun b o eb => by
      rw [← eH, upd_ne (ne_of_none eb hdH), upd_ne (ne_of_none eb heH), upd_ne (ne_of_none eb hdH), upd_ne (ne_of_none eb hq)]
      exact eb
    have q0 : H0 q = some (.lst []) := by
      rw [← eH, upd_ne nqd, upd_ne (fun z => neq z.symm), upd_ne nqd, upd_same]
    have e0 : H0 e = some (.lst []) := by
      rw [← eH, upd_ne ned, upd_same]
    have d0 : H0 d = some (.dK [(Sum.inl 0, .ref e)]) := by
      rw [← eH, upd_same]
      rfl
    have ll0 : LL C H0 q [] := ⟨[], rfl, q0, fun p hp => by cases hp⟩
    have dg0 : DG C H0 q d 0 tg0 := ⟨_, d0, Nat.le_refl _, fun n => by
      unfold tg0
      by_cases c : n = 0
      · subst c
        exact .inr ⟨e, [], rfl, neq, LG.nil e0, rfl⟩
      · refine .inl ⟨?_, if_neg c⟩
        have : ¬ ((Sum.inl 0 : Key) = Sum.inl (n : Int)) := fun z => by
          injection z with z
          omega
        unfold valV
        rw [List.find?_cons_of_neg (by simpa using this)]
        rfl⟩
    -- for grant in grants
    obtain ⟨xs, hxs, hlen, item⟩ := hl.item
    refine ⟨_, rfl, l, rfl, ⟨_, SqL.of (sH0 _ _ hxs)⟩, for_list (K := K) (a := l) (xs := xs) (fun i σ H' => ∃ v4 v5 : Option V, σ = [some (.int u), some (.ref l), some (.ref q), some (.ref d), v4, v5] ∧ Same H H' ∧ ∃ tu tg, SInv u r (gs.take i) tu tg ∧ tu.length ≤ i ∧ LL C H' q tu ∧ DG C H' q d i tg)
      ⟨none, none, rfl, sH0, [], tg0, sinv_nil u r, Nat.le_refl _, ll0, dg0⟩ (fun i σ H' _ ⟨_, _, _, s2, _⟩ => SqL.of (s2 _ _ hxs)) ?_ ?_⟩
    · rintro i x σ H' hi ⟨v4, v5, rfl, s2, tu, tg, si, ltu, hll, hdg⟩
      obtain ⟨x, g, rfl, hg, hgi, tk⟩ := item i x hi
      have hg1 := hg.same s2
      obtain ⟨dx, hg2⟩ := id hg1
      have gr : g.right = r := hrt g (List.mem_of_getElem? hgi)
      have li : i < gs.length := (List.getElem?_eq_some_iff.mp hgi).1
      obtain ⟨kvs, ek, lk, kk⟩ := id hdg
      refine ⟨_, rfl, x, C, dx, _, _, rfl, hg2, T.cl, T.nGiver, gF_giver g, _, rfl, d, _, rfl, DGet.k (k := Sum.inl (g.giver : Int)) ek, _, rfl, ?_⟩
      rw [tk]
      rcases kk g.giver with ⟨z1, z2⟩ | ⟨a, c, z1, z2, z3, z4⟩
      · rw [z1]
        exact iteF ⟨_, _, rfl, s2, tu, tg, si.skip gr z2, by omega, hll, hdg.more (by omega)⟩
      · rw [z1]
        refine iteT ?_
        -- chain = to_giver[grant.giver] + [grant]
        refine ⟨_, rfl, _, rfl, x, C, dx, _, _, rfl, hg2, T.cl, T.nGiver, gF_giver g, d, V.ref a, rfl, by rw [← z1]; exact DGet.k (k := Sum.inl (g.giver : Int)) ek, _, rfl, by show 1 ≤ sizeLine; decide, fun p hp => ?_⟩
        have s3 : Same H' (upd H' p (.lst [.ref x])) := same_new hp
        obtain ⟨ys, hys, ly, hcat⟩ := (z3.same s3).snoc (hg1.same s3)
        have lc : c.length ≤ 1000 := by
          have := (si.subG _ c z4).length_le
          rw [List.length_take] at this
          omega
        refine ⟨a, p, ys, _, rfl, rfl, hys, upd_same, ?_, fun p2 hp2 => ?_⟩
        · rw [ly]
          have : (10000 : Nat) < sizeLine := by decide
          show _ + 1 ≤ _
          omega
        have s4 := same_new (o := .lst (ys ++ [.ref x])) hp2
        generalize eH4 : upd (upd H' p (.lst [.ref x])) p2 (.lst (ys ++ [.ref x])) = H4 at s4
        have hch : LG C H4 p2 (c ++ [g]) := hcat _ p2 s4 (by rw [← eH4]; exact upd_same)
        have s34 : Same H' H4 := s3.trans s4
        have np2 : p2 ≠ q := fun z => by
          obtain ⟨_, _, hqq, _⟩ := hll.same s3
          rw [z, hqq] at hp2
          cases hp2
        have hg4 := hg1.same s34
        obtain ⟨dx4, hg5⟩ := id hg4
        -- if grant.taker == user: to_user.append(chain)
        refine ⟨fun σ' H5 => σ' = [some (.int u), some (.ref l), some (.ref q), some (.ref d), some (.ref x), some (.ref p2)] ∧ Same H H5 ∧ LG C H5 p2 (c ++ [g]) ∧ LL C H5 q (if g.taker = u then tu ++ [c ++ [g]] else tu) ∧ DG C H5 q d i tg ∧ GAt C H5 x g, ?_, ?_⟩
        · refine ⟨_, rfl, x, C, dx4, _, _, rfl, hg5, T.cl, T.nTaker, gF_taker g, _, rfl, rfl, _, rfl, ?_⟩
          rw [v_eq]
          by_cases c1 : g.taker = u
          · rw [if_pos c1]
            obtain ⟨zs, hzs, lz, hpush⟩ := (hll.same s34).push np2 hch
            refine if_t (beq_iff_eq.mpr c1) ⟨_, rfl, .inl ⟨rfl, _, SqL.of hzs⟩, _, rfl, q, zs, _, rfl, rfl, hzs, by rw [lz]; exact small (by omega), rfl, same_upd hq (s2.trans s34), hch.upd' np2 hzs (by intro dx fs z; cases z), hpush, (hdg.same s34).push hzs, hg4.upd' hzs (by intro dx fs z; cases z)⟩
          · rw [if_neg c1]
            exact if_f (beq_eq_false_iff_ne.mpr c1) ⟨rfl, s2.trans s34, hch, hll.same s34, hdg.same s34, hg4⟩
        · rintro σ' H5 ⟨rfl, s5, hc5, hl5, hd5, hg6⟩
          obtain ⟨dx6, hg7⟩ := id hg6
          obtain ⟨kv5, ek5, lk5, kk5⟩ := id hd5
          have ltu' : (if g.taker = u then tu ++ [c ++ [g]] else tu).length ≤ i + 1 := by
            split
            · rw [List.length_append]
              show _ + 1 ≤ _
              omega
            · omega
          have eP : decide (V.int ((Wm01.flag g.pass : Nat) : Int) = V.int 1) = g.pass := by
            cases g.pass <;> decide
          refine ⟨_, rfl, x, C, dx6, _, _, rfl, hg7, T.cl, T.nOnward, gF_onward g, rfl, _, rfl, ?_⟩
          rw [eP]
          cases cp : g.pass with
          | false =>
            exact iteF (iteF ⟨_, _, rfl, s5, _, tg, si.go gr z4 (.inl ⟨rfl, .inl cp⟩), ltu', hl5, hd5.more (by omega)⟩)
          | true =>
            refine iteT ⟨_, rfl, x, C, dx6, _, _, rfl, hg7, T.cl, T.nTaker, gF_taker g, _, rfl, d, _, rfl, DGet.k (k := Sum.inl (g.taker : Int)) ek5, _, rfl, ?_⟩
            have put : ∀ (D : L2.St → Hp → Prop), (∀ H6, Same H H6 → LL C H6 q (if g.taker = u then tu ++ [c ++ [g]] else tu) → DG C H6 q d (i + 1) (putT tg g.taker (c ++ [g])) → D [some (.int u), some (.ref l), some (.ref q), some (.ref d), some (.ref x), some (.ref p2)] H6) →
                ∃ a H6, V.ref d = V.ref a ∧ DPut H5 a (V.int (g.taker : Int)) (V.ref p2) H6 ∧ D [some (.int u), some (.ref l), some (.ref q), some (.ref d), some (.ref x), some (.ref p2)] H6 := fun D hD => by
              obtain ⟨kv6, ek6, lk6, hd6⟩ := hd5.put (n := g.taker) np2 hc5
              exact ⟨d, _, rfl, DPut.k (k := Sum.inl (g.taker : Int)) ek6 (small (by omega)), hD _ (same_upd hdH s5) (hl5.upd ek6) hd6⟩
            rcases kk5 g.taker with ⟨w1, w2⟩ | ⟨a5, c5, w1, w2, w3, w4⟩
            · rw [w1]
              refine iteT (iteT ⟨_, rfl, _, rfl, _, rfl, x, C, dx6, _, _, rfl, hg7, T.cl, T.nTaker, gF_taker g, put _ fun H6 s6 l6 d6 => ?_⟩)
              exact ⟨_, _, rfl, s6, _, _, si.go gr z4 (.inr ⟨rfl, cp⟩), ltu', l6, d6⟩
            · rw [w1]
              obtain ⟨ws, hws, lw, _⟩ := hc5.item
              obtain ⟨us, hus, lus, _⟩ := w3.item
              refine iteF ⟨_, rfl, p2, ws, rfl, .inl (SqL.of hws), _, rfl, _, rfl, x, C, dx6, _, _, rfl, hg7, T.cl, T.nTaker, gF_taker g, d, V.ref a5, rfl, by rw [← w1]; exact DGet.k (k := Sum.inl (g.taker : Int)) ek5, a5, us, rfl, .inl (SqL.of hus), _, _, rfl, rfl, _, rfl, ?_⟩
              by_cases cl : ((ws.length : Nat) : Int) < ((us.length : Nat) : Int)
              · refine if_t (decide_eq_true cl) ⟨_, rfl, _, rfl, _, rfl, x, C, dx6, _, _, rfl, hg7, T.cl, T.nTaker, gF_taker g, put _ fun H6 s6 l6 d6 => ?_⟩
                exact ⟨_, _, rfl, s6, _, _, si.go gr z4 (.inr ⟨rfl, cp⟩), ltu', l6, d6⟩
              · exact if_f (decide_eq_false cl) ⟨_, _, rfl, s5, _, tg, si.go gr z4 (.inl ⟨rfl, .inr (by rw [w4]; intro z; cases z)⟩), ltu', hl5, hd5.more (by omega)⟩
    · rintro σ H' ⟨v4, v5, rfl, s2, tu, tg, si, ltu, hll, hdg⟩
      rw [hlen, List.take_length] at si
      -- return min(to_user, key=len, default=[])
      refine ⟨_, rfl, Nat.zero_le _, fun z hz => ?_⟩
      have s3 : Same H' (upd H' z (.lst [])) := same_new hz
      obtain ⟨ps, e1, hq1, kq⟩ := hll.same s3
      subst e1
      refine ⟨q, ps.map fun p => (p.1, itemsAt (upd H' z (.lst [])) p.1), rfl, by rw [List.map_map]; exact SqL.of hq1, fun p hp => ?_, fun hn => ?_, fun p hp hmin => ?_⟩
      · obtain ⟨p', hp', rfl⟩ := List.mem_map.mp hp
        obtain ⟨zs, hzs, _, _⟩ := (kq p' hp').2.item
        show SqL K _ p'.1 (itemsAt _ p'.1)
        rw [itemsAt_of hzs]
        exact SqL.of hzs
      · have e2 : ps = [] := List.map_eq_nil_iff.mp hn
        subst e2
        exact k _ z [] (s2.trans s3) (LG.nil upd_same) si.out0
      · obtain ⟨p', hp', rfl⟩ := List.mem_map.mp hp
        have ln : ∀ p ∈ ps, (itemsAt (upd H' z (.lst [])) p.1).length = p.2.length := fun p hp => by
          obtain ⟨zs, hzs, lz, _⟩ := (kq p hp).2.item
          rw [itemsAt_of hzs, lz]
        refine k _ p'.1 p'.2 (s2.trans s3) (kq p' hp').2 (si.out (List.mem_map_of_mem hp') fun c' hc' => ?_)
        obtain ⟨p'', hp'', rfl⟩ := List.mem_map.mp hc'
        have := hmin (p''.1, itemsAt (upd H' z (.lst [])) p''.1) (List.mem_map.mpr ⟨p'', hp'', rfl⟩)
        rw [← ln p' hp', ← ln p'' hp'']
        exact this
end
end Gb
namespace Gb
open PySem PySem.Spec PyProof.Rows L2
/-! ### lists of rows -/
/-- at q a list of rows of numbers, none of which is at q itself; of each one's place F is true -/
def LR (F : Addr → Prop) (H : Hp) (q : Addr) (rows : List (List Nat)) : Prop := ∃ ps : List (Addr × List Nat), ps.map (·.2) = rows ∧ H q = some (.lst (ps.map fun p => V.ref p.1)) ∧ ∀ p ∈ ps, p.1 ≠ q ∧ F p.1 ∧ LN H p.1 p.2
theorem LR.same {F : Addr → Prop} {q : Addr} {H H' : Hp} {rows : List (List Nat)} (h : LR F H q rows) (s : Same H H') : LR F H' q rows := by
  obtain ⟨ps, e, hl, k⟩ := h
  exact ⟨ps, e, s _ _ hl, fun p hp => ⟨(k p hp).1, (k p hp).2.1, s _ _ (k p hp).2.2⟩⟩
theorem LR.push {F : Addr → Prop} {q a : Addr} {H : Hp} {rows : List (List Nat)} {x : List Nat} (h : LR F H q rows) (na : a ≠ q) (fa : F a) (hx : LN H a x) : ∃ xs : List V, H q = some (.lst xs) ∧ xs.length = rows.length ∧ LR F (upd H q (.lst (xs ++ [.ref a]))) q (rows ++ [x]) := by
  obtain ⟨ps, e, hl, k⟩ := h
  subst e
  refine ⟨_, hl, by rw [List.length_map, List.length_map], ps ++ [(a, x)], by rw [List.map_append]; rfl, by rw [upd_same, List.map_append]; rfl, fun p hp => ?_⟩
  rcases List.mem_append.mp hp with z | z
  · refine ⟨(k p z).1, (k p z).2.1, ?_⟩
    unfold LN
    rw [upd_ne (k p z).1]
    exact (k p z).2.2
  · rw [List.mem_singleton.mp z]
    refine ⟨na, fa, ?_⟩
    unfold LN
    rw [upd_ne na]
    exact hx
theorem LR.item {F : Addr → Prop} {q : Addr} {H : Hp} {rows : List (List Nat)} (h : LR F H q rows) : ∃ xs : List V, H q = some (.lst xs) ∧ xs.length = rows.length ∧
    ∀ i x, xs[i]? = some x → ∃ (a : Addr) (row : List Nat), x = .ref a ∧ F a ∧ LN H a row ∧ rows[i]? = some row ∧ rows.take (i + 1) = rows.take i ++ [row] := by
  obtain ⟨ps, e, hl, k⟩ := h
  subst e
  refine ⟨_, hl, by rw [List.length_map, List.length_map], fun i x hx => ?_⟩
  rw [List.getElem?_map] at hx
  cases e : ps[i]? with
  | none =>
    rw [e] at hx
    cases hx
  | some p =>
    rw [e] at hx
    have e2 : (ps.map (·.2))[i]? = some p.2 := by rw [List.getElem?_map, e]; rfl
    have kp := k p (List.mem_of_getElem? e)
    exact ⟨p.1, p.2, (Option.some.inj hx).symm, kp.2.1, kp.2.2, e2, take_snoc e2⟩
theorem LR.nil {F : Addr → Prop} {q : Addr} {H : Hp} (h : H q = some (.lst [])) : LR F H q [] := ⟨[], rfl, h, fun _ hp => by cases hp⟩
/-- what is sorted of natural numbers is of natural numbers -/
theorem nat_sorted {ns : List Int} {row : List Nat} {n : Nat} (h1 : ns.Perm ((row ++ [n]).map fun (m : Nat) => (m : Int))) (h2 : ns.Pairwise (· ≤ ·)) : ∃ x : List Nat, ns = x.map (fun (m : Nat) => (m : Int)) ∧ Rx n row x := by
  have e : ns = (ns.map Int.toNat).map fun (m : Nat) => (m : Int) := by
    rw [List.map_map]
    refine (List.map_id ns).symm.trans (List.map_congr_left fun z hz => ?_)
    obtain ⟨m, _, em⟩ := List.mem_map.mp (h1.mem_iff.mp hz)
    show z = ((z.toNat : Nat) : Int)
    omega
  refine ⟨ns.map Int.toNat, e, ?_, ?_⟩
  · have h3 := h1.map Int.toNat
    rw [List.map_map] at h3
    have : (row ++ [n]).map (Int.toNat ∘ fun (m : Nat) => (m : Int)) = row ++ [n] := by
      refine (List.map_congr_left fun m _ => ?_).trans (List.map_id _)
      show ((m : Int)).toNat = m
      omega
    rwa [this] at h3
  · refine List.pairwise_map.mpr (h2.imp fun {a b} q => ?_)
    have : a ≤ b := q
    omega
theorem nats_int (ns : List Nat) : (ns.map fun (m : Nat) => (m : Int)).map V.int = ns.map fun (m : Nat) => V.int (m : Int) := by
  rw [List.map_map]
  rfl
section
variable {P : Program} {w : World} {K : PySem.W.Frag} {mg : Str → Option Value} {base : Heap} {C : Addr}
/-! ### rows_that_cut -/
def spRows (C : Addr) (m : Nat) : Sp := fun vs H Q _ => ∃ (u r : Nat) (l : Addr) (gs : List G) (most : Nat), vs = [.int u, .ref l, .int most] ∧ most < m ∧ LG C H l gs ∧ gs.length ≤ 14 ∧ gs.Pairwise (fun g h => g.num < h.num) ∧ (∀ g ∈ gs, g.right = r) ∧ Least u gs most ∧
  ∀ (H' : Hp) (q : Addr) (rows : List (List Nat)), Same H H' → H q = none → LR (fun a => H a = none) H' q rows → IsRows u gs most rows → Q (.ref q) H'
theorem scRows : FnScope ["user", "grants", "most", "chain", "rows", "gone", "others", "row", "grant"] ["user", "grants", "most"] (defScope sRows) := ⟨rfl, rfl, rfl, by decide +kernel, rfl, by decide +kernel, by decide +kernel⟩
theorem ok_rows_step {m lv : Nat} (hm : m < 15) (F : Df K mg "rows_that_cut" sRows ["user", "grants", "most"]) (T : Txt K mg C) (OS : Ok P w K mg base (lv + 1) "shortest_chain" ["user", "grants"] (spShort C))
    (OR : Ok P w K mg base (lv + 1) "rows_that_cut" ["user", "grants", "most"] (spRows C m)) : Ok P w K mg base (lv + 2) "rows_that_cut" ["user", "grants", "most"] (spRows C (m + 1)) := by
  obtain ⟨fs, fds, ms, ks, bs, Gs⟩ := OS.ex
  obtain ⟨fr, fdr, mr, kr, br, Gr⟩ := OR.ex
  refine F.ok scRows (fun vs H Q E h => ?_) (fun f cdv A outer sh H vs Q E hr h => ?_)
  · obtain ⟨u, r, l, gs, most, rfl, _⟩ := h
    rfl
  · obtain ⟨u, r, l, gs, most, rfl, hmost, hl, h14, pw, hrt, ls, k⟩ := h
    have hu := hu_of hr
    refine ⟨_, pss_cons (ps_set (i := 3) scRows.nd rfl (Or.inl rfl) (pe_call Gs hr rfl ms ks bs .nil pass0 (pa_cons (pv 0) (pa_cons (pv 1) pa_nil))))
      (pss_cons (ps_if (pt_cmpR (op_eq0 (Nat.lt_of_succ_lt hu)) (pv 3) (pe_lst pa_nil) (nomark _)) (pss_one (ps_ret (pe_lst (pa_cons (pe_lst pa_nil) pa_nil)))) pss_nil)
      (pss_cons (ps_if (pt_cmpR op_eq (pv 2) pe_int (nomark _)) (pss_one (ps_ret (pe_lst pa_nil))) pss_nil)
      (pss_cons (ps_set (i := 4) scRows.nd rfl (Or.inl rfl) (pe_lst pa_nil))
      (pss_cons (ps_for PassesOwn.never rfl (pi_list (pv 3)) (pg_name (i := 5) scRows.nd rfl (Or.inr rfl))
        (pss_cons (ps_setLc (i := 6) (own := [("grant", 8)]) (g := gName 8) (tt := tTest (tOp rNe (tFld K (tVar 8) "number") (tFld K (tVar 5) "number"))) rfl scRows.nd rfl rfl (sw_true rfl rfl rfl (by decide +kernel)) (pi_list (pv 1))
          (blkOk_by (own := [("grant", 8)]) (N := ["user", "grants", "most", "chain", "rows", "gone", "others", "row", "grant"]) (sc := defScope sRows) (by decide +kernel))
          (fun _ _ _ _ _ => pg_name (i := 8) scRows.nd rfl (Or.inl rfl)) (fun _ _ _ _ _ => by exact pts_one (pt_cmpR op_ne (pe_fld (pv 8) rfl) (pe_fld (pv 5) rfl) (nomark _))) (fun _ _ _ _ _ => by exact pv 8))
        (pss_one (ps_for PassesOwn.never rfl (pi_list (pe_call Gr hr rfl mr kr br .nil pass0 (pa_cons (pv 0) (pa_cons (pv 6) (pa_cons (pe_op op_sub (pv 2) pe_int) pa_nil))))) (pg_name (i := 7) scRows.nd rfl (Or.inl rfl))
          (pss_one (ps_expr (pe_bm PySem.F.plainAttrs_list PySem.F.slot_list_append PySem.F.type_list_append mt_append (pv 4) (pa_cons (pe_callB cr_sortedI (by rfl) T.sorted (by decide +kernel) (pa_cons (pe_op op_cat (pv 7) (pe_lst (pa_cons (pe_fld (pv 5) rfl) pa_nil))) pa_nil)) pa_nil))))))))
      (pss_one (ps_ret (pv 4))))))), ?_⟩
    -- chain = shortest_chain(user, grants)
    refine ⟨_, rfl, _, rfl, u, r, l, gs, rfl, hl, Nat.le_trans h14 (by decide), hrt, fun H1 q1 c s1 h1 sc => ?_⟩
    obtain ⟨xs, hxs, hlen, item⟩ := h1.item
    -- if chain == []
    refine ⟨_, rfl, Nat.zero_le _, fun z1 hz1 => ?_⟩
    have s2 : Same H1 (upd H1 z1 (.lst [])) := same_new hz1
    refine ⟨q1, z1, xs, rfl, rfl, SqL.of (s2 _ _ hxs), SqL.of upd_same, _, rfl, ?_⟩
    by_cases hc : c = []
    · have e : xs.isEmpty = true := by
        rw [hc] at hlen
        rw [List.eq_nil_of_length_eq_zero hlen]
        rfl
      refine if_t e ⟨Nat.zero_le _, fun z2 hz2 => ⟨by show 1 ≤ sizeLine; decide, fun z3 hz3 => ?_⟩⟩
      have n23 : z2 ≠ z3 := fun z => by
        rw [← z, upd_same] at hz3
        cases hz3
      refine k _ z3 [[]] ((s1.trans s2).trans ((same_new hz2).trans (same_new hz3))) ((s1.trans s2).free ((same_new hz2).free hz3)) ⟨[(z2, [])], rfl, upd_same, fun p hp => ?_⟩ (rows_none (sc.no hc) ls)
      rw [List.mem_singleton.mp hp]
      refine ⟨n23, (s1.trans s2).free hz2, ?_⟩
      unfold LN
      rw [upd_ne n23, upd_same]
      rfl
    have e : xs.isEmpty = false := by
      cases xs with
      | nil => exact absurd (List.eq_nil_of_length_eq_zero hlen.symm) hc
      | cons _ _ => rfl
    refine if_f e ?_
    generalize eH2 : upd H1 z1 (.lst []) = H2 at s2
    have s12 : Same H H2 := s1.trans s2
    -- if most == 0
    refine ⟨_, rfl, rfl, _, rfl, ?_⟩
    cases most with
    | zero =>
      exact if_t (decide_eq_true rfl) ⟨Nat.zero_le _, fun z2 hz2 => k _ z2 [] (s12.trans (same_new hz2)) (s12.free hz2) (LR.nil upd_same) (rows_zero sc hc)⟩
    | succ mo =>
    refine if_f (decide_eq_false (by intro z; injection z with z; omega)) ?_
    -- rows = []
    refine ⟨Nat.zero_le _, fun q hq => ?_⟩
    have s3 : Same H2 (upd H2 q (.lst [])) := same_new hq
    have hqH : H q = none := s12.free hq
    have hqH1 : H1 q = none := s2.free hq
    have nqq : q1 ≠ q := ne_of_none hxs hqH1
    -- for gone in chain
    refine ⟨_, rfl, q1, rfl, ⟨_, SqL.of (s3 _ _ (s2 _ _ hxs))⟩, for_list (K := K) (a := q1) (xs := xs) (fun i σ H' => ∃ v5 v6 v7 : Option V, σ = [some (.int u), some (.ref l), some (.int ((mo + 1 : Nat) : Int)), some (.ref q1), some (.ref q), v5, v6, v7, none] ∧ Same H1 H' ∧ ∃ rows, PRows u gs mo (c.take i) rows ∧ LR (fun a => H a = none) H' q rows)
      ⟨none, none, none, rfl, s2.trans s3, [], prows_nil u gs mo, LR.nil upd_same⟩ (fun i σ H' _ ⟨_, _, _, _, s4, _⟩ => SqL.of (s4 _ _ hxs)) ?_ ?_⟩
    · rintro i x σ H' hi ⟨v5, v6, v7, rfl, s4, rows, hp, hR⟩
      obtain ⟨x, g, rfl, hg, hgi, tk⟩ := item i x hi
      have gm : g ∈ gs := sc.sub.subset (List.mem_of_getElem? hgi)
      have li : i < c.length := (List.getElem?_eq_some_iff.mp hgi).1
      have hg1 := hg.same s4
      have hl4 := hl.same (s1.trans s4)
      obtain ⟨ys, hys, _, _⟩ := hl4.item
      -- others = [..]
      refine ⟨_, rfl, l, rfl, ⟨_, SqL.of hys⟩, lc_filter (fun h => h.num != g.num) hl4 (Nat.le_trans h14 (by decide)) (fun _ => rfl) (fun _ => rfl) (fun a h H5 Qt _ s5 hh hQ => ?_) (fun H5 q5 s5 hq5 h5 => ?_)⟩
      · obtain ⟨dx, hh⟩ := hh
        obtain ⟨dy, hg2⟩ := hg1.same s5
        refine ⟨_, rfl, a, C, dx, _, _, rfl, hh, T.cl, T.nNumber, gF_number h, _, rfl, x, C, dy, _, _, rfl, hg2, T.cl, T.nNumber, gF_number g, rfl, _, rfl, ?_⟩
        rw [v_eq]
        exact hQ
      -- rows_that_cut(user, others, most - 1)
      have pw' : (oth g gs).Pairwise (fun g h => g.num < h.num) := pw.sublist List.filter_sublist
      have em : ((mo + 1 : Nat) : Int) - 1 = (mo : Int) := by omega
      refine ⟨_, rfl, _, rfl, _, rfl, _, _, rfl, rfl, u, r, q5, oth g gs, mo, (by show [V.int (u : Int), V.ref q5, V.int (((mo + 1 : Nat) : Int) - 1)] = _; rw [em]), by omega, h5, Nat.le_trans (List.length_filter_le _ _) h14, pw', fun h hh => hrt h (List.mem_filter.mp hh).1, ls.oth g, fun H6 q6 rs s6 hq6 h6 ir => ?_⟩
      obtain ⟨zs, hzs, lz, ritem⟩ := h6.item
      have s456 : Same H1 H6 := (s4.trans s5).trans s6
      have hR6 := hR.same (s5.trans s6)
      obtain ⟨_, _, hqq5, _⟩ := hR.same s5
      have nq6 : q6 ≠ q := fun z => by
        rw [z, hqq5] at hq6
        cases hq6
      have lz64 : ∀ row ∈ rs, row.length ≤ 14 := fun row hrow => Nat.le_trans (ir.len row hrow) (by omega)
      -- for row in ..
      refine ⟨q6, rfl, ⟨_, SqL.of hzs⟩, for_list (K := K) (a := q6) (xs := zs) (fun j σ H'' => ∃ v7 : Option V, σ = [some (.int u), some (.ref l), some (.int ((mo + 1 : Nat) : Int)), some (.ref q1), some (.ref q), some (.ref x), some (.ref q5), v7, none] ∧ Same H1 H'' ∧ (∀ b o, H6 b = some o → b ≠ q → H'' b = some o) ∧
          ∃ new, (∀ y ∈ new, ∃ row ∈ rs.take j, Rx g.num row y) ∧ (∀ row ∈ rs.take j, ∃ y ∈ new, Rx g.num row y) ∧ new.length = j ∧ LR (fun a => H a = none) H'' q (rows ++ new))
        ⟨v7, rfl, s456, fun b o e _ => e, [], by simp, by simp, rfl, by rw [List.append_nil]; exact hR6⟩ (fun j σ H'' _ ⟨_, _, _, s7, _⟩ => SqL.of (s7 _ _ hzs nq6)) ?_ ?_⟩
      · rintro j y σ H'' hj ⟨v7, rfl, s7, s8, new, n1, n2, n3, hR7⟩
        obtain ⟨a, row, rfl, fa, ha, hrj, tkr⟩ := ritem j y hj
        have lj : j < rs.length := (List.getElem?_eq_some_iff.mp hrj).1
        have naq : a ≠ q := fun z => by
          have fa' : H5 a = none := fa
          rw [z, hqq5] at fa'
          cases fa'
        have ha7 := s8 _ _ ha naq
        obtain ⟨dx, hg7⟩ := hg.same s7
        obtain ⟨us, hus, lus, _⟩ := hR7.item
        refine ⟨_, rfl, .inl ⟨rfl, _, SqL.of hus⟩, _, rfl, _, rfl, x, C, dx, _, _, rfl, hg7, T.cl, T.nNumber, gF_number g, by show 1 ≤ sizeLine; decide, fun p hp8 => ?_⟩
        have t1 : Same H'' (upd H'' p (.lst [.int g.num])) := same_new hp8
        refine ⟨a, p, _, _, rfl, rfl, t1 _ _ ha7, upd_same, ?_, fun p2 hp2 => ?_⟩
        · rw [List.length_map]
          have := lz64 row (List.mem_of_getElem? hrj)
          have : (10000 : Nat) < sizeLine := by decide
          show _ + 1 ≤ _
          omega
        have t2 := same_new (o := .lst ((row.map fun (n : Nat) => V.int (n : Int)) ++ [.int g.num])) hp2
        refine ⟨p2, (row ++ [g.num]).map (fun (n : Nat) => (n : Int)), rfl, SqL.of ?_, fun ns p3 perm up hp3 => ?_⟩
        · rw [upd_same, nats_int, List.map_append]
          rfl
        obtain ⟨y, rfl, hy⟩ := nat_sorted perm up
        have t3 := same_new (o := .lst ((y.map fun (m : Nat) => (m : Int)).map V.int)) hp3
        have t : Same H'' _ := (t1.trans t2).trans t3
        have n3q : p3 ≠ q := fun z => by
          have := (t1.trans t2) _ _ hus
          rw [z, this] at hp3
          cases hp3
        have f3 : H p3 = none := s1.free (s7.free ((t1.trans t2).free hp3))
        have ln3 : LN (upd (upd (upd H'' p (.lst [.int g.num])) p2 (.lst ((row.map fun (n : Nat) => V.int (n : Int)) ++ [.int g.num]))) p3 (.lst ((y.map fun (m : Nat) => (m : Int)).map V.int))) p3 y := by
          unfold LN
          rw [upd_same, nats_int]
        obtain ⟨ws, hws, lw, hpush⟩ := (hR7.same t).push n3q f3 ln3
        have room := rows_room (j := j) hp pw sc ls gm ir (by rw [List.length_take]; omega) li (Nat.le_of_lt lj) h14 (by omega)
        refine ⟨q, ws, _, rfl, rfl, hws, ?_, some (.ref a), rfl, same_upd hqH1 (s7.trans t), fun b o e hb => by rw [upd_ne hb]; exact t _ _ (s8 _ _ e hb), new ++ [y], fun z hz => ?_, fun z hz => ?_, by rw [List.length_append, n3]; rfl, by rw [← List.append_assoc]; exact hpush⟩
        · rw [lw, List.length_append, n3]
          have : (10077696 : Nat) < sizeLine := by decide
          omega
        · rw [tkr]
          rcases List.mem_append.mp hz with z1 | z1
          · obtain ⟨row', h1', h2'⟩ := n1 z z1
            exact ⟨row', List.mem_append_left _ h1', h2'⟩
          · rw [List.mem_singleton.mp z1]
            exact ⟨row, List.mem_append_right _ (List.mem_singleton.mpr rfl), hy⟩
        · rw [tkr] at hz
          rcases List.mem_append.mp hz with z1 | z1
          · obtain ⟨y', h1', h2'⟩ := n2 z z1
            exact ⟨y', List.mem_append_left _ h1', h2'⟩
          · rw [List.mem_singleton.mp z1]
            exact ⟨y, List.mem_append_right _ (List.mem_singleton.mpr rfl), hy⟩
      · rintro σ H'' ⟨v7, rfl, s7, s8, new, n1, n2, n3, hR7⟩
        rw [lz, List.take_length] at n1 n2
        refine ⟨_, _, _, rfl, s7, rows ++ new, ?_, hR7⟩
        rw [tk]
        exact hp.add pw gm ir n1 n2 (by rw [n3, lz])
    · rintro σ H' ⟨v5, v6, v7, rfl, s4, rows, hp, hR⟩
      rw [hlen, List.take_length] at hp
      exact ⟨_, rfl, k H' q rows (s1.trans s4) hqH hR (hp.done pw sc hc ls)⟩
theorem ok_rows (F : Df K mg "rows_that_cut" sRows ["user", "grants", "most"]) (T : Txt K mg C) (OS : Ok P w K mg base 1 "shortest_chain" ["user", "grants"] (spShort C)) : ∀ m, m ≤ 15 → Ok P w K mg base (m + 1) "rows_that_cut" ["user", "grants", "most"] (spRows C m)
  | 0, _ => by
    refine F.ok scRows (fun vs H Q E h => ?_) (fun f cdv A outer sh H vs Q E hr h => ?_)
    · obtain ⟨u, r, l, gs, most, rfl, _⟩ := h
      rfl
    · obtain ⟨u, r, l, gs, most, _, hm, _⟩ := h
      exact absurd hm (Nat.not_lt_zero _)
  | m + 1, h => ok_rows_step (lv := m) (by omega) F T (OS.mono (by omega)) (ok_rows F T OS m (by omega))
/-! ### fewest_that_cut -/
def spFewest (C : Addr) : Sp := fun vs H Q _ => ∃ (u r : Nat) (l : Addr) (gs : List G), vs = [.int u, .int r, .ref l] ∧ LG C H l gs ∧ gs.length ≤ 1000 ∧ gs.Pairwise (fun g h => g.num < h.num) ∧ (ofR r gs).length ≤ 14 ∧ u ≠ 0 ∧
  ∀ (H' : Hp) (q : Addr), Same H H' → LN H' q (Wm01.fewest gs u r) → (Wm01.fewest gs u r).length ≤ 14 → Q (.ref q) H'
theorem ll_lexB : ∀ (x y : List Nat), PySem.W.listLt (x.map fun (m : Nat) => (m : Int)) (y.map fun (m : Nat) => (m : Int)) = lexB x y
  | [], [] => rfl
  | [], _ :: _ => rfl
  | _ :: _, [] => rfl
  | a :: x, b :: y => by
    rw [List.map_cons, List.map_cons]
    unfold PySem.W.listLt lexB
    by_cases c : a = b
    · subst c
      rw [if_pos rfl, if_pos rfl]
      exact ll_lexB x y
    · rw [if_neg c, if_neg (by omega)]
      show decide ((a : Int) < (b : Int)) = decide (a < b)
      exact decide_eq_decide.mpr (by omega)
theorem scFewest : FnScope ["user", "right", "grants", "given", "most", "rows"] ["user", "right", "grants"] (defScope sFewest) := ⟨rfl, rfl, rfl, by decide +kernel, rfl, by decide +kernel, by decide +kernel⟩
theorem ok_fewest (F : Df K mg "fewest_that_cut" sFewest ["user", "right", "grants"]) (T : Txt K mg C) (OR : Ok P w K mg base 16 "of_right" ["right", "grants"] (spOfRight C)) (OC : Ok P w K mg base 16 "rows_that_cut" ["user", "grants", "most"] (spRows C 15)) :
    Ok P w K mg base 17 "fewest_that_cut" ["user", "right", "grants"] (spFewest C) := by
  obtain ⟨fo, fdo, mo, ko, bo, Go⟩ := OR.ex
  obtain ⟨fc, fdc, mc, kc, bc, Gc⟩ := OC.ex
  refine F.ok scFewest (fun vs H Q E h => ?_) (fun f cdv A outer sh H vs Q E hr h => ?_)
  · obtain ⟨u, r, l, gs, rfl, _⟩ := h
    rfl
  · obtain ⟨u, r, l, gs, rfl, hl, len, pw, h14, hu0, k⟩ := h
    have hu := hu_of hr
    refine ⟨_, pss_cons (ps_set (i := 3) scFewest.nd rfl (Or.inl rfl) (pe_call Go hr rfl mo ko bo .nil pass0 (pa_cons (pv 1) (pa_cons (pv 2) pa_nil))))
      (pss_cons (ps_set (i := 4) scFewest.nd rfl (Or.inl rfl) pe_int)
      (pss_cons (ps_set (i := 5) scFewest.nd rfl (Or.inl rfl) (pe_call Gc hr rfl mc kc bc .nil pass0 (pa_cons (pv 0) (pa_cons (pv 3) (pa_cons (pv 4) pa_nil)))))
      (pss_cons (ps_while PassesOwn.never (pt_cmpR (op_eq0 (Nat.lt_of_succ_lt hu)) (pv 5) (pe_lst pa_nil) (nomark _))
        (pss_cons (ps_set (i := 4) scFewest.nd rfl (Or.inl rfl) (pe_op op_add (pv 4) pe_int))
        (pss_one (ps_set (i := 5) scFewest.nd rfl (Or.inl rfl) (pe_call Gc hr rfl mc kc bc .nil pass0 (pa_cons (pv 0) (pa_cons (pv 3) (pa_cons (pv 4) pa_nil))))))))
      (pss_one (ps_ret (pe_callB (cr_minRows rfl (Nat.lt_of_le_of_lt (Nat.add_le_add_left (show 8 ≤ 64 by decide) _) hr.units)) (by rfl) T.min (by decide +kernel) (pa_cons (pv 5) pa_nil))))))), ?_⟩
    -- given = of_right(right, grants)
    refine ⟨_, rfl, _, rfl, r, l, gs, rfl, hl, len, fun H1 q1 s1 hq1 h1 => ?_⟩
    have pw1 : (ofR r gs).Pairwise (fun g h => g.num < h.num) := pw.sublist List.filter_sublist
    have hrt : ∀ g ∈ ofR r gs, g.right = r := fun g hg => beq_iff_eq.mp (List.mem_filter.mp hg).2
    refine ⟨_, rfl, _, rfl, _, rfl, u, r, q1, ofR r gs, 0, rfl, by omega, h1, h14, pw1, hrt, least_zero u _, fun H2 q2 rows s2 hq2 h2 ir => ?_⟩
    -- while rows == []
    refine ⟨fun m σ H' => ∃ (q : Addr) (most : Nat) (rows : List (List Nat)), m = 15 - most ∧ σ = [some (.int u), some (.int r), some (.ref l), some (.ref q1), some (.int most), some (.ref q)] ∧ Same H H' ∧ LG C H' q1 (ofR r gs) ∧ most ≤ 14 ∧ Least u (ofR r gs) most ∧ IsRows u (ofR r gs) most rows ∧ LR (fun _ => True) H' q rows,
      ⟨_, q2, 0, rows, rfl, rfl, s1.trans s2, h1.same s2, Nat.zero_le _, least_zero u _, ir, ?_⟩, ?_⟩
    · obtain ⟨ps, e, hq, kk⟩ := h2
      exact ⟨ps, e, hq, fun p hp => ⟨(kk p hp).1, trivial, (kk p hp).2.2⟩⟩
    rintro m σ H' ⟨q, most, rows, rfl, rfl, s3, h3, le, ls, ir, hR⟩
    obtain ⟨xs, hxs, lx, item⟩ := hR.item
    refine ⟨_, rfl, Nat.zero_le _, fun z hz => ?_⟩
    have s4 : Same H' (upd H' z (.lst [])) := same_new hz
    refine ⟨q, z, xs, rfl, rfl, SqL.of (s4 _ _ hxs), SqL.of upd_same, _, rfl, ?_⟩
    generalize eH4 : upd H' z (.lst []) = H4 at s4
    by_cases hn : rows = []
    · have e : xs.isEmpty = true := by
        rw [hn] at lx
        rw [List.eq_nil_of_length_eq_zero lx]
        rfl
      subst hn
      have ls' := next_least ir
      have lt := least_le pw1 ls'
      refine if_t e ⟨fun σ' H'' => ∃ m', m' < 15 - most ∧ ∃ (q : Addr) (most : Nat) (rows : List (List Nat)), m' = 15 - most ∧ σ' = [some (.int u), some (.int r), some (.ref l), some (.ref q1), some (.int most), some (.ref q)] ∧ Same H H'' ∧ LG C H'' q1 (ofR r gs) ∧ most ≤ 14 ∧ Least u (ofR r gs) most ∧ IsRows u (ofR r gs) most rows ∧ LR (fun _ => True) H'' q rows, fun _ _ z => z, ?_⟩
      refine ⟨_, rfl, _, _, rfl, rfl, _, rfl, _, rfl, _, rfl, u, r, q1, ofR r gs, most + 1, rfl, by omega, h3.same s4, h14, pw1, hrt, ls', fun H5 q5 rows5 s5 hq5 h5 ir5 => ?_⟩
      refine ⟨_, by omega, q5, most + 1, rows5, rfl, rfl, (s3.trans s4).trans s5, h3.same (s4.trans s5), by omega, ls', ir5, ?_⟩
      obtain ⟨ps, e, hq, kk⟩ := h5
      exact ⟨ps, e, hq, fun p hp => ⟨(kk p hp).1, trivial, (kk p hp).2.2⟩⟩
    · have e : xs.isEmpty = false := by
        cases xs with
        | nil => exact absurd (List.eq_nil_of_length_eq_zero lx.symm) hn
        | cons _ _ => rfl
      refine if_f e ⟨_, rfl, ?_⟩
      obtain ⟨ps, e1, hq, kk⟩ := hR.same s4
      subst e1
      refine ⟨q, ps.map fun p => (p.1, p.2.map fun (m : Nat) => (m : Int)), rfl, by rw [List.map_map]; exact SqL.of hq, fun p hp => ?_, fun z => hn ?_, fun p hp hmin => ?_⟩
      · obtain ⟨p', hp', rfl⟩ := List.mem_map.mp hp
        show SqL K H4 p'.1 ((p'.2.map fun (m : Nat) => (m : Int)).map V.int)
        rw [nats_int]
        exact SqL.of (kk p' hp').2.2
      · rw [List.map_eq_nil_iff.mp z]
        rfl
      · obtain ⟨p', hp', rfl⟩ := List.mem_map.mp hp
        have mem : p'.2 ∈ ps.map (·.2) := List.mem_map_of_mem hp'
        have ef : Wm01.fewest gs u r = p'.2 := fewest_rows hu0 pw ir ls mem fun y hy => by
          obtain ⟨p2, hp2, rfl⟩ := List.mem_map.mp hy
          have := hmin (p2.1, p2.2.map fun (m : Nat) => (m : Int)) (List.mem_map.mpr ⟨p2, hp2, rfl⟩)
          rw [ll_lexB] at this
          exact this
        refine k H4 p'.1 (s3.trans s4) ?_ ?_
        · rw [ef]
          exact (kk p' hp').2.2
        · rw [ef]
          exact Nat.le_trans (ir.len _ mem) le
end
end Gb
namespace Gb
open PySem PySem.Spec PyProof.Rows L2
abbrev sNamesFit : Stmt := top 44
abbrev sCounted : Stmt := top 45
abbrev sHouseInit : Stmt := inClass (top 46) 0
abbrev sGrant : Stmt := inClass (top 46) 1
abbrev sRevoke : Stmt := inClass (top 46) 2
abbrev sOver : Stmt := inClass (top 46) 3
abbrev sCareful : Stmt := inClass (top 46) 4
abbrev sLeave : Stmt := inClass (top 46) 5
abbrev sHasM : Stmt := inClass (top 46) 6
abbrev sChainM : Stmt := inClass (top 46) 7
abbrev sBehind : Stmt := inClass (top 46) 8
abbrev sFewestM : Stmt := inClass (top 46) 9
abbrev sUsersM : Stmt := inClass (top 46) 10
abbrev sGrantsM : Stmt := inClass (top 46) 11
abbrev sLose : Stmt := inClass (top 46) 12
abbrev sRefusal : Stmt := inClass (top 46) 13
abbrev sRefusalW : Stmt := inClass (top 46) 14
abbrev sKeep : Stmt := inClass (top 46) 15
/-- a method of the text -/
structure Md (K : PySem.W.Frag) (C : Addr) (nm qual : Str) (st : Stmt) (ps : List Str) : Prop where
  ex : ∃ (f : Addr) (fd : FuncData), Meth K C nm f ∧ Fun K nm qual st f fd ∧ Binds K fd ps []
theorem Md.ok {P : Program} {w : World} {K : PySem.W.Frag} {mg : Str → Option Value} {base : Heap} {C : Addr} {nm qual : Str} {st : Stmt} {N ps : List Str} {k : Nat} {sp : Sp} (F : Md K C nm qual st ps) (S : FnScope N ps (defScope st)) (len : ∀ vs H Q E, sp vs H Q E → vs.length = ps.length)
    (hbody : ∀ (f : Addr) (cdv : Value) (A : Around) (outer : List Env) (s : Shared) (H : Hp) (vs : List V) (Q : VK) (E : XK), Room k (A.deeper (envOfC qual (defScope st) s.heap.objs.size f cdv)) → sp vs H Q E →
      ∃ t, PSs (cxOf CX0 P w K mg base N qual (defScope st) f cdv A outer s H E).nox (defBody st) t ∧ t { nx := fun _ H' => Q .non H', rt := Q } (start N vs) H) : Mt P w K mg base (k + 1) C nm ps sp := by
  obtain ⟨f, fd, m, F, b⟩ := F.ex
  exact ⟨f, fd, m, b, F.ok S len (fun cdv A outer s H vs Q E hr h => hbody f cdv A outer s H vs Q E hr h)⟩
/-- the class House, and the constants -/
structure TxtH (K : PySem.W.Frag) (mg : Str → Option Value) (C : Addr) : Prop where
  cl : Cls K C
  nStanding : NoAttr K C "standing"
  nLast : NoAttr K C "last_number"
  mgC : mg "House" = some (.ref C)
  most : ∃ t, mg "MOST_GRANTS_OF_A_RIGHT" = some (.int 14 t)
  notFit : ∃ t, mg "DOES_NOT_FIT" = some (.int (-1) t)
  noNumber : ∃ t, mg "NO_SUCH_NUMBER" = some (.int (-2) t)
  noGrant : ∃ t, mg "NO_SUCH_GRANT" = some (.int (-3) t)
  full : ∃ t, mg "FULL" = some (.int (-5) t)
  notAllowed : ∃ t, mg "NOT_ALLOWED" = some (.int (-6) t)
/-! ### a house in the heap -/
def hF (l : Addr) (n : Nat) : List (Str × V) := [("standing", .ref l), ("last_number", .int n)]
theorem hF_standing (l : Addr) (n : Nat) : (hF l n).lookup ("standing" : Str) = some (.ref l) := lk_here
theorem hF_last (l : Addr) (n : Nat) : (hF l n).lookup ("last_number" : Str) = some (.int n) := (lk_past (by decide +kernel)).trans lk_here
theorem hF_no (l : Addr) (n : Nat) {m : Str} (h1 : (m == ("standing" : Str)) = false) (h2 : (m == ("last_number" : Str)) = false) : (hF l n).lookup m = none := (lk_past h1).trans ((lk_past h2).trans rfl)
theorem hF_put (l k : Addr) (n : Nat) : putF "standing" (.ref k) (hF l n) = hF k n := put_here
theorem hF_putN (l : Addr) (n : Nat) (m : Nat) : putF "last_number" (.int m) (hF l n) = hF l m := (put_past (by decide +kernel)).trans (congrArg _ put_here)
/-- at a the house s, its list at l -/
structure HAt (Ch Cg : Addr) (H : Hp) (a l : Addr) (s : Wm01.House) : Prop where
  obj : ∃ (dx : Addr) (n : Nat), n + 1 = s.next ∧ H a = some (.ins Ch dx (hF l n))
  lst : LG Cg H l s.grants
theorem HAt.same {Ch Cg a l : Addr} {H H' : Hp} {s : Wm01.House} (h : HAt Ch Cg H a l s) (e : Same H H') : HAt Ch Cg H' a l s := by
  obtain ⟨dx, n, e1, e2⟩ := h.obj
  exact ⟨⟨dx, n, e1, e _ _ e2⟩, h.lst.same e⟩
/-- behind a call: the house st.1, a new list of st.2 -/
def mth (Ch Cg : Addr) (H : Hp) (a l : Addr) (st : Wm01.House × List Int) (Q : VK) : Prop := ∀ (H' : Hp) (l' q : Addr), HAt Ch Cg H' a l' st.1 → (l' = l ∨ H l' = none) → (∀ b o, H b = some o → b ≠ a → b ≠ l → H' b = some o) → H q = none →
  H' q = some (.lst (st.2.map V.int)) → Q (.ref q) H'
section
variable {P : Program} {w : World} {K : PySem.W.Frag} {mg : Str → Option Value} {base : Heap} {Cg Ch : Addr}
/-! ### names_fit -/
def spFit : Sp := fun vs H Q _ => ∃ a b r : Nat, vs = [.int a, .int b, .int r] ∧ Q (.bl (Wm01.isTriple a b r)) H
theorem scFit : FnScope ["giver", "taker", "right"] ["giver", "taker", "right"] (defScope sNamesFit) := ⟨rfl, rfl, rfl, by decide +kernel, rfl, by decide +kernel, by decide +kernel⟩
theorem ok_fit (F : Df K mg "names_fit" sNamesFit ["giver", "taker", "right"]) (T : Txt K mg Cg) (OU : Ok P w K mg base 1 "is_user" ["user"] spIsUser) (OR : Ok P w K mg base 1 "is_right" ["right"] spIsRight) : Ok P w K mg base 2 "names_fit" ["giver", "taker", "right"] spFit := by
  obtain ⟨fu, fdu, mu, ku, bu, Gu⟩ := OU.ex
  obtain ⟨fr, fdr, mr, kr, br, Gr⟩ := OR.ex
  obtain ⟨t, ht⟩ := T.lastUser
  refine F.ok scFit (fun vs H Q E h => ?_) (fun f cdv A outer s H vs Q E hr h => ?_)
  · obtain ⟨a, b, r, rfl, _⟩ := h
    rfl
  · obtain ⟨a, b, r, rfl, k⟩ := h
    refine ⟨_, pss_one (ps_ret (pe_and (pe_cmpR op_le (pv 0) (pe_glob (v := .int 12) (by rfl) ht ⟨_, rfl⟩) (nomark _)) (pe_and (pe_call Gu hr rfl mu ku bu .nil pass0 (pa_cons (pv 1) pa_nil)) (pe_and (pe_call Gr hr rfl mr kr br .nil pass0 (pa_cons (pv 2) pa_nil)) (pe_one (pe_cmpR op_ne (pv 0) (pv 1) (nomark _))))))), ?_⟩
    unfold Wm01.isTriple at k
    refine ⟨_, rfl, _, _, rfl, rfl, _, rfl, ?_⟩
    by_cases c : a ≤ 12
    · rw [decide_eq_true c] at k
      refine if_t (decide_eq_true (by omega)) ⟨_, rfl, b, rfl, _, rfl, ?_⟩
      cases c2 : Wm01.isUser b with
      | false =>
        rw [c2] at k
        exact iteF k
      | true =>
        rw [c2] at k
        refine iteT ⟨_, rfl, r, rfl, _, rfl, ?_⟩
        cases c3 : Wm01.isRight r with
        | false =>
          rw [c3] at k
          exact iteF k
        | true =>
          rw [c3] at k
          refine iteT ⟨_, rfl, _, rfl, rfl, ?_⟩
          rw [v_eq]
          exact k
    · rw [decide_eq_false c] at k
      exact if_f (decide_eq_false (by omega)) k
/-! ### House() -/
def spHouseInit (Ch Cg : Addr) : Sp := fun vs H Q _ => ∃ (p dx : Addr), vs = [.ref p] ∧ H p = some (.ins Ch dx []) ∧ ∀ (H' : Hp) (l : Addr), HAt Ch Cg H' p l Wm01.init → H l = none → (∀ b o, H b = some o → b ≠ p → H' b = some o) → Q .non H'
theorem scHouseInit : FnScope ["self"] ["self"] (defScope sHouseInit) := ⟨rfl, rfl, rfl, by decide +kernel, rfl, by decide +kernel, by decide +kernel⟩
theorem ok_house_init {f : Addr} {fd : FuncData} (F : Fun K "__init__" "House.__init__" sHouseInit f fd) (T : TxtH K mg Ch) : FnOk P w K mg base CX0 1 f fd ["self"] (spHouseInit Ch Cg) := by
  refine F.ok scHouseInit (fun vs H Q E h => ?_) (fun cdv A outer s H vs Q E hr h => ?_)
  · obtain ⟨p, dx, rfl, _⟩ := h
    rfl
  · obtain ⟨p, dx, rfl, hp, k⟩ := h
    refine ⟨_, pss_cons (ps_fld (pv 0) (pe_lst pa_nil) rfl) (pss_one (ps_fld (pv 0) pe_int rfl)), ?_⟩
    refine ⟨Nat.zero_le _, fun l hl => ?_⟩
    have npl : p ≠ l := ne_of_none hp hl
    refine ⟨_, rfl, p, Ch, dx, [], rfl, (by rw [upd_ne npl]; exact hp), T.cl, T.nStanding, (by show 0 < 1000; decide), ?_⟩
    refine ⟨_, rfl, p, Ch, dx, _, rfl, upd_same, T.cl, T.nLast, (by show 1 < 1000; decide), ?_⟩
    refine k _ l ⟨⟨dx, 0, rfl, ?_⟩, LG.nil ?_⟩ hl fun b o e hb => ?_
    · exact Eq.trans upd_same (congrArg (fun q => some (HO.ins Ch dx q)) ((put_past (by decide +kernel)).trans rfl))
    · rw [upd_ne (fun z => npl z.symm), upd_ne (fun z => npl z.symm), upd_same]
    · rw [upd_ne hb, upd_ne hb, upd_ne (ne_of_none e hl)]
      exact e
/-! ### House.keep -/
def spKeep (Ch Cg : Addr) : Sp := fun vs H Q _ => ∃ (a l k : Addr) (s : Wm01.House) (m : List G), vs = [.ref a, .ref k] ∧ HAt Ch Cg H a l s ∧ LG Cg H k m ∧
  ∀ H' : Hp, HAt Ch Cg H' a k { s with grants := m } → (∀ b o, H b = some o → b ≠ a → H' b = some o) → Q (.int ((s.grants.length : Int) - (m.length : Int))) H'
theorem LG.not {C q a : Addr} {H : Hp} {gs : List G} {o : HO} (h : LG C H q gs) (e : H a = some o) (ne : ∀ xs, o ≠ .lst xs) : q ≠ a := by
  obtain ⟨ps, _, hl, _⟩ := h
  intro z
  rw [z, e] at hl
  exact ne _ (Option.some.inj hl)
theorem LG.upd {C q a : Addr} {H : Hp} {gs : List G} {o o' : HO} (h : LG C H q gs) (nq : q ≠ a) (e : H a = some o) (ne : ∀ dx fs, o ≠ .ins C dx fs) : LG C (upd H a o') q gs := by
  obtain ⟨ps, e1, hl, k⟩ := h
  refine ⟨ps, e1, by rw [upd_ne nq]; exact hl, fun p hp => ?_⟩
  obtain ⟨dx, hg⟩ := k p hp
  refine ⟨dx, ?_⟩
  rw [upd_ne]
  · exact hg
  · intro z
    rw [z, e] at hg
    exact ne _ _ (Option.some.inj hg)
theorem scKeep : FnScope ["self", "kept", "fewer"] ["self", "kept"] (defScope sKeep) := ⟨rfl, rfl, rfl, by decide +kernel, rfl, by decide +kernel, by decide +kernel⟩
theorem ok_keep (F : Md K Ch "keep" "House.keep" sKeep ["self", "kept"]) (T : Txt K mg Cg) (TH : TxtH K mg Ch) (hC : Ch ≠ Cg) : Mt P w K mg base 1 Ch "keep" ["self", "kept"] (spKeep Ch Cg) := by
  refine F.ok scKeep (fun vs H Q E h => ?_) (fun f cdv A outer s H vs Q E hr h => ?_)
  · obtain ⟨a, l, k, s, m, rfl, _⟩ := h
    rfl
  · obtain ⟨a, l, k, s, m, rfl, hH, hk, q⟩ := h
    obtain ⟨dx, n, en, ho⟩ := hH.obj
    obtain ⟨xs, hxs, lx, _⟩ := hH.lst.item
    obtain ⟨ys, hys, ly, _⟩ := hk.item
    refine ⟨_, pss_cons (ps_set (i := 2) scKeep.nd rfl (Or.inl rfl) (pe_op op_sub (pe_callB call_len_seq (by rfl) T.len PySem.boot_len (pa_cons (pe_fld (pv 0) rfl) pa_nil)) (pe_callB call_len_seq (by rfl) T.len PySem.boot_len (pa_cons (pv 1) pa_nil))))
      (pss_cons (ps_fld (pv 0) (pv 1) rfl) (pss_one (ps_ret (pv 2)))), ?_⟩
    refine ⟨_, rfl, a, Ch, dx, _, _, rfl, ho, TH.cl, TH.nStanding, hF_standing l n, l, xs, rfl, .inl (SqL.of hxs), _, rfl, k, ys, rfl, .inl (SqL.of hys), _, _, rfl, rfl, ?_⟩
    refine ⟨_, rfl, _, rfl, a, Ch, dx, _, rfl, ho, TH.cl, TH.nStanding, (by show 2 < 1000; decide), _, rfl, ?_⟩
    rw [lx, ly]
    refine q _ ⟨⟨dx, n, en, Eq.trans upd_same (congrArg (fun q => some (HO.ins Ch dx q)) (hF_put l k n))⟩, hk.upd (hk.not ho (by intro xs z; cases z)) ho (by intro dx' fs z; injection z with z1; exact hC z1)⟩ fun b o e hb => ?_
    rw [upd_ne hb]
    exact e
/-! ### House.refusal_between -/
def spRefusal (Ch Cg : Addr) : Sp := fun vs H Q _ => ∃ (a l : Addr) (s : Wm01.House) (x y r : Nat), vs = [.ref a, .int x, .int y, .int r] ∧ HAt Ch Cg H a l s ∧
  ∀ (H' : Hp) (q : Addr), Same H H' → H q = none → H' q = some (.lst ((if Wm01.isTriple x y r = false then [-1] else if Wm01.anyBy s x y r = false then [-3] else []).map V.int)) → Q (.ref q) H'
theorem any_take (p : G → Bool) : ∀ (l : List G), (∀ g ∈ l, p g = false) → l.any p = false := fun l h => by
  cases c : l.any p with
  | false => rfl
  | true =>
    obtain ⟨g, hg, pg⟩ := List.any_eq_true.mp c
    rw [h g hg] at pg
    cases pg
theorem scRefusal : FnScope ["self", "giver", "taker", "right", "grant"] ["self", "giver", "taker", "right"] (defScope sRefusal) := ⟨rfl, rfl, rfl, by decide +kernel, rfl, by decide +kernel, by decide +kernel⟩
theorem ok_refusal (F : Md K Ch "refusal_between" "House.refusal_between" sRefusal ["self", "giver", "taker", "right"]) (TH : TxtH K mg Ch) (OF : Ok P w K mg base 2 "names_fit" ["giver", "taker", "right"] spFit)
    (OB : Ok P w K mg base 2 "is_between" ["giver", "taker", "right", "grant"] (spIsBetween Cg)) : Mt P w K mg base 3 Ch "refusal_between" ["self", "giver", "taker", "right"] (spRefusal Ch Cg) := by
  obtain ⟨ff, fdf, mf, kf, bf, Gf⟩ := OF.ex
  obtain ⟨fb, fdb, mb, kb, bb, Gb⟩ := OB.ex
  obtain ⟨t1, ht1⟩ := TH.notFit
  obtain ⟨t2, ht2⟩ := TH.noGrant
  refine F.ok scRefusal (fun vs H Q E h => ?_) (fun f cdv A outer s H vs Q E hr h => ?_)
  · obtain ⟨a, l, s, x, y, r, rfl, _⟩ := h
    rfl
  · obtain ⟨a, l, s, x, y, r, rfl, hH, k⟩ := h
    obtain ⟨dx, n, en, ho⟩ := hH.obj
    obtain ⟨xs, hxs, lx, item⟩ := hH.lst.item
    refine ⟨_, pss_cons (ps_if (pt_not (pt_val (pe_call Gf hr rfl mf kf bf .nil pass0 (pa_cons (pv 1) (pa_cons (pv 2) (pa_cons (pv 3) pa_nil)))))) (pss_one (ps_ret (pe_lst (pa_cons (pe_glob (v := .int (-1)) (by rfl) ht1 ⟨_, rfl⟩) pa_nil)))) pss_nil)
      (pss_cons (ps_for PassesOwn.never rfl (pi_list (pe_fld (pv 0) rfl)) (pg_name (i := 4) scRefusal.nd rfl (Or.inl rfl))
        (pss_one (ps_if (pt_val (pe_call Gb hr rfl mb kb bb .nil pass0 (pa_cons (pv 1) (pa_cons (pv 2) (pa_cons (pv 3) (pa_cons (pv 4) pa_nil)))))) (pss_one (ps_ret (pe_lst pa_nil))) pss_nil)))
      (pss_one (ps_ret (pe_lst (pa_cons (pe_glob (v := .int (-3)) (by rfl) ht2 ⟨_, rfl⟩) pa_nil))))), ?_⟩
    refine ⟨_, rfl, _, rfl, _, rfl, x, y, r, rfl, _, rfl, ?_⟩
    cases c : Wm01.isTriple x y r with
    | false =>
      refine iteT ⟨by show 1 ≤ sizeLine; decide, fun q hq => k _ q (same_new hq) hq ?_⟩
      rw [upd_same, c, if_pos rfl]
      rfl
    | true =>
      refine iteF ⟨_, rfl, a, Ch, dx, _, _, rfl, ho, TH.cl, TH.nStanding, hF_standing l n, l, rfl, ⟨_, SqL.of hxs⟩, for_list (K := K) (a := l) (xs := xs) (fun i σ H' => ∃ v : Option V, σ = [some (.ref a), some (.int x), some (.int y), some (.int r), v] ∧ H' = H ∧ ∀ g ∈ s.grants.take i, Wm01.by_ x y r g = false)
        ⟨none, rfl, rfl, fun g hg => by simp at hg⟩ (fun i σ H' _ ⟨_, _, e, _⟩ => by rw [e]; exact SqL.of hxs) ?_ ?_⟩
      · rintro i z σ H' hi ⟨v, rfl, rfl, hno⟩
        obtain ⟨z, g, rfl, hg, gi, tk⟩ := item i z hi
        refine ⟨_, rfl, _, rfl, _, rfl, _, rfl, x, y, r, z, g, rfl, hg, _, rfl, ?_⟩
        cases c2 : Wm01.by_ x y r g with
        | true =>
          refine iteT ⟨Nat.zero_le _, fun q hq => k _ q (same_new hq) hq ?_⟩
          have an : Wm01.anyBy s x y r = true := List.any_eq_true.mpr ⟨g, List.mem_of_getElem? gi, c2⟩
          rw [upd_same, c, an]
          rfl
        | false =>
          refine iteF ⟨some (.ref z), rfl, rfl, fun g' hg' => ?_⟩
          rw [tk] at hg'
          rcases List.mem_append.mp hg' with m | m
          · exact hno g' m
          · rw [List.mem_singleton.mp m]
            exact c2
      · rintro σ H' ⟨v, rfl, rfl, hno⟩
        rw [lx, List.take_length] at hno
        have an : Wm01.anyBy s x y r = false := any_take _ _ hno
        refine ⟨by show 1 ≤ sizeLine; decide, fun q hq => k _ q (same_new hq) hq ?_⟩
        rw [upd_same, c, an]
        rfl
/-! ### counted -/
def spCounted : Sp := fun vs H Q _ => ∃ (l : Addr) (ns : List Nat), vs = [.ref l] ∧ LN H l ns ∧ ns.length ≤ 10000 ∧ newN H (ns.length :: ns) Q
theorem scCounted : FnScope ["numbers"] ["numbers"] (defScope sCounted) := ⟨rfl, rfl, rfl, by decide +kernel, rfl, by decide +kernel, by decide +kernel⟩
theorem ok_counted (F : Df K mg "counted" sCounted ["numbers"]) (T : Txt K mg Cg) : Ok P w K mg base 1 "counted" ["numbers"] spCounted := by
  refine F.ok scCounted (fun vs H Q E h => ?_) (fun f cdv A outer s H vs Q E hr h => ?_)
  · obtain ⟨l, ns, rfl, _⟩ := h
    rfl
  · obtain ⟨l, ns, rfl, hl, len, k⟩ := h
    refine ⟨_, pss_one (ps_ret (pe_op op_cat (pe_lst (pa_cons (pe_callB call_len_seq (by rfl) T.len PySem.boot_len (pa_cons (pv 0) pa_nil)) pa_nil)) (pv 0))), ?_⟩
    refine ⟨_, rfl, l, _, rfl, .inl (SqL.of hl), by show 1 ≤ sizeLine; decide, fun p hp => ⟨_, rfl, p, l, _, _, rfl, rfl, upd_same, (same_new hp) _ _ hl, ?_, fun p2 hp2 => k _ p2 ((same_new hp).trans (same_new hp2)) ((same_new hp).free hp2) ?_⟩⟩
    · rw [List.length_map]
      have : (20000 : Nat) < sizeLine := by decide
      show 1 + _ ≤ _
      omega
    · unfold LN
      rw [upd_same, List.map_cons, List.length_map]
      rfl
/-! ### House.refusal_without -/
def refW (s : Wm01.House) (u r : Nat) : List Int := if Wm01.isUser u = false ∨ Wm01.isRight r = false then [-1] else if Wm01.has s.grants u r = 0 then [-3] else []
def spRefusalW (Ch Cg : Addr) : Sp := fun vs H Q _ => ∃ (a l : Addr) (s : Wm01.House) (u r : Nat), vs = [.ref a, .int u, .int r] ∧ HAt Ch Cg H a l s ∧ s.grants.length ≤ 1000 ∧
  ∀ (H' : Hp) (q : Addr), Same H H' → H q = none → H' q = some (.lst ((refW s u r).map V.int)) → Q (.ref q) H'
theorem user_ne {u : Nat} (h : Wm01.isUser u = true) : u ≠ 0 := by
  unfold Wm01.isUser at h
  simp only [Bool.and_eq_true, decide_eq_true_eq] at h
  omega
theorem scRefusalW : FnScope ["self", "user", "right"] ["self", "user", "right"] (defScope sRefusalW) := ⟨rfl, rfl, rfl, by decide +kernel, rfl, by decide +kernel, by decide +kernel⟩
theorem ok_refusalW (F : Md K Ch "refusal_without" "House.refusal_without" sRefusalW ["self", "user", "right"]) (TH : TxtH K mg Ch) (OU : Ok P w K mg base 2 "is_user" ["user"] spIsUser) (OR : Ok P w K mg base 2 "is_right" ["right"] spIsRight)
    (OH : Ok P w K mg base 2 "what_user_has" ["user", "right", "grants"] (spHas Cg)) : Mt P w K mg base 3 Ch "refusal_without" ["self", "user", "right"] (spRefusalW Ch Cg) := by
  obtain ⟨fu, fdu, mu, ku, bu, Gu⟩ := OU.ex
  obtain ⟨fr, fdr, mr, kr, br, Gr⟩ := OR.ex
  obtain ⟨fh, fdh, mh, kh, bh, Gh⟩ := OH.ex
  obtain ⟨t1, ht1⟩ := TH.notFit
  obtain ⟨t3, ht3⟩ := TH.noGrant
  refine F.ok scRefusalW (fun vs H Q E h => ?_) (fun f cdv A outer s H vs Q E hr h => ?_)
  · obtain ⟨a, l, s, u, r, rfl, _⟩ := h
    rfl
  · obtain ⟨a, l, s, u, r, rfl, hH, len, k⟩ := h
    obtain ⟨dx, n, en, ho⟩ := hH.obj
    refine ⟨_, pss_cons (ps_if (PW.pt (pw_or (pt_not (pt_val (pe_call Gu hr rfl mu ku bu .nil pass0 (pa_cons (pv 1) pa_nil)))) (pw_or1 (pt_not (pt_val (pe_call Gr hr rfl mr kr br .nil pass0 (pa_cons (pv 2) pa_nil)))))))
        (pss_one (ps_ret (pe_lst (pa_cons (pe_glob (v := .int (-1)) (by rfl) ht1 ⟨_, rfl⟩) pa_nil)))) pss_nil)
      (pss_cons (ps_if (pt_cmpR op_eq (pe_call Gh hr rfl mh kh bh .nil pass0 (pa_cons (pv 1) (pa_cons (pv 2) (pa_cons (pe_fld (pv 0) rfl) pa_nil)))) pe_int (nomark _))
        (pss_one (ps_ret (pe_lst (pa_cons (pe_glob (v := .int (-3)) (by rfl) ht3 ⟨_, rfl⟩) pa_nil)))) pss_nil)
      (pss_one (ps_ret (pe_lst pa_nil)))), ?_⟩
    unfold refW at k
    refine ⟨_, rfl, u, rfl, _, rfl, ?_⟩
    cases c : Wm01.isUser u with
    | false =>
      rw [if_pos (.inl c)] at k
      exact iteT (iteT ⟨by show 1 ≤ sizeLine; decide, fun z hz => k _ z (same_new hz) hz upd_same⟩)
    | true =>
      refine iteF ⟨_, rfl, r, rfl, _, rfl, ?_⟩
      cases c2 : Wm01.isRight r with
      | false =>
        rw [if_pos (.inr c2)] at k
        exact iteT ⟨by show 1 ≤ sizeLine; decide, fun z hz => k _ z (same_new hz) hz upd_same⟩
      | true =>
        have ew : Wm01.has s.grants u r = wh s.grants u r := (hv_has s.grants r (user_ne c)).symm
        rw [if_neg (by rw [c, c2]; decide), ew] at k
        refine iteF ⟨_, rfl, _, rfl, _, rfl, a, Ch, dx, _, _, rfl, ho, TH.cl, TH.nStanding, hF_standing l n, u, r, l, s.grants, rfl, hH.lst, len, fun H1 s1 => ⟨rfl, _, rfl, ?_⟩⟩
        by_cases c3 : wh s.grants u r = 0
        · rw [if_pos c3] at k
          exact if_t (decide_eq_true (by rw [c3]; rfl)) ⟨by show 1 ≤ sizeLine; decide, fun z hz => k _ z (s1.trans (same_new hz)) (s1.free hz) upd_same⟩
        · rw [if_neg c3] at k
          exact if_f (decide_eq_false (by intro z; injection z with z; omega)) ⟨Nat.zero_le _, fun z hz => k _ z (s1.trans (same_new hz)) (s1.free hz) upd_same⟩
end
end Gb
namespace Gb
open PySem PySem.Spec PyProof.Rows L2
theorem ne_list {K : PySem.W.Frag} {H : Hp} {q p : Addr} {Q : VK} {zs : List Int} (hz : zs = [] ∨ ∃ z, zs = [z]) (h : H q = some (.lst (zs.map V.int))) (hp : H p = none) (k : Q (.bl (decide (zs ≠ []))) (upd H p (.lst []))) : rNeD K (.ref q) (.ref p) (upd H p (.lst [])) Q := by
  have h1 : upd H p (.lst []) q = some (.lst (zs.map V.int)) := by
    rw [upd_ne (ne_of_none h hp)]
    exact h
  rcases hz with rfl | ⟨z, rfl⟩
  · exact ⟨.list [], .list [], .lst (SqL.of h1) .nil, .lst (SqL.of upd_same) .nil, rfl, rfl, k⟩
  · exact ⟨.list [.int z], .list [], .lst (SqL.of h1) (.cons (.int z) .nil), .lst (SqL.of upd_same) .nil, rfl, rfl, k⟩
theorem fewer {m n : Nat} (h : n ≤ m) : V.int ((m : Int) - (n : Int)) = V.int ((m - n : Nat) : Int) := by
  congr 1
  omega
/-- what every call of three names begins with -/
structure Three (s : Wm01.House) (x y r : Nat) : Prop where
  t : Wm01.isTriple x y r = true
  a : Wm01.anyBy s x y r = true
section
variable {P : Program} {w : World} {K : PySem.W.Frag} {mg : Str → Option Value} {base : Heap} {Cg Ch : Addr}
/-- what is asked of a house that is called -/
structure HAsk (Ch Cg : Addr) (H : Hp) (a l : Addr) (s : Wm01.House) : Prop where
  at_ : HAt Ch Cg H a l s
  inv : HInv s
  few : s.next ≤ 1000
theorem HAsk.len {Ch Cg a l : Addr} {H : Hp} {s : Wm01.House} (h : HAsk Ch Cg H a l s) : s.grants.length ≤ 1000 := Nat.le_of_lt (Nat.lt_of_lt_of_le h.inv.len h.few)
/-- nothing is changed -/
theorem mth.stay {H H' : Hp} {a l q : Addr} {s : Wm01.House} {zs : List Int} {Q : VK} (k : mth Ch Cg H a l (s, zs) Q) (h : HAt Ch Cg H a l s) (e : Same H H') (hq : H q = none) (hl : H' q = some (.lst (zs.map V.int))) : Q (.ref q) H' :=
  k H' l q (h.same e) (.inl rfl) (fun b o hb _ _ => e b o hb) hq hl
/-- a new list of grants has taken the place of the old one -/
theorem mth.kept {H H4 : Hp} {a l q3 z : Addr} {st : Wm01.House × List Int} {Q : VK} (k : mth Ch Cg H a l st Q) (h4 : HAt Ch Cg H4 a q3 st.1) (hq3 : H q3 = none) (kp : ∀ b o, H b = some o → b ≠ a → H4 b = some o) (hz : H4 z = none) : Q (.ref z) (upd H4 z (.lst (st.2.map V.int))) := by
  have hza : H z = none := by
    cases e : H z with
    | none => rfl
    | some o =>
      by_cases ea : z = a
      · obtain ⟨dx4, n4, _, ho4⟩ := h4.obj
        rw [ea, ho4] at hz
        cases hz
      · rw [kp z o e ea] at hz
        cases hz
  exact k _ q3 z (h4.same (same_new hz)) (.inr hq3) (fun b o e hb _ => (same_new hz) _ _ (kp b o e hb)) hza upd_same
def spThree (Ch Cg : Addr) (c : Nat → Nat → Nat → Wm01.Call) : Sp := fun vs H Q _ => ∃ (a l : Addr) (s : Wm01.House) (x y r : Nat), vs = [.ref a, .int x, .int y, .int r] ∧ HAsk Ch Cg H a l s ∧ mth Ch Cg H a l (Wm01.step s (c x y r)) Q
/-! ### revoke -/
theorem scRevoke : FnScope ["self", "giver", "taker", "right", "refusal"] ["self", "giver", "taker", "right"] (defScope sRevoke) := ⟨rfl, rfl, rfl, by decide +kernel, rfl, by decide +kernel, by decide +kernel⟩
theorem ok_revoke (F : Md K Ch "revoke" "House.revoke" sRevoke ["self", "giver", "taker", "right"]) (TH : TxtH K mg Ch) (OR : Mt P w K mg base 5 Ch "refusal_between" ["self", "giver", "taker", "right"] (spRefusal Ch Cg)) (OK : Mt P w K mg base 5 Ch "keep" ["self", "kept"] (spKeep Ch Cg))
    (OT : Ok P w K mg base 5 "taken_back" ["giver", "taker", "right", "grants"] (spTakenBack Cg)) : Mt P w K mg base 6 Ch "revoke" ["self", "giver", "taker", "right"] (spThree Ch Cg .revoke) := by
  obtain ⟨fr, fdr, mr, br, Gr⟩ := OR.ex
  obtain ⟨fk, fdk, mk, bk, Gk⟩ := OK.ex
  obtain ⟨ft, fdt, mt, kt, bt, Gt⟩ := OT.ex
  refine F.ok scRevoke (fun vs H Q E h => ?_) (fun f cdv A outer s H vs Q E hr h => ?_)
  · obtain ⟨a, l, s, x, y, r, rfl, _⟩ := h
    rfl
  · obtain ⟨a, l, s, x, y, r, rfl, hH, k⟩ := h
    obtain ⟨dx, n, en, ho⟩ := hH.at_.obj
    refine ⟨_, pss_cons (ps_set (i := 4) scRevoke.nd rfl (Or.inl rfl) (pe_meth (pv 0) TH.cl mr Gr hr br .nil pass0 (pa_cons (pv 1) (pa_cons (pv 2) (pa_cons (pv 3) pa_nil)))))
      (pss_cons (ps_if (pt_cmpR (op_neD hr.units) (pv 4) (pe_lst pa_nil) (nomark _)) (pss_one (ps_ret (pv 4))) pss_nil)
      (pss_one (ps_ret (pe_lst (pa_cons (pe_meth (pv 0) TH.cl mk Gk hr bk .nil pass0 (pa_cons (pe_call Gt hr rfl mt kt bt .nil pass0 (pa_cons (pv 1) (pa_cons (pv 2) (pa_cons (pv 3) (pa_cons (pe_fld (pv 0) rfl) pa_nil))))) pa_nil)) pa_nil))))), ?_⟩
    refine ⟨_, rfl, a, dx, _, rfl, ho, hF_no _ _ (by decide +kernel) (by decide +kernel), _, rfl, _, rfl, _, rfl, a, l, s, x, y, r, rfl, hH.at_, fun H1 q s1 hq h1 => ?_⟩
    refine ⟨_, rfl, Nat.zero_le _, fun p hp => ne_list ?_ h1 hp ⟨_, rfl, ?_⟩⟩
    · split
      · exact .inr ⟨_, rfl⟩
      · split
        · exact .inr ⟨_, rfl⟩
        · exact .inl rfl
    have s2 : Same H (upd H1 p (.lst [])) := s1.trans (same_new hp)
    have hq2 : upd H1 p (.lst []) q = some (.lst (_ : List V)) := (same_new hp) _ _ h1
    have st : Wm01.step s (.revoke x y r) = if Wm01.isTriple x y r = false then (s, [-1]) else if Wm01.anyBy s x y r = false then (s, [-3]) else ({ s with grants := Wm01.revoked s.grants x y r }, Wm01.ints [s.grants.length - (Wm01.revoked s.grants x y r).length]) := rfl
    rw [st] at k
    cases c : Wm01.isTriple x y r with
    | false =>
      rw [c] at hq2 k
      exact iteT ⟨_, rfl, k.stay hH.at_ s2 hq hq2⟩
    | true =>
      cases c2 : Wm01.anyBy s x y r with
      | false =>
        rw [c, c2] at hq2 k
        exact iteT ⟨_, rfl, k.stay hH.at_ s2 hq hq2⟩
      | true =>
        rw [c, c2] at k
        have h2 := hH.at_.same s2
        obtain ⟨dx, n, en, ho⟩ := h2.obj
        refine iteF ⟨_, rfl, a, dx, _, rfl, ho, hF_no _ _ (by decide +kernel) (by decide +kernel), _, rfl, _, rfl, _, rfl, _, rfl, a, Ch, dx, _, _, rfl, ho, TH.cl, TH.nStanding, hF_standing l n, x, y, r, l, s.grants, rfl, h2.lst, hH.len, fun H3 q3 s3 hq3 h3 => ?_⟩
        refine ⟨a, l, q3, s, _, rfl, h2.same s3, h3, fun H4 h4 k4 => ⟨by show 1 ≤ sizeLine; decide, fun z hz => ?_⟩⟩
        have le : (Wm01.revoked s.grants x y r).length ≤ s.grants.length := Nat.le_trans (stand_sub _).length_le (List.length_filter_le _ _)
        rw [fewer le]
        have kp : ∀ b o, H b = some o → b ≠ a → H4 b = some o := fun b o e hb => k4 b o (s3 _ _ (s2 _ _ e)) hb
        exact k.kept h4 (s2.free hq3) kp hz
/-! ### over -/
theorem scOver : FnScope ["self", "giver", "taker", "right", "refusal", "kept", "moved"] ["self", "giver", "taker", "right"] (defScope sOver) := ⟨rfl, rfl, rfl, by decide +kernel, rfl, by decide +kernel, by decide +kernel⟩
theorem kept_len (l : List G) (a b r : Nat) : (Wm01.keptOver l a b r).length ≤ l.length := Nat.le_trans (over_len a b r _) (List.length_filter_le _ _)
theorem ok_over (F : Md K Ch "over" "House.over" sOver ["self", "giver", "taker", "right"]) (TH : TxtH K mg Ch) (OR : Mt P w K mg base 5 Ch "refusal_between" ["self", "giver", "taker", "right"] (spRefusal Ch Cg)) (OK : Mt P w K mg base 5 Ch "keep" ["self", "kept"] (spKeep Ch Cg))
    (OT : Ok P w K mg base 5 "taken_over" ["giver", "taker", "right", "grants"] (spTakenOver Cg)) (ON : Ok P w K mg base 5 "how_many_new_givers" ["before", "after"] (spNewGivers Cg)) : Mt P w K mg base 6 Ch "over" ["self", "giver", "taker", "right"] (spThree Ch Cg .over) := by
  obtain ⟨fr, fdr, mr, br, Gr⟩ := OR.ex
  obtain ⟨fk, fdk, mk, bk, Gk⟩ := OK.ex
  obtain ⟨ft, fdt, mt, kt, bt, Gt⟩ := OT.ex
  obtain ⟨fn, fdn, mn, kn, bn, Gn⟩ := ON.ex
  refine F.ok scOver (fun vs H Q E h => ?_) (fun f cdv A outer s H vs Q E hr h => ?_)
  · obtain ⟨a, l, s, x, y, r, rfl, _⟩ := h
    rfl
  · obtain ⟨a, l, s, x, y, r, rfl, hH, k⟩ := h
    obtain ⟨dx, n, en, ho⟩ := hH.at_.obj
    refine ⟨_, pss_cons (ps_set (i := 4) scOver.nd rfl (Or.inl rfl) (pe_meth (pv 0) TH.cl mr Gr hr br .nil pass0 (pa_cons (pv 1) (pa_cons (pv 2) (pa_cons (pv 3) pa_nil)))))
      (pss_cons (ps_if (pt_cmpR (op_neD hr.units) (pv 4) (pe_lst pa_nil) (nomark _)) (pss_one (ps_ret (pv 4))) pss_nil)
      (pss_cons (ps_set (i := 5) scOver.nd rfl (Or.inl rfl) (pe_call Gt hr rfl mt kt bt .nil pass0 (pa_cons (pv 1) (pa_cons (pv 2) (pa_cons (pv 3) (pa_cons (pe_fld (pv 0) rfl) pa_nil))))))
      (pss_cons (ps_set (i := 6) scOver.nd rfl (Or.inl rfl) (pe_call Gn hr rfl mn kn bn .nil pass0 (pa_cons (pe_fld (pv 0) rfl) (pa_cons (pv 5) pa_nil))))
      (pss_one (ps_ret (pe_lst (pa_cons (pe_meth (pv 0) TH.cl mk Gk hr bk .nil pass0 (pa_cons (pv 5) pa_nil)) (pa_cons (pv 6) pa_nil)))))))), ?_⟩
    refine ⟨_, rfl, a, dx, _, rfl, ho, hF_no _ _ (by decide +kernel) (by decide +kernel), _, rfl, _, rfl, _, rfl, a, l, s, x, y, r, rfl, hH.at_, fun H1 q s1 hq h1 => ?_⟩
    refine ⟨_, rfl, Nat.zero_le _, fun p hp => ne_list ?_ h1 hp ⟨_, rfl, ?_⟩⟩
    · split
      · exact .inr ⟨_, rfl⟩
      · split
        · exact .inr ⟨_, rfl⟩
        · exact .inl rfl
    have s2 : Same H (upd H1 p (.lst [])) := s1.trans (same_new hp)
    have hq2 : upd H1 p (.lst []) q = some (.lst (_ : List V)) := (same_new hp) _ _ h1
    have st : Wm01.step s (.over x y r) = if Wm01.isTriple x y r = false then (s, [-1]) else if Wm01.anyBy s x y r = false then (s, [-3]) else ({ s with grants := Wm01.keptOver s.grants x y r }, Wm01.ints [s.grants.length - (Wm01.keptOver s.grants x y r).length, ((Wm01.keptOver s.grants x y r).filter fun g => !s.grants.contains g).length]) := rfl
    rw [st] at k
    cases c : Wm01.isTriple x y r with
    | false =>
      rw [c] at hq2 k
      exact iteT ⟨_, rfl, k.stay hH.at_ s2 hq hq2⟩
    | true =>
      cases c2 : Wm01.anyBy s x y r with
      | false =>
        rw [c, c2] at hq2 k
        exact iteT ⟨_, rfl, k.stay hH.at_ s2 hq hq2⟩
      | true =>
        rw [c, c2] at k
        have h2 := hH.at_.same s2
        obtain ⟨dx, n, en, ho⟩ := h2.obj
        have ne : x ≠ y := (isTriple_iff.mp c).2.2.2
        have le := kept_len s.grants x y r
        refine iteF ⟨_, rfl, _, rfl, _, rfl, _, rfl, a, Ch, dx, _, _, rfl, ho, TH.cl, TH.nStanding, hF_standing l n, x, y, r, l, s.grants, rfl, h2.lst, hH.len, fun H3 q3 s3 hq3 h3 => ?_⟩
        refine ⟨_, rfl, a, Ch, dx, _, _, rfl, s3 _ _ ho, TH.cl, TH.nStanding, hF_standing l n, _, rfl, l, q3, s.grants, _, fun g => !s.grants.contains g, rfl, h2.lst.same s3, h3, hH.len, Nat.le_trans le hH.len, hH.inv.up, fun g hg => kept_giver hH.inv.up ne hg, fun H4 s4 => ?_⟩
        refine ⟨_, rfl, a, dx, _, rfl, s4 _ _ (s3 _ _ ho), hF_no _ _ (by decide +kernel) (by decide +kernel), _, rfl, a, l, q3, s, _, rfl, h2.same (s3.trans s4), h3.same s4, fun H5 h5 k5 => ⟨_, rfl, by show 2 ≤ sizeLine; decide, fun z hz => ?_⟩⟩
        rw [fewer le]
        exact k.kept h5 (s2.free hq3) (fun b o e hb => k5 b o (s4 _ _ (s3 _ _ (s2 _ _ e))) hb) hz
/-! ### careful -/
theorem scCareful : FnScope ["self", "giver", "taker", "right", "refusal", "kept", "user"] ["self", "giver", "taker", "right"] (defScope sCareful) := ⟨rfl, rfl, rfl, by decide +kernel, rfl, by decide +kernel, by decide +kernel⟩
theorem ok_careful (F : Md K Ch "careful" "House.careful" sCareful ["self", "giver", "taker", "right"]) (TH : TxtH K mg Ch) (OR : Mt P w K mg base 5 Ch "refusal_between" ["self", "giver", "taker", "right"] (spRefusal Ch Cg)) (OK : Mt P w K mg base 5 Ch "keep" ["self", "kept"] (spKeep Ch Cg))
    (OT : Ok P w K mg base 5 "taken_back" ["giver", "taker", "right", "grants"] (spTakenBack Cg)) (OL : Ok P w K mg base 5 "users_with_less" ["right", "before", "after"] (spLess Cg)) : Mt P w K mg base 6 Ch "careful" ["self", "giver", "taker", "right"] (spThree Ch Cg .careful) := by
  obtain ⟨fr, fdr, mr, br, Gr⟩ := OR.ex
  obtain ⟨fk, fdk, mk, bk, Gk⟩ := OK.ex
  obtain ⟨ft, fdt, mt, kt, bt, Gt⟩ := OT.ex
  obtain ⟨fn, fdn, mn, kn, bn, Gn⟩ := OL.ex
  obtain ⟨t6, ht6⟩ := TH.notAllowed
  refine F.ok scCareful (fun vs H Q E h => ?_) (fun f cdv A outer s H vs Q E hr h => ?_)
  · obtain ⟨a, l, s, x, y, r, rfl, _⟩ := h
    rfl
  · obtain ⟨a, l, s, x, y, r, rfl, hH, k⟩ := h
    obtain ⟨dx, n, en, ho⟩ := hH.at_.obj
    refine ⟨_, pss_cons (ps_set (i := 4) scCareful.nd rfl (Or.inl rfl) (pe_meth (pv 0) TH.cl mr Gr hr br .nil pass0 (pa_cons (pv 1) (pa_cons (pv 2) (pa_cons (pv 3) pa_nil)))))
      (pss_cons (ps_if (pt_cmpR (op_neD hr.units) (pv 4) (pe_lst pa_nil) (nomark _)) (pss_one (ps_ret (pv 4))) pss_nil)
      (pss_cons (ps_set (i := 5) scCareful.nd rfl (Or.inl rfl) (pe_call Gt hr rfl mt kt bt .nil pass0 (pa_cons (pv 1) (pa_cons (pv 2) (pa_cons (pv 3) (pa_cons (pe_fld (pv 0) rfl) pa_nil))))))
      (pss_cons (ps_for PassesOwn.never rfl (pi_list (pe_call Gn hr rfl mn kn bn .nil pass0 (pa_cons (pv 3) (pa_cons (pe_fld (pv 0) rfl) (pa_cons (pv 5) pa_nil))))) (pg_name (i := 6) scCareful.nd rfl (Or.inl rfl))
        (pss_one (ps_if (pt_cmpR op_ne (pv 6) (pv 2) (nomark _)) (pss_one (ps_ret (pe_lst (pa_cons (pe_glob (v := .int (-6)) (by rfl) ht6 ⟨_, rfl⟩) pa_nil)))) pss_nil)))
      (pss_one (ps_ret (pe_lst (pa_cons (pe_meth (pv 0) TH.cl mk Gk hr bk .nil pass0 (pa_cons (pv 5) pa_nil)) pa_nil))))))), ?_⟩
    refine ⟨_, rfl, a, dx, _, rfl, ho, hF_no _ _ (by decide +kernel) (by decide +kernel), _, rfl, _, rfl, _, rfl, a, l, s, x, y, r, rfl, hH.at_, fun H1 q s1 hq h1 => ?_⟩
    refine ⟨_, rfl, Nat.zero_le _, fun p hp => ne_list ?_ h1 hp ⟨_, rfl, ?_⟩⟩
    · split
      · exact .inr ⟨_, rfl⟩
      · split
        · exact .inr ⟨_, rfl⟩
        · exact .inl rfl
    have s2 : Same H (upd H1 p (.lst [])) := s1.trans (same_new hp)
    have hq2 : upd H1 p (.lst []) q = some (.lst (_ : List V)) := (same_new hp) _ _ h1
    have st : Wm01.step s (.careful x y r) = if Wm01.isTriple x y r = false then (s, [-1]) else if Wm01.anyBy s x y r = false then (s, [-3]) else
      if (Wm01.losers s.grants (Wm01.revoked s.grants x y r) r).all (fun u => u == y) = false then (s, [-6]) else ({ s with grants := Wm01.revoked s.grants x y r }, Wm01.ints [s.grants.length - (Wm01.revoked s.grants x y r).length]) := rfl
    rw [st] at k
    cases c : Wm01.isTriple x y r with
    | false =>
      rw [c] at hq2 k
      exact iteT ⟨_, rfl, k.stay hH.at_ s2 hq hq2⟩
    | true =>
      cases c2 : Wm01.anyBy s x y r with
      | false =>
        rw [c, c2] at hq2 k
        exact iteT ⟨_, rfl, k.stay hH.at_ s2 hq hq2⟩
      | true =>
        rw [c, c2, if_neg (by decide), if_neg (by decide)] at k
        have h2 := hH.at_.same s2
        obtain ⟨dx, n, en, ho⟩ := h2.obj
        have le : (Wm01.revoked s.grants x y r).length ≤ s.grants.length := Nat.le_trans (stand_sub _).length_le (List.length_filter_le _ _)
        refine iteF ⟨_, rfl, _, rfl, _, rfl, _, rfl, a, Ch, dx, _, _, rfl, ho, TH.cl, TH.nStanding, hF_standing l n, x, y, r, l, s.grants, rfl, h2.lst, hH.len, fun H3 q3 s3 hq3 h3 => ?_⟩
        refine ⟨_, rfl, _, rfl, a, Ch, dx, _, _, rfl, s3 _ _ ho, TH.cl, TH.nStanding, hF_standing l n, _, rfl, r, l, q3, s.grants, _, rfl, h2.lst.same s3, h3, hH.len, Nat.le_trans le hH.len, fun H4 q4 s4 hq4 h4 => ?_⟩
        have s5 : Same H H4 := (s2.trans s3).trans s4
        generalize e : Wm01.losers s.grants (Wm01.revoked s.grants x y r) r = lo at k h4
        refine ⟨q4, rfl, ⟨_, SqL.of h4⟩, for_list (K := K) (a := q4) (xs := lo.map fun (n : Nat) => V.int (n : Int)) (fun i σ H' => ∃ v : Option V, σ = [some (.ref a), some (.int x), some (.int y), some (.int r), some (.ref q), some (.ref q3), v] ∧ H' = H4 ∧ (lo.take i).all (fun u => u == y) = true)
          ⟨none, rfl, rfl, rfl⟩ (fun i σ H' _ ⟨_, _, e, _⟩ => by rw [e]; exact SqL.of h4) ?_ ?_⟩
        · rintro i z σ H' hi ⟨v, rfl, rfl, hall⟩
          obtain ⟨u, hu, rfl⟩ : ∃ u, lo[i]? = some u ∧ z = V.int ((u : Nat) : Int) := by
            rw [List.getElem?_map] at hi
            cases e : lo[i]? with
            | none =>
              rw [e] at hi
              cases hi
            | some u =>
              rw [e] at hi
              exact ⟨u, rfl, (Option.some.inj hi).symm⟩
          refine ⟨_, rfl, _, rfl, rfl, _, rfl, ?_⟩
          rw [v_eq]
          cases cu : u == y with
          | true =>
            refine iteF ⟨some (.int (u : Int)), rfl, rfl, ?_⟩
            rw [take_snoc hu, List.all_append, hall]
            show (true && ((u == y) && true)) = true
            rw [cu]
            rfl
          | false =>
            refine iteT ⟨by show 1 ≤ sizeLine; decide, fun z hz => ?_⟩
            have no : lo.all (fun u => u == y) = false := by
              cases ca : lo.all (fun u => u == y) with
              | false => rfl
              | true =>
                have := List.all_eq_true.mp ca u (List.mem_of_getElem? hu)
                rw [cu] at this
                cases this
            rw [if_pos no] at k
            exact k.stay hH.at_ (s5.trans (same_new hz)) (s5.free hz) upd_same
        · rintro σ H' ⟨v, rfl, rfl, hall⟩
          rw [List.length_map, List.take_length] at hall
          rw [if_neg (by rw [hall]; decide)] at k
          refine ⟨_, rfl, a, dx, _, rfl, s4 _ _ (s3 _ _ ho), hF_no _ _ (by decide +kernel) (by decide +kernel), _, rfl, a, l, q3, s, _, rfl, h2.same (s3.trans s4), h3.same s4, fun H5 h5 k5 => ⟨by show 1 ≤ sizeLine; decide, fun z hz => ?_⟩⟩
          rw [fewer le]
          exact k.kept h5 (s2.free hq3) (fun b o e hb => k5 b o (s5 _ _ e) hb) hz
/-! ### leave -/
def spLeave (Ch Cg : Addr) : Sp := fun vs H Q _ => ∃ (a l : Addr) (s : Wm01.House) (u : Nat), vs = [.ref a, .int u] ∧ HAsk Ch Cg H a l s ∧ mth Ch Cg H a l (Wm01.step s (.leave u)) Q
theorem scLeave : FnScope ["self", "user", "others", "grant"] ["self", "user"] (defScope sLeave) := ⟨rfl, rfl, rfl, by decide +kernel, rfl, by decide +kernel, by decide +kernel⟩
theorem ok_leave (F : Md K Ch "leave" "House.leave" sLeave ["self", "user"]) (T : Txt K mg Cg) (TH : TxtH K mg Ch) (OU : Ok P w K mg base 5 "is_user" ["user"] spIsUser) (OK : Mt P w K mg base 5 Ch "keep" ["self", "kept"] (spKeep Ch Cg))
    (OS : Ok P w K mg base 5 "what_stands" ["grants"] (spStands Cg)) : Mt P w K mg base 6 Ch "leave" ["self", "user"] (spLeave Ch Cg) := by
  obtain ⟨fu, fdu, mu, ku, bu, Gu⟩ := OU.ex
  obtain ⟨fk, fdk, mk, bk, Gk⟩ := OK.ex
  obtain ⟨ft, fdt, mt, kt, bt, Gt⟩ := OS.ex
  obtain ⟨t1, ht1⟩ := TH.notFit
  refine F.ok scLeave (fun vs H Q E h => ?_) (fun f cdv A outer s H vs Q E hr h => ?_)
  · obtain ⟨a, l, s, u, rfl, _⟩ := h
    rfl
  · obtain ⟨a, l, s, u, rfl, hH, k⟩ := h
    obtain ⟨dx, n, en, ho⟩ := hH.at_.obj
    refine ⟨_, pss_cons (ps_if (pt_not (pt_val (pe_call Gu hr rfl mu ku bu .nil pass0 (pa_cons (pv 1) pa_nil)))) (pss_one (ps_ret (pe_lst (pa_cons (pe_glob (v := .int (-1)) (by rfl) ht1 ⟨_, rfl⟩) pa_nil)))) pss_nil)
      (pss_cons (ps_setLc (i := 2) (own := [("grant", 3)]) (g := gName 3) (tt := tAnd (tTest (tOp rNe (tFld K (tVar 3) "giver") (tVar 1))) (tTest (tOp rNe (tFld K (tVar 3) "taker") (tVar 1)))) rfl scLeave.nd rfl rfl (sw_true rfl rfl rfl (by decide +kernel)) (pi_list (pe_fld (pv 0) rfl))
        (blkOk_by (own := [("grant", 3)]) (N := ["self", "user", "others", "grant"]) (sc := defScope sLeave) (by decide +kernel))
        (fun _ _ _ _ _ => pg_name (i := 3) scLeave.nd rfl (Or.inl rfl)) (fun _ _ _ _ _ => by exact pts_one (PW.pt (pw_and (pt_cmpR op_ne (pe_fld (pv 3) rfl) (pv 1) (nomark _)) (pw_and1 (pt_cmpR op_ne (pe_fld (pv 3) rfl) (pv 1) (nomark _)))))) (fun _ _ _ _ _ => by exact pv 3))
      (pss_one (ps_ret (pe_lst (pa_cons (pe_meth (pv 0) TH.cl mk Gk hr bk .nil pass0 (pa_cons (pe_call Gt hr rfl mt kt bt .nil pass0 (pa_cons (pv 2) pa_nil)) pa_nil)) pa_nil))))), ?_⟩
    have st : Wm01.step s (.leave u) = if Wm01.isUser u = false then (s, [-1]) else ({ s with grants := Wm01.stand (s.grants.filter fun g => g.giver != u && g.taker != u) }, Wm01.ints [s.grants.length - (Wm01.stand (s.grants.filter fun g => g.giver != u && g.taker != u)).length]) := rfl
    rw [st] at k
    refine ⟨_, rfl, u, rfl, _, rfl, ?_⟩
    cases c : Wm01.isUser u with
    | false =>
      rw [c, if_pos rfl] at k
      exact iteT ⟨by show 1 ≤ sizeLine; decide, fun z hz => k.stay hH.at_ (same_new hz) hz upd_same⟩
    | true =>
      rw [c, if_neg (by decide)] at k
      obtain ⟨xs, hxs, _, _⟩ := hH.at_.lst.item
      refine iteF ⟨_, rfl, a, Ch, dx, _, _, rfl, ho, TH.cl, TH.nStanding, hF_standing l n, l, rfl, ⟨_, SqL.of hxs⟩, lc_filter (fun g => g.giver != u && g.taker != u) hH.at_.lst hH.len (fun _ => rfl) (fun _ => rfl) (fun x g H' Qt _ s hg hQ => ?_) (fun H1 q s1 hq h1 => ?_)⟩
      · obtain ⟨dg, hg⟩ := hg
        refine ⟨_, rfl, x, Cg, dg, _, _, rfl, hg, T.cl, T.nGiver, gF_giver g, _, rfl, rfl, _, rfl, ?_⟩
        rw [v_eq]
        cases c1 : g.giver == u with
        | true =>
          refine iteF ?_
          have e : (g.giver != u && g.taker != u) = false := by
            show (!(g.giver == u) && _) = false
            rw [c1]
            rfl
          rw [e] at hQ
          exact hQ
        | false =>
          refine iteT ⟨_, rfl, x, Cg, dg, _, _, rfl, hg, T.cl, T.nTaker, gF_taker g, _, rfl, rfl, _, rfl, ?_⟩
          rw [v_eq]
          have e : (g.giver != u && g.taker != u) = !(g.taker == u) := by
            show (!(g.giver == u) && !(g.taker == u)) = _
            rw [c1]
            rfl
          rw [e] at hQ
          exact hQ
      · have h2 := hH.at_.same s1
        obtain ⟨dx, n, en, ho⟩ := h2.obj
        have lf : (s.grants.filter fun g => g.giver != u && g.taker != u).length ≤ s.grants.length := List.length_filter_le _ _
        refine ⟨_, rfl, a, dx, _, rfl, ho, hF_no _ _ (by decide +kernel) (by decide +kernel), _, rfl, q, _, rfl, h1, Nat.le_trans lf hH.len, fun H3 q3 s3 hq3 h3 => ?_⟩
        refine ⟨a, l, q3, s, _, rfl, h2.same s3, h3, fun H4 h4 k4 => ⟨by show 1 ≤ sizeLine; decide, fun z hz => ?_⟩⟩
        rw [fewer (Nat.le_trans (stand_sub _).length_le lf)]
        exact k.kept h4 (s1.free hq3) (fun b o e hb => k4 b o (s3 _ _ (s1 _ _ e)) hb) hz
/-! ### has -/
def spHasM (Ch Cg : Addr) : Sp := fun vs H Q _ => ∃ (a l : Addr) (s : Wm01.House) (u r : Nat), vs = [.ref a, .int u, .int r] ∧ HAsk Ch Cg H a l s ∧ mth Ch Cg H a l (Wm01.step s (.has u r)) Q
theorem scHasM : FnScope ["self", "user", "right"] ["self", "user", "right"] (defScope sHasM) := ⟨rfl, rfl, rfl, by decide +kernel, rfl, by decide +kernel, by decide +kernel⟩
theorem ok_hasM (F : Md K Ch "has" "House.has" sHasM ["self", "user", "right"]) (TH : TxtH K mg Ch) (OU : Ok P w K mg base 2 "is_user" ["user"] spIsUser) (OR : Ok P w K mg base 2 "is_right" ["right"] spIsRight)
    (OH : Ok P w K mg base 2 "what_user_has" ["user", "right", "grants"] (spHas Cg)) : Mt P w K mg base 3 Ch "has" ["self", "user", "right"] (spHasM Ch Cg) := by
  obtain ⟨fu, fdu, mu, ku, bu, Gu⟩ := OU.ex
  obtain ⟨fr, fdr, mr, kr, br, Gr⟩ := OR.ex
  obtain ⟨fh, fdh, mh, kh, bh, Gh⟩ := OH.ex
  obtain ⟨t1, ht1⟩ := TH.notFit
  refine F.ok scHasM (fun vs H Q E h => ?_) (fun f cdv A outer s H vs Q E hr h => ?_)
  · obtain ⟨a, l, s, u, r, rfl, _⟩ := h
    rfl
  · obtain ⟨a, l, s, u, r, rfl, hH, k⟩ := h
    obtain ⟨dx, n, en, ho⟩ := hH.at_.obj
    refine ⟨_, pss_cons (ps_if (PW.pt (pw_or (pt_not (pt_val (pe_call Gu hr rfl mu ku bu .nil pass0 (pa_cons (pv 1) pa_nil)))) (pw_or1 (pt_not (pt_val (pe_call Gr hr rfl mr kr br .nil pass0 (pa_cons (pv 2) pa_nil)))))))
        (pss_one (ps_ret (pe_lst (pa_cons (pe_glob (v := .int (-1)) (by rfl) ht1 ⟨_, rfl⟩) pa_nil)))) pss_nil)
      (pss_one (ps_ret (pe_lst (pa_cons (pe_call Gh hr rfl mh kh bh .nil pass0 (pa_cons (pv 1) (pa_cons (pv 2) (pa_cons (pe_fld (pv 0) rfl) pa_nil)))) pa_nil)))), ?_⟩
    have st : Wm01.step s (.has u r) = (s, if Wm01.isUser u = false ∨ Wm01.isRight r = false then [-1] else Wm01.ints [Wm01.has s.grants u r]) := rfl
    rw [st] at k
    refine ⟨_, rfl, u, rfl, _, rfl, ?_⟩
    cases c : Wm01.isUser u with
    | false =>
      rw [if_pos (.inl c)] at k
      exact iteT (iteT ⟨by show 1 ≤ sizeLine; decide, fun z hz => k.stay hH.at_ (same_new hz) hz upd_same⟩)
    | true =>
      refine iteF ⟨_, rfl, r, rfl, _, rfl, ?_⟩
      cases c2 : Wm01.isRight r with
      | false =>
        rw [if_pos (.inr c2)] at k
        exact iteT ⟨by show 1 ≤ sizeLine; decide, fun z hz => k.stay hH.at_ (same_new hz) hz upd_same⟩
      | true =>
        rw [if_neg (by rw [c, c2]; decide), ← hv_has s.grants r (user_ne c)] at k
        refine iteF ⟨_, rfl, _, rfl, _, rfl, a, Ch, dx, _, _, rfl, ho, TH.cl, TH.nStanding, hF_standing l n, u, r, l, s.grants, rfl, hH.at_.lst, hH.len, fun H1 s1 => ⟨by show 1 ≤ sizeLine; decide, fun z hz => ?_⟩⟩
        exact k.stay hH.at_ (s1.trans (same_new hz)) (s1.free hz) upd_same
/-! ### grant -/
def spGrantM (Ch Cg : Addr) : Sp := fun vs H Q _ => ∃ (a l : Addr) (s : Wm01.House) (x y r p : Nat), vs = [.ref a, .int x, .int y, .int r, .int p] ∧ HAsk Ch Cg H a l s ∧ mth Ch Cg H a l (Wm01.step s (.grant x y r p)) Q
theorem scGrant : FnScope ["self", "giver", "taker", "right", "onward"] ["self", "giver", "taker", "right", "onward"] (defScope sGrant) := ⟨rfl, rfl, rfl, by decide +kernel, rfl, by decide +kernel, by decide +kernel⟩
theorem ok_grant (F : Md K Ch "grant" "House.grant" sGrant ["self", "giver", "taker", "right", "onward"]) (hC : Ch ≠ Cg) (T : Txt K mg Cg) (TH : TxtH K mg Ch) (OF : Ok P w K mg base 4 "names_fit" ["giver", "taker", "right"] spFit)
    (OM : Ok P w K mg base 4 "may_give" ["giver", "right", "grants"] (spMay Cg)) (OO : Ok P w K mg base 4 "of_right" ["right", "grants"] (spOfRight Cg)) (OG : Mks P w K mg base 1 Cg ["self", "number", "giver", "taker", "right", "onward"] (spGrantInit Cg)) :
    Mt P w K mg base 5 Ch "grant" ["self", "giver", "taker", "right", "onward"] (spGrantM Ch Cg) := by
  obtain ⟨ff, fdf, mf, kf, bf, Gf⟩ := OF.ex
  obtain ⟨fm, fdm, mm, km, bm, Gm⟩ := OM.ex
  obtain ⟨fo, fdo, mo, ko, bo, Go⟩ := OO.ex
  obtain ⟨fg, fdg, Mg, bg, Gg⟩ := OG.ex
  obtain ⟨t1, ht1⟩ := TH.notFit
  obtain ⟨t5, ht5⟩ := TH.full
  obtain ⟨t6, ht6⟩ := TH.notAllowed
  obtain ⟨t14, ht14⟩ := TH.most
  refine F.ok scGrant (fun vs H Q E h => ?_) (fun f cdv A outer s H vs Q E hr h => ?_)
  · obtain ⟨a, l, s, x, y, r, p, rfl, _⟩ := h
    rfl
  · obtain ⟨a, l, s, x, y, r, p, rfl, hH, k⟩ := h
    obtain ⟨dx, n, en, ho⟩ := hH.at_.obj
    have hr2 : Room 2 _ := hr.mono (by decide)
    refine ⟨_, pss_cons (ps_if (PW.pt (pw_or (pt_not (pt_val (pe_call Gf hr rfl mf kf bf .nil pass0 (pa_cons (pv 1) (pa_cons (pv 2) (pa_cons (pv 3) pa_nil)))))) (pw_or1 (pt_cmpR op_gt (pv 4) pe_int (nomark _)))))
        (pss_one (ps_ret (pe_lst (pa_cons (pe_glob (v := .int (-1)) (by rfl) ht1 ⟨_, rfl⟩) pa_nil)))) pss_nil)
      (pss_cons (ps_if (pt_not (pt_val (pe_call Gm hr rfl mm km bm .nil pass0 (pa_cons (pv 1) (pa_cons (pv 3) (pa_cons (pe_fld (pv 0) rfl) pa_nil))))))
        (pss_one (ps_ret (pe_lst (pa_cons (pe_glob (v := .int (-6)) (by rfl) ht6 ⟨_, rfl⟩) pa_nil)))) pss_nil)
      (pss_cons (ps_if (pt_cmpR op_ge (pe_callB call_len_seq (by rfl) T.len PySem.boot_len (pa_cons (pe_call Go hr rfl mo ko bo .nil pass0 (pa_cons (pv 3) (pa_cons (pe_fld (pv 0) rfl) pa_nil))) pa_nil)) (pe_glob (v := .int 14) (by rfl) ht14 ⟨_, rfl⟩) (nomark _))
        (pss_one (ps_ret (pe_lst (pa_cons (pe_glob (v := .int (-5)) (by rfl) ht5 ⟨_, rfl⟩) pa_nil)))) pss_nil)
      (pss_cons (ps_fld (pv 0) (pe_op op_add (pe_fld (pv 0) rfl) pe_int) rfl)
      (pss_cons (ps_expr (pe_bm PySem.F.plainAttrs_list PySem.F.slot_list_append PySem.F.type_list_append mt_append (pe_fld (pv 0) rfl) (pa_cons (pe_make Mg Gg hr2 rfl T.mgC bg .nil pass0 (pa_cons (pe_fld (pv 0) rfl) (pa_cons (pv 1) (pa_cons (pv 2) (pa_cons (pv 3) (pa_cons (pv 4) pa_nil)))))) pa_nil)))
      (pss_one (ps_ret (pe_lst (pa_cons (pe_fld (pv 0) rfl) pa_nil)))))))), ?_⟩
    have st : Wm01.step s (.grant x y r p) = if Wm01.isTriple x y r = false ∨ 1 < p then (s, [-1]) else if Wm01.mayGive s.grants x r = false then (s, [-6]) else if 14 ≤ (s.grants.filter fun g => g.right == r).length then (s, [-5]) else
      (⟨s.grants ++ [⟨s.next, x, y, r, p == 1⟩], s.next + 1⟩, Wm01.ints [s.next]) := rfl
    rw [st] at k
    refine ⟨_, rfl, _, rfl, _, rfl, x, y, r, rfl, _, rfl, ?_⟩
    cases c : Wm01.isTriple x y r with
    | false =>
      rw [if_pos (.inl c)] at k
      exact iteT (iteT ⟨by show 1 ≤ sizeLine; decide, fun z hz => k.stay hH.at_ (same_new hz) hz upd_same⟩)
    | true =>
      refine iteF ⟨_, rfl, _, _, rfl, rfl, _, rfl, ?_⟩
      by_cases c2 : 1 < p
      · rw [if_pos (.inr c2)] at k
        exact if_t (decide_eq_true (by omega)) ⟨by show 1 ≤ sizeLine; decide, fun z hz => k.stay hH.at_ (same_new hz) hz upd_same⟩
      · rw [if_neg (by rw [c]; intro z; rcases z with z | z; exact Bool.noConfusion z; exact c2 z)] at k
        refine if_f (decide_eq_false (by omega)) ⟨_, rfl, _, rfl, _, rfl, a, Ch, dx, _, _, rfl, ho, TH.cl, TH.nStanding, hF_standing l n, x, r, l, s.grants, rfl, hH.at_.lst, hH.len, fun H1 s1 => ⟨_, rfl, ?_⟩⟩
        cases c3 : Wm01.mayGive s.grants x r with
        | false =>
          rw [if_pos c3] at k
          exact iteT ⟨by show 1 ≤ sizeLine; decide, fun z hz => k.stay hH.at_ (s1.trans (same_new hz)) (s1.free hz) upd_same⟩
        | true =>
          rw [if_neg (by rw [c3]; decide)] at k
          refine iteF ⟨_, rfl, _, rfl, a, Ch, dx, _, _, rfl, s1 _ _ ho, TH.cl, TH.nStanding, hF_standing l n, r, l, s.grants, rfl, hH.at_.lst.same s1, hH.len, fun H2 q2 s2 hq2 h2 => ?_⟩
          obtain ⟨xs, hxs, lx, _⟩ := h2.item
          refine ⟨q2, xs, rfl, .inl (SqL.of hxs), _, _, rfl, rfl, _, rfl, ?_⟩
          rw [lx]
          have s12 : Same H H2 := s1.trans s2
          by_cases c4 : 14 ≤ (s.grants.filter fun g => g.right == r).length
          · rw [if_pos c4] at k
            exact if_t (decide_eq_true (Int.ofNat_le.mpr c4)) ⟨by show 1 ≤ sizeLine; decide, fun z hz => k.stay hH.at_ (s12.trans (same_new hz)) (s12.free hz) upd_same⟩
          · rw [if_neg c4] at k
            refine if_f (decide_eq_false (fun z => c4 (Int.ofNat_le.mp z))) ?_
            have ho2 := s12 _ _ ho
            refine ⟨_, rfl, a, Ch, dx, _, _, rfl, ho2, TH.cl, TH.nLast, hF_last l n, _, _, rfl, rfl, _, rfl, a, Ch, dx, _, rfl, ho2, TH.cl, TH.nLast, (by show 2 < 1000; decide), ?_⟩
            have eF : putF "last_number" (V.int ((n : Int) + 1)) (hF l n) = hF l (n + 1) := hF_putN l n (n + 1)
            have ho3 : (upd H2 a (.ins Ch dx (putF "last_number" (V.int ((n : Int) + 1)) (hF l n)))) a = some (.ins Ch dx (hF l (n + 1))) := by
              rw [upd_same, eF]
            have l2 := hH.at_.lst.same s12
            have nla : l ≠ a := l2.not ho2 (by intro xs z; cases z)
            have l3 : LG Cg (upd H2 a (.ins Ch dx (putF "last_number" (V.int ((n : Int) + 1)) (hF l n)))) l s.grants := l2.upd nla ho2 (by intro dx' fs z; injection z with z1; exact hC z1)
            generalize eH : upd H2 a (.ins Ch dx (putF "last_number" (V.int ((n : Int) + 1)) (hF l n))) = H3 at ho3 l3
            have k3 : ∀ b o, H b = some o → b ≠ a → H3 b = some o := fun b o e hb => by
              rw [← eH, upd_ne hb]
              exact s12 _ _ e
            have f3 : ∀ b, H3 b = none → H b = none := fun b e => by
              by_cases eb : b = a
              · rw [eb, ho3] at e
                cases e
              · rw [← eH, upd_ne eb] at e
                exact s12.free e
            obtain ⟨ys, hys, _⟩ := l3.item
            refine ⟨_, rfl, a, Ch, dx, _, _, rfl, ho3, TH.cl, TH.nStanding, hF_standing l (n + 1), .inl ⟨rfl, _, SqL.of hys⟩, _, rfl, a, Ch, dx, _, _, rfl, ho3, TH.cl, TH.nLast, hF_last l (n + 1), _, rfl, _, rfl, _, rfl, _, rfl, ?_⟩
            intro z dz nz ndz nez
            have ep : V.int (p : Int) = V.int ((Wm01.flag (p == 1) : Nat) : Int) := by
              have : p = 0 ∨ p = 1 := by omega
              rcases this with rfl | rfl <;> rfl
            refine ⟨z, dz, ⟨s.next, x, y, r, p == 1⟩, ?_, upd_same, fun H4 J kp => ⟨rfl, ?_⟩⟩
            · rw [ep, ← en]
              rfl
            have s4 : Same H3 H4 := Same.made nz ndz kp
            obtain ⟨zs, hzs, lz, hp⟩ := (l3.same s4).push J
            refine ⟨l, zs, _, rfl, rfl, hzs, by rw [lz]; exact small hH.len, ?_⟩
            have nal : a ≠ l := fun e => nla e.symm
            have ho5 : (upd H4 l (.lst (zs ++ [.ref z]))) a = some (.ins Ch dx (hF l (n + 1))) := by
              rw [upd_ne nal]
              exact s4 _ _ ho3
            refine ⟨_, rfl, a, Ch, dx, _, _, rfl, ho5, TH.cl, TH.nLast, hF_last l (n + 1), by show 1 ≤ sizeLine; decide, fun w hw => ?_⟩
            have hw4 : H4 w = none := by
              by_cases e : w = l
              · rw [e, upd_same] at hw
                cases hw
              · rw [upd_ne e] at hw
                exact hw
            have hA : HAt Ch Cg (upd H4 l (.lst (zs ++ [.ref z]))) a l ⟨s.grants ++ [⟨s.next, x, y, r, p == 1⟩], s.next + 1⟩ := ⟨⟨dx, n + 1, by show n + 1 + 1 = s.next + 1; rw [en], ho5⟩, hp⟩
            refine k _ l w (hA.same (same_new hw)) (.inl rfl) (fun b o e hb hl => (same_new hw) _ _ ?_) (f3 _ (s4.free hw4)) ?_
            · rw [upd_ne hl]
              exact s4 _ _ (k3 b o e hb)
            · rw [upd_same, ← en]
              rfl
end
end Gb
namespace Gb
open PySem PySem.Spec PyProof.Rows L2
/-- what a call that only asks is given: (s, zs) -/
theorem told_ints (ns : List Nat) : (Wm01.told ns).map V.int = (ns.length :: ns).map fun (n : Nat) => V.int (n : Int) := nats_int (ns.length :: ns)
def spTwo (Ch Cg : Addr) (c : Nat → Nat → Wm01.Call) : Sp := fun vs H Q _ => ∃ (a l : Addr) (s : Wm01.House) (u r : Nat), vs = [.ref a, .int u, .int r] ∧ HAsk Ch Cg H a l s ∧ mth Ch Cg H a l (Wm01.step s (c u r)) Q
def spOne (Ch Cg : Addr) (c : Nat → Wm01.Call) : Sp := fun vs H Q _ => ∃ (a l : Addr) (s : Wm01.House) (n : Nat), vs = [.ref a, .int n] ∧ HAsk Ch Cg H a l s ∧ mth Ch Cg H a l (Wm01.step s (c n)) Q
theorem refW_or (s : Wm01.House) (u r : Nat) : (refW s u r = [] ∨ ∃ z, refW s u r = [z]) := by
  unfold refW
  split
  · exact .inr ⟨_, rfl⟩
  · split
    · exact .inr ⟨_, rfl⟩
    · exact .inl rfl
/-- who has a right has a first grant of it -/
theorem has_first {l : List G} {u r : Nat} (hu : u ≠ 0) (h : Wm01.has l u r ≠ 0) : ∃ g, Wm01.firstTo l u r false = some g := by
  cases e : Wm01.firstTo l u r false with
  | some g => exact ⟨g, rfl⟩
  | none =>
    refine absurd ((has_zero hu).mpr fun g hg ⟨e1, e2⟩ => ?_) h
    have := List.find?_eq_none.mp e g hg
    simp [e1, e2] at this
section
variable {P : Program} {w : World} {K : PySem.W.Frag} {mg : Str → Option Value} {base : Heap} {Cg Ch : Addr}
/-! ### chain -/
theorem scChainM : FnScope ["self", "user", "right", "refusal", "grant"] ["self", "user", "right"] (defScope sChainM) := ⟨rfl, rfl, rfl, by decide +kernel, rfl, by decide +kernel, by decide +kernel⟩
theorem ok_chainM (F : Md K Ch "chain" "House.chain" sChainM ["self", "user", "right"]) (T : Txt K mg Cg) (TH : TxtH K mg Ch) (OR : Mt P w K mg base 5 Ch "refusal_without" ["self", "user", "right"] (spRefusalW Ch Cg)) (OC : Ok P w K mg base 5 "chain_to" ["user", "right", "grants"] (spChain Cg))
    (ON : Ok P w K mg base 5 "counted" ["numbers"] spCounted) : Mt P w K mg base 6 Ch "chain" ["self", "user", "right"] (spTwo Ch Cg .chain) := by
  obtain ⟨fr, fdr, mr, br, Gr⟩ := OR.ex
  obtain ⟨fc, fdc, mc, kc, bc, Gc⟩ := OC.ex
  obtain ⟨fn, fdn, mn, kn, bn, Gn⟩ := ON.ex
  refine F.ok scChainM (fun vs H Q E h => ?_) (fun f cdv A outer s H vs Q E hr h => ?_)
  · obtain ⟨a, l, s, u, r, rfl, _⟩ := h
    rfl
  · obtain ⟨a, l, s, u, r, rfl, hH, k⟩ := h
    obtain ⟨dx, n, en, ho⟩ := hH.at_.obj
    refine ⟨_, pss_cons (ps_set (i := 3) scChainM.nd rfl (Or.inl rfl) (pe_meth (pv 0) TH.cl mr Gr hr br .nil pass0 (pa_cons (pv 1) (pa_cons (pv 2) pa_nil))))
      (pss_cons (ps_if (pt_cmpR (op_neD hr.units) (pv 3) (pe_lst pa_nil) (nomark _)) (pss_one (ps_ret (pv 3))) pss_nil)
      (pss_one (ps_ret (pe_call Gn hr rfl mn kn bn .nil pass0 (pa_cons (pe_lc (own := [("grant", 4)]) (g := gName 4) (tt := tYes) (te := tFld K (tVar 4) "number") rfl scChainM.nd
        (pi_list (pe_call Gc hr rfl mc kc bc .nil pass0 (pa_cons (pv 1) (pa_cons (pv 2) (pa_cons (pe_fld (pv 0) rfl) pa_nil)))))
        (blkOk_by (own := [("grant", 4)]) (N := ["self", "user", "right", "refusal", "grant"]) (sc := defScope sChainM) (by decide +kernel))
        (fun _ _ _ _ _ => pg_name (i := 4) scChainM.nd rfl (Or.inl rfl)) (fun _ _ _ _ _ => pts_nil) (fun _ _ _ _ _ => by exact pe_fld (pv 4) rfl)) pa_nil))))), ?_⟩
    refine ⟨_, rfl, a, dx, _, rfl, ho, hF_no _ _ (by decide +kernel) (by decide +kernel), _, rfl, _, rfl, a, l, s, u, r, rfl, hH.at_, hH.len, fun H1 q s1 hq h1 => ?_⟩
    refine ⟨_, rfl, Nat.zero_le _, fun p hp => ne_list (refW_or s u r) h1 hp ⟨_, rfl, ?_⟩⟩
    have s2 : Same H (upd H1 p (.lst [])) := s1.trans (same_new hp)
    have hq2 : upd H1 p (.lst []) q = some (.lst ((refW s u r).map V.int)) := (same_new hp) _ _ h1
    have st : Wm01.step s (.chain u r) = (s, if Wm01.isUser u = false ∨ Wm01.isRight r = false then [-1] else if Wm01.has s.grants u r = 0 then [-3] else Wm01.told (Wm01.chain s.grants u r)) := rfl
    rw [st] at k
    unfold refW at hq2 ⊢
    by_cases c : Wm01.isUser u = false ∨ Wm01.isRight r = false
    · rw [if_pos c] at hq2 k ⊢
      exact iteT ⟨_, rfl, k.stay hH.at_ s2 hq hq2⟩
    rw [if_neg c] at hq2 k ⊢
    by_cases c2 : Wm01.has s.grants u r = 0
    · rw [if_pos c2] at hq2 k ⊢
      exact iteT ⟨_, rfl, k.stay hH.at_ s2 hq hq2⟩
    rw [if_neg c2] at k ⊢
    have hu : u ≠ 0 := user_ne (by cases z : Wm01.isUser u with
      | true => rfl
      | false => exact absurd (.inl z) c)
    have h2 := hH.at_.same s2
    obtain ⟨dx, n, en, ho⟩ := h2.obj
    refine iteF ⟨_, rfl, _, rfl, _, rfl, a, Ch, dx, _, _, rfl, ho, TH.cl, TH.nStanding, hF_standing l n, u, r, l, s, rfl, h2.lst, hH.inv, by have := hH.inv.len; have := hH.few; omega, has_first hu c2, fun H3 q3 cs s3 h3 e3 l3 => ?_⟩
    obtain ⟨xs, hxs, _, _⟩ := h3.item
    refine ⟨q3, rfl, ⟨_, SqL.of hxs⟩, lc_nums (fun _ => true) h3 l3 (fun _ => rfl) (fun b g H' Qt _ _ hQ => hQ _ (Same.refl _)) (fun b g H' Q' _ hg hQ => ?_) (fun H4 q4 s4 hq4 h4 => ?_)⟩
    · obtain ⟨dg, hg⟩ := hg
      exact ⟨_, rfl, b, Cg, dg, _, _, rfl, hg, T.cl, T.nNumber, gF_number g, hQ⟩
    rw [List.filter_eq_self.mpr (fun _ _ => rfl), e3] at h4
    have l4 : (Wm01.chain s.grants u r).length ≤ 10000 := by
      rw [← e3, List.length_map]
      omega
    refine ⟨q4, _, rfl, h4, l4, fun H5 q5 s5 hq5 h5 => ?_⟩
    have s25 := (s2.trans s3).trans s4
    exact k.stay hH.at_ (s25.trans s5) (s25.free hq5) (by rw [told_ints]; exact h5)
/-! ### fewest -/
theorem scFewestM : FnScope ["self", "user", "right", "refusal"] ["self", "user", "right"] (defScope sFewestM) := ⟨rfl, rfl, rfl, by decide +kernel, rfl, by decide +kernel, by decide +kernel⟩
theorem ok_fewestM (F : Md K Ch "fewest" "House.fewest" sFewestM ["self", "user", "right"]) (TH : TxtH K mg Ch) (OR : Mt P w K mg base 17 Ch "refusal_without" ["self", "user", "right"] (spRefusalW Ch Cg)) (OC : Ok P w K mg base 17 "fewest_that_cut" ["user", "right", "grants"] (spFewest Cg))
    (ON : Ok P w K mg base 17 "counted" ["numbers"] spCounted) : Mt P w K mg base 18 Ch "fewest" ["self", "user", "right"] (spTwo Ch Cg .fewest) := by
  obtain ⟨fr, fdr, mr, br, Gr⟩ := OR.ex
  obtain ⟨fc, fdc, mc, kc, bc, Gc⟩ := OC.ex
  obtain ⟨fn, fdn, mn, kn, bn, Gn⟩ := ON.ex
  refine F.ok scFewestM (fun vs H Q E h => ?_) (fun f cdv A outer s H vs Q E hr h => ?_)
  · obtain ⟨a, l, s, u, r, rfl, _⟩ := h
    rfl
  · obtain ⟨a, l, s, u, r, rfl, hH, k⟩ := h
    obtain ⟨dx, n, en, ho⟩ := hH.at_.obj
    refine ⟨_, pss_cons (ps_set (i := 3) scFewestM.nd rfl (Or.inl rfl) (pe_meth (pv 0) TH.cl mr Gr hr br .nil pass0 (pa_cons (pv 1) (pa_cons (pv 2) pa_nil))))
      (pss_cons (ps_if (pt_cmpR (op_neD hr.units) (pv 3) (pe_lst pa_nil) (nomark _)) (pss_one (ps_ret (pv 3))) pss_nil)
      (pss_one (ps_ret (pe_call Gn hr rfl mn kn bn .nil pass0 (pa_cons (pe_call Gc hr rfl mc kc bc .nil pass0 (pa_cons (pv 1) (pa_cons (pv 2) (pa_cons (pe_fld (pv 0) rfl) pa_nil)))) pa_nil))))), ?_⟩
    refine ⟨_, rfl, a, dx, _, rfl, ho, hF_no _ _ (by decide +kernel) (by decide +kernel), _, rfl, _, rfl, a, l, s, u, r, rfl, hH.at_, hH.len, fun H1 q s1 hq h1 => ?_⟩
    refine ⟨_, rfl, Nat.zero_le _, fun p hp => ne_list (refW_or s u r) h1 hp ⟨_, rfl, ?_⟩⟩
    have s2 : Same H (upd H1 p (.lst [])) := s1.trans (same_new hp)
    have hq2 : upd H1 p (.lst []) q = some (.lst ((refW s u r).map V.int)) := (same_new hp) _ _ h1
    have st : Wm01.step s (.fewest u r) = (s, if Wm01.isUser u = false ∨ Wm01.isRight r = false then [-1] else if Wm01.has s.grants u r = 0 then [-3] else Wm01.told (Wm01.fewest s.grants u r)) := rfl
    rw [st] at k
    unfold refW at hq2 ⊢
    by_cases c : Wm01.isUser u = false ∨ Wm01.isRight r = false
    · rw [if_pos c] at hq2 k ⊢
      exact iteT ⟨_, rfl, k.stay hH.at_ s2 hq hq2⟩
    rw [if_neg c] at hq2 k ⊢
    by_cases c2 : Wm01.has s.grants u r = 0
    · rw [if_pos c2] at hq2 k ⊢
      exact iteT ⟨_, rfl, k.stay hH.at_ s2 hq hq2⟩
    rw [if_neg c2] at k ⊢
    have hu : u ≠ 0 := user_ne (by cases z : Wm01.isUser u with
      | true => rfl
      | false => exact absurd (.inl z) c)
    have h2 := hH.at_.same s2
    obtain ⟨dx, n, en, ho⟩ := h2.obj
    refine iteF ⟨_, rfl, _, rfl, _, rfl, a, Ch, dx, _, _, rfl, ho, TH.cl, TH.nStanding, hF_standing l n, u, r, l, s.grants, rfl, h2.lst, hH.len, hH.inv.up, hH.inv.few r, hu, fun H3 q3 s3 h3 l3 => ?_⟩
    refine ⟨q3, _, rfl, h3, Nat.le_trans l3 (by decide), fun H5 q5 s5 hq5 h5 => ?_⟩
    have s25 := s2.trans s3
    exact k.stay hH.at_ (s25.trans s5) (s25.free hq5) (by rw [told_ints]; exact h5)
/-! ### behind -/
theorem others_len {l : List G} {n : Nat} : (l.filter fun g => g.num != n).length = l.length ↔ (l.any fun g => g.num == n) = false := by
  constructor
  · intro h
    refine any_take _ _ fun g hg => ?_
    have e := List.filter_eq_self.mp (List.filter_sublist.eq_of_length h) g hg
    cases c : g.num == n with
    | false => rfl
    | true =>
      have : (!(g.num == n)) = true := e
      rw [c] at this
      cases this
  · intro h
    congr 1
    refine List.filter_eq_self.mpr fun g hg => ?_
    show (!(g.num == n)) = true
    cases c : g.num == n with
    | false => rfl
    | true =>
      rw [List.any_eq_true.mpr ⟨g, hg, c⟩] at h
      cases h
theorem falls_gone {l : List G} (up : l.Pairwise (fun g h => g.num < h.num)) (n : Nat) : Wm01.falls l [n] = goneN l (Wm01.stand (l.filter fun g => g.num != n)) := by
  rw [falls_num up]
  have e : wo [n] l = l.filter fun g => g.num != n := List.filter_congr fun g _ => by
    show (!([n].contains g.num)) = !(g.num == n)
    rw [List.contains_cons, List.contains_nil, Bool.or_false]
  rw [e]
  rfl
theorem gone_len (a b : List G) : (goneN a b).length ≤ a.length := by
  unfold goneN
  rw [List.length_map]
  exact List.length_filter_le _ _
theorem scBehind : FnScope ["self", "number", "others", "grant"] ["self", "number"] (defScope sBehind) := ⟨rfl, rfl, rfl, by decide +kernel, rfl, by decide +kernel, by decide +kernel⟩
theorem ok_behind (F : Md K Ch "behind" "House.behind" sBehind ["self", "number"]) (T : Txt K mg Cg) (TH : TxtH K mg Ch) (OG : Ok P w K mg base 5 "numbers_gone" ["before", "after"] (spGone Cg)) (OS : Ok P w K mg base 5 "what_stands" ["grants"] (spStands Cg))
    (ON : Ok P w K mg base 5 "counted" ["numbers"] spCounted) : Mt P w K mg base 6 Ch "behind" ["self", "number"] (spOne Ch Cg .behind) := by
  obtain ⟨fg, fdg, mg', kg, bg, Gg⟩ := OG.ex
  obtain ⟨fs, fds, ms, ks, bs, Gs⟩ := OS.ex
  obtain ⟨fn, fdn, mn, kn, bn, Gn⟩ := ON.ex
  obtain ⟨t2, ht2⟩ := TH.noNumber
  refine F.ok scBehind (fun vs H Q E h => ?_) (fun f cdv A outer s H vs Q E hr h => ?_)
  · obtain ⟨a, l, s, m, rfl, _⟩ := h
    rfl
  · obtain ⟨a, l, s, m, rfl, hH, k⟩ := h
    obtain ⟨dx, n, en, ho⟩ := hH.at_.obj
    refine ⟨_, pss_cons (ps_setLc (i := 2) (own := [("grant", 3)]) (g := gName 3) (tt := tTest (tOp rNe (tFld K (tVar 3) "number") (tVar 1))) rfl scBehind.nd rfl rfl (sw_true rfl rfl rfl (by decide +kernel)) (pi_list (pe_fld (pv 0) rfl))
        (blkOk_by (own := [("grant", 3)]) (N := ["self", "number", "others", "grant"]) (sc := defScope sBehind) (by decide +kernel))
        (fun _ _ _ _ _ => pg_name (i := 3) scBehind.nd rfl (Or.inl rfl)) (fun _ _ _ _ _ => by exact pts_one (pt_cmpR op_ne (pe_fld (pv 3) rfl) (pv 1) (nomark _))) (fun _ _ _ _ _ => by exact pv 3))
      (pss_cons (ps_if (pt_cmpR op_eq (pe_callB call_len_seq (by rfl) T.len PySem.boot_len (pa_cons (pv 2) pa_nil)) (pe_callB call_len_seq (by rfl) T.len PySem.boot_len (pa_cons (pe_fld (pv 0) rfl) pa_nil)) (nomark _))
        (pss_one (ps_ret (pe_lst (pa_cons (pe_glob (v := .int (-2)) (by rfl) ht2 ⟨_, rfl⟩) pa_nil)))) pss_nil)
      (pss_one (ps_ret (pe_call Gn hr rfl mn kn bn .nil pass0 (pa_cons (pe_call Gg hr rfl mg' kg bg .nil pass0 (pa_cons (pe_fld (pv 0) rfl) (pa_cons (pe_call Gs hr rfl ms ks bs .nil pass0 (pa_cons (pv 2) pa_nil)) pa_nil))) pa_nil))))), ?_⟩
    have st : Wm01.step s (.behind m) = (s, if (s.grants.any fun g => g.num == m) = false then [-2] else Wm01.told (Wm01.falls s.grants [m])) := rfl
    rw [st] at k
    obtain ⟨xs, hxs, lx, _⟩ := hH.at_.lst.item
    refine ⟨_, rfl, a, Ch, dx, _, _, rfl, ho, TH.cl, TH.nStanding, hF_standing l n, l, rfl, ⟨_, SqL.of hxs⟩, lc_filter (fun g => g.num != m) hH.at_.lst hH.len (fun _ => rfl) (fun _ => rfl) (fun x g H' Qt _ s' hg hQ => ?_) (fun H1 q s1 hq h1 => ?_)⟩
    · obtain ⟨dg, hg⟩ := hg
      refine ⟨_, rfl, x, Cg, dg, _, _, rfl, hg, T.cl, T.nNumber, gF_number g, _, rfl, rfl, _, rfl, ?_⟩
      rw [v_eq]
      exact hQ
    obtain ⟨ys, hys, ly, _⟩ := h1.item
    have h2 := hH.at_.same s1
    obtain ⟨dx, n, en, ho⟩ := h2.obj
    refine ⟨_, rfl, q, ys, rfl, .inl (SqL.of hys), _, rfl, a, Ch, dx, _, _, rfl, ho, TH.cl, TH.nStanding, hF_standing l n, l, xs, rfl, .inl (SqL.of (s1 _ _ hxs)), rfl, _, rfl, ?_⟩
    rw [v_eq, ly, lx]
    by_cases c : (s.grants.any fun g => g.num == m) = false
    · rw [if_pos c] at k
      exact if_t (beq_iff_eq.mpr (others_len.mpr c)) ⟨by show 1 ≤ sizeLine; decide, fun z hz => k.stay hH.at_ (s1.trans (same_new hz)) (s1.free hz) upd_same⟩
    · rw [if_neg c, falls_gone hH.inv.up] at k
      have lo : (s.grants.filter fun g => g.num != m).length ≤ 1000 := Nat.le_trans (List.length_filter_le _ _) hH.len
      refine if_f (beq_eq_false_iff_ne.mpr fun z => c (others_len.mp z)) ⟨_, rfl, a, Ch, dx, _, _, rfl, ho, TH.cl, TH.nStanding, hF_standing l n, _, rfl, q, _, rfl, h1, lo, fun H3 q3 s3 hq3 h3 => ?_⟩
      refine ⟨l, q3, s.grants, _, rfl, h2.lst.same s3, h3, hH.len, Nat.le_trans (stand_sub _).length_le lo, fun H4 q4 s4 hq4 h4 => ?_⟩
      refine ⟨q4, _, rfl, h4, Nat.le_trans (gone_len _ _) (Nat.le_trans hH.len (by decide)), fun H5 q5 s5 hq5 h5 => ?_⟩
      have s14 := (s1.trans s3).trans s4
      exact k.stay hH.at_ (s14.trans s5) (s14.free hq5) (by rw [told_ints]; exact h5)
/-! ### users -/
theorem with_has (l : List G) (r : Nat) : withN r l = ((List.range 12).map fun i => i + 1).filter fun u => decide (0 < Wm01.has l u r) := by
  unfold withN
  show (upTo 12).filter _ = (upTo 12).filter _
  refine List.filter_congr fun u hu => ?_
  have hu0 : u ≠ 0 := by
    intro e
    subst e
    unfold upTo at hu
    obtain ⟨i, _, h⟩ := List.mem_map.mp hu
    omega
  have ew : Wm01.has l u r = wh l u r := (hv_has l r hu0).symm
  rw [ew]
theorem scUsersM : FnScope ["self", "right"] ["self", "right"] (defScope sUsersM) := ⟨rfl, rfl, rfl, by decide +kernel, rfl, by decide +kernel, by decide +kernel⟩
theorem ok_usersM (F : Md K Ch "users" "House.users" sUsersM ["self", "right"]) (TH : TxtH K mg Ch) (OR : Ok P w K mg base 5 "is_right" ["right"] spIsRight) (OW : Ok P w K mg base 5 "users_with" ["right", "grants"] (spWith Cg))
    (ON : Ok P w K mg base 5 "counted" ["numbers"] spCounted) : Mt P w K mg base 6 Ch "users" ["self", "right"] (spOne Ch Cg .users) := by
  obtain ⟨fr, fdr, mr, kr, br, Gr⟩ := OR.ex
  obtain ⟨fw, fdw, mw, kw, bw, Gw⟩ := OW.ex
  obtain ⟨fn, fdn, mn, kn, bn, Gn⟩ := ON.ex
  obtain ⟨t1, ht1⟩ := TH.notFit
  refine F.ok scUsersM (fun vs H Q E h => ?_) (fun f cdv A outer s H vs Q E hr h => ?_)
  · obtain ⟨a, l, s, m, rfl, _⟩ := h
    rfl
  · obtain ⟨a, l, s, r, rfl, hH, k⟩ := h
    obtain ⟨dx, n, en, ho⟩ := hH.at_.obj
    refine ⟨_, pss_cons (ps_if (pt_not (pt_val (pe_call Gr hr rfl mr kr br .nil pass0 (pa_cons (pv 1) pa_nil)))) (pss_one (ps_ret (pe_lst (pa_cons (pe_glob (v := .int (-1)) (by rfl) ht1 ⟨_, rfl⟩) pa_nil)))) pss_nil)
      (pss_one (ps_ret (pe_call Gn hr rfl mn kn bn .nil pass0 (pa_cons (pe_call Gw hr rfl mw kw bw .nil pass0 (pa_cons (pv 1) (pa_cons (pe_fld (pv 0) rfl) pa_nil))) pa_nil)))), ?_⟩
    have st : Wm01.step s (.users r) = (s, if Wm01.isRight r = false then [-1] else Wm01.told (((List.range 12).map fun i => i + 1).filter fun u => decide (0 < Wm01.has s.grants u r))) := rfl
    rw [st, ← with_has] at k
    refine ⟨_, rfl, r, rfl, _, rfl, ?_⟩
    cases c : Wm01.isRight r with
    | false =>
      rw [if_pos c] at k
      exact iteT ⟨by show 1 ≤ sizeLine; decide, fun z hz => k.stay hH.at_ (same_new hz) hz upd_same⟩
    | true =>
      rw [if_neg (by rw [c]; decide)] at k
      refine iteF ⟨_, rfl, _, rfl, a, Ch, dx, _, _, rfl, ho, TH.cl, TH.nStanding, hF_standing l n, r, l, s.grants, rfl, hH.at_.lst, hH.len, fun H1 q1 s1 hq1 h1 => ?_⟩
      have lw : (withN r s.grants).length ≤ 10000 := Nat.le_trans (List.length_filter_le _ _) (by rw [upTo_len]; decide)
      refine ⟨q1, _, rfl, h1, lw, fun H5 q5 s5 hq5 h5 => ?_⟩
      exact k.stay hH.at_ (s1.trans s5) (s1.free hq5) (by rw [told_ints]; exact h5)
/-! ### lose -/
theorem losers_len (a b : List G) (r : Nat) : (Wm01.losers a b r).length ≤ 12 := by
  rw [losers_eq]
  exact Nat.le_trans (List.length_filter_le _ _) (by rw [upTo_len]; decide)
theorem scLose : FnScope ["self", "giver", "taker", "right", "refusal", "kept"] ["self", "giver", "taker", "right"] (defScope sLose) := ⟨rfl, rfl, rfl, by decide +kernel, rfl, by decide +kernel, by decide +kernel⟩
theorem ok_lose (F : Md K Ch "lose" "House.lose" sLose ["self", "giver", "taker", "right"]) (TH : TxtH K mg Ch) (OR : Mt P w K mg base 5 Ch "refusal_between" ["self", "giver", "taker", "right"] (spRefusal Ch Cg))
    (OT : Ok P w K mg base 5 "taken_back" ["giver", "taker", "right", "grants"] (spTakenBack Cg)) (OL : Ok P w K mg base 5 "users_with_less" ["right", "before", "after"] (spLess Cg)) (ON : Ok P w K mg base 5 "counted" ["numbers"] spCounted) : Mt P w K mg base 6 Ch "lose" ["self", "giver", "taker", "right"] (spThree Ch Cg .lose) := by
  obtain ⟨fr, fdr, mr, br, Gr⟩ := OR.ex
  obtain ⟨ft, fdt, mt, kt, bt, Gt⟩ := OT.ex
  obtain ⟨fl, fdl, ml, kl, bl, Gl'⟩ := OL.ex
  obtain ⟨fn, fdn, mn, kn, bn, Gn⟩ := ON.ex
  refine F.ok scLose (fun vs H Q E h => ?_) (fun f cdv A outer s H vs Q E hr h => ?_)
  · obtain ⟨a, l, s, x, y, r, rfl, _⟩ := h
    rfl
  · obtain ⟨a, l, s, x, y, r, rfl, hH, k⟩ := h
    obtain ⟨dx, n, en, ho⟩ := hH.at_.obj
    refine ⟨_, pss_cons (ps_set (i := 4) scLose.nd rfl (Or.inl rfl) (pe_meth (pv 0) TH.cl mr Gr hr br .nil pass0 (pa_cons (pv 1) (pa_cons (pv 2) (pa_cons (pv 3) pa_nil)))))
      (pss_cons (ps_if (pt_cmpR (op_neD hr.units) (pv 4) (pe_lst pa_nil) (nomark _)) (pss_one (ps_ret (pv 4))) pss_nil)
      (pss_cons (ps_set (i := 5) scLose.nd rfl (Or.inl rfl) (pe_call Gt hr rfl mt kt bt .nil pass0 (pa_cons (pv 1) (pa_cons (pv 2) (pa_cons (pv 3) (pa_cons (pe_fld (pv 0) rfl) pa_nil))))))
      (pss_one (ps_ret (pe_call Gn hr rfl mn kn bn .nil pass0 (pa_cons (pe_call Gl' hr rfl ml kl bl .nil pass0 (pa_cons (pv 3) (pa_cons (pe_fld (pv 0) rfl) (pa_cons (pv 5) pa_nil)))) pa_nil)))))), ?_⟩
    refine ⟨_, rfl, a, dx, _, rfl, ho, hF_no _ _ (by decide +kernel) (by decide +kernel), _, rfl, _, rfl, _, rfl, a, l, s, x, y, r, rfl, hH.at_, fun H1 q s1 hq h1 => ?_⟩
    refine ⟨_, rfl, Nat.zero_le _, fun p hp => ne_list ?_ h1 hp ⟨_, rfl, ?_⟩⟩
    · split
      · exact .inr ⟨_, rfl⟩
      · split
        · exact .inr ⟨_, rfl⟩
        · exact .inl rfl
    have s2 : Same H (upd H1 p (.lst [])) := s1.trans (same_new hp)
    have hq2 : upd H1 p (.lst []) q = some (.lst (_ : List V)) := (same_new hp) _ _ h1
    have st : Wm01.step s (.lose x y r) = (s, if Wm01.isTriple x y r = false then [-1] else if Wm01.anyBy s x y r = false then [-3] else Wm01.told (Wm01.losers s.grants (Wm01.revoked s.grants x y r) r)) := rfl
    rw [st] at k
    cases c : Wm01.isTriple x y r with
    | false =>
      rw [c] at hq2 k
      exact iteT ⟨_, rfl, k.stay hH.at_ s2 hq hq2⟩
    | true =>
      cases c2 : Wm01.anyBy s x y r with
      | false =>
        rw [c, c2] at hq2 k
        exact iteT ⟨_, rfl, k.stay hH.at_ s2 hq hq2⟩
      | true =>
        rw [c, c2, if_neg (by decide), if_neg (by decide)] at k
        have h2 := hH.at_.same s2
        obtain ⟨dx, n, en, ho⟩ := h2.obj
        have le : (Wm01.revoked s.grants x y r).length ≤ s.grants.length := Nat.le_trans (stand_sub _).length_le (List.length_filter_le _ _)
        refine iteF ⟨_, rfl, _, rfl, _, rfl, _, rfl, a, Ch, dx, _, _, rfl, ho, TH.cl, TH.nStanding, hF_standing l n, x, y, r, l, s.grants, rfl, h2.lst, hH.len, fun H3 q3 s3 hq3 h3 => ?_⟩
        refine ⟨_, rfl, _, rfl, a, Ch, dx, _, _, rfl, s3 _ _ ho, TH.cl, TH.nStanding, hF_standing l n, _, rfl, r, l, q3, s.grants, _, rfl, h2.lst.same s3, h3, hH.len, Nat.le_trans le hH.len, fun H4 q4 s4 hq4 h4 => ?_⟩
        refine ⟨q4, _, rfl, h4, Nat.le_trans (losers_len _ _ _) (by decide), fun H5 q5 s5 hq5 h5 => ?_⟩
        have s14 := (s2.trans s3).trans s4
        exact k.stay hH.at_ (s14.trans s5) (s14.free hq5) (by rw [told_ints]; exact h5)
/-! ### grants -/
def rowsG (gs : List G) : List Nat := gs.flatMap fun g => [g.num, g.giver, g.taker, Wm01.flag g.pass]
theorem rowsG_len (gs : List G) : (rowsG gs).length = 4 * gs.length := by
  unfold rowsG
  induction gs with
  | nil => rfl
  | cons g gs ih =>
    rw [List.flatMap_cons, List.length_append, ih]
    show 4 + 4 * gs.length = 4 * (gs.length + 1)
    omega
theorem scGrantsM : FnScope ["self", "right", "given", "told", "grant"] ["self", "right"] (defScope sGrantsM) := ⟨rfl, rfl, rfl, by decide +kernel, rfl, by decide +kernel, by decide +kernel⟩
theorem ok_grantsM (F : Md K Ch "grants" "House.grants" sGrantsM ["self", "right"]) (T : Txt K mg Cg) (TH : TxtH K mg Ch) (OR : Ok P w K mg base 5 "is_right" ["right"] spIsRight) (OO : Ok P w K mg base 5 "of_right" ["right", "grants"] (spOfRight Cg)) :
    Mt P w K mg base 6 Ch "grants" ["self", "right"] (spOne Ch Cg .grants) := by
  obtain ⟨fr, fdr, mr, kr, br, Gr⟩ := OR.ex
  obtain ⟨fo, fdo, mo, ko, bo, Go⟩ := OO.ex
  obtain ⟨t1, ht1⟩ := TH.notFit
  refine F.ok scGrantsM (fun vs H Q E h => ?_) (fun f cdv A outer s H vs Q E hr h => ?_)
  · obtain ⟨a, l, s, m, rfl, _⟩ := h
    rfl
  · obtain ⟨a, l, s, r, rfl, hH, k⟩ := h
    obtain ⟨dx, n, en, ho⟩ := hH.at_.obj
    refine ⟨_, pss_cons (ps_if (pt_not (pt_val (pe_call Gr hr rfl mr kr br .nil pass0 (pa_cons (pv 1) pa_nil)))) (pss_one (ps_ret (pe_lst (pa_cons (pe_glob (v := .int (-1)) (by rfl) ht1 ⟨_, rfl⟩) pa_nil)))) pss_nil)
      (pss_cons (ps_set (i := 2) scGrantsM.nd rfl (Or.inl rfl) (pe_call Go hr rfl mo ko bo .nil pass0 (pa_cons (pv 1) (pa_cons (pe_fld (pv 0) rfl) pa_nil))))
      (pss_cons (ps_set (i := 3) scGrantsM.nd rfl (Or.inl rfl) (pe_lst (pa_cons (pe_callB call_len_seq (by rfl) T.len PySem.boot_len (pa_cons (pv 2) pa_nil)) pa_nil)))
      (pss_cons (ps_for PassesOwn.never rfl (pi_list (pv 2)) (pg_name (i := 4) scGrantsM.nd rfl (Or.inl rfl))
        (pss_one (ps_expr (pe_bm PySem.F.plainAttrs_list PySem.F.slot_list_extend PySem.F.type_list_extend mt_extend (pv 3) (pa_cons (pe_lst (pa_cons (pe_fld (pv 4) rfl) (pa_cons (pe_fld (pv 4) rfl) (pa_cons (pe_fld (pv 4) rfl) (pa_cons (pe_fld (pv 4) rfl) pa_nil))))) pa_nil)))))
      (pss_one (ps_ret (pv 3)))))), ?_⟩
    have st : Wm01.step s (.grants r) = (s, if Wm01.isRight r = false then [-1] else ((s.grants.filter fun g => g.right == r).length : Int) :: Wm01.ints ((s.grants.filter fun g => g.right == r).flatMap fun g => [g.num, g.giver, g.taker, Wm01.flag g.pass])) := rfl
    rw [st] at k
    refine ⟨_, rfl, r, rfl, _, rfl, ?_⟩
    cases c : Wm01.isRight r with
    | false =>
      rw [if_pos c] at k
      exact iteT ⟨by show 1 ≤ sizeLine; decide, fun z hz => k.stay hH.at_ (same_new hz) hz upd_same⟩
    | true =>
      rw [if_neg (by rw [c]; decide)] at k
      refine iteF ⟨_, rfl, _, rfl, a, Ch, dx, _, _, rfl, ho, TH.cl, TH.nStanding, hF_standing l n, r, l, s.grants, rfl, hH.at_.lst, hH.len, fun H1 q1 s1 hq1 h1 => ?_⟩
      obtain ⟨xs, hxs, lx, item⟩ := h1.item
      have lo : (ofR r s.grants).length ≤ 1000 := Nat.le_trans (List.length_filter_le _ _) hH.len
      refine ⟨_, rfl, q1, xs, rfl, .inl (SqL.of hxs), by show 1 ≤ sizeLine; decide, fun q hq => ?_⟩
      have s2 : Same H1 (upd H1 q (.lst [.int (xs.length : Int)])) := same_new hq
      rw [lx] at s2 ⊢
      have hqH : H q = none := s1.free hq
      refine ⟨_, rfl, q1, rfl, ⟨_, SqL.of (s2 _ _ hxs)⟩, for_list (K := K) (a := q1) (xs := xs) (fun i σ H' => ∃ v4 : Option V, σ = [some (.ref a), some (.int r), some (.ref q1), some (.ref q), v4] ∧ Same H1 H' ∧ LN H' q ((ofR r s.grants).length :: rowsG ((ofR r s.grants).take i)))
        ⟨none, rfl, s2, upd_same⟩ (fun i σ H' _ ⟨_, _, s3, _⟩ => SqL.of (s3 _ _ hxs)) ?_ ?_⟩
      · rintro i x σ H' hi ⟨v4, rfl, s3, hq3⟩
        obtain ⟨x, g, rfl, hg, hgi, tk⟩ := item i x hi
        obtain ⟨dg, hg3⟩ := hg.same s3
        refine ⟨_, rfl, .inl ⟨rfl, _, SqL.of hq3⟩, _, rfl, x, Cg, dg, _, _, rfl, hg3, T.cl, T.nNumber, gF_number g, _, rfl, x, Cg, dg, _, _, rfl, hg3, T.cl, T.nGiver, gF_giver g, _, rfl, x, Cg, dg, _, _, rfl, hg3, T.cl, T.nTaker, gF_taker g, _, rfl, x, Cg, dg, _, _, rfl, hg3, T.cl, T.nOnward, gF_onward g,
          by show 4 ≤ sizeLine; decide, fun z hz => ?_⟩
        refine ⟨q, z, _, _, rfl, rfl, (same_new hz) _ _ hq3, upd_same, ?_, some (.ref x), rfl, same_upd hq (s3.trans (same_new hz)), ?_⟩
        · rw [List.length_map, List.length_cons, rowsG_len, List.length_take]
          have : (10000 : Nat) < sizeLine := by decide
          show _ + 4 ≤ _
          omega
        · unfold LN
          rw [upd_same, tk]
          have e : rowsG ((ofR r s.grants).take i ++ [g]) = rowsG ((ofR r s.grants).take i) ++ [g.num, g.giver, g.taker, Wm01.flag g.pass] := by
            unfold rowsG
            rw [List.flatMap_append]
            rfl
          have e' : rowsG (List.take i (List.filter (fun g => g.right == r) s.grants) ++ [g]) = rowsG (List.take i (List.filter (fun g => g.right == r) s.grants)) ++ [g.num, g.giver, g.taker, Wm01.flag g.pass] := e
          rw [e', List.map_cons, List.map_cons, List.map_append]
          rfl
      · rintro σ H' ⟨v4, rfl, s3, hq3⟩
        rw [lx] at hq3
        have e : (ofR r s.grants).take (List.filter (fun g => g.right == r) s.grants).length = ofR r s.grants := List.take_length
        rw [e] at hq3
        refine ⟨_, rfl, k.stay hH.at_ (s1.trans s3) hqH ?_⟩
        rw [hq3]
        show some (HO.lst (((ofR r s.grants).length :: rowsG (ofR r s.grants)).map fun (n : Nat) => V.int (n : Int))) = some (HO.lst ((((ofR r s.grants).length :: rowsG (ofR r s.grants)).map fun (n : Nat) => (n : Int)).map V.int))
        rw [nats_int]
end
end Gb
namespace Gb
open PySem PySem.Spec PyProof.Rows L2
abbrev sAnswer : Stmt := top 47
abbrev sAnswers : Stmt := top 48
/-- a call's number and its numbers -/
def spAnswer (Ch Cg : Addr) (ok : Wm01.Call → Prop) : Sp := fun vs H Q _ => ∃ (a l nl : Addr) (s : Wm01.House) (c : Wm01.Call) (i : Nat) (as : List Nat), flatN c = i :: as ∧ vs = [.ref a, .int i, .ref nl] ∧ LN H nl as ∧ ok c ∧ HAsk Ch Cg H a l s ∧ mth Ch Cg H a l (Wm01.step s c) Q
def spAnswers (ok : Wm01.Call → Prop) (K : PySem.W.Frag) : Sp := fun vs H Q _ => ∃ (a : Addr) (ns : List Int) (cs : List Wm01.Call), vs = [.ref a] ∧ SqL K H a (ns.map V.int) ∧ ns = cs.flatMap flat ∧ cs.length ≤ 60 ∧ (∀ c ∈ cs, ok c) ∧ (PyFlat.told (plays Wm01.init cs)).length ≤ 10000000 ∧
  ∀ (H' : Hp) (p : Addr), H' p = some (.lst ((PyFlat.told (plays Wm01.init cs)).map V.int)) → Q (.ref p) H'
/-- how many numbers a call has, by its own number -/
def arN (c : Wm01.Call) : Nat := (flatN c).length - 1
structure TxtA (K : PySem.W.Frag) (mg : Str → Option Value) (ok : Wm01.Call → Prop) : Prop where
  args : ∃ (t : Addr) (ar : List Nat), mg "ARGUMENTS" = some (.ref t) ∧ (∀ H, SqT K H t (ar.map fun (n : Nat) => V.int (n : Int))) ∧ ∀ c i as, ok c → flatN c = i :: as → ar[i]? = some as.length
theorem cut_mid (pre as post : List Int) (n : Int) : cutV ((pre ++ (n :: as) ++ post).map V.int) (some ((pre.length : Int) + 1)) (some ((pre.length : Int) + 1 + (as.length : Int))) = as.map V.int := by
  have e1 : (pre.length : Int) + 1 = ((pre.length + 1 : Nat) : Int) := rfl
  have e2 : ((pre.length + 1 : Nat) : Int) + (as.length : Int) = ((pre.length + 1 + as.length : Nat) : Int) := rfl
  unfold cutV
  rw [e1, e2, HT.sIx_nat, HT.sIx_nat]
  have len : ((pre ++ (n :: as) ++ post).map V.int).length = pre.length + (as.length + 1) + post.length := by simp; omega
  rw [len, Nat.min_eq_left (by omega), Nat.min_eq_left (by omega)]
  have ea : (pre ++ (n :: as) ++ post).map V.int = (pre ++ [n]).map V.int ++ (as.map V.int ++ post.map V.int) := by simp
  have el : pre.length + 1 = ((pre ++ [n]).map V.int).length := by simp
  have ez : pre.length + 1 + as.length - (pre.length + 1) = (as.map V.int).length := by
    rw [List.length_map]
    omega
  rw [ez, ea, el, List.drop_left, List.take_left]
section
variable {P : Program} {w : World} {K : PySem.W.Frag} {mg : Str → Option Value} {base : Heap} {Cg Ch : Addr} {ok : Wm01.Call → Prop}
theorem scAnswers : FnScope ["calls", "house", "answered", "place", "call", "after", "numbers"] ["calls"] (defScope sAnswers) := ⟨rfl, rfl, rfl, by decide +kernel, rfl, by decide +kernel, by decide +kernel⟩
theorem ok_answers {f : Addr} {fd : FuncData} (F : Fun K "answers" "answers" sAnswers f fd) (T : Txt K mg Cg) (TH : TxtH K mg Ch) (TA : TxtA K mg ok) (OH : Mks P w K mg base 1 Ch ["self"] (spHouseInit Ch Cg)) (OA : Ok P w K mg base 19 "answer" ["house", "call", "numbers"] (spAnswer Ch Cg ok)) :
    FnOk P w K mg base CX0 20 f fd ["calls"] (spAnswers ok K) := by
  obtain ⟨fh, fdh, Mh, bh, Gh⟩ := OH.ex
  obtain ⟨fo, fdo, mo, ko, bo, Go⟩ := OA.ex
  obtain ⟨ta, ar, mga, hta, har⟩ := TA.args
  refine F.ok scAnswers (fun vs H Q E h => ?_) (fun cdv A outer s H vs Q E hr h => ?_)
  · obtain ⟨a, ns, cs, rfl, _⟩ := h
    rfl
  · obtain ⟨a, ns, cs, rfl, hS, rfl, h60, hok, hlen, k⟩ := h
    have hr2 : Room 2 _ := hr.mono (by decide)
    refine ⟨_, pss_cons (ps_set (i := 1) scAnswers.nd rfl (Or.inl rfl) (pe_make0 Mh Gh hr2 rfl TH.mgC bh .nil pass0))
      (pss_cons (ps_set (i := 2) scAnswers.nd rfl (Or.inl rfl) (pe_lst pa_nil))
      (pss_cons (ps_set (i := 3) scAnswers.nd rfl (Or.inl rfl) pe_int)
      (pss_cons (ps_while PassesOwn.never (pt_cmpR op_lt (pv 3) (pe_callB call_len_seq (by rfl) T.len PySem.boot_len (pa_cons (pv 0) pa_nil)) (nomark _))
        (pss_cons (ps_set (i := 4) scAnswers.nd rfl (Or.inl rfl) (pe_ix ix_list (pv 0) (pv 3) (fun _ _ => rfl)))
        (pss_cons (ps_set (i := 5) scAnswers.nd rfl (Or.inl rfl) (pe_op op_add (pe_op op_add (pv 3) pe_int) (pe_ix ix_tup (pe_glob (v := .ref ta) (by rfl) mga rfl) (pv 4) (fun _ _ => rfl))))
        (pss_cons (ps_set (i := 6) scAnswers.nd rfl (Or.inl rfl) (pe_call Go hr rfl mo ko bo .nil pass0 (pa_cons (pv 1) (pa_cons (pv 4) (pa_cons (pe_slice sl_list (pv 0) (po_some (pe_op op_add (pv 3) pe_int)) (po_some (pv 5))) pa_nil)))))
        (pss_cons (ps_expr (pe_bm PySem.F.plainAttrs_list PySem.F.slot_list_append PySem.F.type_list_append mt_append (pv 2) (pa_cons (pe_callB call_len_seq (by rfl) T.len PySem.boot_len (pa_cons (pv 6) pa_nil)) pa_nil)))
        (pss_cons (ps_expr (pe_bm PySem.F.plainAttrs_list PySem.F.slot_list_extend PySem.F.type_list_extend mt_extend (pv 2) (pa_cons (pv 6) pa_nil)))
        (pss_one (ps_set (i := 3) scAnswers.nd rfl (Or.inl rfl) (pv 5)))))))))
      (pss_one (ps_ret (pv 2)))))), ?_⟩
    -- house = House()
    intro x dx nx ndx nex
    refine ⟨x, dx, rfl, upd_same, fun H1 l0 hA hl0 kp => ⟨rfl, ?_⟩⟩
    have s1 : Same H H1 := Same.made nx ndx kp
    have nl0 : H l0 = none := by
      have e1 : l0 ≠ x := fun e => by
        rw [e, upd_same] at hl0
        cases hl0
      rw [upd_ne e1] at hl0
      by_cases e2 : l0 = dx
      · rw [e2]
        exact ndx
      · rw [upd_ne e2] at hl0
        exact hl0
    -- answered = []
    refine ⟨Nat.zero_le _, fun q hq => ?_⟩
    have nq : H q = none := s1.free hq
    have s2 : Same H (upd H1 q (.lst [])) := s1.trans (same_new hq)
    have nxq : x ≠ q := by
      obtain ⟨_, _, _, ho⟩ := hA.obj
      exact ne_of_none ho hq
    refine ⟨fun m σ H' => ∃ (done rest : List Wm01.Call) (l : Addr) (v4 v5 v6 : Option V), m = rest.length ∧ cs = done ++ rest ∧
      σ = [some (.ref a), some (.ref x), some (.ref q), some (.int ((done.flatMap flat).length : Nat)), v4, v5, v6] ∧ Same H H' ∧ HAt Ch Cg H' x l (runs Wm01.init done) ∧ H l = none ∧ l ≠ q ∧ H' q = some (.lst ((PyFlat.told (plays Wm01.init done)).map V.int)),
      ⟨_, [], cs, l0, none, none, none, rfl, rfl, rfl, s2, hA.same (same_new hq), nl0, hA.lst.ne_none hq, upd_same⟩, ?_⟩
    rintro m σ H' ⟨done, rest, l, v4, v5, v6, rfl, rfl, rfl, s3, hA3, nl, nlq, hq3⟩
    have hS3 := s3.seq hS
    refine ⟨_, rfl, _, rfl, a, _, rfl, .inl hS3, _, _, rfl, rfl, _, rfl, ?_⟩
    cases rest with
    | nil =>
      refine if_f (decide_eq_false (by rw [List.append_nil, List.length_map]; omega)) ?_
      rw [List.append_nil] at k
      exact ⟨_, rfl, k H' q hq3⟩
    | cons c rest =>
      obtain ⟨i, as, ec⟩ : ∃ i as, flatN c = i :: as := by cases c <;> exact ⟨_, _, rfl⟩
      have ef : flat c = (i : Int) :: as.map (fun (n : Nat) => (n : Int)) := by
        unfold flat
        rw [ec]
        rfl
      have eall : (done ++ c :: rest).flatMap flat = done.flatMap flat ++ ((i : Int) :: as.map (fun (n : Nat) => (n : Int))) ++ rest.flatMap flat := by
        rw [List.flatMap_append, List.flatMap_cons, ef, List.append_assoc]
      generalize epre : done.flatMap flat = pre at eall
      have hc := hok c (List.mem_append_right _ List.mem_cons_self)
      have hlt : (pre.length : Int) < ((((done ++ c :: rest).flatMap flat).map V.int).length : Int) := by
        rw [eall, List.length_map, List.length_append, List.length_append, List.length_cons]
        omega
      refine if_t (decide_eq_true hlt) ⟨fun σ' H'' => ∃ m', m' < (c :: rest).length ∧ ∃ (done' rest' : List Wm01.Call) (l : Addr) (v4 v5 v6 : Option V), m' = rest'.length ∧ done ++ c :: rest = done' ++ rest' ∧
        σ' = [some (.ref a), some (.ref x), some (.ref q), some (.int ((done'.flatMap flat).length : Nat)), v4, v5, v6] ∧ Same H H'' ∧ HAt Ch Cg H'' x l (runs Wm01.init done') ∧ H l = none ∧ l ≠ q ∧ H'' q = some (.lst ((PyFlat.told (plays Wm01.init done')).map V.int)), fun σ' H'' h => h, ?_⟩
      -- call = calls[place]
      have hat : ((done ++ c :: rest).flatMap flat).map V.int = (pre.map V.int) ++ V.int i :: ((as.map (fun (n : Nat) => (n : Int)) ++ rest.flatMap flat).map V.int) := by
        rw [eall]
        simp
      have hget : (((done ++ c :: rest).flatMap flat).map V.int)[pre.length]? = some (V.int i) := by
        rw [hat, List.getElem?_append_right (by rw [List.length_map]; exact Nat.le_refl _), List.length_map, Nat.sub_self]
        rfl
      refine ⟨_, rfl, _, rfl, a, _, _, _, rfl, rfl, hS3, atI_nat hget, ?_⟩
      -- after = place + 1 + ARGUMENTS[call]
      have hgar : (ar.map fun (n : Nat) => V.int (n : Int))[i]? = some (V.int (as.length : Int)) := by
        rw [List.getElem?_map, har c i as hc ec]
        rfl
      refine ⟨_, rfl, _, _, rfl, rfl, _, rfl, ta, _, _, _, rfl, rfl, hta H', atI_nat hgar, _, _, rfl, rfl, ?_⟩
      -- numbers = answer(house, call, calls[place + 1:after])
      refine ⟨_, rfl, _, rfl, _, rfl, _, rfl, _, _, rfl, rfl, _, rfl, _, rfl, _, rfl, a, _, rfl, hS3, fun p hp => ?_⟩
      have hcut : cutV (((done ++ c :: rest).flatMap flat).map V.int) (some ((pre.length : Int) + 1)) (some ((pre.length : Int) + 1 + (as.length : Int))) = as.map (fun (n : Nat) => V.int (n : Int)) := by
        have := cut_mid pre (as.map (fun (n : Nat) => (n : Int))) (rest.flatMap flat) (i : Int)
        rw [List.length_map] at this
        rw [eall, this, List.map_map]
        rfl
      have s4 : Same H' (upd H' p (.lst (cutV (((done ++ c :: rest).flatMap flat).map V.int) (some ((pre.length : Int) + 1)) (some ((pre.length : Int) + 1 + (as.length : Int)))))) := same_new hp
      have hA4 := hA3.same s4
      have inv := runs_inv done inv_init
      have nxt : (runs Wm01.init done).next ≤ 1000 := by
        have h1 := runs_next done Wm01.init
        have h2 : done.length ≤ 60 := by
          rw [List.length_append] at h60
          omega
        have h3 : Wm01.init.next = 1 := rfl
        omega
      refine ⟨x, l, p, runs Wm01.init done, c, i, as, ec, rfl, (by unfold LN; rw [upd_same, hcut]), hc, ⟨hA4, inv, nxt⟩, fun H5 l5 q5 hA5 hl5 k5 nq5 hq5 => ?_⟩
      have nxq' : q ≠ x := fun e => nxq e.symm
      have hq5' : H5 q = some (.lst ((PyFlat.told (plays Wm01.init done)).map V.int)) := k5 q _ (s4 _ _ hq3) nxq' (fun e => nlq e.symm)
      have nq5q : q5 ≠ q := fun e => by
        rw [e, s4 _ _ hq3] at nq5
        cases nq5
      have s5 : Same H H5 := fun b o e => k5 b o (s4 _ _ (s3 _ _ e)) (ne_of_none e nx) (ne_of_none e nl)
      have nl5 : H l5 = none := by
        rcases hl5 with e | e
        · rw [e]
          exact nl
        · exact (s3.trans s4).free e
      have nlq5 : l5 ≠ q := by
        rcases hl5 with e | e
        · rw [e]
          exact nlq
        · intro z
          rw [z, s4 _ _ hq3] at e
          cases e
      have sz := plays_snoc done c Wm01.init
      have lenS : (PyFlat.told (plays Wm01.init done)).length + (((Wm01.step (runs Wm01.init done) c).2).length + 1) ≤ 10000000 := by
        have e : done ++ c :: rest = (done ++ [c]) ++ rest := by simp
        rw [e, plays_append, told_append, List.length_append, sz, List.length_append, List.length_cons] at hlen
        omega
      -- answered.append(len(numbers))
      refine ⟨_, rfl, .inl ⟨rfl, _, SqL.of hq5'⟩, _, rfl, q5, _, rfl, .inl (SqL.of hq5), q, _, _, rfl, rfl, hq5', ?_, ?_⟩
      · rw [List.length_map]
        have : (10000000 : Nat) < sizeLine := by decide
        omega
      -- answered.extend(numbers)
      have hq6 : (upd H5 q (.lst ((PyFlat.told (plays Wm01.init done)).map V.int ++ [V.int ((((Wm01.step (runs Wm01.init done) c).2.map V.int).length : Nat) : Int)]))) q5 = some (.lst ((Wm01.step (runs Wm01.init done) c).2.map V.int)) := by
        rw [upd_ne nq5q]
        exact hq5
      refine ⟨_, rfl, .inl ⟨rfl, _, SqL.of upd_same⟩, _, rfl, q, q5, _, _, rfl, rfl, upd_same, hq6, ?_, ?_⟩
      · rw [List.length_append, List.length_map, List.length_map]
        have : (10000000 : Nat) < sizeLine := by decide
        show _ + 1 + _ ≤ _
        omega
      -- place = after
      refine ⟨_, rfl, rest.length, by rw [List.length_cons]; omega, done ++ [c], rest, l5, some (.int i), some (.int ((pre.length : Int) + 1 + (as.length : Int))), some (.ref q5), rfl, by simp, ?_, ?_, ?_, nl5, nlq5, ?_⟩
      · have e : ((((done ++ [c]).flatMap flat).length : Nat) : Int) = (pre.length : Int) + 1 + (as.length : Int) := by
          rw [List.flatMap_append, epre, List.length_append]
          show ((pre.length + (flat c ++ []).length : Nat) : Int) = _
          rw [List.append_nil, ef, List.length_cons, List.length_map]
          omega
        rw [e]
        rfl
      · exact same_upd nq (same_upd nq s5)
      · rw [runs_snoc]
        obtain ⟨d6, n6, e6, o6⟩ := hA5.obj
        have nob : ∀ (Hx : Hp) (zs : List V) (zs' : List V), Hx q = some (.lst zs) → HAt Ch Cg Hx x l5 (Wm01.step (runs Wm01.init done) c).1 → HAt Ch Cg (upd Hx q (.lst zs')) x l5 (Wm01.step (runs Wm01.init done) c).1 := fun Hx zs zs' hz hh => by
          obtain ⟨d, n, e, o⟩ := hh.obj
          exact ⟨⟨d, n, e, by rw [upd_ne nxq]; exact o⟩, hh.lst.upd nlq5 hz (by intro dx' fs z; cases z)⟩
        exact nob _ _ _ upd_same (nob _ _ _ hq5' hA5)
      · rw [upd_same, sz, List.map_append, List.map_cons, List.append_assoc, List.length_map]
        rfl
end
end Gb
namespace Gb
open PySem PySem.Spec PyProof.Rows L2
/-- every call is meant -/
def okAll : Wm01.Call → Prop := fun _ => True
structure TxtC (mg : Str → Option Value) : Prop where
  c0 : ∃ t, mg "CALL_GRANT" = some (.int 0 t)
  c1 : ∃ t, mg "CALL_REVOKE" = some (.int 1 t)
  c2 : ∃ t, mg "CALL_OVER" = some (.int 2 t)
  c3 : ∃ t, mg "CALL_CAREFUL" = some (.int 3 t)
  c4 : ∃ t, mg "CALL_LEAVE" = some (.int 4 t)
  c5 : ∃ t, mg "CALL_HAS" = some (.int 5 t)
  c6 : ∃ t, mg "CALL_CHAIN" = some (.int 6 t)
  c7 : ∃ t, mg "CALL_BEHIND" = some (.int 7 t)
  c8 : ∃ t, mg "CALL_FEWEST" = some (.int 8 t)
  c9 : ∃ t, mg "CALL_USERS" = some (.int 9 t)
  c10 : ∃ t, mg "CALL_GRANTS" = some (.int 10 t)
section
variable {P : Program} {w : World} {K : PySem.W.Frag} {mg : Str → Option Value} {base : Heap} {Cg Ch : Addr}
theorem Mt.mono {C : Addr} {j k : Nat} {nm : Str} {ps : List Str} {sp : Sp} (h : Mt P w K mg base j C nm ps sp) (le : j ≤ k) : Mt P w K mg base k C nm ps sp := by
  obtain ⟨f, fd, a, b, d⟩ := h.ex
  exact ⟨f, fd, a, b, d.mono le⟩
theorem scAnswer : FnScope ["house", "call", "numbers"] ["house", "call", "numbers"] (defScope sAnswer) := ⟨rfl, rfl, rfl, by decide +kernel, rfl, by decide +kernel, by decide +kernel⟩
theorem ok_answer (F : Df K mg "answer" sAnswer ["house", "call", "numbers"]) (TH : TxtH K mg Ch) (TC : TxtC mg)
    (O0 : Mt P w K mg base 18 Ch "grant" ["self", "giver", "taker", "right", "onward"] (spGrantM Ch Cg))
    (O1 : Mt P w K mg base 18 Ch "revoke" ["self", "giver", "taker", "right"] (spThree Ch Cg .revoke))
    (O2 : Mt P w K mg base 18 Ch "over" ["self", "giver", "taker", "right"] (spThree Ch Cg .over))
    (O3 : Mt P w K mg base 18 Ch "careful" ["self", "giver", "taker", "right"] (spThree Ch Cg .careful))
    (O4 : Mt P w K mg base 18 Ch "leave" ["self", "user"] (spLeave Ch Cg))
    (O5 : Mt P w K mg base 18 Ch "has" ["self", "user", "right"] (spHasM Ch Cg))
    (O6 : Mt P w K mg base 18 Ch "chain" ["self", "user", "right"] (spTwo Ch Cg .chain))
    (O7 : Mt P w K mg base 18 Ch "behind" ["self", "number"] (spOne Ch Cg .behind))
    (O8 : Mt P w K mg base 18 Ch "fewest" ["self", "user", "right"] (spTwo Ch Cg .fewest))
    (O9 : Mt P w K mg base 18 Ch "users" ["self", "right"] (spOne Ch Cg .users))
    (O10 : Mt P w K mg base 18 Ch "grants" ["self", "right"] (spOne Ch Cg .grants))
    (O11 : Mt P w K mg base 18 Ch "lose" ["self", "giver", "taker", "right"] (spThree Ch Cg .lose))
    : Ok P w K mg base 19 "answer" ["house", "call", "numbers"] (spAnswer Ch Cg okAll) := by
  obtain ⟨f0, fd0, m0, b0, G0⟩ := O0.ex
  obtain ⟨f1, fd1, m1, b1, G1⟩ := O1.ex
  obtain ⟨f2, fd2, m2, b2, G2⟩ := O2.ex
  obtain ⟨f3, fd3, m3, b3, G3⟩ := O3.ex
  obtain ⟨f4, fd4, m4, b4, G4⟩ := O4.ex
  obtain ⟨f5, fd5, m5, b5, G5⟩ := O5.ex
  obtain ⟨f6, fd6, m6, b6, G6⟩ := O6.ex
  obtain ⟨f7, fd7, m7, b7, G7⟩ := O7.ex
  obtain ⟨f8, fd8, m8, b8, G8⟩ := O8.ex
  obtain ⟨f9, fd9, m9, b9, G9⟩ := O9.ex
  obtain ⟨f10, fd10, m10, b10, G10⟩ := O10.ex
  obtain ⟨f11, fd11, m11, b11, G11⟩ := O11.ex
  obtain ⟨t0, h0⟩ := TC.c0
  obtain ⟨t1, h1⟩ := TC.c1
  obtain ⟨t2, h2⟩ := TC.c2
  obtain ⟨t3, h3⟩ := TC.c3
  obtain ⟨t4, h4⟩ := TC.c4
  obtain ⟨t5, h5⟩ := TC.c5
  obtain ⟨t6, h6⟩ := TC.c6
  obtain ⟨t7, h7⟩ := TC.c7
  obtain ⟨t8, h8⟩ := TC.c8
  obtain ⟨t9, h9⟩ := TC.c9
  obtain ⟨t10, h10⟩ := TC.c10
  refine F.ok scAnswer (fun vs H Q E h => ?_) (fun f cdv A outer s H vs Q E hr h => ?_)
  · obtain ⟨a, l, nl, s, c, i, as, ec, rfl, _⟩ := h
    rfl
  · obtain ⟨a, l, nl, s, c, i, as, ec, rfl, hn, hok, hH, k⟩ := h
    obtain ⟨dx, n, en, ho⟩ := hH.at_.obj
    refine ⟨_, pss_cons (ps_if (pt_cmpR op_eq (pv 1) (pe_glob (v := .int 0) (by rfl) h0 ⟨_, rfl⟩) (nomark _)) (pss_one (ps_ret (pe_meth (pv 0) TH.cl m0 G0 hr b0 .nil pass0 (pa_cons (pe_ix ix_list (pv 2) pe_int (fun _ _ => rfl)) (pa_cons (pe_ix ix_list (pv 2) pe_int (fun _ _ => rfl)) (pa_cons (pe_ix ix_list (pv 2) pe_int (fun _ _ => rfl)) (pa_cons (pe_ix ix_list (pv 2) pe_int (fun _ _ => rfl)) pa_nil))))))) pss_nil)
      (pss_cons (ps_if (pt_cmpR op_eq (pv 1) (pe_glob (v := .int 1) (by rfl) h1 ⟨_, rfl⟩) (nomark _)) (pss_one (ps_ret (pe_meth (pv 0) TH.cl m1 G1 hr b1 .nil pass0 (pa_cons (pe_ix ix_list (pv 2) pe_int (fun _ _ => rfl)) (pa_cons (pe_ix ix_list (pv 2) pe_int (fun _ _ => rfl)) (pa_cons (pe_ix ix_list (pv 2) pe_int (fun _ _ => rfl)) pa_nil)))))) pss_nil)
      (pss_cons (ps_if (pt_cmpR op_eq (pv 1) (pe_glob (v := .int 2) (by rfl) h2 ⟨_, rfl⟩) (nomark _)) (pss_one (ps_ret (pe_meth (pv 0) TH.cl m2 G2 hr b2 .nil pass0 (pa_cons (pe_ix ix_list (pv 2) pe_int (fun _ _ => rfl)) (pa_cons (pe_ix ix_list (pv 2) pe_int (fun _ _ => rfl)) (pa_cons (pe_ix ix_list (pv 2) pe_int (fun _ _ => rfl)) pa_nil)))))) pss_nil)
      (pss_cons (ps_if (pt_cmpR op_eq (pv 1) (pe_glob (v := .int 3) (by rfl) h3 ⟨_, rfl⟩) (nomark _)) (pss_one (ps_ret (pe_meth (pv 0) TH.cl m3 G3 hr b3 .nil pass0 (pa_cons (pe_ix ix_list (pv 2) pe_int (fun _ _ => rfl)) (pa_cons (pe_ix ix_list (pv 2) pe_int (fun _ _ => rfl)) (pa_cons (pe_ix ix_list (pv 2) pe_int (fun _ _ => rfl)) pa_nil)))))) pss_nil)
      (pss_cons (ps_if (pt_cmpR op_eq (pv 1) (pe_glob (v := .int 4) (by rfl) h4 ⟨_, rfl⟩) (nomark _)) (pss_one (ps_ret (pe_meth (pv 0) TH.cl m4 G4 hr b4 .nil pass0 (pa_cons (pe_ix ix_list (pv 2) pe_int (fun _ _ => rfl)) pa_nil)))) pss_nil)
      (pss_cons (ps_if (pt_cmpR op_eq (pv 1) (pe_glob (v := .int 5) (by rfl) h5 ⟨_, rfl⟩) (nomark _)) (pss_one (ps_ret (pe_meth (pv 0) TH.cl m5 G5 hr b5 .nil pass0 (pa_cons (pe_ix ix_list (pv 2) pe_int (fun _ _ => rfl)) (pa_cons (pe_ix ix_list (pv 2) pe_int (fun _ _ => rfl)) pa_nil))))) pss_nil)
      (pss_cons (ps_if (pt_cmpR op_eq (pv 1) (pe_glob (v := .int 6) (by rfl) h6 ⟨_, rfl⟩) (nomark _)) (pss_one (ps_ret (pe_meth (pv 0) TH.cl m6 G6 hr b6 .nil pass0 (pa_cons (pe_ix ix_list (pv 2) pe_int (fun _ _ => rfl)) (pa_cons (pe_ix ix_list (pv 2) pe_int (fun _ _ => rfl)) pa_nil))))) pss_nil)
      (pss_cons (ps_if (pt_cmpR op_eq (pv 1) (pe_glob (v := .int 7) (by rfl) h7 ⟨_, rfl⟩) (nomark _)) (pss_one (ps_ret (pe_meth (pv 0) TH.cl m7 G7 hr b7 .nil pass0 (pa_cons (pe_ix ix_list (pv 2) pe_int (fun _ _ => rfl)) pa_nil)))) pss_nil)
      (pss_cons (ps_if (pt_cmpR op_eq (pv 1) (pe_glob (v := .int 8) (by rfl) h8 ⟨_, rfl⟩) (nomark _)) (pss_one (ps_ret (pe_meth (pv 0) TH.cl m8 G8 hr b8 .nil pass0 (pa_cons (pe_ix ix_list (pv 2) pe_int (fun _ _ => rfl)) (pa_cons (pe_ix ix_list (pv 2) pe_int (fun _ _ => rfl)) pa_nil))))) pss_nil)
      (pss_cons (ps_if (pt_cmpR op_eq (pv 1) (pe_glob (v := .int 9) (by rfl) h9 ⟨_, rfl⟩) (nomark _)) (pss_one (ps_ret (pe_meth (pv 0) TH.cl m9 G9 hr b9 .nil pass0 (pa_cons (pe_ix ix_list (pv 2) pe_int (fun _ _ => rfl)) pa_nil)))) pss_nil)
      (pss_cons (ps_if (pt_cmpR op_eq (pv 1) (pe_glob (v := .int 10) (by rfl) h10 ⟨_, rfl⟩) (nomark _)) (pss_one (ps_ret (pe_meth (pv 0) TH.cl m10 G10 hr b10 .nil pass0 (pa_cons (pe_ix ix_list (pv 2) pe_int (fun _ _ => rfl)) pa_nil)))) pss_nil)
      (pss_one (ps_ret (pe_meth (pv 0) TH.cl m11 G11 hr b11 .nil pass0 (pa_cons (pe_ix ix_list (pv 2) pe_int (fun _ _ => rfl)) (pa_cons (pe_ix ix_list (pv 2) pe_int (fun _ _ => rfl)) (pa_cons (pe_ix ix_list (pv 2) pe_int (fun _ _ => rfl)) pa_nil)))))))))))))))), ?_⟩
    refine ⟨_, rfl, rfl, _, rfl, ?_⟩
    cases c with
    | grant x y r p =>
      cases ec
      refine if_t (by decide) ?_
      exact ⟨_, rfl, a, dx, _, rfl, ho, hF_no _ _ (by decide +kernel) (by decide +kernel), _, rfl, nl, _, _, _, rfl, rfl, SqL.of hn, atI_nat (j := 0) rfl, _, rfl, nl, _, _, _, rfl, rfl, SqL.of hn, atI_nat (j := 1) rfl, _, rfl, nl, _, _, _, rfl, rfl, SqL.of hn, atI_nat (j := 2) rfl, _, rfl, nl, _, _, _, rfl, rfl, SqL.of hn, atI_nat (j := 3) rfl, a, l, s, x, y, r, p, rfl, hH, k⟩
    | revoke x y r =>
      cases ec
      refine if_f (by decide) ⟨_, rfl, rfl, _, rfl, if_t (by decide) ?_⟩
      exact ⟨_, rfl, a, dx, _, rfl, ho, hF_no _ _ (by decide +kernel) (by decide +kernel), _, rfl, nl, _, _, _, rfl, rfl, SqL.of hn, atI_nat (j := 0) rfl, _, rfl, nl, _, _, _, rfl, rfl, SqL.of hn, atI_nat (j := 1) rfl, _, rfl, nl, _, _, _, rfl, rfl, SqL.of hn, atI_nat (j := 2) rfl, a, l, s, x, y, r, rfl, hH, k⟩
    | over x y r =>
      cases ec
      refine if_f (by decide) ⟨_, rfl, rfl, _, rfl, if_f (by decide) ⟨_, rfl, rfl, _, rfl, if_t (by decide) ?_⟩⟩
      exact ⟨_, rfl, a, dx, _, rfl, ho, hF_no _ _ (by decide +kernel) (by decide +kernel), _, rfl, nl, _, _, _, rfl, rfl, SqL.of hn, atI_nat (j := 0) rfl, _, rfl, nl, _, _, _, rfl, rfl, SqL.of hn, atI_nat (j := 1) rfl, _, rfl, nl, _, _, _, rfl, rfl, SqL.of hn, atI_nat (j := 2) rfl, a, l, s, x, y, r, rfl, hH, k⟩
    | careful x y r =>
      cases ec
      refine if_f (by decide) ⟨_, rfl, rfl, _, rfl, if_f (by decide) ⟨_, rfl, rfl, _, rfl, if_f (by decide) ⟨_, rfl, rfl, _, rfl, if_t (by decide) ?_⟩⟩⟩
      exact ⟨_, rfl, a, dx, _, rfl, ho, hF_no _ _ (by decide +kernel) (by decide +kernel), _, rfl, nl, _, _, _, rfl, rfl, SqL.of hn, atI_nat (j := 0) rfl, _, rfl, nl, _, _, _, rfl, rfl, SqL.of hn, atI_nat (j := 1) rfl, _, rfl, nl, _, _, _, rfl, rfl, SqL.of hn, atI_nat (j := 2) rfl, a, l, s, x, y, r, rfl, hH, k⟩
    | leave u =>
      cases ec
      refine if_f (by decide) ⟨_, rfl, rfl, _, rfl, if_f (by decide) ⟨_, rfl, rfl, _, rfl, if_f (by decide) ⟨_, rfl, rfl, _, rfl, if_f (by decide) ⟨_, rfl, rfl, _, rfl, if_t (by decide) ?_⟩⟩⟩⟩
      exact ⟨_, rfl, a, dx, _, rfl, ho, hF_no _ _ (by decide +kernel) (by decide +kernel), _, rfl, nl, _, _, _, rfl, rfl, SqL.of hn, atI_nat (j := 0) rfl, a, l, s, u, rfl, hH, k⟩
    | has u r =>
      cases ec
      refine if_f (by decide) ⟨_, rfl, rfl, _, rfl, if_f (by decide) ⟨_, rfl, rfl, _, rfl, if_f (by decide) ⟨_, rfl, rfl, _, rfl, if_f (by decide) ⟨_, rfl, rfl, _, rfl, if_f (by decide) ⟨_, rfl, rfl, _, rfl, if_t (by decide) ?_⟩⟩⟩⟩⟩
      exact ⟨_, rfl, a, dx, _, rfl, ho, hF_no _ _ (by decide +kernel) (by decide +kernel), _, rfl, nl, _, _, _, rfl, rfl, SqL.of hn, atI_nat (j := 0) rfl, _, rfl, nl, _, _, _, rfl, rfl, SqL.of hn, atI_nat (j := 1) rfl, a, l, s, u, r, rfl, hH, k⟩
    | chain u r =>
      cases ec
      refine if_f (by decide) ⟨_, rfl, rfl, _, rfl, if_f (by decide) ⟨_, rfl, rfl, _, rfl, if_f (by decide) ⟨_, rfl, rfl, _, rfl, if_f (by decide) ⟨_, rfl, rfl, _, rfl, if_f (by decide) ⟨_, rfl, rfl, _, rfl, if_f (by decide) ⟨_, rfl, rfl, _, rfl, if_t (by decide) ?_⟩⟩⟩⟩⟩⟩
      exact ⟨_, rfl, a, dx, _, rfl, ho, hF_no _ _ (by decide +kernel) (by decide +kernel), _, rfl, nl, _, _, _, rfl, rfl, SqL.of hn, atI_nat (j := 0) rfl, _, rfl, nl, _, _, _, rfl, rfl, SqL.of hn, atI_nat (j := 1) rfl, a, l, s, u, r, rfl, hH, k⟩
    | behind u =>
      cases ec
      refine if_f (by decide) ⟨_, rfl, rfl, _, rfl, if_f (by decide) ⟨_, rfl, rfl, _, rfl, if_f (by decide) ⟨_, rfl, rfl, _, rfl, if_f (by decide) ⟨_, rfl, rfl, _, rfl, if_f (by decide) ⟨_, rfl, rfl, _, rfl, if_f (by decide) ⟨_, rfl, rfl, _, rfl, if_f (by decide) ⟨_, rfl, rfl, _, rfl, if_t (by decide) ?_⟩⟩⟩⟩⟩⟩⟩
      exact ⟨_, rfl, a, dx, _, rfl, ho, hF_no _ _ (by decide +kernel) (by decide +kernel), _, rfl, nl, _, _, _, rfl, rfl, SqL.of hn, atI_nat (j := 0) rfl, a, l, s, u, rfl, hH, k⟩
    | fewest u r =>
      cases ec
      refine if_f (by decide) ⟨_, rfl, rfl, _, rfl, if_f (by decide) ⟨_, rfl, rfl, _, rfl, if_f (by decide) ⟨_, rfl, rfl, _, rfl, if_f (by decide) ⟨_, rfl, rfl, _, rfl, if_f (by decide) ⟨_, rfl, rfl, _, rfl, if_f (by decide) ⟨_, rfl, rfl, _, rfl, if_f (by decide) ⟨_, rfl, rfl, _, rfl, if_f (by decide) ⟨_, rfl, rfl, _, rfl, if_t (by decide) ?_⟩⟩⟩⟩⟩⟩⟩⟩
      exact ⟨_, rfl, a, dx, _, rfl, ho, hF_no _ _ (by decide +kernel) (by decide +kernel), _, rfl, nl, _, _, _, rfl, rfl, SqL.of hn, atI_nat (j := 0) rfl, _, rfl, nl, _, _, _, rfl, rfl, SqL.of hn, atI_nat (j := 1) rfl, a, l, s, u, r, rfl, hH, k⟩
    | users u =>
      cases ec
      refine if_f (by decide) ⟨_, rfl, rfl, _, rfl, if_f (by decide) ⟨_, rfl, rfl, _, rfl, if_f (by decide) ⟨_, rfl, rfl, _, rfl, if_f (by decide) ⟨_, rfl, rfl, _, rfl, if_f (by decide) ⟨_, rfl, rfl, _, rfl, if_f (by decide) ⟨_, rfl, rfl, _, rfl, if_f (by decide) ⟨_, rfl, rfl, _, rfl, if_f (by decide) ⟨_, rfl, rfl, _, rfl, if_f (by decide) ⟨_, rfl, rfl, _, rfl, if_t (by decide) ?_⟩⟩⟩⟩⟩⟩⟩⟩⟩
      exact ⟨_, rfl, a, dx, _, rfl, ho, hF_no _ _ (by decide +kernel) (by decide +kernel), _, rfl, nl, _, _, _, rfl, rfl, SqL.of hn, atI_nat (j := 0) rfl, a, l, s, u, rfl, hH, k⟩
    | grants u =>
      cases ec
      refine if_f (by decide) ⟨_, rfl, rfl, _, rfl, if_f (by decide) ⟨_, rfl, rfl, _, rfl, if_f (by decide) ⟨_, rfl, rfl, _, rfl, if_f (by decide) ⟨_, rfl, rfl, _, rfl, if_f (by decide) ⟨_, rfl, rfl, _, rfl, if_f (by decide) ⟨_, rfl, rfl, _, rfl, if_f (by decide) ⟨_, rfl, rfl, _, rfl, if_f (by decide) ⟨_, rfl, rfl, _, rfl, if_f (by decide) ⟨_, rfl, rfl, _, rfl, if_f (by decide) ⟨_, rfl, rfl, _, rfl, if_t (by decide) ?_⟩⟩⟩⟩⟩⟩⟩⟩⟩⟩
      exact ⟨_, rfl, a, dx, _, rfl, ho, hF_no _ _ (by decide +kernel) (by decide +kernel), _, rfl, nl, _, _, _, rfl, rfl, SqL.of hn, atI_nat (j := 0) rfl, a, l, s, u, rfl, hH, k⟩
    | lose x y r =>
      cases ec
      refine if_f (by decide) ⟨_, rfl, rfl, _, rfl, if_f (by decide) ⟨_, rfl, rfl, _, rfl, if_f (by decide) ⟨_, rfl, rfl, _, rfl, if_f (by decide) ⟨_, rfl, rfl, _, rfl, if_f (by decide) ⟨_, rfl, rfl, _, rfl, if_f (by decide) ⟨_, rfl, rfl, _, rfl, if_f (by decide) ⟨_, rfl, rfl, _, rfl, if_f (by decide) ⟨_, rfl, rfl, _, rfl, if_f (by decide) ⟨_, rfl, rfl, _, rfl, if_f (by decide) ⟨_, rfl, rfl, _, rfl, if_f (by decide) ?_⟩⟩⟩⟩⟩⟩⟩⟩⟩⟩
      exact ⟨_, rfl, a, dx, _, rfl, ho, hF_no _ _ (by decide +kernel) (by decide +kernel), _, rfl, nl, _, _, _, rfl, rfl, SqL.of hn, atI_nat (j := 0) rfl, _, rfl, nl, _, _, _, rfl, rfl, SqL.of hn, atI_nat (j := 1) rfl, _, rfl, nl, _, _, _, rfl, rfl, SqL.of hn, atI_nat (j := 2) rfl, a, l, s, x, y, r, rfl, hH, k⟩
end
/-! ### what the top has written -/
theorem df_mk {K : PySem.W.Frag} {h : Heap} {mg : Str → Option Value} {nm : Str} {st : Stmt} {ps : List Str} {f : Addr} {od an : Option Addr} {sl : Array (Option Value)} {oc kV dc pm cd ct : Value} (X : K.In h) (G : h.Ns mainGlobals mg)
    (hb : ∀ (kV doc pm : Value) (an : Option Addr) (cdv ct : Value) (us : List Value), us.length = ps.length → bindArgs (PySem.W.fnOf nm nm (defArgs st) (defBody st) (defScope st) .none kV doc pm an cdv ct) ⟨us, []⟩ = pure (ps.zip us))
    (a : PySem.W.nsIn K mainGlobals nm = some (some (.ref f))) (l : K.lookup f = some ⟨oc, od, .func (PySem.W.fnOf nm nm (defArgs st) (defBody st) (defScope st) .none kV dc pm an cd ct), sl⟩) (c : PySem.W.codeIn K cd nm = true) (k : PySem.W.keepIn K (.ref f) = true) : Df K mg nm st ps :=
  ⟨f, _, PySem.W.mg_of X G a, fun_mk l c k, (fun_mk l c k).binds hb⟩
theorem md_mk {K : PySem.W.Frag} {C : Addr} {nm qual : Str} {st : Stmt} {ps : List Str} {f : Addr} {od an : Option Addr} {sl : Array (Option Value)} {oc kV dc pm cd ct : Value}
    (hb : ∀ (kV doc pm : Value) (an : Option Addr) (cdv ct : Value) (us : List Value), us.length = ps.length → bindArgs (PySem.W.fnOf nm qual (defArgs st) (defBody st) (defScope st) .none kV doc pm an cdv ct) ⟨us, []⟩ = pure (ps.zip us))
    (a : PySem.W.findIn K (.ref C) nm = some (some (.ref f))) (i : PySem.W.isFn K (.ref f) = true) (l : K.lookup f = some ⟨oc, od, .func (PySem.W.fnOf nm qual (defArgs st) (defBody st) (defScope st) .none kV dc pm an cd ct), sl⟩) (c : PySem.W.codeIn K cd qual = true) (k : PySem.W.keepIn K (.ref f) = true) : Md K C nm qual st ps :=
  ⟨f, _, ⟨a, i, k⟩, fun_mk l c k, (fun_mk l c k).binds hb⟩
theorem in_mk {K : PySem.W.Frag} {C : Addr} {qual : Str} {st : Stmt} {ps : List Str} {f : Addr} {od an : Option Addr} {sl : Array (Option Value)} {oc kV dc pm cd ct : Value}
    (hb : ∀ (kV doc pm : Value) (an : Option Addr) (cdv ct : Value) (us : List Value), us.length = ps.length → bindArgs (PySem.W.fnOf "__init__" qual (defArgs st) (defBody st) (defScope st) .none kV doc pm an cdv ct) ⟨us, []⟩ = pure (ps.zip us))
    (mk : PySem.W.makesIn K C = true) (kc : PySem.W.keepIn K (.ref C) = true) (a : PySem.W.findIn K (.ref C) "__init__" = some (some (.ref f))) (i : PySem.W.isFn K (.ref f) = true) (l : K.lookup f = some ⟨oc, od, .func (PySem.W.fnOf "__init__" qual (defArgs st) (defBody st) (defScope st) .none kV dc pm an cd ct), sl⟩) (c : PySem.W.codeIn K cd qual = true) (k : PySem.W.keepIn K (.ref f) = true) :
    ∃ (f : Addr) (fd : FuncData), Mk K C f ∧ Fun K "__init__" qual st f fd ∧ Binds K fd ps [] :=
  ⟨f, _, ⟨mk, a, i, kc⟩, fun_mk l c k, (fun_mk l c k).binds hb⟩
theorem nm_mk {K : PySem.W.Frag} {h : Heap} {mg : Str → Option Value} {nm : Str} {i : Int} {t : Nat} (X : K.In h) (G : h.Ns mainGlobals mg) (a : PySem.W.nsIn K mainGlobals nm = some (some (.int i t))) : ∃ t, mg nm = some (.int i t) := ⟨t, PySem.W.mg_of X G a⟩
end Gb
namespace Gb
open PySem PySem.Spec PyProof.Rows L2
theorem tup_mk {K : PySem.W.Frag} {h : Heap} {mg : Str → Option Value} {nm : Str} {t : Addr} {od : Option Addr} {its : Array Value} {n : Nat} {sl : Array (Option Value)} {ok : Wm01.Call → Prop} (ar : List Nat) (X : K.In h) (G : h.Ns mainGlobals mg)
    (ha : ∀ c i as, ok c → flatN c = i :: as → ar[i]? = some as.length)
    (a : PySem.W.nsIn K mainGlobals nm = some (some (.ref t))) (l : K.lookup t = some ⟨.type "tuple", od, .seq its n, sl⟩) (sz : its.size ≤ sizeLine) (v : Vals (ar.map fun (n : Nat) => V.int (n : Int)) its.toList) :
    ∃ (t : Addr) (ar : List Nat), mg nm = some (.ref t) ∧ (∀ H, SqT K H t (ar.map fun (n : Nat) => V.int (n : Int))) ∧ ∀ c i as, ok c → flatN c = i :: as → ar[i]? = some as.length :=
  ⟨t, ar, PySem.W.mg_of X G a, fun _ => .inr ⟨_, its, n, l, rfl, rfl, sz, v⟩, ha⟩
theorem ar_all : ∀ c i as, okAll c → flatN c = i :: as → ([4, 3, 3, 3, 1, 2, 2, 1, 2, 1, 1, 3] : List Nat)[i]? = some as.length := by
  intro c i as hc e
  cases c <;> (cases e; rfl)
theorem all_mk {P : Program} {w : World} {K : PySem.W.Frag} {h : Heap} {mg : Str → Option Value} {fa Cg Ch fz : Addr} {od an : Option Addr} {sl : Array (Option Value)} {oc kV dc pm cd ct : Value} (X : K.In h) (G : h.Ns mainGlobals mg) (hfa : mg "answers" = some (.ref fa))
    (az : PySem.W.nsIn K mainGlobals "answers" = some (some (.ref fz))) (lz : K.lookup fz = some ⟨oc, od, .func (PySem.W.fnOf "answers" "answers" (defArgs sAnswers) (defBody sAnswers) (defScope sAnswers) .none kV dc pm an cd ct), sl⟩) (cz : PySem.W.codeIn K cd "answers" = true) (kz : PySem.W.keepIn K (.ref fz) = true)
    (aG : PySem.W.nsIn K mainGlobals "Grant" = some (some (.ref Cg))) (aH : PySem.W.nsIn K mainGlobals "House" = some (some (.ref Ch))) (ne : Ch ≠ Cg)
    (iG : ∃ (f : Addr) (fd : FuncData), Mk K Cg f ∧ Fun K "__init__" "Grant.__init__" sGrantInit f fd ∧ Binds K fd ["self", "number", "giver", "taker", "right", "onward"] []) (iH : ∃ (f : Addr) (fd : FuncData), Mk K Ch f ∧ Fun K "__init__" "House.__init__" sHouseInit f fd ∧ Binds K fd ["self"] [])
    (T : mg "Grant" = some (.ref Cg) → Txt K mg Cg) (TH : mg "House" = some (.ref Ch) → TxtH K mg Ch) (TC : TxtC mg) (TA : TxtA K mg okAll)
    (d1 : Df K mg "is_user" sIsUser ["user"])
    (d2 : Df K mg "is_right" sIsRight ["right"])
    (d3 : Df K mg "of_right" sOfRight ["right", "grants"])
    (d4 : Df K mg "is_between" sIsBetween ["giver", "taker", "right", "grant"])
    (d5 : Df K mg "what_user_has" sWhatUserHas ["user", "right", "grants"])
    (d6 : Df K mg "may_give" sMayGive ["giver", "right", "grants"])
    (d7 : Df K mg "what_stands" sWhatStands ["grants"])
    (d8 : Df K mg "without_between" sWithoutBetween ["giver", "taker", "right", "grants"])
    (d9 : Df K mg "taken_back" sTakenBack ["giver", "taker", "right", "grants"])
    (d10 : Df K mg "taken_over" sTakenOver ["giver", "taker", "right", "grants"])
    (d11 : Df K mg "how_many_new_givers" sNewGivers ["before", "after"])
    (d12 : Df K mg "numbers_gone" sGone ["before", "after"])
    (d13 : Df K mg "users_with" sUsersWith ["right", "grants"])
    (d14 : Df K mg "users_with_less" sUsersLess ["right", "before", "after"])
    (d15 : Df K mg "first_to" sFirstTo ["user", "grants"])
    (d16 : Df K mg "chain_to" sChainTo ["user", "right", "grants"])
    (d17 : Df K mg "shortest_chain" sShort ["user", "grants"])
    (d18 : Df K mg "rows_that_cut" sRows ["user", "grants", "most"])
    (d19 : Df K mg "fewest_that_cut" sFewest ["user", "right", "grants"])
    (d20 : Df K mg "names_fit" sNamesFit ["giver", "taker", "right"])
    (d21 : Df K mg "counted" sCounted ["numbers"])
    (d22 : Df K mg "answer" sAnswer ["house", "call", "numbers"])
    (m1 : Md K Ch "grant" "House.grant" sGrant ["self", "giver", "taker", "right", "onward"])
    (m2 : Md K Ch "revoke" "House.revoke" sRevoke ["self", "giver", "taker", "right"])
    (m3 : Md K Ch "over" "House.over" sOver ["self", "giver", "taker", "right"])
    (m4 : Md K Ch "careful" "House.careful" sCareful ["self", "giver", "taker", "right"])
    (m5 : Md K Ch "leave" "House.leave" sLeave ["self", "user"])
    (m6 : Md K Ch "has" "House.has" sHasM ["self", "user", "right"])
    (m7 : Md K Ch "chain" "House.chain" sChainM ["self", "user", "right"])
    (m8 : Md K Ch "behind" "House.behind" sBehind ["self", "number"])
    (m9 : Md K Ch "fewest" "House.fewest" sFewestM ["self", "user", "right"])
    (m10 : Md K Ch "users" "House.users" sUsersM ["self", "right"])
    (m11 : Md K Ch "grants" "House.grants" sGrantsM ["self", "right"])
    (m12 : Md K Ch "lose" "House.lose" sLose ["self", "giver", "taker", "right"])
    (m13 : Md K Ch "refusal_between" "House.refusal_between" sRefusal ["self", "giver", "taker", "right"])
    (m14 : Md K Ch "refusal_without" "House.refusal_without" sRefusalW ["self", "user", "right"])
    (m15 : Md K Ch "keep" "House.keep" sKeep ["self", "kept"])
    : ∃ fd : FuncData, (∀ (s : Shared) (us : List Value), us.length = (["calls"] : List Str).length → BindsTo s fd ⟨us, []⟩ ((["calls"] : List Str).zip us)) ∧ ∀ base : Heap, K.In base → base.Ns mainGlobals mg → FnOk P w K mg base CX0 20 fa fd ["calls"] (spAnswers okAll K) := by
  have e := hfa.symm.trans (PySem.W.mg_of X G az)
  cases e
  have T := T (PySem.W.mg_of X G aG)
  have TH := TH (PySem.W.mg_of X G aH)
  have hb : ∀ (kV doc pm : Value) (an : Option Addr) (cdv ct : Value) (us : List Value), us.length = (["calls"] : List Str).length → bindArgs (PySem.W.fnOf "answers" "answers" (defArgs sAnswers) (defBody sAnswers) (defScope sAnswers) .none kV doc pm an cdv ct) ⟨us, []⟩ = pure ((["calls"] : List Str).zip us) :=
    fun _ _ _ _ _ _ us hl => match us, hl with | [_], _ => rfl
  refine ⟨PySem.W.fnOf "answers" "answers" (defArgs sAnswers) (defBody sAnswers) (defScope sAnswers) .none kV dc pm an cd ct, fun s us hu => .of_eq (hb _ _ _ _ _ _ us hu), fun base _ _ => ?_⟩
  have o1 : Ok P w K mg base 1 "is_user" ["user"] spIsUser := ok_is_user d1 T
  have o2 : Ok P w K mg base 1 "is_right" ["right"] spIsRight := ok_is_right d2 T
  have o3 : Ok P w K mg base 1 "of_right" ["right", "grants"] (spOfRight Cg) := ok_of_right d3 T
  have o4 : Ok P w K mg base 1 "is_between" ["giver", "taker", "right", "grant"] (spIsBetween Cg) := ok_is_between d4 T
  have o5 : Ok P w K mg base 2 "what_user_has" ["user", "right", "grants"] (spHas Cg) := ok_has d5 T o3
  have o6 : Ok P w K mg base 3 "may_give" ["giver", "right", "grants"] (spMay Cg) := ok_may d6 T o5
  have o7 : Ok P w K mg base 4 "what_stands" ["grants"] (spStands Cg) := ok_stands d7 T o6
  have o8 : Ok P w K mg base 2 "without_between" ["giver", "taker", "right", "grants"] (spWithout Cg) := ok_without d8 o4
  have o9 : Ok P w K mg base 5 "taken_back" ["giver", "taker", "right", "grants"] (spTakenBack Cg) := ok_taken_back d9 (o8.mono (by decide)) o7
  have og : Mks P w K mg base 1 Cg ["self", "number", "giver", "taker", "right", "onward"] (spGrantInit Cg) := by
    obtain ⟨f, fd, a, b, c⟩ := iG
    exact ⟨f, fd, a, c, ok_grant_init b T⟩
  have oh : Mks P w K mg base 1 Ch ["self"] (spHouseInit Ch Cg) := by
    obtain ⟨f, fd, a, b, c⟩ := iH
    exact ⟨f, fd, a, c, ok_house_init b TH⟩
  have o10 : Ok P w K mg base 4 "taken_over" ["giver", "taker", "right", "grants"] (spTakenOver Cg) := ok_taken_over d10 T (o8.mono (by decide)) o6 og
  have o11 : Ok P w K mg base 1 "how_many_new_givers" ["before", "after"] (spNewGivers Cg) := ok_new_givers d11 T
  have o12 : Ok P w K mg base 1 "numbers_gone" ["before", "after"] (spGone Cg) := ok_gone d12 T
  have o13 : Ok P w K mg base 3 "users_with" ["right", "grants"] (spWith Cg) := ok_with d13 T o5
  have o14 : Ok P w K mg base 4 "users_with_less" ["right", "before", "after"] (spLess Cg) := ok_less d14 (o5.mono (by decide)) o13
  have o15 : Ok P w K mg base 1 "first_to" ["user", "grants"] (spFirst Cg) := ok_first d15 T
  have o16 : Ok P w K mg base 2 "chain_to" ["user", "right", "grants"] (spChain Cg) := ok_chain d16 T o3 o15
  have o17 : Ok P w K mg base 1 "shortest_chain" ["user", "grants"] (spShort Cg) := ok_short d17 T
  have o18 : Ok P w K mg base 16 "rows_that_cut" ["user", "grants", "most"] (spRows Cg 15) := ok_rows d18 T o17 15 (Nat.le_refl _)
  have o19 : Ok P w K mg base 17 "fewest_that_cut" ["user", "right", "grants"] (spFewest Cg) := ok_fewest d19 T (o3.mono (by decide)) o18
  have o20 : Ok P w K mg base 2 "names_fit" ["giver", "taker", "right"] spFit := ok_fit d20 T o1 o2
  have o21 : Ok P w K mg base 1 "counted" ["numbers"] spCounted := ok_counted d21 T
  have p15 : Mt P w K mg base 1 Ch "keep" ["self", "kept"] (spKeep Ch Cg) := ok_keep m15 T TH ne
  have p14 : Mt P w K mg base 3 Ch "refusal_without" ["self", "user", "right"] (spRefusalW Ch Cg) := ok_refusalW m14 TH (o1.mono (by decide)) (o2.mono (by decide)) o5
  have p13 : Mt P w K mg base 3 Ch "refusal_between" ["self", "giver", "taker", "right"] (spRefusal Ch Cg) := ok_refusal m13 TH o20 (o4.mono (by decide))
  have p1 := ok_grant (P := P) (w := w) (base := base) m1 ne T TH (o20.mono (by decide)) (o6.mono (by decide)) (o3.mono (by decide)) og
  have p2 := ok_revoke (P := P) (w := w) (base := base) (Cg := Cg) m2 TH (p13.mono (by decide)) (p15.mono (by decide)) o9
  have p3 := ok_over (P := P) (w := w) (base := base) (Cg := Cg) m3 TH (p13.mono (by decide)) (p15.mono (by decide)) (o10.mono (by decide)) (o11.mono (by decide))
  have p4 := ok_careful (P := P) (w := w) (base := base) (Cg := Cg) m4 TH (p13.mono (by decide)) (p15.mono (by decide)) o9 (o14.mono (by decide))
  have p5 := ok_leave (P := P) (w := w) (base := base) (Cg := Cg) m5 T TH (o1.mono (by decide)) (p15.mono (by decide)) (o7.mono (by decide))
  have p6 := ok_hasM (P := P) (w := w) (base := base) (Cg := Cg) m6 TH (o1.mono (by decide)) (o2.mono (by decide)) o5
  have p7 := ok_chainM (P := P) (w := w) (base := base) (Cg := Cg) m7 T TH (p14.mono (by decide)) (o16.mono (by decide)) (o21.mono (by decide))
  have p8 := ok_behind (P := P) (w := w) (base := base) (Cg := Cg) m8 T TH (o12.mono (by decide)) (o7.mono (by decide)) (o21.mono (by decide))
  have p9 := ok_fewestM (P := P) (w := w) (base := base) (Cg := Cg) m9 TH (p14.mono (by decide)) o19 (o21.mono (by decide))
  have p10 := ok_usersM (P := P) (w := w) (base := base) (Cg := Cg) m10 TH (o2.mono (by decide)) (o13.mono (by decide)) (o21.mono (by decide))
  have p11 := ok_grantsM (P := P) (w := w) (base := base) (Cg := Cg) m11 T TH (o2.mono (by decide)) (o3.mono (by decide))
  have p12 := ok_lose (P := P) (w := w) (base := base) (Cg := Cg) m12 TH (p13.mono (by decide)) o9 (o14.mono (by decide)) (o21.mono (by decide))
  have oa := ok_answer (P := P) (w := w) (base := base) (Cg := Cg) d22 TH TC (p1.mono (by decide)) (p2.mono (by decide)) (p3.mono (by decide)) (p4.mono (by decide)) (p5.mono (by decide)) (p6.mono (by decide)) (p7.mono (by decide)) (p8.mono (by decide)) p9 (p10.mono (by decide)) (p11.mono (by decide)) (p12.mono (by decide))
  exact ok_answers (fun_mk lz cz kz) T TH TA oh oa
end Gb
open PySem PySem.W PyProof.Rows
set_option maxRecDepth 100000 in
set_option maxHeartbeats 0 in
theorem PySem.Challenge.cw_grantsback_s01_answers_holds : PySem.Challenge.rw_grantsback_s01_answers.Holds := by
  w_on; k_headS; (case hw => exact ⟨[.list [.int 10, .int 1]], by decide +kernel, by decide +kernel⟩)
  k_fillS
  refine L2.walk_specK (r := PySem.Challenge.rw_grantsback_s01_answers) (k := 20) (CX := L2.CX0) (ps := ["calls"]) (sp := Gb.spAnswers Gb.okAll) (by decide +kernel) rfl rfl ⟨rfl, by decide, by decide⟩ (fun w h Y => PySem.W.kIn_of Y) ?F ?S (fun _ _ _ _ z => z)
  case F =>
    intro w mg fa h Y KX G hmg
    refine' Gb.all_mk KX G hmg ?az ?lz ?cz ?kz ?aG ?aH ?ne ?iG ?iH ?T ?TH ?TC ?TA ?d1 ?d2 ?d3 ?d4 ?d5 ?d6 ?d7 ?d8 ?d9 ?d10 ?d11 ?d12 ?d13 ?d14 ?d15 ?d16 ?d17 ?d18 ?d19 ?d20 ?d21 ?d22 ?m1 ?m2 ?m3 ?m4 ?m5 ?m6 ?m7 ?m8 ?m9 ?m10 ?m11 ?m12 ?m13 ?m14 ?m15
    (case az => k_is); (case lz => k_is); (case cz => k_is); (case kz => k_is); (case aG => k_is); (case aH => k_is); (case ne => decide)
    case iG =>
      refine' Gb.in_mk (fun _ _ _ _ _ _ us hl => match us, hl with | [_, _, _, _, _, _], _ => rfl) ?mk ?kc ?a ?i ?l ?c ?k
      (case mk => k_is); (case kc => k_is); (case a => k_is); (case i => k_is); (case l => k_is); (case c => k_is); (case k => k_is)
    case iH =>
      refine' Gb.in_mk (fun _ _ _ _ _ _ us hl => match us, hl with | [_], _ => rfl) ?mk ?kc ?a ?i ?l ?c ?k
      (case mk => k_is); (case kc => k_is); (case a => k_is); (case i => k_is); (case l => k_is); (case c => k_is); (case k => k_is)
    case T =>
      intro z
      refine' ⟨⟨?pg, ?hd, ?po, ?sa⟩, ?n1, ?n2, ?n3, ?n4, ?n5, z, (by refine' Gb.nm_mk KX G ?a; (case a => k_is)), (by refine' Gb.nm_mk KX G ?a; (case a => k_is)), (by refine' Gb.nm_mk KX G ?a; (case a => k_is)), (by refine' PySem.W.mg_none_of KX G ?a; (case a => k_is)), (by refine' PySem.W.mg_none_of KX G ?a; (case a => k_is)), (by refine' PySem.W.mg_none_of KX G ?a; (case a => k_is)), (by refine' PySem.W.mg_none_of KX G ?a; (case a => k_is)), (by refine' PySem.W.mg_none_of KX G ?a; (case a => k_is))⟩
      (case pg => k_is); (case hd => k_is); (case po => k_is); (case sa => k_is); (case n1 => (show PySem.W.findIn _ (.ref _) _ = some none; k_is)); (case n2 => (show PySem.W.findIn _ (.ref _) _ = some none; k_is)); (case n3 => (show PySem.W.findIn _ (.ref _) _ = some none; k_is)); (case n4 => (show PySem.W.findIn _ (.ref _) _ = some none; k_is)); (case n5 => (show PySem.W.findIn _ (.ref _) _ = some none; k_is))
    case TH =>
      intro z
      refine' ⟨⟨?pg, ?hd, ?po, ?sa⟩, ?n1, ?n2, z, (by refine' Gb.nm_mk KX G ?a; (case a => k_is)), (by refine' Gb.nm_mk KX G ?a; (case a => k_is)), (by refine' Gb.nm_mk KX G ?a; (case a => k_is)), (by refine' Gb.nm_mk KX G ?a; (case a => k_is)), (by refine' Gb.nm_mk KX G ?a; (case a => k_is)), (by refine' Gb.nm_mk KX G ?a; (case a => k_is))⟩
      (case pg => k_is); (case hd => k_is); (case po => k_is); (case sa => k_is); (case n1 => (show PySem.W.findIn _ (.ref _) _ = some none; k_is)); (case n2 => (show PySem.W.findIn _ (.ref _) _ = some none; k_is))
    case TC => exact ⟨(by refine' Gb.nm_mk KX G ?a; (case a => k_is)), (by refine' Gb.nm_mk KX G ?a; (case a => k_is)), (by refine' Gb.nm_mk KX G ?a; (case a => k_is)), (by refine' Gb.nm_mk KX G ?a; (case a => k_is)), (by refine' Gb.nm_mk KX G ?a; (case a => k_is)), (by refine' Gb.nm_mk KX G ?a; (case a => k_is)), (by refine' Gb.nm_mk KX G ?a; (case a => k_is)), (by refine' Gb.nm_mk KX G ?a; (case a => k_is)), (by refine' Gb.nm_mk KX G ?a; (case a => k_is)), (by refine' Gb.nm_mk KX G ?a; (case a => k_is)), (by refine' Gb.nm_mk KX G ?a; (case a => k_is))⟩
    case TA =>
      refine' ⟨Gb.tup_mk [4, 3, 3, 3, 1, 2, 2, 1, 2, 1, 1, 3] KX G Gb.ar_all ?a ?l ?s ?v⟩
      (case a => k_is); (case l => k_is); (case s => decide); (case v => exact .cons ⟨_, rfl⟩ (.cons ⟨_, rfl⟩ (.cons ⟨_, rfl⟩ (.cons ⟨_, rfl⟩ (.cons ⟨_, rfl⟩ (.cons ⟨_, rfl⟩ (.cons ⟨_, rfl⟩ (.cons ⟨_, rfl⟩ (.cons ⟨_, rfl⟩ (.cons ⟨_, rfl⟩ (.cons ⟨_, rfl⟩ (.cons ⟨_, rfl⟩ (.nil)))))))))))))
    case d1 =>
      refine' Gb.df_mk KX G (fun _ _ _ _ _ _ us hl => match us, hl with | [_], _ => rfl) ?a ?l ?c ?k
      (case a => k_is); (case l => k_is); (case c => k_is); (case k => k_is)
    case d2 =>
      refine' Gb.df_mk KX G (fun _ _ _ _ _ _ us hl => match us, hl with | [_], _ => rfl) ?a ?l ?c ?k
      (case a => k_is); (case l => k_is); (case c => k_is); (case k => k_is)
    case d3 =>
      refine' Gb.df_mk KX G (fun _ _ _ _ _ _ us hl => match us, hl with | [_, _], _ => rfl) ?a ?l ?c ?k
      (case a => k_is); (case l => k_is); (case c => k_is); (case k => k_is)
    case d4 =>
      refine' Gb.df_mk KX G (fun _ _ _ _ _ _ us hl => match us, hl with | [_, _, _, _], _ => rfl) ?a ?l ?c ?k
      (case a => k_is); (case l => k_is); (case c => k_is); (case k => k_is)
    case d5 =>
      refine' Gb.df_mk KX G (fun _ _ _ _ _ _ us hl => match us, hl with | [_, _, _], _ => rfl) ?a ?l ?c ?k
      (case a => k_is); (case l => k_is); (case c => k_is); (case k => k_is)
    case d6 =>
      refine' Gb.df_mk KX G (fun _ _ _ _ _ _ us hl => match us, hl with | [_, _, _], _ => rfl) ?a ?l ?c ?k
      (case a => k_is); (case l => k_is); (case c => k_is); (case k => k_is)
    case d7 =>
      refine' Gb.df_mk KX G (fun _ _ _ _ _ _ us hl => match us, hl with | [_], _ => rfl) ?a ?l ?c ?k
      (case a => k_is); (case l => k_is); (case c => k_is); (case k => k_is)
    case d8 =>
      refine' Gb.df_mk KX G (fun _ _ _ _ _ _ us hl => match us, hl with | [_, _, _, _], _ => rfl) ?a ?l ?c ?k
      (case a => k_is); (case l => k_is); (case c => k_is); (case k => k_is)
    case d9 =>
      refine' Gb.df_mk KX G (fun _ _ _ _ _ _ us hl => match us, hl with | [_, _, _, _], _ => rfl) ?a ?l ?c ?k
      (case a => k_is); (case l => k_is); (case c => k_is); (case k => k_is)
    case d10 =>
      refine' Gb.df_mk KX G (fun _ _ _ _ _ _ us hl => match us, hl with | [_, _, _, _], _ => rfl) ?a ?l ?c ?k
      (case a => k_is); (case l => k_is); (case c => k_is); (case k => k_is)
    case d11 =>
      refine' Gb.df_mk KX G (fun _ _ _ _ _ _ us hl => match us, hl with | [_, _], _ => rfl) ?a ?l ?c ?k
      (case a => k_is); (case l => k_is); (case c => k_is); (case k => k_is)
    case d12 =>
      refine' Gb.df_mk KX G (fun _ _ _ _ _ _ us hl => match us, hl with | [_, _], _ => rfl) ?a ?l ?c ?k
      (case a => k_is); (case l => k_is); (case c => k_is); (case k => k_is)
    case d13 =>
      refine' Gb.df_mk KX G (fun _ _ _ _ _ _ us hl => match us, hl with | [_, _], _ => rfl) ?a ?l ?c ?k
      (case a => k_is); (case l => k_is); (case c => k_is); (case k => k_is)
    case d14 =>
      refine' Gb.df_mk KX G (fun _ _ _ _ _ _ us hl => match us, hl with | [_, _, _], _ => rfl) ?a ?l ?c ?k
      (case a => k_is); (case l => k_is); (case c => k_is); (case k => k_is)
    case d15 =>
      refine' Gb.df_mk KX G (fun _ _ _ _ _ _ us hl => match us, hl with | [_, _], _ => rfl) ?a ?l ?c ?k
      (case a => k_is); (case l => k_is); (case c => k_is); (case k => k_is)
    case d16 =>
      refine' Gb.df_mk KX G (fun _ _ _ _ _ _ us hl => match us, hl with | [_, _, _], _ => rfl) ?a ?l ?c ?k
      (case a => k_is); (case l => k_is); (case c => k_is); (case k => k_is)
    case d17 =>
      refine' Gb.df_mk KX G (fun _ _ _ _ _ _ us hl => match us, hl with | [_, _], _ => rfl) ?a ?l ?c ?k
      (case a => k_is); (case l => k_is); (case c => k_is); (case k => k_is)
    case d18 =>
      refine' Gb.df_mk KX G (fun _ _ _ _ _ _ us hl => match us, hl with | [_, _, _], _ => rfl) ?a ?l ?c ?k
      (case a => k_is); (case l => k_is); (case c => k_is); (case k => k_is)
    case d19 =>
      refine' Gb.df_mk KX G (fun _ _ _ _ _ _ us hl => match us, hl with | [_, _, _], _ => rfl) ?a ?l ?c ?k
      (case a => k_is); (case l => k_is); (case c => k_is); (case k => k_is)
    case d20 =>
      refine' Gb.df_mk KX G (fun _ _ _ _ _ _ us hl => match us, hl with | [_, _, _], _ => rfl) ?a ?l ?c ?k
      (case a => k_is); (case l => k_is); (case c => k_is); (case k => k_is)
    case d21 =>
      refine' Gb.df_mk KX G (fun _ _ _ _ _ _ us hl => match us, hl with | [_], _ => rfl) ?a ?l ?c ?k
      (case a => k_is); (case l => k_is); (case c => k_is); (case k => k_is)
    case d22 =>
      refine' Gb.df_mk KX G (fun _ _ _ _ _ _ us hl => match us, hl with | [_, _, _], _ => rfl) ?a ?l ?c ?k
      (case a => k_is); (case l => k_is); (case c => k_is); (case k => k_is)
    case m1 =>
      refine' Gb.md_mk (fun _ _ _ _ _ _ us hl => match us, hl with | [_, _, _, _, _], _ => rfl) ?a ?i ?l ?c ?k
      (case a => k_is); (case i => k_is); (case l => k_is); (case c => k_is); (case k => k_is)
    case m2 =>
      refine' Gb.md_mk (fun _ _ _ _ _ _ us hl => match us, hl with | [_, _, _, _], _ => rfl) ?a ?i ?l ?c ?k
      (case a => k_is); (case i => k_is); (case l => k_is); (case c => k_is); (case k => k_is)
    case m3 =>
      refine' Gb.md_mk (fun _ _ _ _ _ _ us hl => match us, hl with | [_, _, _, _], _ => rfl) ?a ?i ?l ?c ?k
      (case a => k_is); (case i => k_is); (case l => k_is); (case c => k_is); (case k => k_is)
    case m4 =>
      refine' Gb.md_mk (fun _ _ _ _ _ _ us hl => match us, hl with | [_, _, _, _], _ => rfl) ?a ?i ?l ?c ?k
      (case a => k_is); (case i => k_is); (case l => k_is); (case c => k_is); (case k => k_is)
    case m5 =>
      refine' Gb.md_mk (fun _ _ _ _ _ _ us hl => match us, hl with | [_, _], _ => rfl) ?a ?i ?l ?c ?k
      (case a => k_is); (case i => k_is); (case l => k_is); (case c => k_is); (case k => k_is)
    case m6 =>
      refine' Gb.md_mk (fun _ _ _ _ _ _ us hl => match us, hl with | [_, _, _], _ => rfl) ?a ?i ?l ?c ?k
      (case a => k_is); (case i => k_is); (case l => k_is); (case c => k_is); (case k => k_is)
    case m7 =>
      refine' Gb.md_mk (fun _ _ _ _ _ _ us hl => match us, hl with | [_, _, _], _ => rfl) ?a ?i ?l ?c ?k
      (case a => k_is); (case i => k_is); (case l => k_is); (case c => k_is); (case k => k_is)
    case m8 =>
      refine' Gb.md_mk (fun _ _ _ _ _ _ us hl => match us, hl with | [_, _], _ => rfl) ?a ?i ?l ?c ?k
      (case a => k_is); (case i => k_is); (case l => k_is); (case c => k_is); (case k => k_is)
    case m9 =>
      refine' Gb.md_mk (fun _ _ _ _ _ _ us hl => match us, hl with | [_, _, _], _ => rfl) ?a ?i ?l ?c ?k
      (case a => k_is); (case i => k_is); (case l => k_is); (case c => k_is); (case k => k_is)
    case m10 =>
      refine' Gb.md_mk (fun _ _ _ _ _ _ us hl => match us, hl with | [_, _], _ => rfl) ?a ?i ?l ?c ?k
      (case a => k_is); (case i => k_is); (case l => k_is); (case c => k_is); (case k => k_is)
    case m11 =>
      refine' Gb.md_mk (fun _ _ _ _ _ _ us hl => match us, hl with | [_, _], _ => rfl) ?a ?i ?l ?c ?k
      (case a => k_is); (case i => k_is); (case l => k_is); (case c => k_is); (case k => k_is)
    case m12 =>
      refine' Gb.md_mk (fun _ _ _ _ _ _ us hl => match us, hl with | [_, _, _, _], _ => rfl) ?a ?i ?l ?c ?k
      (case a => k_is); (case i => k_is); (case l => k_is); (case c => k_is); (case k => k_is)
    case m13 =>
      refine' Gb.md_mk (fun _ _ _ _ _ _ us hl => match us, hl with | [_, _, _, _], _ => rfl) ?a ?i ?l ?c ?k
      (case a => k_is); (case i => k_is); (case l => k_is); (case c => k_is); (case k => k_is)
    case m14 =>
      refine' Gb.md_mk (fun _ _ _ _ _ _ us hl => match us, hl with | [_, _, _], _ => rfl) ?a ?i ?l ?c ?k
      (case a => k_is); (case i => k_is); (case l => k_is); (case c => k_is); (case k => k_is)
    case m15 =>
      refine' Gb.md_mk (fun _ _ _ _ _ _ us hl => match us, hl with | [_, _], _ => rfl) ?a ?i ?l ?c ?k
      (case a => k_is); (case i => k_is); (case l => k_is); (case c => k_is); (case k => k_is)
  case S =>
    intro K H xs a hO hwi hask hx
    cases hx with
    | cons h1 h2 =>
      cases h2
      cases h1 with
      | lst hs ha =>
        have e := L2.ints_dw a.1 _ ha
        subst e
        have asked : PyWm01.answers_asked a.1 = true := hask
        obtain ⟨cs, e1, e2, e3, e4⟩ := Gb.asked_calls asked
        refine ⟨_, a.1, cs, rfl, hs, e1, e2, fun _ _ => trivial, by rw [← e3]; exact e4, fun H' p hp => .lst (L2.SqL.of hp) ?_⟩
        rw [← e3]
        exact L2.dw_ints _
#print axioms PySem.Challenge.cw_grantsback_s01_answers_holds

import PyProof.Rows.All
import PySem.Challenge.RW_firstbadyard_s01_answers
import Wide.All
import OpenK.AllK
import Wide.FinOn
import Open.SpecLaws
import KE.OsHead
import KE.OsGo
import HandS.ForSpec
import HandS.ForMost
import HandS.Nested
import KE.DataMinKey
import KE.KNestM
set_option Elab.async false
set_option maxRecDepth 100000
set_option maxHeartbeats 2000000
/-! The mathematics of the house: no Python here. -/
namespace Fb
open Rp07
/-- what is always so of a house -/
structure Good (h : House) : Prop where
  few : h.all.length ≤ 7
  up : ∀ c ∈ h.all, c.upon.length ≤ 7
  cost1 : ∀ c ∈ h.all, 1 ≤ c.cost
  cost : ∀ c ∈ h.all, c.cost ≤ 10000
  weight : ∀ c ∈ h.all, c.weight ≤ 10000
theorem good_init : Good init := ⟨Nat.zero_le _, fun _ h => (by cases h), fun _ h => (by cases h), fun _ h => (by cases h), fun _ h => (by cases h)⟩
theorem filter_true {α : Type} {p : α → Bool} : ∀ (l : List α), (∀ x ∈ l, p x = true) → l.filter p = l
  | [], _ => rfl
  | a :: l, h => by
    rw [List.filter_cons, if_pos (h a List.mem_cons_self), filter_true l fun x hx => h x (List.mem_cons_of_mem _ hx)]
theorem left_nil {h : House} (e : h.found = []) : h.left = List.range h.all.length := by
  unfold House.left
  rw [e]
  exact filter_true _ fun _ _ => rfl
theorem left_found (h : House) (m : Nat) (b : Bool) : ({ h with found := h.found ++ [(m, b)] } : House).left = h.if_ h.left m b := by
  unfold House.left House.if_
  rw [List.filter_filter]
  refine List.filter_congr fun c _ => ?_
  show ((h.found ++ [(m, b)]).all fun x => h.bad c x.1 == x.2) = ((h.bad c m == b) && (h.found.all fun x => h.bad c x.1 == x.2))
  rw [List.all_append]
  show (_ && ((h.bad c m == b) && true)) = _
  rw [Bool.and_true, Bool.and_comm]
theorem left_len (h : House) : h.left.length ≤ h.all.length := by
  unfold House.left
  refine Nat.le_trans (List.length_filter_le _ _) ?_
  rw [List.length_range]
  exact Nat.le_refl _
theorem left_lt {h : House} {c : Nat} (hc : c ∈ h.left) : c < h.all.length := by
  unfold House.left at hc
  exact List.mem_range.mp (List.mem_filter.mp hc).1
theorem at_get {h : House} {j : Nat} {c : Change} (e : h.all[j]? = some c) : h.at_ j = c := by
  unfold House.at_
  rw [List.getD_eq_getElem?_getD, e]
  rfl
theorem get_at {h : House} {j : Nat} (e : j < h.all.length) : h.all[j]? = some (h.at_ j) := by
  have e1 : h.all[j]? = some h.all[j] := List.getElem?_eq_getElem e
  rw [at_get e1]
  exact e1
theorem at_mem {h : House} {j : Nat} (e : j < h.all.length) : h.at_ j ∈ h.all := List.mem_of_getElem? (get_at e)
/-- change: why it is refused -/
def refusal (h : House) (c w t : Nat) (ps : List Nat) : Option Int :=
  if COST < c ∨ c = 0 ∨ COST < w ∨ 1 < t then some (-1) else if h.all.length = CHANGES then some (-7) else if h.found ≠ [] then some (-3) else if (ps.any fun p => decide (h.all.length ≤ p)) = true then some (-2) else none
/-- upon what a new change is made, itself not -/
def through (h : House) (ps : List Nat) : List Nat := (List.range h.all.length).filter fun k => ps.any fun p => (h.at_ p).upon.contains k
theorem through_len (h : House) (ps : List Nat) : (through h ps).length ≤ h.all.length := by
  unfold through
  refine Nat.le_trans (List.length_filter_le _ _) ?_
  rw [List.length_range]
  exact Nat.le_refl _
def grown (h : House) (c w t : Nat) (ps : List Nat) : House := { h with all := h.all ++ [⟨through h ps ++ [h.all.length], c, w, t == 1⟩] }
theorem step_change_no {h : House} {c w t : Nat} {ps : List Nat} {r : Int} (e : refusal h c w t ps = some r) : step h (.change c w t ps) = (h, ok r) := by
  unfold refusal at e
  show (if COST < c ∨ c = 0 ∨ COST < w ∨ 1 < t then (h, ok (-1)) else if h.all.length = CHANGES then (h, ok (-7)) else if h.found ≠ [] then (h, ok (-3)) else if (ps.any fun p => decide (h.all.length ≤ p)) = true then (h, ok (-2)) else (grown h c w t ps, ok (h.all.length : Nat))) = (h, ok r)
  split at e
  · rename_i c1; rw [if_pos c1]; cases e; rfl
  · rename_i c1; rw [if_neg c1]
    split at e
    · rename_i c2; rw [if_pos c2]; cases e; rfl
    · rename_i c2; rw [if_neg c2]
      split at e
      · rename_i c3; rw [if_pos c3]; cases e; rfl
      · rename_i c3; rw [if_neg c3]
        split at e
        · rename_i c4; rw [if_pos c4]; cases e; rfl
        · cases e
theorem step_change_yes {h : House} {c w t : Nat} {ps : List Nat} (e : refusal h c w t ps = none) : step h (.change c w t ps) = (grown h c w t ps, ok (h.all.length : Nat)) ∧ c ≤ 10000 ∧ 1 ≤ c ∧ w ≤ 10000 ∧ h.all.length ≠ 7 ∧ h.found = [] ∧ ∀ p ∈ ps, p < h.all.length := by
  unfold refusal at e
  split at e
  · cases e
  · rename_i c1
    split at e
    · cases e
    · rename_i c2
      split at e
      · cases e
      · rename_i c3
        split at e
        · cases e
        · rename_i c4
          refine ⟨?_, by unfold COST at c1; omega, by omega, by unfold COST at c1; omega, c2, Classical.not_not.mp c3, fun p hp => ?_⟩
          · show (if COST < c ∨ c = 0 ∨ COST < w ∨ 1 < t then (h, ok (-1)) else if h.all.length = CHANGES then (h, ok (-7)) else if h.found ≠ [] then (h, ok (-3)) else if (ps.any fun p => decide (h.all.length ≤ p)) = true then (h, ok (-2)) else (grown h c w t ps, ok (h.all.length : Nat))) = _
            rw [if_neg c1, if_neg c2, if_neg c3, if_neg c4]
          · refine Nat.lt_of_not_le fun q => c4 ?_
            exact List.any_eq_true.mpr ⟨p, hp, decide_eq_true q⟩
theorem good_grown {h : House} {c w t : Nat} {ps : List Nat} (g : Good h) (e : refusal h c w t ps = none) : Good (grown h c w t ps) := by
  obtain ⟨_, hc, hc1, hw, h7, _, _⟩ := step_change_yes e
  have h6 : h.all.length ≤ 6 := by have := g.few; omega
  have hu : (through h ps ++ [h.all.length]).length ≤ 7 := by
    rw [List.length_append, List.length_singleton]
    have := through_len h ps
    omega
  have m : ∀ x ∈ (grown h c w t ps).all, x ∈ h.all ∨ x = ⟨through h ps ++ [h.all.length], c, w, t == 1⟩ := fun x hx => by
    rcases List.mem_append.mp hx with q | q
    · exact .inl q
    · exact .inr (List.mem_singleton.mp q)
  refine ⟨?_, fun x hx => ?_, fun x hx => ?_, fun x hx => ?_, fun x hx => ?_⟩
  · show (h.all ++ [_]).length ≤ 7
    rw [List.length_append, List.length_singleton]
    omega
  · rcases m x hx with q | rfl
    · exact g.up x q
    · exact hu
  · rcases m x hx with q | rfl
    · exact g.cost1 x q
    · exact hc1
  · rcases m x hx with q | rfl
    · exact g.cost x q
    · exact hc
  · rcases m x hx with q | rfl
    · exact g.weight x q
    · exact hw
theorem good_found {h : House} (g : Good h) (f : List (Nat × Bool)) : Good { h with found := f } := ⟨g.few, g.up, g.cost1, g.cost, g.weight⟩
theorem left_grown {h : House} {c w t : Nat} {ps : List Nat} (e : h.found = []) : (grown h c w t ps).left = h.left ++ [h.all.length] := by
  rw [left_nil e, left_nil (h := grown h c w t ps) e]
  show List.range (h.all ++ [_]).length = _
  rw [List.length_append, List.length_singleton, List.range_succ]
theorem step_good {h : House} (g : Good h) : ∀ c : Call, Good (step h c).1
  | .begins => good_init
  | .change c w t ps => by
    cases e : refusal h c w t ps with
    | none => rw [(step_change_yes e).1]; exact good_grown g e
    | some r => rw [step_change_no e]; exact g
  | .found m b => by
    show Good (if h.all.length ≤ m then (h, ok (-2)) else if (h.at_ m).tried = false then (h, ok (-4)) else if h.if_ h.left m (b != 0) = [] then (h, ok (-6)) else _).1
    split
    · exact g
    · split
      · exact g
      · split
        · exact g
        · exact good_found g _
  | .left => g
  | .best how => by
    show Good (if 1 < how then (h, ok (-1)) else (h, _)).1
    split <;> exact g
  | .way how => by
    show Good (if 1 < how then (h, ok (-1)) else (h, _)).1
    split <;> exact g
  | .half => g
  | .upon m => by
    show Good (if h.all.length ≤ m then (h, ok (-2)) else (h, _)).1
    split <;> exact g

/-! ### The list of calls -/
/-- one call at the head of a list: which, and what is left behind it -/
inductive Head : Int → List Int → List (List Int) → List Int → Prop where
  | c0 {t} : Head 0 t [[0]] t
  | c1 {c w t n : Int} {ps r : List Int} (h0 : 0 ≤ n) (hn : (ps.length : Int) = n) : Head 1 (c :: w :: t :: n :: (ps ++ r)) [[1, c, w, t], ps] r
  | c2 {m b : Int} {r : List Int} : Head 2 (m :: b :: r) [[2, m, b]] r
  | c3 {t} : Head 3 t [[3]] t
  | c4 {k : Int} {r : List Int} : Head 4 (k :: r) [[4, k]] r
  | c5 {k : Int} {r : List Int} : Head 5 (k :: r) [[5, k]] r
  | c6 {t} : Head 6 t [[6]] t
  | c7 {k : Int} {r : List Int} : Head 7 (k :: r) [[7, k]] r
theorem shape_is {p : Int} {nk : Nat × Nat} (e : PyRp07.shape p = some nk) : (p = 0 ∧ nk = (0, 0)) ∨ (p = 1 ∧ nk = (3, 1)) ∨ (p = 2 ∧ nk = (2, 0)) ∨ (p = 3 ∧ nk = (0, 0)) ∨ (p = 4 ∧ nk = (1, 0)) ∨ (p = 5 ∧ nk = (1, 0)) ∨ (p = 6 ∧ nk = (0, 0)) ∨ (p = 7 ∧ nk = (1, 0)) := by
  unfold PyRp07.shape at e
  repeat' split at e
  all_goals first | (cases e; simp_all) | cases e
theorem call_plain {p : Int} {n : Nat} {r : List Int} {c : List (List Int)} {t : List Int} (e : (if r.length < n then none else match PyFlat.rows 0 (r.drop n) with
      | none => none
      | some (xs, t) => some ((p :: r.take n) :: xs, t)) = some (c, t)) : n ≤ r.length ∧ c = [p :: r.take n] ∧ t = r.drop n := by
  by_cases h : r.length < n
  · rw [if_pos h] at e
    cases e
  · rw [if_neg h] at e
    have e2 : some ((p :: r.take n) :: [], r.drop n) = some (c, t) := e
    cases e2
    exact ⟨Nat.le_of_not_lt h, rfl, rfl⟩
theorem head_of {p : Int} {r : List Int} {c : List (List Int)} {t : List Int} (e : PyFlat.call PyRp07.shape (p :: r) = some (c, t)) : Head p r c t := by
  replace e : (match PyRp07.shape p with
    | none => none
    | some (n, k) => if r.length < n then none else match PyFlat.rows k (r.drop n) with
      | none => none
      | some (xs, t) => some ((p :: r.take n) :: xs, t)) = some (c, t) := e
  cases es : PyRp07.shape p with
  | none =>
    rw [es] at e
    cases e
  | some nk =>
    rw [es] at e
    rcases shape_is es with ⟨rfl, rfl⟩ | ⟨rfl, rfl⟩ | ⟨rfl, rfl⟩ | ⟨rfl, rfl⟩ | ⟨rfl, rfl⟩ | ⟨rfl, rfl⟩ | ⟨rfl, rfl⟩ | ⟨rfl, rfl⟩
    · obtain ⟨_, rfl, rfl⟩ := call_plain e
      exact .c0
    · dsimp only at e
      by_cases h : r.length < 3
      · rw [if_pos h] at e
        cases e
      · rw [if_neg h] at e
        match r, h with
        | a :: b :: d :: s, _ =>
          have e2 : (match PyFlat.rows 1 s with
            | none => none
            | some (xs, t) => some ([1, a, b, d] :: xs, t)) = some (c, t) := e
          unfold PyFlat.rows at e2
          cases s with
          | nil => cases e2
          | cons n q =>
            have er : PyFlat.row (n :: q) = if 0 ≤ n ∧ n.toNat ≤ q.length then some (q.take n.toNat, q.drop n.toNat) else none := rfl
            by_cases hn : 0 ≤ n ∧ n.toNat ≤ q.length
            · rw [if_pos hn] at er
              rw [er] at e2
              have e3 : some ([1, a, b, d] :: [q.take n.toNat], q.drop n.toNat) = some (c, t) := e2
              cases e3
              have eq : q = q.take n.toNat ++ q.drop n.toNat := (List.take_append_drop _ _).symm
              have h1 : Head 1 (a :: b :: d :: n :: (q.take n.toNat ++ q.drop n.toNat)) [[1, a, b, d], q.take n.toNat] (q.drop n.toNat) := .c1 hn.1 (by rw [List.length_take]; omega)
              rw [← eq] at h1
              exact h1
            · rw [if_neg hn] at er
              rw [er] at e2
              cases e2
        | [], h => exact absurd (show 0 < 3 by decide) h
        | [_], h => exact absurd (show 1 < 3 by decide) h
        | [_, _], h => exact absurd (show 2 < 3 by decide) h
    · obtain ⟨hl, rfl, rfl⟩ := call_plain e
      match r, hl with
      | a :: b :: s, _ => exact .c2
      | [], h => exact absurd h (show ¬ 2 ≤ 0 by decide)
      | [_], h => exact absurd h (show ¬ 2 ≤ 1 by decide)
    · obtain ⟨_, rfl, rfl⟩ := call_plain e
      exact .c3
    · obtain ⟨hl, rfl, rfl⟩ := call_plain e
      match r, hl with
      | a :: s, _ => exact .c4
      | [], h => exact absurd h (by decide)
    · obtain ⟨hl, rfl, rfl⟩ := call_plain e
      match r, hl with
      | a :: s, _ => exact .c5
      | [], h => exact absurd h (by decide)
    · obtain ⟨_, rfl, rfl⟩ := call_plain e
      exact .c6
    · obtain ⟨hl, rfl, rfl⟩ := call_plain e
      match r, hl with
      | a :: s, _ => exact .c7
      | [], h => exact absurd h (by decide)
/-- calls to the end of a list, one by one -/
theorem calls_cons {f : Nat} {p : Int} {r : List Int} {cs : List (List (List Int))} (e : PyFlat.calls PyRp07.shape f (p :: r) = some cs) :
    ∃ (f' : Nat) (c : List (List Int)) (t : List Int) (cs' : List (List (List Int))), Head p r c t ∧ PyFlat.calls PyRp07.shape f' t = some cs' ∧ cs = c :: cs' := by
  cases f with
  | zero => cases e
  | succ f =>
    unfold PyFlat.calls at e
    cases ec : PyFlat.call PyRp07.shape (p :: r) with
    | none =>
      rw [ec] at e
      cases e
    | some ct =>
      obtain ⟨c, t⟩ := ct
      rw [ec] at e
      dsimp only at e
      cases eq : PyFlat.calls PyRp07.shape f t with
      | none =>
        rw [eq] at e
        cases e
      | some cs' =>
        rw [eq] at e
        cases e
        exact ⟨f, c, t, cs', head_of ec, eq, rfl⟩
end Fb
/-! The mathematics of the best way and of halving: no Python here. -/
namespace Fb
open Rp07
/-! ### the first of the least -/
theorem first_nil (f : Nat → Nat) : first f [] = none := rfl
theorem first_some {f : Nat → Nat} : ∀ {l : List Nat}, l ≠ [] → ∃ m, first f l = some m
  | [], h => absurd rfl h
  | m :: r, _ => by
    show ∃ k, (match first f r with
      | none => some m
      | some k => if f k < f m then some k else some m) = some k
    cases first f r with
    | none => exact ⟨m, rfl⟩
    | some k =>
      by_cases c : f k < f m
      · exact ⟨k, if_pos c⟩
      · exact ⟨m, if_neg c⟩
theorem first_cons (f : Nat → Nat) (m : Nat) (r : List Nat) : first f (m :: r) = match first f r with
    | none => some m
    | some k => if f k < f m then some k else some m := rfl
theorem first_none {f : Nat → Nat} {l : List Nat} (h : first f l = none) : l = [] := by
  cases l with
  | nil => rfl
  | cons m r =>
    obtain ⟨k, hk⟩ := first_some (f := f) (l := m :: r) (by simp)
    rw [hk] at h
    cases h
theorem first_mem {f : Nat → Nat} : ∀ {l : List Nat} {m : Nat}, first f l = some m → m ∈ l
  | [], _, h => by cases h
  | a :: r, m, h => by
    rw [first_cons] at h
    cases e : first f r with
    | none =>
      rw [e] at h
      cases h
      exact List.mem_cons_self
    | some k =>
      rw [e] at h
      dsimp only at h
      by_cases c : f k < f a
      · rw [if_pos c] at h
        cases h
        exact List.mem_cons_of_mem _ (first_mem e)
      · rw [if_neg c] at h
        cases h
        exact List.mem_cons_self
theorem first_le {f : Nat → Nat} : ∀ {l : List Nat} {m : Nat}, first f l = some m → ∀ k ∈ l, f m ≤ f k
  | [], _, h, _, _ => by cases h
  | a :: r, m, h, k, hk => by
    rw [first_cons] at h
    cases e : first f r with
    | none =>
      rw [e] at h
      cases h
      have : r = [] := first_none e
      subst this
      rcases List.mem_cons.mp hk with rfl | hk
      · exact Nat.le_refl _
      · cases hk
    | some j =>
      rw [e] at h
      dsimp only at h
      have ih := first_le e
      by_cases c : f j < f a
      · rw [if_pos c] at h
        cases h
        rcases List.mem_cons.mp hk with rfl | hk
        · exact Nat.le_of_lt c
        · exact ih k hk
      · rw [if_neg c] at h
        cases h
        rcases List.mem_cons.mp hk with rfl | hk
        · exact Nat.le_refl _
        · exact Nat.le_trans (Nat.le_of_not_lt c) (ih k hk)
/-- the list's values: only they count -/
theorem first_congr {f g : Nat → Nat} : ∀ {l : List Nat}, (∀ m ∈ l, f m = g m) → first f l = first g l
  | [], _ => rfl
  | a :: r, h => by
    rw [first_cons, first_cons, first_congr fun m hm => h m (List.mem_cons_of_mem _ hm)]
    cases e : first g r with
    | none => rfl
    | some k =>
      dsimp only
      rw [h a List.mem_cons_self, h k (List.mem_cons_of_mem _ (first_mem e))]
/-- found from the left: a later one must be less -/
def pick (f : Nat → Nat) (o : Option Nat) (m : Nat) : Option Nat := match o with
  | none => some m
  | some k => if f m < f k then some m else some k
theorem pick_some (f : Nat → Nat) : ∀ (l : List Nat) (a : Nat), l.foldl (pick f) (some a) = match first f l with
    | none => some a
    | some k => if f k < f a then some k else some a
  | [], _ => rfl
  | m :: r, a => by
    rw [List.foldl_cons]
    show r.foldl (pick f) (if f m < f a then some m else some a) = _
    rw [first_cons]
    by_cases c : f m < f a
    · rw [if_pos c, pick_some f r m]
      cases first f r with
      | none => dsimp only; rw [if_pos c]
      | some k =>
        dsimp only
        by_cases d : f k < f m
        · rw [if_pos d]
          dsimp only
          rw [if_pos (Nat.lt_trans d c)]
        · rw [if_neg d]
          dsimp only
          rw [if_pos c]
    · rw [if_neg c, pick_some f r a]
      cases first f r with
      | none => dsimp only; rw [if_neg c]
      | some k =>
        dsimp only
        by_cases d : f k < f m
        · rw [if_pos d]
        · rw [if_neg d]
          dsimp only
          rw [if_neg c, if_neg (by omega)]
theorem pick_first (f : Nat → Nat) : ∀ l : List Nat, l.foldl (pick f) none = first f l
  | [] => rfl
  | m :: r => pick_some f r m
/-- one more from the left -/
theorem first_snoc (f : Nat → Nat) (l : List Nat) (m : Nat) : first f (l ++ [m]) = pick f (first f l) m := by
  rw [← pick_first, ← pick_first, List.foldl_append]
  rfl
theorem min_first {f : Nat → Nat} : ∀ {l : List Nat} {m : Nat}, first f l = some m → (match l.map f with
    | [] => 0
    | x :: r => r.foldl min x) = f m
  | [], _, h => by cases h
  | a :: r, m, h => by
    have hm := first_mem h
    have hl := first_le h
    show (r.map f).foldl min (f a) = f m
    have g : ∀ (l : List Nat) (x : Nat), (l.map f).foldl min x ≤ x ∧ (∀ k ∈ l, (l.map f).foldl min x ≤ f k) ∧ ((l.map f).foldl min x = x ∨ ∃ k ∈ l, (l.map f).foldl min x = f k) := by
      intro l
      induction l with
      | nil => exact fun x => ⟨Nat.le_refl _, fun k hk => (by cases hk), .inl rfl⟩
      | cons b l ih =>
        intro x
        obtain ⟨h1, h2, h3⟩ := ih (min x (f b))
        refine ⟨Nat.le_trans h1 (Nat.min_le_left _ _), fun k hk => ?_, ?_⟩
        · rcases List.mem_cons.mp hk with rfl | hk
          · exact Nat.le_trans h1 (Nat.min_le_right _ _)
          · exact h2 k hk
        · show (l.map f).foldl min (min x (f b)) = x ∨ ∃ k ∈ b :: l, (l.map f).foldl min (min x (f b)) = f k
          rcases h3 with h3 | ⟨k, hk, h3⟩
          · by_cases c : x ≤ f b
            · exact .inl (h3.trans (Nat.min_eq_left c))
            · exact .inr ⟨b, List.mem_cons_self, h3.trans (Nat.min_eq_right (by omega))⟩
          · exact .inr ⟨k, List.mem_cons_of_mem _ hk, h3⟩
    obtain ⟨g1, g2, g3⟩ := g r (f a)
    refine Nat.le_antisymm ?_ ?_
    · rcases List.mem_cons.mp hm with rfl | hm
      · exact g1
      · exact g2 m hm
    · rcases g3 with g3 | ⟨k, hk, g3⟩
      · rw [g3]
        exact hl a List.mem_cons_self
      · rw [g3]
        exact hl k (List.mem_cons_of_mem _ hk)
/-! ### the parts -/
theorem parts_len (h : House) (s : List Nat) (m : Nat) : (h.if_ s m true).length + (h.if_ s m false).length = s.length := by
  unfold House.if_
  induction s with
  | nil => rfl
  | cons a s ih =>
    rw [List.filter_cons, List.filter_cons]
    cases e : h.bad a m with
    | true =>
      rw [if_pos (show (true == true) = true by decide), if_neg (by decide), List.length_cons, List.length_cons]
      omega
    | false =>
      rw [if_neg (by decide), if_pos (show (false == false) = true by decide), List.length_cons, List.length_cons]
      omega
theorem tries_nonempty {h : House} {s : List Nat} {m : Nat} (hm : m ∈ h.tries s) : (h.at_ m).tried = true ∧ h.if_ s m true ≠ [] ∧ h.if_ s m false ≠ [] ∧ m < h.all.length := by
  unfold House.tries at hm
  obtain ⟨h1, h2⟩ := List.mem_filter.mp hm
  simp only [Bool.and_eq_true, Bool.not_eq_true', List.isEmpty_eq_false_iff] at h2
  exact ⟨h2.1, h2.2.1, h2.2.2, List.mem_range.mp h1⟩
theorem tries_lt {h : House} {s : List Nat} {m : Nat} (hm : m ∈ h.tries s) (b : Bool) : (h.if_ s m b).length < s.length := by
  obtain ⟨_, h1, h2, _⟩ := tries_nonempty hm
  have e := parts_len h s m
  have l1 : 0 < (h.if_ s m true).length := List.length_pos_iff.mpr h1
  have l2 : 0 < (h.if_ s m false).length := List.length_pos_iff.mpr h2
  cases b <;> omega
theorem tries_nil {h : House} {s : List Nat} (e : s.length ≤ 1) : h.tries s = [] := by
  cases ht : h.tries s with
  | nil => rfl
  | cons m r =>
    have hm : m ∈ h.tries s := by rw [ht]; exact List.mem_cons_self
    have h1 := tries_lt hm true
    have h2 := tries_lt hm false
    have := parts_len h s m
    omega
/-! ### without the number that sees to an end -/
def comb (h : House) (how : Bool) (s : List Nat) (m a b : Nat) : Nat := if how = true then (h.at_ m).cost * h.weigh s + (a + b) else (h.at_ m).cost + max a b
theorem best_fuel (h : House) (how : Bool) : ∀ (n n' : Nat) (s : List Nat), s.length ≤ n → s.length ≤ n' → h.best how n s = h.best how n' s
  | 0, 0, _, _, _ => rfl
  | 0, n' + 1, s, h1, _ => by
    have e : h.tries s = [] := tries_nil (by omega)
    unfold House.best
    rw [e]
    rfl
  | n + 1, 0, s, _, h2 => by
    have e : h.tries s = [] := tries_nil (by omega)
    unfold House.best
    rw [e]
    rfl
  | n + 1, n' + 1, s, h1, h2 => by
    unfold House.best
    have e : (h.tries s).map (fun m => comb h how s m (h.best how n (h.if_ s m false)) (h.best how n (h.if_ s m true))) = (h.tries s).map (fun m => comb h how s m (h.best how n' (h.if_ s m false)) (h.best how n' (h.if_ s m true))) := by
      refine List.map_congr_left fun m hm => ?_
      have l1 := tries_lt hm true
      have l2 := tries_lt hm false
      rw [best_fuel h how n n' (h.if_ s m false) (by omega) (by omega), best_fuel h how n n' (h.if_ s m true) (by omega) (by omega)]
    show (match (h.tries s).map (fun m => comb h how s m (h.best how n (h.if_ s m false)) (h.best how n (h.if_ s m true))) with
      | [] => 0
      | x :: r => r.foldl min x) = (match (h.tries s).map (fun m => comb h how s m (h.best how n' (h.if_ s m false)) (h.best how n' (h.if_ s m true))) with
      | [] => 0
      | x :: r => r.foldl min x)
    rw [e]
/-- what the best way costs from s on -/
def B (h : House) (how : Bool) (s : List Nat) : Nat := h.best how s.length s
/-- what it costs to begin with m -/
def byM (h : House) (how : Bool) (s : List Nat) (m : Nat) : Nat := comb h how s m (B h how (h.if_ s m false)) (B h how (h.if_ s m true))
/-- what is tried first -/
def N (h : House) (how : Bool) (s : List Nat) : Option Nat := first (byM h how s) (h.tries s)
theorem by_is {h : House} {how : Bool} {n : Nat} {s : List Nat} {m : Nat} (hm : m ∈ h.tries s) (hn : s.length ≤ n + 1) : h.by_ how n s m = byM h how s m := by
  have l1 := tries_lt hm true
  have l2 := tries_lt hm false
  show comb h how s m (h.best how n (h.if_ s m false)) (h.best how n (h.if_ s m true)) = _
  unfold byM B
  rw [best_fuel h how n _ (h.if_ s m false) (by omega) (Nat.le_refl _), best_fuel h how n _ (h.if_ s m true) (by omega) (Nat.le_refl _)]
theorem next_is {h : House} {how : Bool} {n : Nat} {s : List Nat} (hn : s.length ≤ n) : h.next how n s = N h how s := by
  cases n with
  | zero =>
    unfold N
    rw [tries_nil (by omega)]
    rfl
  | succ n => exact first_congr fun m hm => by_is hm hn
theorem B_none {h : House} {how : Bool} {s : List Nat} (e : N h how s = none) : B h how s = 0 := by
  have e1 : h.tries s = [] := first_none e
  unfold B
  cases s.length with
  | zero => rfl
  | succ n =>
    unfold House.best
    rw [e1]
    rfl
theorem B_some {h : House} {how : Bool} {s : List Nat} {m : Nat} (e : N h how s = some m) : B h how s = byM h how s m := by
  have hm := first_mem e
  have l1 := tries_lt hm true
  unfold B
  cases hs : s.length with
  | zero => omega
  | succ n =>
    have e2 : first (h.by_ how n s) (h.tries s) = some m := by
      rw [← e]
      exact first_congr fun k hk => by_is hk (by omega)
    have := min_first e2
    unfold House.best
    show (match (h.tries s).map (h.by_ how n s) with
      | [] => 0
      | x :: r => r.foldl min x) = _
    rw [this, by_is hm (by omega)]
/-- the way in numbers -/
def W (h : House) (how : Bool) (s : List Nat) : List Nat := (h.way how s.length s).numbers
theorem way_fuel (h : House) (how : Bool) : ∀ (n n' : Nat) (s : List Nat), s.length ≤ n → s.length ≤ n' → h.way how n s = h.way how n' s
  | 0, 0, _, _, _ => rfl
  | 0, n' + 1, s, h1, _ => by
    unfold House.way
    rw [next_is (by omega)]
    have e : N h how s = none := by unfold N; rw [tries_nil (by omega)]; rfl
    rw [e]
  | n + 1, 0, s, _, h2 => by
    unfold House.way
    rw [next_is (by omega)]
    have e : N h how s = none := by unfold N; rw [tries_nil (by omega)]; rfl
    rw [e]
  | n + 1, n' + 1, s, h1, h2 => by
    unfold House.way
    rw [next_is h1, next_is h2]
    cases e : N h how s with
    | none => rfl
    | some m =>
      dsimp only
      have l1 := tries_lt (first_mem e) true
      have l2 := tries_lt (first_mem e) false
      rw [way_fuel h how n n' (h.if_ s m false) (by omega) (by omega), way_fuel h how n n' (h.if_ s m true) (by omega) (by omega)]
theorem W_none {h : House} {how : Bool} {s : List Nat} (e : N h how s = none) : W h how s = [0] := by
  unfold W
  cases hs : s.length with
  | zero => rfl
  | succ n =>
    unfold House.way
    rw [next_is (by omega), e]
    rfl
theorem W_some {h : House} {how : Bool} {s : List Nat} {m : Nat} (e : N h how s = some m) : W h how s = (m + 1) :: (W h how (h.if_ s m false) ++ W h how (h.if_ s m true)) := by
  have l1 := tries_lt (first_mem e) true
  have l2 := tries_lt (first_mem e) false
  unfold W
  cases hs : s.length with
  | zero => omega
  | succ n =>
    conv => lhs; unfold House.way
    rw [next_is (by omega), e]
    dsimp only
    rw [way_fuel h how n _ (h.if_ s m false) (by omega) (Nat.le_refl _), way_fuel h how n _ (h.if_ s m true) (by omega) (Nat.le_refl _)]
    rfl
theorem W_len (h : House) (how : Bool) : ∀ (n : Nat) (s : List Nat), s.length ≤ n → s ≠ [] → (W h how s).length + 1 ≤ 2 * s.length
  | 0, s, h1, h2 => absurd (List.length_eq_zero_iff.mp (by omega)) h2
  | n + 1, s, h1, h2 => by
    have l0 : 0 < s.length := List.length_pos_iff.mpr h2
    cases e : N h how s with
    | none =>
      rw [W_none e]
      show 1 + 1 ≤ _
      omega
    | some m =>
      have l1 := tries_lt (first_mem e) true
      have l2 := tries_lt (first_mem e) false
      obtain ⟨_, n1, n2, _⟩ := tries_nonempty (first_mem e)
      have i1 := W_len h how n (h.if_ s m true) (by omega) n1
      have i2 := W_len h how n (h.if_ s m false) (by omega) n2
      have := parts_len h s m
      rw [W_some e, List.length_cons, List.length_append]
      omega
theorem W_small (h : House) (how : Bool) {s : List Nat} {n : Nat} (e : s.length ≤ n) : (W h how s).length ≤ 2 * n + 1 := by
  by_cases z : s = []
  · subst z
    have : N h how [] = none := by unfold N; rw [tries_nil (by decide)]; rfl
    rw [W_none this]
    show 1 ≤ _
    omega
  · have := W_len h how n s e z
    omega
/-! ### halving -/
theorem half_mem {h : House} {s : List Nat} {m : Nat} (e : h.half s = some m) : m ∈ h.tries s := first_mem e
theorem halving_fuel (h : House) (how : Bool) : ∀ (n n' : Nat) (s : List Nat), s.length ≤ n → s.length ≤ n' → h.halving how n s = h.halving how n' s
  | 0, 0, _, _, _ => rfl
  | 0, n' + 1, s, h1, _ => by
    unfold House.halving
    have e : h.half s = none := by unfold House.half; rw [tries_nil (by omega)]; rfl
    rw [e]
  | n + 1, 0, s, _, h2 => by
    unfold House.halving
    have e : h.half s = none := by unfold House.half; rw [tries_nil (by omega)]; rfl
    rw [e]
  | n + 1, n' + 1, s, h1, h2 => by
    unfold House.halving
    cases e : h.half s with
    | none => rfl
    | some m =>
      dsimp only
      have l1 := tries_lt (half_mem e) true
      have l2 := tries_lt (half_mem e) false
      rw [halving_fuel h how n n' (h.if_ s m false) (by omega) (by omega), halving_fuel h how n n' (h.if_ s m true) (by omega) (by omega)]
def Hv (h : House) (how : Bool) (s : List Nat) : Nat := h.halving how s.length s
theorem Hv_none {h : House} {how : Bool} {s : List Nat} (e : h.half s = none) : Hv h how s = 0 := by
  unfold Hv
  cases s.length with
  | zero => rfl
  | succ n =>
    unfold House.halving
    rw [e]
theorem Hv_some {h : House} {how : Bool} {s : List Nat} {m : Nat} (e : h.half s = some m) : Hv h how s = comb h how s m (Hv h how (h.if_ s m false)) (Hv h how (h.if_ s m true)) := by
  have l1 := tries_lt (half_mem e) true
  have l2 := tries_lt (half_mem e) false
  unfold Hv
  cases hs : s.length with
  | zero => omega
  | succ n =>
    conv => lhs; unfold House.halving
    rw [e]
    dsimp only
    rw [halving_fuel h how n _ (h.if_ s m false) (by omega) (Nat.le_refl _), halving_fuel h how n _ (h.if_ s m true) (by omega) (Nat.le_refl _)]
    rfl
/-- the lesser part -/
def lesser (h : House) (s : List Nat) (m : Nat) : Nat := min (h.if_ s m true).length (h.if_ s m false).length
theorem lesser_le (h : House) (s : List Nat) (m : Nat) : lesser h s m ≤ s.length := by
  have := parts_len h s m
  unfold lesser
  omega
theorem half_lt (h : House) (s : List Nat) (m k : Nat) : s.length - lesser h s m < s.length - lesser h s k ↔ lesser h s k < lesser h s m := by
  have := lesser_le h s m
  have := lesser_le h s k
  omega
/-! ### what the calls answer -/
theorem step_best {h : House} {how : Nat} (e : ¬ 1 < how) : step h (.best how) = (h, match N h (how == 1) h.left with
    | none => ok 0
    | some m => ⟨1, [m, B h (how == 1) h.left]⟩) := by
  refine (if_neg e).trans ?_
  show (h, match h.next (how == 1) h.left.length h.left with
    | none => ok 0
    | some m => ⟨1, [m, h.best (how == 1) h.left.length h.left]⟩) = _
  rw [next_is (Nat.le_refl _)]
  rfl
theorem step_way {h : House} {how : Nat} (e : ¬ 1 < how) : step h (.way how) = (h, ⟨(B h (how == 1) h.left : Nat), W h (how == 1) h.left⟩) := (if_neg e).trans rfl
theorem step_half {h : House} : step h .half = (h, match h.half h.left with
    | none => ok 0
    | some m => ⟨1, [m, Hv h false h.left, Hv h true h.left]⟩) := rfl
theorem step_kind {h : House} {how : Nat} (e : 1 < how) : step h (.best how) = (h, ok (-1)) ∧ step h (.way how) = (h, ok (-1)) := ⟨if_pos e, if_pos e⟩
theorem step_upon {h : House} {m : Nat} (e : m < h.all.length) : step h (.upon m) = (h, ⟨((h.at_ m).upon.length : Nat), (h.at_ m).upon⟩) := if_neg (Nat.not_le_of_lt e)
theorem step_upon2 {h : House} {m : Nat} (e : ¬ m < h.all.length) : step h (.upon m) = (h, ok (-2)) := if_pos (Nat.le_of_not_lt e)
end Fb
/-! How a house lies in the heap. -/
namespace Fb
open PySem PySem.Spec PyProof.Rows L2
open PySem.W (Codec)
/-! ### lists of numbers -/
def nv (l : List Nat) : List V := l.map fun k : Nat => V.int (k : Int)
theorem nv_nil : nv [] = [] := rfl
theorem nv_length (l : List Nat) : (nv l).length = l.length := List.length_map _
theorem nv_append (a b : List Nat) : nv (a ++ b) = nv a ++ nv b := List.map_append
theorem nv_ints (l : List Nat) : nv l = (l.map fun k : Nat => (k : Int)).map V.int := by
  unfold nv
  rw [List.map_map]
  rfl
theorem nv_flat (l : List Nat) : (nv l).all flatV = true := by
  refine List.all_eq_true.mpr fun x hx => ?_
  obtain ⟨k, _, rfl⟩ := List.mem_map.mp hx
  rfl
theorem nv_in (l : List Nat) (k : Nat) : inV (V.int (k : Int)) (nv l) = l.contains k := by
  induction l with
  | nil => rfl
  | cons a l ih =>
    show (eqV (V.int (a : Int)) (V.int (k : Int)) || inV (V.int (k : Int)) (nv l)) = (k == a || l.contains k)
    rw [ih]
    have e : eqV (V.int (a : Int)) (V.int (k : Int)) = (k == a) := by
      show ((a : Int) == (k : Int)) = (k == a)
      rw [Bool.eq_iff_iff, beq_iff_eq, beq_iff_eq]
      omega
    rw [e]
theorem nv_get {l : List Nat} {j : Nat} {k : Nat} (h : l[j]? = some k) : (nv l)[j]? = some (V.int (k : Int)) := by
  unfold nv
  rw [List.getElem?_map, h]
  rfl
theorem nv_got {l : List Nat} {j : Nat} {x : V} (h : (nv l)[j]? = some x) : ∃ k, l[j]? = some k ∧ x = V.int (k : Int) := by
  unfold nv at h
  rw [List.getElem?_map] at h
  cases e : l[j]? with
  | none =>
    rw [e] at h
    cases h
  | some k =>
    rw [e] at h
    exact ⟨k, rfl, (Option.some.inj h).symm⟩
theorem take_more {α : Type} : ∀ {l : List α} {i : Nat} {x : α}, l[i]? = some x → l.take (i + 1) = l.take i ++ [x]
  | [], i, x, h => by simp at h
  | a :: l, 0, x, h => by
    have e : a = x := Option.some.inj h
    subst e
    rfl
  | a :: l, i + 1, x, h => by
    have ih := take_more (l := l) (i := i) (x := x) h
    show a :: l.take (i + 1) = a :: l.take i ++ [x]
    rw [ih]
    rfl
theorem small {n m : Nat} (h : n ≤ m) (hm : m < sizeLine := by decide) : n < sizeLine := Nat.lt_of_le_of_lt h hm
/-! ### attributes -/
theorem lk_here {k : Str} {v : V} {r : List (Str × V)} : List.lookup k ((k, v) :: r) = some v := by
  have e : (k == k) = true := beq_self_eq_true k
  simp only [List.lookup, e]
theorem lk_past {k g : Str} {v : V} {r : List (Str × V)} (h : (k == g) = false) : List.lookup k ((g, v) :: r) = List.lookup k r := by
  simp only [List.lookup, h]
theorem put_here {f : Str} {v x : V} {r : List (Str × V)} : putF f v ((f, x) :: r) = (f, v) :: r := if_pos rfl
theorem put_past {f g : Str} {v x : V} {r : List (Str × V)} (h : ¬ g = f) : putF f v ((g, x) :: r) = (g, x) :: putF f v r := if_neg h
def cF (c : Rp07.Change) (u : Addr) : List (Str × V) := [("cost", .int c.cost), ("weight", .int c.weight), ("can_be_tried", .bl c.tried), ("made_upon", .ref u)]
theorem cF_cost (c : Rp07.Change) (u : Addr) : (cF c u).lookup ("cost" : Str) = some (.int c.cost) := lk_here
theorem cF_weight (c : Rp07.Change) (u : Addr) : (cF c u).lookup ("weight" : Str) = some (.int c.weight) := (lk_past (by decide +kernel)).trans lk_here
theorem cF_tried (c : Rp07.Change) (u : Addr) : (cF c u).lookup ("can_be_tried" : Str) = some (.bl c.tried) := (lk_past (by decide +kernel)).trans ((lk_past (by decide +kernel)).trans lk_here)
theorem cF_upon (c : Rp07.Change) (u : Addr) : (cF c u).lookup ("made_upon" : Str) = some (.ref u) := (lk_past (by decide +kernel)).trans ((lk_past (by decide +kernel)).trans ((lk_past (by decide +kernel)).trans lk_here))
def hF (lt ll : Addr) (f : Bool) : List (Str × V) := [("told", .ref lt), ("still_left", .ref ll), ("anything_found", .bl f)]
theorem hF_told (lt ll : Addr) (f : Bool) : (hF lt ll f).lookup ("told" : Str) = some (.ref lt) := lk_here
theorem hF_left (lt ll : Addr) (f : Bool) : (hF lt ll f).lookup ("still_left" : Str) = some (.ref ll) := (lk_past (by decide +kernel)).trans lk_here
theorem hF_any (lt ll : Addr) (f : Bool) : (hF lt ll f).lookup ("anything_found" : Str) = some (.bl f) := (lk_past (by decide +kernel)).trans ((lk_past (by decide +kernel)).trans lk_here)
/-- a method's name is none of the attributes -/
theorem hF_no (lt ll : Addr) (f : Bool) {m : Str} (h1 : (m == ("told" : Str)) = false := by decide +kernel) (h2 : (m == ("still_left" : Str)) = false := by decide +kernel) (h3 : (m == ("anything_found" : Str)) = false := by decide +kernel) : (hF lt ll f).lookup m = none :=
  (lk_past h1).trans ((lk_past h2).trans ((lk_past h3).trans rfl))
theorem hF_put_told (lt ll x : Addr) (f : Bool) : putF "told" (.ref x) (hF lt ll f) = hF x ll f := put_here
theorem hF_put_left (lt ll x : Addr) (f : Bool) : putF "still_left" (.ref x) (hF lt ll f) = hF lt x f := (put_past (by decide +kernel)).trans (congrArg _ put_here)
theorem hF_put_any (lt ll : Addr) (f g : Bool) : putF "anything_found" (.bl g) (hF lt ll f) = hF lt ll g := (put_past (by decide +kernel)).trans (congrArg _ ((put_past (by decide +kernel)).trans (congrArg _ put_here)))
/-! ### the house -/
/-- the addresses of a house's parts -/
structure Rep where
  a : Addr
  lt : Addr
  ll : Addr
  as : List Addr
  us : List Addr
def Rep.foot (R : Rep) (b : Addr) : Prop := b = R.a ∨ b = R.lt ∨ b = R.ll ∨ b ∈ R.as ∨ b ∈ R.us
/-- a house h lies at R: THE INVARIANT -/
structure HouseAt (CH CC : Addr) (H : Hp) (R : Rep) (h : Rp07.House) : Prop where
  hd : ∃ dx, H R.a = some (.ins CH dx (hF R.lt R.ll (decide (h.found ≠ []))))
  told : H R.lt = some (.lst (R.as.map V.ref))
  left : H R.ll = some (.lst (nv h.left))
  ne : R.lt ≠ R.ll
  alen : R.as.length = h.all.length
  ulen : R.us.length = h.all.length
  chg : ∀ (j : Nat) (c : Rp07.Change), h.all[j]? = some c → ∃ x u dx, R.as[j]? = some x ∧ R.us[j]? = some u ∧ H x = some (.ins CC dx (cF c u)) ∧ H u = some (.lst (nv c.upon))
  apart : ∀ u ∈ R.us, u ≠ R.lt ∧ u ≠ R.ll
  good : Good h
theorem get_of_mem {α : Type} {l : List α} {x : α} (h : x ∈ l) : ∃ j : Nat, l[j]? = some x := by
  obtain ⟨j, hj, e⟩ := List.mem_iff_getElem.mp h
  exact ⟨j, by rw [List.getElem?_eq_getElem hj, e]⟩
theorem get_lt {α : Type} {l : List α} {j : Nat} (h : j < l.length) : ∃ x, l[j]? = some x := ⟨_, List.getElem?_eq_getElem h⟩
theorem lt_of_get {α : Type} {l : List α} {j : Nat} {x : α} (h : l[j]? = some x) : j < l.length := (List.getElem?_eq_some_iff.mp h).1
section
variable {CH CC : Addr} {H H' : Hp} {R : Rep} {h : Rp07.House}
theorem HouseAt.some_of (I : HouseAt CH CC H R h) {b : Addr} (hb : R.foot b) : ∃ o, H b = some o := by
  rcases hb with rfl | rfl | rfl | hb | hb
  · obtain ⟨dx, e⟩ := I.hd
    exact ⟨_, e⟩
  · exact ⟨_, I.told⟩
  · exact ⟨_, I.left⟩
  · obtain ⟨j, hj⟩ := get_of_mem hb
    have hl : j < h.all.length := by rw [← I.alen]; exact lt_of_get hj
    obtain ⟨x, u, dx, hx, hu, ex, eu⟩ := I.chg j _ (List.getElem?_eq_getElem hl)
    have : x = b := Option.some.inj (hx.symm.trans hj)
    subst this
    exact ⟨_, ex⟩
  · obtain ⟨j, hj⟩ := get_of_mem hb
    have hl : j < h.all.length := by rw [← I.ulen]; exact lt_of_get hj
    obtain ⟨x, u, dx, hx, hu, ex, eu⟩ := I.chg j _ (List.getElem?_eq_getElem hl)
    have : u = b := Option.some.inj (hu.symm.trans hj)
    subst this
    exact ⟨_, eu⟩
theorem HouseAt.not_new (I : HouseAt CH CC H R h) {b : Addr} (hb : H b = Option.none) : ¬ R.foot b := fun q => by
  obtain ⟨o, e⟩ := I.some_of q
  rw [hb] at e
  cases e
theorem HouseAt.keep (I : HouseAt CH CC H R h) (k : ∀ b o, R.foot b → H b = some o → H' b = some o) : HouseAt CH CC H' R h := by
  obtain ⟨dx, e⟩ := I.hd
  refine ⟨⟨dx, k _ _ (.inl rfl) e⟩, k _ _ (.inr (.inl rfl)) I.told, k _ _ (.inr (.inr (.inl rfl))) I.left, I.ne, I.alen, I.ulen, fun j c hc => ?_, I.apart, I.good⟩
  obtain ⟨x, u, dx, hx, hu, ex, eu⟩ := I.chg j c hc
  exact ⟨x, u, dx, hx, hu, k _ _ (.inr (.inr (.inr (.inl (List.mem_of_getElem? hx))))) ex, k _ _ (.inr (.inr (.inr (.inr (List.mem_of_getElem? hu))))) eu⟩
theorem HouseAt.same (I : HouseAt CH CC H R h) (s : Same H H') : HouseAt CH CC H' R h := I.keep fun b o _ e => s b o e
end
/-- all but the house's own is as it was -/
def Frame (H : Hp) (R : Rep) (H' : Hp) : Prop := ∀ b o, H b = some o → ¬ R.foot b → H' b = some o
theorem Same.frame {H H' : Hp} {R : Rep} (s : Same H H') : Frame H R H' := fun b o e _ => s b o e
/-- what a house has come to own was its own or is new -/
def Grow (H : Hp) (R R' : Rep) : Prop := R'.a = R.a ∧ ∀ b, R'.foot b → R.foot b ∨ H b = Option.none
theorem Grow.refl {H : Hp} {R : Rep} : Grow H R R := ⟨rfl, fun _ h => .inl h⟩
theorem same_upd {H H' : Hp} {p : Addr} {o : HO} (s : Same H H') (n : H' p = Option.none) : Same H (upd H' p o) := fun b o' e => by
  rw [upd_ne (ne_of_none (s b o' e) n)]
  exact s b o' e
theorem same_upd_new {H H' : Hp} {p : Addr} {o : HO} (s : Same H H') (n : H p = Option.none) : Same H (upd H' p o) := fun b o' e => by
  rw [upd_ne (ne_of_none e n)]
  exact s b o' e
/-- what is answered, as values -/
def ansV (r : Rp07.Ans) : List V := V.int r.v :: nv r.l
/-! ### words that the layer lacks -/
/-- an if by a test whose meaning is known -/
theorem iteP {b : Bool} {c A B : Prop} [Decidable c] (e : b = decide c) (h1 : c → A) (h2 : ¬ c → B) : if b = true then A else B := by
  by_cases h : c
  · rw [e, decide_eq_true h, if_pos rfl]
    exact h1 h
  · rw [e, decide_eq_false h, if_neg Bool.false_ne_true]
    exact h2 h
/-- a whole number of the module's top -/
def GI (mg : Str → Option Value) (x : Str) (i : Int) : Prop := ∃ t, mg x = some (.int i t)
theorem pe_gi {X : Cx} {x : Str} {i : Int} {pos : Pos} (hg : Gl X x) (g : GI X.mg x i) (hd : (x == ("__debug__" : Str)) = false := by decide) : PE X (.Name x pos) (tC (.int i)) := by
  obtain ⟨t, h⟩ := g
  exact pe_glob hg h ⟨t, rfl⟩ hd
/-- a dict of the module's top whose keys are whole numbers: what it holds at a key -/
def KeysInt : List DictEntry → Prop
  | [] => True
  | e :: r => (∃ i t, e.key = .int i t ∧ e.hash = hashInt i) ∧ KeysInt r
theorem KeysInt.all : ∀ {l : List DictEntry}, KeysInt l → ∀ e ∈ l, ∃ i t, e.key = .int i t ∧ e.hash = hashInt i
  | _ :: _, ⟨h, _⟩, _, .head _ => h
  | _ :: _, ⟨_, r⟩, _, .tail _ m => r.all _ m
def KDctI (K : PySem.W.Frag) (a : Addr) (i : Int) (v : V) : Prop :=
  ∃ es n u, K.lookup a = some ⟨.type "dict", none, .dict es n, #[]⟩ ∧ KeysInt es.toList ∧ findBy Value.isInt es i = some u ∧ RelV v u
def rIxDI (K : PySem.W.Frag) : R2 := fun x y H Q => ∃ p i v, x = .ref p ∧ y = .int i ∧ KDctI K p i v ∧ Q v H
theorem mapOf_KI {prog : Program} {w : World} {K : PySem.W.Frag} {h : Heap} {a : Addr} {es : Array DictEntry} {n : Nat} (X : K.In h) (hl : K.lookup a = some ⟨.type "dict", none, .dict es n, #[]⟩) (hk : KeysInt es.toList) :
    h.MapOf (PySem.intKind prog w) a (fun k => findBy Value.isInt es k) :=
  ⟨_, es, n, X _ _ hl, ⟨rfl, rfl, rfl⟩, rfl, fun e he => by
    obtain ⟨x, t, e1, e2⟩ := hk.all e (Array.mem_toList_iff.mpr he)
    refine ⟨x, ?_, e2⟩
    rw [e1]
    show Value.isInt x (.int x t) = true
    simp [Value.isInt], fun _ => rfl⟩
theorem ix_kdictI {X : Cx} : IxR X (rIxDI X.K) := by
  intro value slice pins s σ H x y v u Q I rx ry h hs
  obtain ⟨p, i, r, rfl, rfl, ⟨es, n, u0, hl, hk, e, ru⟩, q⟩ := h
  obtain rfl : v = Value.ref p := rx
  obtain ⟨t, rfl⟩ := ry
  have hm := mapOf_KI (prog := X.prog) (w := X.w) I.kIn hl hk
  have hi : (PySem.intKind X.prog X.w).is i (.int i t) = true := by
    show Value.isInt i (.int i t) = true
    simp [Value.isInt]
  exact tail_any hm.typeIs slot_dict_getitem.lookup (wpAny_getItem_of hi hm e ⟨r, H, I.tok _, ru, q⟩) hs
end Fb
/-! The methods of the house. -/
namespace Fb
open PySem PySem.Spec PyProof.Rows L2
open PySem.W (Codec)
/-! ### the text by places -/
def top (i : Nat) : Stmt := PySem.Challenge.pw_firstbadyard_s01_answers.main.body.getD i (.Pass ⟨0, 0, 0, 0⟩)
abbrev sAfter : Stmt := top 11
abbrev sWeights : Stmt := top 12
abbrev sRange : Stmt := top 24
abbrev cChange : Stmt := top 26
abbrev cHouse : Stmt := top 27
abbrev sCInit : Stmt := inClass cChange 0
abbrev sHInit : Stmt := inClass cHouse 0
abbrev sBegins : Stmt := inClass cHouse 1
abbrev sChange : Stmt := inClass cHouse 2
abbrev sFound : Stmt := inClass cHouse 3
abbrev sLeft : Stmt := inClass cHouse 4
abbrev sRefusal : Stmt := inClass cHouse 9
abbrev sIsTold : Stmt := inClass cHouse 10
abbrev sThrough : Stmt := inClass cHouse 11
abbrev sSome : Stmt := inClass cHouse 12
/-! ### what the top has written -/
structure Txt (K : PySem.W.Frag) (mg : Str → Option Value) (CH CC : Addr) : Prop where
  cH : Cls K CH
  cC : Cls K CC
  nTold : NoAttr K CH "told"
  nLeft : NoAttr K CH "still_left"
  nAny : NoAttr K CH "anything_found"
  nCost : NoAttr K CC "cost"
  nWeight : NoAttr K CC "weight"
  nTried : NoAttr K CC "can_be_tried"
  nUpon : NoAttr K CC "made_upon"
  gH : mg "House" = some (.ref CH)
  gC : mg "Change" = some (.ref CC)
  len : mg "len" = none
  range : mg "range" = none
  sum : mg "sum" = none
  any : mg "any" = none
  all : mg "all" = none
  kMost : GI mg "MOST_CHANGES" 7
  kCost : GI mg "LARGEST_COST" 10000
  kWeight : GI mg "LARGEST_WEIGHT" 10000
  k1 : GI mg "NOT_IN_RANGE" (-1)
  k2 : GI mg "NO_SUCH_CHANGE" (-2)
  k3 : GI mg "SOMETHING_FOUND" (-3)
  k4 : GI mg "CANNOT_BE_TRIED" (-4)
  k6 : GI mg "NONE_WOULD_BE_LEFT" (-6)
  k7 : GI mg "NO_MORE_ROOM" (-7)
/-! ### the promises -/
def inRange (c w t : Int) : Bool := decide (1 ≤ c) && decide (c ≤ 10000) && decide (w ≤ 10000) && decide (t ≤ 1)
def spRange : Sp := fun vs H Q _ => ∃ c w t : Int, vs = [.int c, .int w, .int t] ∧ Q (.bl (inRange c w t)) H
def spCInit (CC : Addr) : Sp := fun vs H Q _ => ∃ (p dx u : Addr) (c w : Nat) (t : Bool) (l : List Nat), vs = [.ref p, .int c, .int w, .bl t, .ref u] ∧ H p = some (.ins CC dx []) ∧
  Q .non (upd H p (.ins CC dx (cF ⟨l, c, w, t⟩ u)))
def spHInit (CH CC : Addr) : Sp := fun vs H Q _ => ∃ (p dx : Addr), vs = [.ref p] ∧ H p = some (.ins CH dx []) ∧
  ∀ (H' : Hp) (R : Rep), R.a = p → HouseAt CH CC H' R Rp07.init → (∀ b, R.foot b → b = p ∨ H b = Option.none) → (∀ b o, H b = some o → b ≠ p → H' b = some o) → Q .non H'
/-- a call of the house: what it asks is in vs -/
def Call (CH CC : Addr) (H : Hp) (R : Rep) (h : Rp07.House) (c : Rp07.Call) (Q : VK) : Prop :=
  ∀ (H' : Hp) (R' : Rep) (q : Addr), HouseAt CH CC H' R' (Rp07.step h c).1 → Grow H R R' → Frame H R H' → H q = Option.none → H' q = some (.lst (ansV (Rp07.step h c).2)) → Q (.ref q) H'
def spBegins (CH CC : Addr) : Sp := fun vs H Q _ => ∃ (R : Rep) (h : Rp07.House), vs = [.ref R.a] ∧ HouseAt CH CC H R h ∧ Call CH CC H R h .begins Q
def spChange (CH CC : Addr) : Sp := fun vs H Q _ => ∃ (R : Rep) (h : Rp07.House) (c w t : Nat) (p : Addr) (ps : List Nat), vs = [.ref R.a, .int c, .int w, .int t, .ref p] ∧ HouseAt CH CC H R h ∧
  H p = some (.lst (nv ps)) ∧ ¬ R.foot p ∧ ps.length ≤ 10 ∧ Call CH CC H R h (.change c w t ps) Q
def spFound (CH CC : Addr) : Sp := fun vs H Q _ => ∃ (R : Rep) (h : Rp07.House) (m b : Nat), vs = [.ref R.a, .int m, .int b] ∧ HouseAt CH CC H R h ∧ Call CH CC H R h (.found m b) Q
def spLeft (CH CC : Addr) : Sp := fun vs H Q _ => ∃ (R : Rep) (h : Rp07.House), vs = [.ref R.a] ∧ HouseAt CH CC H R h ∧ Call CH CC H R h .left Q
def refV : Option Int → V
  | none => .non
  | some i => .int i
def spRefusal (CH CC : Addr) : Sp := fun vs H Q _ => ∃ (R : Rep) (h : Rp07.House) (c w t : Nat) (p : Addr) (ps : List Nat), vs = [.ref R.a, .int c, .int w, .int t, .ref p] ∧ HouseAt CH CC H R h ∧
  H p = some (.lst (nv ps)) ∧ ps.length ≤ 10 ∧ ∀ H' : Hp, Same H H' → Q (refV (refusal h c w t ps)) H'
def spIsTold (CH CC : Addr) : Sp := fun vs H Q _ => ∃ (R : Rep) (h : Rp07.House) (c : Nat), vs = [.ref R.a, .int c] ∧ HouseAt CH CC H R h ∧ Q (.bl (decide (c < h.all.length))) H
def spThrough (CH CC : Addr) : Sp := fun vs H Q _ => ∃ (R : Rep) (h : Rp07.House) (p : Addr) (ps : List Nat), vs = [.ref R.a, .ref p] ∧ HouseAt CH CC H R h ∧ H p = some (.lst (nv ps)) ∧ ps.length ≤ 10 ∧ (∀ x ∈ ps, x < h.all.length) ∧
  ∀ (H' : Hp) (q : Addr), Same H H' → H q = Option.none → H' q = some (.lst (nv (through h ps))) → Q (.ref q) H'
def spSome (CH CC : Addr) : Sp := fun vs H Q _ => ∃ (R : Rep) (h : Rp07.House) (p : Addr) (ps : List Nat) (k : Nat), vs = [.ref R.a, .ref p, .int k] ∧ HouseAt CH CC H R h ∧ H p = some (.lst (nv ps)) ∧ ps.length ≤ 10 ∧ (∀ x ∈ ps, x < h.all.length) ∧
  ∀ (H' : Hp), Same H H' → Q (.bl (ps.any fun x => (h.at_ x).upon.contains k)) H'
/-- some that are left, at p -/
structure LeftAt (H : Hp) (h : Rp07.House) (p : Addr) (s : List Nat) : Prop where
  here : H p = some (.lst (nv s))
  few : s.length ≤ 7
  lt : ∀ x ∈ s, x < h.all.length
theorem LeftAt.same {H H' : Hp} {h : Rp07.House} {p : Addr} {s : List Nat} (l : LeftAt H h p s) (e : Same H H') : LeftAt H' h p s := ⟨e _ _ l.here, l.few, l.lt⟩
def spAfter (CH CC : Addr) : Sp := fun vs H Q _ => ∃ (R : Rep) (h : Rp07.House) (p : Addr) (s : List Nat) (m : Nat) (b : Bool), vs = [.ref R.lt, .ref p, .int m, .bl b] ∧ HouseAt CH CC H R h ∧ LeftAt H h p s ∧ m < h.all.length ∧
  ∀ (H' : Hp) (q : Addr), Same H H' → H q = Option.none → H' q = some (.lst (nv (h.if_ s m b))) → Q (.ref q) H'
def spWeights (CH CC : Addr) : Sp := fun vs H Q _ => ∃ (R : Rep) (h : Rp07.House) (p : Addr) (s : List Nat), vs = [.ref R.lt, .ref p] ∧ HouseAt CH CC H R h ∧ LeftAt H h p s ∧ ∀ (H' : Hp), Same H H' → Q (.int (h.weigh s : Nat)) H'
section
variable {P : Program} {w : World} {K : PySem.W.Frag} {mg : Str → Option Value} {base : Heap} {CH CC : Addr}
/-! ### numbers_in_range -/
theorem scRange : FnScope ["cost", "weight", "tried"] ["cost", "weight", "tried"] (defScope sRange) := ⟨rfl, rfl, rfl, by decide +kernel, rfl, by decide +kernel, by decide +kernel⟩
theorem ok_range {f : Addr} {fd : FuncData} (F : Fun K "numbers_in_range" "numbers_in_range" sRange f fd) (T : Txt K mg CH CC) : FnOk P w K mg base CX0 1 f fd ["cost", "weight", "tried"] spRange := by
  refine F.ok scRange (fun vs H Q E h => ?_) (fun cdv A outer s H vs Q E hr h => ?_)
  · obtain ⟨c, w, t, rfl, _⟩ := h
    rfl
  · obtain ⟨c, w, t, rfl, k⟩ := h
    refine ⟨_, pss_one (ps_ret (pe_and (pe_chain op_le op_le pe_int (pv 0) (pe_gi rfl T.kCost)) (pe_and (pe_cmpR op_le (pv 1) (pe_gi rfl T.kWeight) (nomark _)) (pe_one (pe_cmpR op_le (pv 2) pe_int (nomark _)))))), ?_⟩
    unfold inRange at k
    refine ⟨_, rfl, _, _, rfl, rfl, _, rfl, ?_⟩
    by_cases h1 : 1 ≤ c
    · rw [if_pos (decide_eq_true h1)]
      refine ⟨_, _, rfl, rfl, _, rfl, ?_⟩
      by_cases h2 : c ≤ 10000
      · rw [if_pos (decide_eq_true h2)]
        refine ⟨_, rfl, _, _, rfl, rfl, _, rfl, ?_⟩
        by_cases h3 : w ≤ 10000
        · rw [if_pos (decide_eq_true h3)]
          refine ⟨_, rfl, _, _, rfl, rfl, ?_⟩
          rw [decide_eq_true h1, decide_eq_true h2, decide_eq_true h3] at k
          exact k
        · rw [if_neg (by rw [decide_eq_false h3]; exact Bool.false_ne_true)]
          rw [decide_eq_true h1, decide_eq_true h2, decide_eq_false h3] at k
          exact k
      · rw [if_neg (by rw [decide_eq_false h2]; exact Bool.false_ne_true)]
        rw [decide_eq_true h1, decide_eq_false h2] at k
        exact k
    · rw [if_neg (by rw [decide_eq_false h1]; exact Bool.false_ne_true)]
      refine ⟨_, rfl, ?_⟩
      rw [if_neg Bool.false_ne_true]
      rw [decide_eq_false h1] at k
      exact k
/-! ### Change.__init__ -/
theorem scCInit : FnScope ["self", "cost", "weight", "can_be_tried", "made_upon"] ["self", "cost", "weight", "can_be_tried", "made_upon"] (defScope sCInit) := ⟨rfl, rfl, rfl, by decide +kernel, rfl, by decide +kernel, by decide +kernel⟩
theorem upd_upd {H : Hp} {p : Addr} {o o' : HO} : upd (upd H p o) p o' = upd H p o' := by
  funext b
  by_cases e : b = p
  · subst e
    rw [upd_same, upd_same]
  · rw [upd_ne e, upd_ne e, upd_ne e]
def cF2 (c w : Nat) : List (Str × V) := [("cost", .int c), ("weight", .int w)]
def cF3 (c w : Nat) (t : Bool) : List (Str × V) := [("cost", .int c), ("weight", .int w), ("can_be_tried", .bl t)]
theorem cF2_of (c w : Nat) : putF "weight" (V.int (w : Int)) (putF "cost" (V.int (c : Int)) []) = cF2 c w := put_past (by decide +kernel)
theorem cF3_of (c w : Nat) (t : Bool) : putF "can_be_tried" (V.bl t) (cF2 c w) = cF3 c w t := (put_past (by decide +kernel)).trans (congrArg _ (put_past (by decide +kernel)))
theorem cF4_of (c w : Nat) (t : Bool) (u : Addr) (l : List Nat) : putF "made_upon" (V.ref u) (cF3 c w t) = cF ⟨l, c, w, t⟩ u := (put_past (by decide +kernel)).trans (congrArg _ ((put_past (by decide +kernel)).trans (congrArg _ (put_past (by decide +kernel)))))
theorem ok_cinit {f : Addr} {fd : FuncData} (F : Fun K "__init__" "Change.__init__" sCInit f fd) (T : Txt K mg CH CC) : FnOk P w K mg base CX0 1 f fd ["self", "cost", "weight", "can_be_tried", "made_upon"] (spCInit CC) := by
  refine F.ok scCInit (fun vs H Q E h => ?_) (fun cdv A outer s H vs Q E hr h => ?_)
  · obtain ⟨p, dx, u, c, w, t, l, rfl, _⟩ := h
    rfl
  · obtain ⟨p, dx, u, c, w, t, l, rfl, hp, k⟩ := h
    refine ⟨_, pss_cons (ps_fld (pv 0) (pv 1) rfl) (pss_cons (ps_fld (pv 0) (pv 2) rfl) (pss_cons (ps_fld (pv 0) (pv 3) rfl) (pss_one (ps_fld (pv 0) (pv 4) rfl)))), ?_⟩
    refine ⟨_, rfl, _, rfl, p, CC, dx, _, rfl, hp, T.cC, T.nCost, (by show 0 < 1000; decide), ?_⟩
    refine ⟨_, rfl, _, rfl, p, CC, dx, _, rfl, upd_same, T.cC, T.nWeight, (by show 1 < 1000; decide), ?_⟩
    refine ⟨_, rfl, _, rfl, p, CC, dx, _, rfl, upd_same, T.cC, T.nTried, (by rw [cF2_of]; show 2 < 1000; decide), ?_⟩
    refine ⟨_, rfl, _, rfl, p, CC, dx, _, rfl, upd_same, T.cC, T.nUpon, (by rw [cF2_of, cF3_of]; show 3 < 1000; decide), ?_⟩
    rw [upd_upd, upd_upd, upd_upd, cF2_of, cF3_of, cF4_of c w t u l]
    exact k
/-! ### House.__init__, House.begins -/
theorem scHInit : FnScope ["self"] ["self"] (defScope sHInit) := ⟨rfl, rfl, rfl, by decide +kernel, rfl, by decide +kernel, by decide +kernel⟩
def hF2 (lt ll : Addr) : List (Str × V) := [("told", .ref lt), ("still_left", .ref ll)]
theorem hF2_of (lt ll : Addr) : putF "still_left" (V.ref ll) (putF "told" (V.ref lt) []) = hF2 lt ll := put_past (by decide +kernel)
theorem hF3_of (lt ll : Addr) : putF "anything_found" (V.bl false) (hF2 lt ll) = hF lt ll false := (put_past (by decide +kernel)).trans (congrArg _ (put_past (by decide +kernel)))
theorem house_new {H : Hp} {p dx lt ll : Addr} (hp : H p = some (.ins CH dx (hF lt ll false))) (h1 : H lt = some (.lst [])) (h2 : H ll = some (.lst [])) (n : lt ≠ ll) : HouseAt CH CC H ⟨p, lt, ll, [], []⟩ Rp07.init :=
  ⟨⟨dx, hp⟩, h1, h2, n, rfl, rfl, fun j c hc => (by cases hc), fun u hu => (by cases hu), good_init⟩
theorem foot_new {p lt ll b : Addr} (h : (⟨p, lt, ll, [], []⟩ : Rep).foot b) : b = p ∨ b = lt ∨ b = ll := by
  rcases h with h | h | h | h | h
  · exact .inl h
  · exact .inr (.inl h)
  · exact .inr (.inr h)
  · cases h
  · cases h
theorem ok_hinit {f : Addr} {fd : FuncData} (F : Fun K "__init__" "House.__init__" sHInit f fd) (T : Txt K mg CH CC) : FnOk P w K mg base CX0 1 f fd ["self"] (spHInit CH CC) := by
  refine F.ok scHInit (fun vs H Q E h => ?_) (fun cdv A outer s H vs Q E hr h => ?_)
  · obtain ⟨p, dx, rfl, _⟩ := h
    rfl
  · obtain ⟨p, dx, rfl, hp, k⟩ := h
    refine ⟨_, pss_cons (ps_fld (pv 0) (pe_lst pa_nil) rfl) (pss_cons (ps_fld (pv 0) (pe_lst pa_nil) rfl) (pss_one (ps_fld (pv 0) pe_bl rfl))), ?_⟩
    refine ⟨Nat.zero_le _, fun lt nt => ?_⟩
    have npt : p ≠ lt := ne_of_none hp nt
    refine ⟨_, rfl, p, CH, dx, [], rfl, (by rw [upd_ne npt]; exact hp), T.cH, T.nTold, (by show 0 < 1000; decide), ?_⟩
    refine ⟨Nat.zero_le _, fun ll nl => ?_⟩
    have npl : p ≠ ll := ne_of_none upd_same nl
    have ntl : lt ≠ ll := ne_of_none (show _ = some _ from (upd_ne npt.symm).trans upd_same) nl
    have nl0 : H ll = Option.none := by
      rw [upd_ne npl.symm, upd_ne ntl.symm] at nl
      exact nl
    refine ⟨_, rfl, p, CH, dx, _, rfl, (upd_ne npl).trans upd_same, T.cH, T.nLeft, (by show 1 < 1000; decide), ?_⟩
    refine ⟨_, rfl, p, CH, dx, _, rfl, upd_same, T.cH, T.nAny, (by rw [hF2_of]; show 2 < 1000; decide), ?_⟩
    refine k _ ⟨p, lt, ll, [], []⟩ rfl (house_new (dx := dx) (by rw [upd_same, hF2_of, hF3_of]) ?_ ?_ ntl) (fun b hb => ?_) fun b o e nb => ?_
    · rw [upd_ne npt.symm, upd_ne npt.symm, upd_ne ntl, upd_ne npt.symm, upd_same]
    · rw [upd_ne npl.symm, upd_ne npl.symm, upd_same]
    · rcases foot_new hb with rfl | rfl | rfl
      · exact .inl rfl
      · exact .inr nt
      · exact .inr nl0
    · rw [upd_ne nb, upd_ne nb, upd_ne (ne_of_none e nl0), upd_ne nb, upd_ne (ne_of_none e nt)]
      exact e
theorem scBegins : FnScope ["self"] ["self"] (defScope sBegins) := ⟨rfl, rfl, rfl, by decide +kernel, rfl, by decide +kernel, by decide +kernel⟩
theorem ok_begins {f : Addr} {fd : FuncData} (F : Fun K "begins" "House.begins" sBegins f fd) (T : Txt K mg CH CC) : FnOk P w K mg base CX0 1 f fd ["self"] (spBegins CH CC) := by
  refine F.ok scBegins (fun vs H Q E h => ?_) (fun cdv A outer s H vs Q E hr h => ?_)
  · obtain ⟨R, h, rfl, _⟩ := h
    rfl
  · obtain ⟨R, h, rfl, I, k⟩ := h
    obtain ⟨dx, hp⟩ := I.hd
    generalize ep : R.a = p at hp ⊢
    refine ⟨_, pss_cons (ps_fld (pv 0) (pe_lst pa_nil) rfl) (pss_cons (ps_fld (pv 0) (pe_lst pa_nil) rfl) (pss_cons (ps_fld (pv 0) pe_bl rfl) (pss_one (ps_ret (pe_lst (pa_cons pe_int pa_nil)))))), ?_⟩
    refine ⟨Nat.zero_le _, fun lt nt => ?_⟩
    have npt : p ≠ lt := ne_of_none hp nt
    refine ⟨_, rfl, p, CH, dx, _, rfl, (by rw [upd_ne npt]; exact hp), T.cH, T.nTold, (by show 3 < 1000; decide), ?_⟩
    refine ⟨Nat.zero_le _, fun ll nl => ?_⟩
    have npl : p ≠ ll := ne_of_none upd_same nl
    have ntl : lt ≠ ll := ne_of_none (show _ = some _ from (upd_ne npt.symm).trans upd_same) nl
    have nl0 : H ll = Option.none := by
      rw [upd_ne npl.symm, upd_ne ntl.symm] at nl
      exact nl
    refine ⟨_, rfl, p, CH, dx, _, rfl, (upd_ne npl).trans upd_same, T.cH, T.nLeft, (by rw [hF_put_told]; show 3 < 1000; decide), ?_⟩
    refine ⟨_, rfl, p, CH, dx, _, rfl, upd_same, T.cH, T.nAny, (by rw [hF_put_told, hF_put_left]; show 3 < 1000; decide), ?_⟩
    refine ⟨(by show 1 ≤ sizeLine; decide), fun q nq => ?_⟩
    rw [hF_put_told, hF_put_left, hF_put_any] at nq ⊢
    have nqp : q ≠ p := fun e => by
      rw [e, upd_same] at nq
      cases nq
    have nql : q ≠ ll := fun e => by
      rw [e, upd_ne npl.symm, upd_ne npl.symm, upd_same] at nq
      cases nq
    have nqt : q ≠ lt := fun e => by
      rw [e, upd_ne npt.symm, upd_ne npt.symm, upd_ne ntl, upd_ne npt.symm, upd_same] at nq
      cases nq
    have nq0 : H q = Option.none := by
      rw [upd_ne nqp, upd_ne nqp, upd_ne nql, upd_ne nqp, upd_ne nqt] at nq
      exact nq
    refine k _ ⟨p, lt, ll, [], []⟩ q (house_new (dx := dx) ?_ ?_ ?_ ntl) ⟨ep.symm, fun b hb => ?_⟩ (fun b o e nb => ?_) nq0 upd_same
    · rw [upd_ne nqp.symm, upd_same]
    · rw [upd_ne nqt.symm, upd_ne npt.symm, upd_ne npt.symm, upd_ne ntl, upd_ne npt.symm, upd_same]
    · rw [upd_ne nql.symm, upd_ne npl.symm, upd_ne npl.symm, upd_same]
    · rcases foot_new hb with rfl | rfl | rfl
      · exact .inl (.inl ep.symm)
      · exact .inr nt
      · exact .inr nl0
    · have nbp : b ≠ p := fun z => nb (.inl (z.trans ep.symm))
      rw [upd_ne (ne_of_none e nq0), upd_ne nbp, upd_ne nbp, upd_ne (ne_of_none e nl0), upd_ne nbp, upd_ne (ne_of_none e nt)]
      exact e
/-! ### House.is_told -/
theorem scIsTold : FnScope ["self", "c"] ["self", "c"] (defScope sIsTold) := ⟨rfl, rfl, rfl, by decide +kernel, rfl, by decide +kernel, by decide +kernel⟩
theorem ok_istold {f : Addr} {fd : FuncData} (F : Fun K "is_told" "House.is_told" sIsTold f fd) (T : Txt K mg CH CC) : FnOk P w K mg base CX0 1 f fd ["self", "c"] (spIsTold CH CC) := by
  refine F.ok scIsTold (fun vs H Q E h => ?_) (fun cdv A outer s H vs Q E hr h => ?_)
  · obtain ⟨R, h, c, rfl, _⟩ := h
    rfl
  · obtain ⟨R, h, c, rfl, I, k⟩ := h
    obtain ⟨dx, hp⟩ := I.hd
    refine ⟨_, pss_one (ps_ret (pe_cmpR op_lt (pv 1) (pe_callB call_len_seq (by rfl) T.len PySem.boot_len (pa_cons (pe_fld (pv 0) rfl) pa_nil)) (nomark _))), ?_⟩
    refine ⟨_, rfl, _, rfl, R.a, CH, dx, _, _, rfl, hp, T.cH, T.nTold, hF_told _ _ _, R.lt, _, rfl, .inl (SqL.of I.told), _, _, rfl, rfl, ?_⟩
    have e : decide ((c : Int) < ((R.as.map V.ref).length : Nat)) = decide (c < h.all.length) := by
      rw [List.length_map, I.alen]
      exact decide_eq_decide.mpr Int.ofNat_lt
    show Q (.bl (decide ((c : Int) < ((R.as.map V.ref).length : Nat)))) H
    rw [e]
    exact k
/-! ### House.some_made_upon -/
theorem HouseAt.change_at {H : Hp} {R : Rep} {h : Rp07.House} (I : HouseAt CH CC H R h) {m : Nat} (hm : m < h.all.length) :
    ∃ x u dx, atI (R.as.map V.ref) (m : Int) = some (V.ref x) ∧ H x = some (.ins CC dx (cF (h.at_ m) u)) ∧ H u = some (.lst (nv (h.at_ m).upon)) ∧ R.foot x ∧ R.foot u := by
  obtain ⟨x, u, dx, hx, hu, ex, eu⟩ := I.chg m _ (get_at hm)
  exact ⟨x, u, dx, atI_nat (by rw [List.getElem?_map, hx]; rfl), ex, eu, .inr (.inr (.inr (.inl (List.mem_of_getElem? hx)))), .inr (.inr (.inr (.inr (List.mem_of_getElem? hu))))⟩
theorem scSome : FnScope ["self", "changes", "one", "c"] ["self", "changes", "one"] (defScope sSome) := ⟨rfl, rfl, rfl, by decide +kernel, rfl, by decide +kernel, by decide +kernel⟩
theorem any_bl (ps : List Nat) (f : Nat → Bool) : (ps.map f).any id = ps.any f := by
  rw [List.any_map]
  rfl
theorem all_bl (ps : List Nat) (f : Nat → Bool) : (ps.map f).all id = ps.all f := by
  rw [List.all_map]
  rfl
theorem ok_some {f : Addr} {fd : FuncData} (F : Fun K "some_made_upon" "House.some_made_upon" sSome f fd) (T : Txt K mg CH CC) : FnOk P w K mg base CX0 1 f fd ["self", "changes", "one"] (spSome CH CC) := by
  refine F.ok scSome (fun vs H Q E h => ?_) (fun cdv A outer s H vs Q E hr h => ?_)
  · obtain ⟨R, h, p, ps, k, rfl, _⟩ := h
    rfl
  · obtain ⟨R, h, p, ps, k, rfl, I, hp, hlen, hlt, kq⟩ := h
    refine ⟨_, pss_one (ps_ret (pe_callB (cr_any rfl) (by rfl) T.any (by decide +kernel) (pa_cons (pe_lc (own := [("c", 3)]) (g := gName 3) (tt := tYes) (te := tOp (rIn K false) (tVar 2) (tFld K (tOp (rIxL K) (tFld K (tVar 0) "told") (tVar 3)) "made_upon")) rfl scSome.nd (pi_list (pv 1))
      (blkOk_by (N := ["self", "changes", "one", "c"]) (sc := defScope sSome) (by decide +kernel)) (fun _ _ _ _ _ => pg_name (i := 3) scSome.nd rfl (Or.inl rfl)) (fun _ _ _ _ _ => pts_nil)
      (fun _ _ _ _ _ => pe_cmpR op_in_seq (pv 2) (pe_fld (pe_ix ix_list (pe_fld (pv 0) rfl) (pv 3) (fun _ _ => rfl)) rfl) (by rfl))) pa_nil))), ?_⟩
    refine ⟨_, rfl, p, rfl, ⟨_, SqL.of hp⟩, fun D hD => ?_⟩
    refine lc_list (K := K) (a := p) (xs := nv ps) (fun i H' => Same H H' ∧ H' D = some (.lst (((ps.take i).map fun x => (h.at_ x).upon.contains k).map V.bl))) ⟨same_upd (Same.refl H) hD, upd_same⟩ (fun i H' _ ⟨s1, _⟩ => SqL.of (s1 _ _ hp)) ?_ ?_
    · rintro i x H' hx ⟨s1, hD1⟩
      obtain ⟨c, hc, rfl⟩ := nv_got hx
      have I1 := I.same s1
      obtain ⟨dx, ha⟩ := I1.hd
      have hcl : c < h.all.length := hlt c (List.mem_of_getElem? hc)
      obtain ⟨y, u, dy, hat, hy, hu, _, _⟩ := I1.change_at hcl
      refine ⟨rfl, ?_⟩
      refine ⟨_, rfl, _, rfl, R.a, CH, dx, _, _, rfl, ha, T.cH, T.nTold, hF_told _ _ _, _, rfl, R.lt, _, _, _, rfl, rfl, SqL.of I1.told, hat, y, CC, dy, _, _, rfl, hy, T.cC, T.nUpon, cF_upon _ _, u, _, rfl, .inl (SqL.of hu), rfl, nv_flat _, ?_⟩
      refine ⟨_, hD1, ?_, same_upd_new s1 hD, ?_⟩
      · rw [List.length_map, List.length_map, List.length_take]
        exact small (m := 10) (by omega)
      · rw [upd_same, take_more hc, List.map_append, List.map_append]
        show some (HO.lst (_ ++ [V.bl (inV (V.int (k : Int)) (nv (h.at_ c).upon))])) = _
        rw [nv_in]
        rfl
    · rintro H' ⟨s1, hD1⟩
      rw [nv_length, List.take_length] at hD1
      refine ⟨D, _, rfl, SqL.of hD1, ?_⟩
      rw [any_bl]
      exact kq _ s1
/-! ### House.upon_through -/
theorem scThrough : FnScope ["self", "parents", "one"] ["self", "parents"] (defScope sThrough) := ⟨rfl, rfl, rfl, by decide +kernel, rfl, by decide +kernel, by decide +kernel⟩
theorem ok_through {f fS : Addr} {fd fdS : FuncData} (F : Fun K "upon_through" "House.upon_through" sThrough f fd) (T : Txt K mg CH CC)
    (GS : FnOk P w K mg base CX0 1 fS fdS ["self", "changes", "one"] (spSome CH CC)) (bS : Binds K fdS ["self", "changes", "one"] []) (mS : Meth K CH "some_made_upon" fS) : FnOk P w K mg base CX0 2 f fd ["self", "parents"] (spThrough CH CC) := by
  refine F.ok scThrough (fun vs H Q E h => ?_) (fun cdv A outer s H vs Q E hr h => ?_)
  · obtain ⟨R, h, p, ps, rfl, _⟩ := h
    rfl
  · obtain ⟨R, h, p, ps, rfl, I, hp, hlen, hlt, kq⟩ := h
    obtain ⟨dx, ha⟩ := I.hd
    refine ⟨_, pss_one (ps_ret (pe_lc (own := [("one", 2)]) (g := gName 2) (tt := tB (tMeth CH "some_made_upon" (spSome CH CC) [] E0 (tVar 0) (tCons (tVar 1) (tCons (tVar 2) tNil)))) (te := tVar 2) rfl scThrough.nd
      (pi_range1 (by rfl) T.range (pa_cons (pe_callB call_len_seq (by rfl) T.len PySem.boot_len (pa_cons (pe_fld (pv 0) rfl) pa_nil)) pa_nil))
      (blkOk_by (N := ["self", "parents", "one"]) (sc := defScope sThrough) (by decide +kernel)) (fun _ _ _ _ _ => pg_name (i := 2) scThrough.nd rfl (Or.inl rfl))
      (fun _ _ _ _ _ => pts_one (pt_val (pe_meth (pv 0) T.cH mS GS hr bS .nil pass0 (pa_cons (pv 1) (pa_cons (pv 2) pa_nil)))))
      (fun _ _ _ _ _ => pv 2))), ?_⟩
    have few := I.good.few
    have el : (R.as.map V.ref).length = h.all.length := by rw [List.length_map, I.alen]
    refine ⟨_, rfl, R.a, CH, dx, _, _, rfl, ha, T.cH, T.nTold, hF_told _ _ _, R.lt, _, rfl, .inl (SqL.of I.told), ?_⟩
    rw [el]
    refine ⟨_, rfl, (by omega), (by omega), fun D hD => ?_⟩
    refine lc_range (lo := 0) (n := h.all.length) (fun i H' => Same H H' ∧ H' D = some (.lst (nv ((List.range i).filter fun k => ps.any fun x => (h.at_ x).upon.contains k)))) ⟨same_upd (Same.refl H) hD, upd_same⟩ ?_ ?_
    · rintro i H' hi ⟨s1, hD1⟩
      rw [Int.zero_add]
      have I1 := I.same s1
      obtain ⟨dx1, ha1⟩ := I1.hd
      refine ⟨rfl, ?_⟩
      refine ⟨_, rfl, R.a, dx1, _, rfl, ha1, hF_no _ _ _, _, rfl, _, rfl, R, h, p, ps, i, rfl, I1, s1 _ _ hp, hlen, hlt, fun H2 s2 => ⟨_, rfl, ?_⟩⟩
      have hD2 := s2 _ _ hD1
      refine ite2 (fun c => ?_) (fun c => ?_)
      · refine ⟨_, rfl, _, hD2, ?_, same_upd_new (s1.trans s2) hD, ?_⟩
        · rw [nv_length]
          refine small (m := 7) (Nat.le_trans (List.length_filter_le _ _) ?_)
          rw [List.length_range]
          omega
        · rw [upd_same, List.range_succ, List.filter_append, nv_append, List.filter_cons, if_pos c]
          rfl
      · refine ⟨s1.trans s2, ?_⟩
        rw [hD2, List.range_succ, List.filter_append, nv_append, List.filter_cons, if_neg c]
        show _ = some (HO.lst (_ ++ []))
        rw [List.append_nil]
    · rintro H' ⟨s1, hD1⟩
      exact kq _ D s1 hD hD1
/-! ### House.left_after -/
theorem dec_bl (a b : Bool) : decide (V.bl a = V.bl b) = (a == b) := by cases a <;> cases b <;> rfl
theorem filter_more {l : List Nat} {i x : Nat} {p : Nat → Bool} (h : l[i]? = some x) : (l.take (i + 1)).filter p = (l.take i).filter p ++ (if p x = true then [x] else []) := by
  rw [take_more h, List.filter_append, List.filter_cons]
  rfl
theorem scAfter : FnScope ["changes", "left", "c", "is_bad", "made_upon", "one"] ["changes", "left", "c", "is_bad"] (defScope sAfter) := ⟨rfl, rfl, rfl, by decide +kernel, rfl, by decide +kernel, by decide +kernel⟩
theorem ok_after {f : Addr} {fd : FuncData} (F : Fun K "left_after" "left_after" sAfter f fd) (T : Txt K mg CH CC) : FnOk P w K mg base CX0 1 f fd ["changes", "left", "c", "is_bad"] (spAfter CH CC) := by
  refine F.ok scAfter (fun vs H Q E h => ?_) (fun cdv A outer st H vs Q E hr h => ?_)
  · obtain ⟨R, h, p, s, m, b, rfl, _⟩ := h
    rfl
  · obtain ⟨R, h, p, s, m, b, rfl, I, L, hm, kq⟩ := h
    obtain ⟨y, u, dy, hat, hy, hu, _, _⟩ := I.change_at hm
    refine ⟨_, pss_cons (ps_set (i := 4) scAfter.nd rfl (Or.inr rfl) (pe_fld (pe_ix ix_list (pv 0) (pv 2) (fun _ _ => rfl)) rfl))
      (pss_one (ps_ret (pe_lc (own := [("one", 5)]) (g := gName 5) (tt := tTest (tOp rEq (tOp (rIn K false) (tVar 5) (tVar 4)) (tVar 3))) (te := tVar 5) rfl scAfter.nd (pi_list (pv 1))
      (blkOk_by (N := ["changes", "left", "c", "is_bad", "made_upon", "one"]) (sc := defScope sAfter) (by decide +kernel)) (fun _ _ _ _ _ => pg_name (i := 5) scAfter.nd rfl (Or.inl rfl))
      (fun _ _ _ _ _ => pts_one (pt_cmpR op_eq (pe_cmpR op_in_seq (pv 5) (pv 4) (by rfl)) (pv 3) (nomark _)))
      (fun _ _ _ _ _ => pv 5)))), ?_⟩
    refine ⟨_, rfl, _, rfl, R.lt, _, _, _, rfl, rfl, SqL.of I.told, hat, y, CC, dy, _, _, rfl, hy, T.cC, T.nUpon, cF_upon _ _, ?_⟩
    refine ⟨_, rfl, p, rfl, ⟨_, SqL.of L.here⟩, fun D hD => ?_⟩
    refine lc_list (K := K) (a := p) (xs := nv s) (fun i H' => Same H H' ∧ H' D = some (.lst (nv ((s.take i).filter fun c => h.bad c m == b)))) ⟨same_upd (Same.refl H) hD, upd_same⟩ (fun i H' _ ⟨s1, _⟩ => SqL.of (s1 _ _ L.here)) ?_ ?_
    · rintro i x H' hx ⟨s1, hD1⟩
      obtain ⟨c, hc, rfl⟩ := nv_got hx
      refine ⟨rfl, ?_⟩
      refine ⟨_, rfl, _, rfl, u, _, rfl, .inl (SqL.of (s1 _ _ hu)), rfl, nv_flat _, _, rfl, rfl, _, rfl, ?_⟩
      have ed : decide (V.bl (inV (V.int (c : Int)) (nv (h.at_ m).upon)) = V.bl b) = (h.bad c m == b) := by rw [dec_bl, nv_in]; rfl
      show if decide (V.bl (inV (V.int (c : Int)) (nv (h.at_ m).upon)) = V.bl b) = true then _ else _
      rw [ed]
      refine ite2 (fun e => ?_) (fun e => ?_)
      · refine ⟨_, rfl, _, hD1, ?_, same_upd_new s1 hD, ?_⟩
        · rw [nv_length]
          refine small (m := 7) (Nat.le_trans (List.length_filter_le _ _) ?_)
          rw [List.length_take]
          have := L.few
          omega
        · rw [upd_same, filter_more hc, if_pos e, nv_append]
          rfl
      · refine ⟨s1, ?_⟩
        rw [filter_more hc, if_neg e, List.append_nil]
        exact hD1
    · rintro H' ⟨s1, hD1⟩
      rw [nv_length, List.take_length] at hD1
      exact kq _ D s1 hD hD1
/-! ### House.left -/
theorem sum_is (l : List Nat) : ((l.map fun k : Nat => (k : Int)).sum) = ((Rp07.sum l : Nat) : Int) := by
  induction l with
  | nil => rfl
  | cons a l ih =>
    rw [List.map_cons, List.sum_cons, ih]
    show (a : Int) + (Rp07.sum l : Nat) = ((a + Rp07.sum l : Nat) : Int)
    omega
theorem scWeights : FnScope ["changes", "left", "one"] ["changes", "left"] (defScope sWeights) := ⟨rfl, rfl, rfl, by decide +kernel, rfl, by decide +kernel, by decide +kernel⟩
theorem ok_weights {f : Addr} {fd : FuncData} (F : Fun K "weights_together" "weights_together" sWeights f fd) (T : Txt K mg CH CC) : FnOk P w K mg base CX0 1 f fd ["changes", "left"] (spWeights CH CC) := by
  refine F.ok scWeights (fun vs H Q E h => ?_) (fun cdv A outer st H vs Q E hr h => ?_)
  · obtain ⟨R, h, p, s, rfl, _⟩ := h
    rfl
  · obtain ⟨R, h, p, s, rfl, I, L, kq⟩ := h
    have hl7 := L.few
    refine ⟨_, pss_one (ps_ret (pe_callB (cr_sum rfl) (by rfl) T.sum (by decide +kernel) (pa_cons
      (pe_lc (own := [("one", 2)]) (g := gName 2) (tt := tYes) (te := tFld K (tOp (rIxL K) (tVar 0) (tVar 2)) "weight") rfl scWeights.nd (pi_list (pv 1))
      (blkOk_by (N := ["changes", "left", "one"]) (sc := defScope sWeights) (by decide +kernel)) (fun _ _ _ _ _ => pg_name (i := 2) scWeights.nd rfl (Or.inl rfl)) (fun _ _ _ _ _ => pts_nil)
      (fun _ _ _ _ _ => pe_fld (pe_ix ix_list (pv 0) (pv 2) (fun _ _ => rfl)) rfl)) pa_nil))), ?_⟩
    refine ⟨_, rfl, p, rfl, ⟨_, SqL.of L.here⟩, fun D hD => ?_⟩
    refine lc_list (K := K) (a := p) (xs := nv s) (fun i H' => Same H H' ∧ H' D = some (.lst (nv ((s.take i).map fun c => (h.at_ c).weight)))) ⟨same_upd (Same.refl H) hD, upd_same⟩ (fun i H' _ ⟨s1, _⟩ => SqL.of (s1 _ _ L.here)) ?_ ?_
    · rintro i x H' hx ⟨s1, hD1⟩
      obtain ⟨c, hc, rfl⟩ := nv_got hx
      have I1 := I.same s1
      obtain ⟨y, u, dy, hat, hy, hu, _, _⟩ := I1.change_at (L.lt c (List.mem_of_getElem? hc))
      refine ⟨rfl, ?_⟩
      refine ⟨_, rfl, _, rfl, R.lt, _, _, _, rfl, rfl, SqL.of I1.told, hat, y, CC, dy, _, _, rfl, hy, T.cC, T.nWeight, cF_weight _ _, _, hD1, ?_, same_upd_new s1 hD, ?_⟩
      · rw [nv_length, List.length_map, List.length_take]
        exact small (m := 7) (by omega)
      · rw [upd_same, take_more hc, List.map_append, nv_append]
        rfl
    · rintro H1 ⟨s1, hD1⟩
      rw [nv_length, List.take_length, nv_ints] at hD1
      refine ⟨D, _, rfl, SqL.of hD1, ?_⟩
      rw [sum_is]
      exact kq _ s1
theorem HouseAt.leftAt {H : Hp} {R : Rep} {h : Rp07.House} (I : HouseAt CH CC H R h) : LeftAt H h R.ll h.left := ⟨I.left, Nat.le_trans (left_len h) I.good.few, fun _ hx => left_lt hx⟩
theorem scLeft : FnScope ["self", "weights"] ["self"] (defScope sLeft) := ⟨rfl, rfl, rfl, by decide +kernel, rfl, by decide +kernel, by decide +kernel⟩
theorem ok_left {f fW : Addr} {fd fdW : FuncData} (F : Fun K "left" "House.left" sLeft f fd) (T : Txt K mg CH CC)
    (GW : FnOk P w K mg base CX0 1 fW fdW ["changes", "left"] (spWeights CH CC)) (bW : Binds K fdW ["changes", "left"] []) (kW : PySem.W.keepIn K (.ref fW) = true) (gW : mg "weights_together" = some (.ref fW)) : FnOk P w K mg base CX0 2 f fd ["self"] (spLeft CH CC) := by
  refine F.ok scLeft (fun vs H Q E h => ?_) (fun cdv A outer s H vs Q E hr h => ?_)
  · obtain ⟨R, h, rfl, _⟩ := h
    rfl
  · obtain ⟨R, h, rfl, I, kq⟩ := h
    obtain ⟨dx, ha⟩ := I.hd
    have hl7 : h.left.length ≤ 7 := Nat.le_trans (left_len h) I.good.few
    refine ⟨_, pss_cons (ps_set (i := 1) scLeft.nd rfl (Or.inl rfl) (pe_call GW hr rfl gW kW bW .nil pass0 (pa_cons (pe_fld (pv 0) rfl) (pa_cons (pe_fld (pv 0) rfl) pa_nil))))
      (pss_one (ps_ret (pe_op op_cat (pe_op op_cat (pe_lst (pa_cons (pe_callB call_len_seq (by rfl) T.len PySem.boot_len (pa_cons (pe_fld (pv 0) rfl) pa_nil)) pa_nil)) (pe_fld (pv 0) rfl)) (pe_lst (pa_cons (pv 1) pa_nil))))), ?_⟩
    refine ⟨_, rfl, R.a, CH, dx, _, _, rfl, ha, T.cH, T.nTold, hF_told _ _ _, _, rfl, R.a, CH, dx, _, _, rfl, ha, T.cH, T.nLeft, hF_left _ _ _, R, h, R.ll, h.left, rfl, I, I.leftAt, fun H1 s1 => ?_⟩
    have I1 := I.same s1
    obtain ⟨dx1, ha1⟩ := I1.hd
    refine ⟨_, rfl, R.a, CH, dx1, _, _, rfl, ha1, T.cH, T.nLeft, hF_left _ _ _, R.ll, _, rfl, .inl (SqL.of I1.left), (by show 1 ≤ sizeLine; decide), fun q1 n1 => ?_⟩
    have s2 : Same H1 (upd H1 q1 (.lst [V.int ((nv h.left).length : Nat)])) := same_upd (Same.refl _) n1
    refine ⟨_, rfl, R.a, CH, dx1, _, _, rfl, s2 _ _ ha1, T.cH, T.nLeft, hF_left _ _ _, q1, R.ll, _, _, rfl, rfl, upd_same, s2 _ _ I1.left, ?_, fun q2 n2 => ?_⟩
    · rw [nv_length]
      exact Nat.le_of_lt (small (m := 8) (by show 1 + h.left.length ≤ 8; omega))
    · have s3 := same_upd (o := .lst ([V.int ((nv h.left).length : Nat)] ++ nv h.left)) s2 n2
      refine ⟨_, rfl, (by show 1 ≤ sizeLine; decide), fun q3 n3 => ?_⟩
      have n23 : q2 ≠ q3 := ne_of_none upd_same n3
      have s4 := same_upd (o := .lst [V.int ((h.weigh h.left : Nat) : Int)]) s3 n3
      refine ⟨q2, q3, _, _, rfl, rfl, (upd_ne n23).trans upd_same, upd_same, ?_, fun q4 n4 => ?_⟩
      · rw [List.length_append, nv_length]
        exact Nat.le_of_lt (small (m := 9) (by show 1 + h.left.length + 1 ≤ 9; omega))
      · have s5 := same_upd (o := .lst (([V.int ((nv h.left).length : Nat)] ++ nv h.left) ++ [V.int ((h.weigh h.left : Nat) : Int)])) s4 n4
        refine kq _ R q4 (I1.same s5) Grow.refl (Same.frame (s1.trans s5)) ((s1.trans s4).free n4) ?_
        rw [upd_same, nv_length]
        show _ = some (HO.lst (V.int (h.left.length : Nat) :: nv (h.left ++ [h.weigh h.left])))
        rw [nv_append]
        rfl
/-! ### House.refusal_of_change -/
theorem inRange_is (c w t : Nat) : inRange c w t = !decide (Rp07.COST < c ∨ c = 0 ∨ Rp07.COST < w ∨ 1 < t) := by
  unfold inRange Rp07.COST
  rw [Bool.eq_iff_iff]
  simp only [Bool.and_eq_true, decide_eq_true_eq, Bool.not_eq_true', decide_eq_false_iff_not]
  omega
theorem scRefusal : FnScope ["self", "cost", "weight", "tried", "parents", "parent"] ["self", "cost", "weight", "tried", "parents"] (defScope sRefusal) := ⟨rfl, rfl, rfl, by decide +kernel, rfl, by decide +kernel, by decide +kernel⟩
theorem dec_int (a b : Int) : decide (V.int a = V.int b) = decide (a = b) := by
  refine decide_eq_decide.mpr ⟨fun h => ?_, fun h => by rw [h]⟩
  cases h
  rfl
theorem ok_refusal {f fR fI : Addr} {fd fdR fdI : FuncData} (F : Fun K "refusal_of_change" "House.refusal_of_change" sRefusal f fd) (T : Txt K mg CH CC)
    (GR : FnOk P w K mg base CX0 1 fR fdR ["cost", "weight", "tried"] spRange) (bR : Binds K fdR ["cost", "weight", "tried"] []) (kR : PySem.W.keepIn K (.ref fR) = true) (gR : mg "numbers_in_range" = some (.ref fR))
    (GI : FnOk P w K mg base CX0 1 fI fdI ["self", "c"] (spIsTold CH CC)) (bI : Binds K fdI ["self", "c"] []) (mI : Meth K CH "is_told" fI) : FnOk P w K mg base CX0 2 f fd ["self", "cost", "weight", "tried", "parents"] (spRefusal CH CC) := by
  refine F.ok scRefusal (fun vs H Q E h => ?_) (fun cdv A outer s H vs Q E hr h => ?_)
  · obtain ⟨R, h, c, w, t, p, ps, rfl, _⟩ := h
    rfl
  · obtain ⟨R, h, c, w, t, p, ps, rfl, I, hp, hlen, kq⟩ := h
    obtain ⟨dx, ha⟩ := I.hd
    refine ⟨_, pss_cons (ps_if (pt_not (pt_val (pe_call GR hr rfl gR kR bR .nil pass0 (pa_cons (pv 1) (pa_cons (pv 2) (pa_cons (pv 3) pa_nil)))))) (pss_one (ps_ret (pe_gi rfl T.k1))) pss_nil)
      (pss_cons (ps_if (pt_cmpR op_eq (pe_callB call_len_seq (by rfl) T.len PySem.boot_len (pa_cons (pe_fld (pv 0) rfl) pa_nil)) (pe_gi rfl T.kMost) (nomark _)) (pss_one (ps_ret (pe_gi rfl T.k7))) pss_nil)
      (pss_cons (ps_if (pt_val (pe_fld (pv 0) rfl)) (pss_one (ps_ret (pe_gi rfl T.k3))) pss_nil)
      (pss_cons (ps_if (pt_not (pt_val (pe_callB (cr_all rfl) (by rfl) T.all (by decide +kernel) (pa_cons
        (pe_lc (own := [("parent", 5)]) (g := gName 5) (tt := tYes) (te := tMeth CH "is_told" (spIsTold CH CC) [] E0 (tVar 0) (tCons (tVar 5) tNil)) rfl scRefusal.nd (pi_list (pv 4))
        (blkOk_by (N := ["self", "cost", "weight", "tried", "parents", "parent"]) (sc := defScope sRefusal) (by decide +kernel)) (fun _ _ _ _ _ => pg_name (i := 5) scRefusal.nd rfl (Or.inl rfl)) (fun _ _ _ _ _ => pts_nil)
        (fun _ _ _ _ _ => pe_meth (pv 0) T.cH mI GI hr bI .nil pass0 (pa_cons (pv 5) pa_nil))) pa_nil)))) (pss_one (ps_ret (pe_gi rfl T.k2))) pss_nil)
      (pss_one (ps_ret pe_non))))), ?_⟩
    unfold refusal at kq
    refine ⟨_, rfl, _, rfl, _, rfl, (c : Int), (w : Int), (t : Int), rfl, _, rfl, ?_⟩
    refine iteP (by rw [inRange_is, Bool.not_not]) (fun e1 => ?_) (fun e1 => ?_)
    · have k1 := kq H (Same.refl H)
      rw [if_pos e1] at k1
      exact k1
    rw [if_neg e1] at kq
    refine ⟨_, rfl, R.a, CH, dx, _, _, rfl, ha, T.cH, T.nTold, hF_told _ _ _, R.lt, _, rfl, .inl (SqL.of I.told), rfl, _, rfl, ?_⟩
    have ed : decide (V.int ((R.as.map V.ref).length : Nat) = V.int 7) = decide (h.all.length = Rp07.CHANGES) := by
      rw [dec_int, List.length_map, I.alen]
      refine decide_eq_decide.mpr ?_
      show ((h.all.length : Nat) : Int) = 7 ↔ h.all.length = 7
      omega
    refine iteP ed (fun e2 => ?_) (fun e2 => ?_)
    · have k1 := kq H (Same.refl H)
      rw [if_pos e2] at k1
      exact k1
    rw [if_neg e2] at kq
    refine ⟨_, rfl, R.a, CH, dx, _, _, rfl, ha, T.cH, T.nAny, hF_any _ _ _, _, rfl, ?_⟩
    refine iteP rfl (fun e3 => ?_) (fun e3 => ?_)
    · have k1 := kq H (Same.refl H)
      rw [if_pos e3] at k1
      exact k1
    rw [if_neg e3] at kq
    refine ⟨_, rfl, p, rfl, ⟨_, SqL.of hp⟩, fun D hD => ?_⟩
    refine lc_list (K := K) (a := p) (xs := nv ps) (fun i H' => Same H H' ∧ H' D = some (.lst (((ps.take i).map fun x => decide (x < h.all.length)).map V.bl))) ⟨same_upd (Same.refl H) hD, upd_same⟩ (fun i H' _ ⟨s1, _⟩ => SqL.of (s1 _ _ hp)) ?_ ?_
    · rintro i x H' hx ⟨s1, hD1⟩
      obtain ⟨y, hy, rfl⟩ := nv_got hx
      have I1 := I.same s1
      obtain ⟨dx1, ha1⟩ := I1.hd
      refine ⟨rfl, ?_⟩
      refine ⟨_, rfl, R.a, dx1, _, rfl, ha1, hF_no _ _ _, _, rfl, R, h, y, rfl, I1, _, hD1, ?_, same_upd_new s1 hD, ?_⟩
      · rw [List.length_map, List.length_map, List.length_take]
        exact small (m := 10) (by omega)
      · rw [upd_same, take_more hy, List.map_append, List.map_append]
        rfl
    · rintro H1 ⟨s1, hD1⟩
      rw [nv_length, List.take_length] at hD1
      refine ⟨D, _, rfl, SqL.of hD1, _, rfl, ?_⟩
      have ea : (!ps.all fun x => decide (x < h.all.length)) = ps.any fun x => decide (h.all.length ≤ x) := by
        rw [List.not_all_eq_any_not]
        refine congrArg (fun g => ps.any g) (funext fun x => ?_)
        rw [Bool.eq_iff_iff]
        simp only [Bool.not_eq_true', decide_eq_false_iff_not, decide_eq_true_eq]
        omega
      have k1 := kq H1 s1
      refine iteP (c := (ps.any fun x => decide (h.all.length ≤ x)) = true) (by rw [all_bl, ea, Bool.decide_eq_true]) (fun e4 => ?_) (fun e4 => ?_)
      · rw [if_pos e4] at k1
        exact k1
      · rw [if_neg e4] at k1
        exact k1
end
end Fb
/-! The methods of the house that change it. -/
namespace Fb
open PySem PySem.Spec PyProof.Rows L2
open PySem.W (Codec)
section
variable {P : Program} {w : World} {K : PySem.W.Frag} {mg : Str → Option Value} {base : Heap} {CH CC : Addr}
/-! ### House.found -/
theorem refuse {H H1 : Hp} {R : Rep} {h : Rp07.House} {c : Rp07.Call} {Q : VK} {r : Int} (I : HouseAt CH CC H R h) (k : Call CH CC H R h c Q) (e : Rp07.step h c = (h, Rp07.ok r)) (s : Same H H1) {q : Addr} (n : H1 q = Option.none) : Q (.ref q) (upd H1 q (.lst [V.int r])) := by
  have s2 := same_upd (o := .lst [V.int r]) s n
  unfold Call at k
  rw [e] at k
  exact k _ R q (I.same s2) Grow.refl (Same.frame s2) (s.free n) upd_same
theorem step_found2 {h : Rp07.House} {m b : Nat} (e : ¬ m < h.all.length) : Rp07.step h (.found m b) = (h, Rp07.ok (-2)) := if_pos (Nat.le_of_not_lt e)
theorem step_found4 {h : Rp07.House} {m b : Nat} (e : m < h.all.length) (e4 : (h.at_ m).tried = false) : Rp07.step h (.found m b) = (h, Rp07.ok (-4)) := (if_neg (Nat.not_le_of_lt e)).trans (if_pos e4)
theorem step_found6 {h : Rp07.House} {m b : Nat} (e : m < h.all.length) (e4 : ¬ (h.at_ m).tried = false) (e6 : h.if_ h.left m (b != 0) = []) : Rp07.step h (.found m b) = (h, Rp07.ok (-6)) := (if_neg (Nat.not_le_of_lt e)).trans ((if_neg e4).trans (if_pos e6))
theorem step_found {h : Rp07.House} {m b : Nat} (e : m < h.all.length) (e4 : ¬ (h.at_ m).tried = false) (e6 : ¬ h.if_ h.left m (b != 0) = []) :
    Rp07.step h (.found m b) = ({ h with found := h.found ++ [(m, b != 0)] }, ⟨((h.if_ h.left m (b != 0)).length : Nat), h.if_ h.left m (b != 0)⟩) := by
  refine (if_neg (Nat.not_le_of_lt e)).trans ((if_neg e4).trans ((if_neg e6).trans ?_))
  rw [← left_found h m (b != 0)]
theorem scFound : FnScope ["self", "c", "bad", "left_then"] ["self", "c", "bad"] (defScope sFound) := ⟨rfl, rfl, rfl, by decide +kernel, rfl, by decide +kernel, by decide +kernel⟩
theorem ne_zero (b : Nat) : (!decide (V.int (b : Int) = V.int 0)) = (b != 0) := by
  rw [dec_int]
  cases b with
  | zero => rfl
  | succ b =>
    rw [decide_eq_false (by omega)]
    rfl
theorem ok_found {f fA fI : Addr} {fd fdA fdI : FuncData} (F : Fun K "found" "House.found" sFound f fd) (T : Txt K mg CH CC)
    (GA : FnOk P w K mg base CX0 1 fA fdA ["changes", "left", "c", "is_bad"] (spAfter CH CC)) (bA : Binds K fdA ["changes", "left", "c", "is_bad"] []) (kA : PySem.W.keepIn K (.ref fA) = true) (gA : mg "left_after" = some (.ref fA))
    (GI : FnOk P w K mg base CX0 1 fI fdI ["self", "c"] (spIsTold CH CC)) (bI : Binds K fdI ["self", "c"] []) (mI : Meth K CH "is_told" fI) : FnOk P w K mg base CX0 2 f fd ["self", "c", "bad"] (spFound CH CC) := by
  refine F.ok scFound (fun vs H Q E h => ?_) (fun cdv A outer s H vs Q E hr h => ?_)
  · obtain ⟨R, h, m, b, rfl, _⟩ := h
    rfl
  · obtain ⟨R, h, m, b, rfl, I, kq⟩ := h
    obtain ⟨dx, ha⟩ := I.hd
    refine ⟨_, pss_cons (ps_if (pt_not (pt_val (pe_meth (pv 0) T.cH mI GI hr bI .nil pass0 (pa_cons (pv 1) pa_nil)))) (pss_one (ps_ret (pe_lst (pa_cons (pe_gi rfl T.k2) pa_nil)))) pss_nil)
      (pss_cons (ps_if (pt_not (pt_val (pe_fld (pe_ix ix_list (pe_fld (pv 0) rfl) (pv 1) (fun _ _ => rfl)) rfl))) (pss_one (ps_ret (pe_lst (pa_cons (pe_gi rfl T.k4) pa_nil)))) pss_nil)
      (pss_cons (ps_set (i := 3) scFound.nd rfl (Or.inl rfl) (pe_call GA hr rfl gA kA bA .nil pass0 (pa_cons (pe_fld (pv 0) rfl) (pa_cons (pe_fld (pv 0) rfl) (pa_cons (pv 1) (pa_cons (pe_cmpR op_ne (pv 2) pe_int (nomark _)) pa_nil))))))
      (pss_cons (ps_if (pt_cmpR op_eq (pe_callB call_len_seq (by rfl) T.len PySem.boot_len (pa_cons (pv 3) pa_nil)) pe_int (nomark _)) (pss_one (ps_ret (pe_lst (pa_cons (pe_gi rfl T.k6) pa_nil)))) pss_nil)
      (pss_cons (ps_fld (pv 0) (pv 3) rfl)
      (pss_cons (ps_fld (pv 0) pe_bl rfl)
      (pss_one (ps_ret (pe_op op_cat (pe_lst (pa_cons (pe_callB call_len_seq (by rfl) T.len PySem.boot_len (pa_cons (pv 3) pa_nil)) pa_nil)) (pv 3))))))))), ?_⟩
    refine ⟨_, rfl, R.a, dx, _, rfl, ha, hF_no _ _ _, _, rfl, R, h, m, rfl, I, _, rfl, ?_⟩
    refine iteP (c := ¬ m < h.all.length) (by rw [decide_not]) (fun e1 => ?_) (fun e1 => ?_)
    · exact ⟨(by show 1 ≤ sizeLine; decide), fun q n => refuse I kq (step_found2 e1) (Same.refl H) n⟩
    have hm : m < h.all.length := Classical.not_not.mp e1
    obtain ⟨y, u, dy, hat, hy, hu, _, _⟩ := I.change_at hm
    refine ⟨_, rfl, R.a, CH, dx, _, _, rfl, ha, T.cH, T.nTold, hF_told _ _ _, _, rfl, R.lt, _, _, _, rfl, rfl, SqL.of I.told, hat, y, CC, dy, _, _, rfl, hy, T.cC, T.nTried, cF_tried _ _, _, rfl, ?_⟩
    refine iteP (c := (h.at_ m).tried = false) (by cases (h.at_ m).tried <;> rfl) (fun e4 => ?_) (fun e4 => ?_)
    · exact ⟨(by show 1 ≤ sizeLine; decide), fun q n => refuse I kq (step_found4 hm e4) (Same.refl H) n⟩
    refine ⟨_, rfl, R.a, CH, dx, _, _, rfl, ha, T.cH, T.nTold, hF_told _ _ _, _, rfl, R.a, CH, dx, _, _, rfl, ha, T.cH, T.nLeft, hF_left _ _ _, _, rfl, _, rfl, rfl, R, h, R.ll, h.left, m, b != 0, (by rw [ne_zero]; rfl), I, I.leftAt, hm, fun H1 q1 s1 n1 hq1 => ?_⟩
    refine ⟨_, rfl, q1, _, rfl, .inl (SqL.of hq1), rfl, _, rfl, ?_⟩
    refine iteP (c := h.if_ h.left m (b != 0) = []) (by
      rw [dec_int, nv_length]
      refine decide_eq_decide.mpr ⟨fun z => List.length_eq_zero_iff.mp (by omega), fun z => by rw [z]; rfl⟩) (fun e6 => ?_) (fun e6 => ?_)
    · exact ⟨(by show 1 ≤ sizeLine; decide), fun q n => refuse I kq (step_found6 hm e4 e6) s1 n⟩
    have I1 := I.same s1
    have ha1 := s1 _ _ ha
    refine ⟨_, rfl, _, rfl, R.a, CH, dx, _, rfl, ha1, T.cH, T.nLeft, (by show 3 < 1000; decide), ?_⟩
    refine ⟨_, rfl, R.a, CH, dx, _, rfl, upd_same, T.cH, T.nAny, (by rw [hF_put_left]; show 3 < 1000; decide), ?_⟩
    rw [upd_upd, hF_put_left, hF_put_any]
    have nqa : q1 ≠ R.a := fun z => (by rw [z, ha] at n1; cases n1)
    refine ⟨_, rfl, q1, _, rfl, .inl (SqL.of ((upd_ne nqa).trans hq1)), (by show 1 ≤ sizeLine; decide), fun q2 n2 => ?_⟩
    have n2a : q2 ≠ R.a := fun z => (by rw [z, upd_same] at n2; cases n2)
    have n21 : q1 ≠ q2 := ne_of_none (show _ = some _ from (upd_ne nqa).trans hq1) n2
    have hl7 : (h.if_ h.left m (b != 0)).length ≤ 7 := Nat.le_trans (List.length_filter_le _ _) (Nat.le_trans (left_len h) I.good.few)
    refine ⟨_, rfl, q2, q1, _, _, rfl, rfl, upd_same, (upd_ne n21).trans ((upd_ne nqa).trans hq1), ?_, fun q3 n3 => ?_⟩
    · rw [nv_length]
      exact Nat.le_of_lt (small (m := 8) (by show 1 + _ ≤ 8; omega))
    have n3a : q3 ≠ R.a := fun z => (by rw [z, upd_ne n2a.symm, upd_same] at n3; cases n3)
    have n32 : q3 ≠ q2 := fun z => (by rw [z, upd_same] at n3; cases n3)
    have n31 : q1 ≠ q3 := ne_of_none (show _ = some _ from (upd_ne n21).trans ((upd_ne nqa).trans hq1)) n3
    have n3H : H1 q3 = Option.none := by
      rw [upd_ne n32, upd_ne n3a] at n3
      exact n3
    have n2H : H1 q2 = Option.none := by
      rw [upd_ne n2a] at n2
      exact n2
    unfold Call at kq
    rw [step_found hm e4 e6] at kq
    have keep : ∀ z o, H1 z = some o → z ≠ R.a → upd (upd (upd H1 R.a (.ins CH dx (hF R.lt q1 true))) q2 (.lst [V.int ((nv (h.if_ h.left m (b != 0))).length : Nat)])) q3 (.lst ([V.int ((nv (h.if_ h.left m (b != 0))).length : Nat)] ++ nv (h.if_ h.left m (b != 0)))) z = some o := by
      intro z o e nb
      rw [upd_ne (ne_of_none e n3H), upd_ne (ne_of_none e n2H), upd_ne nb]
      exact e
    have nta : R.lt ≠ R.a := ne_of I.told ha (by intro z; cases z)
    have nla : R.ll ≠ R.a := ne_of I.left ha (by intro z; cases z)
    refine kq _ { R with ll := q1 } q3 ⟨⟨dx, ?_⟩, keep _ _ I1.told nta, ?_, ?_, I.alen, I.ulen, fun j c hc => ?_, fun z hz => ⟨(I.apart z hz).1, ?_⟩, good_found I.good _⟩ ⟨rfl, fun z hz => ?_⟩ (fun z o e nz => keep _ _ (s1 _ _ e) fun q => nz (.inl q)) (s1.free n3H) ?_
    · rw [upd_ne n3a.symm, upd_ne n2a.symm, upd_same]
      have ed : decide (h.found ++ [(m, b != 0)] ≠ []) = true := decide_eq_true (by simp)
      show _ = some (HO.ins CH dx (hF R.lt q1 (decide (h.found ++ [(m, b != 0)] ≠ []))))
      rw [ed]
    · rw [left_found]
      exact keep _ _ hq1 nqa
    · exact fun z => (by rw [← (show R.lt = q1 from z), I.told] at n1; cases n1)
    · obtain ⟨x, u, dy, hx, hu, ex, eu⟩ := I1.chg j c hc
      exact ⟨x, u, dy, hx, hu, keep _ _ ex (ne_of ex ha1 (by intro z; cases z)), keep _ _ eu (ne_of eu ha1 (by intro z; cases z))⟩
    · rintro rfl
      obtain ⟨o, e⟩ := I.some_of (.inr (.inr (.inr (.inr hz))))
      have n1' : H z = Option.none := n1
      rw [n1'] at e
      cases e
    · rcases hz with hz | hz | hz | hz | hz
      · exact .inl (.inl hz)
      · exact .inl (.inr (.inl hz))
      · exact .inr (by rw [hz]; exact n1)
      · exact .inl (.inr (.inr (.inr (.inl hz))))
      · exact .inl (.inr (.inr (.inr (.inr hz))))
    · rw [upd_same, nv_length]
      rfl
/-! ### House.change -/
theorem refV_none (o : Option Int) : decide (refV o = V.non) = o.isNone := by cases o <;> rfl
theorem eq_one (t : Nat) : decide (V.int (t : Int) = V.int 1) = (t == 1) := by
  rw [dec_int, Bool.eq_iff_iff, decide_eq_true_eq, beq_iff_eq]
  omega
theorem house_grown {H : Hp} {R : Rep} {h : Rp07.House} {c w t : Nat} {ps : List Nat} {x dy u q : Addr} (I : HouseAt CH CC H R h) (er : refusal h c w t ps = Option.none) (hu : H u = some (.lst (nv (through h ps ++ [h.all.length])))) (nx : H x = Option.none) (ny : H dy = Option.none) (nxy : dy ≠ x) (nq : H q = Option.none) (nxq : x ≠ q)
    (ut : u ≠ R.lt) (ul : u ≠ R.ll) {a : HO} : HouseAt CH CC (upd (upd (upd (upd (upd H dy (.own x)) x (.ins CC dy (cF ⟨through h ps ++ [h.all.length], c, w, t == 1⟩ u))) R.lt (.lst (R.as.map V.ref ++ [V.ref x]))) R.ll (.lst (nv h.left ++ [V.int (h.all.length : Nat)]))) q a)
      { R with as := R.as ++ [x], us := R.us ++ [u] } (grown h c w t ps) := by
  obtain ⟨es, _, _, _, h7, hf, hlt⟩ := step_change_yes er
  obtain ⟨dx, ha⟩ := I.hd
  have nxt : R.lt ≠ x := ne_of_none I.told nx
  have nxl : R.ll ≠ x := ne_of_none I.left nx
  have nql : R.ll ≠ q := ne_of_none I.left nq
  have nqt : R.lt ≠ q := ne_of_none I.told nq
  have keep : ∀ z o, H z = some o → z ≠ R.lt → z ≠ R.ll → upd (upd (upd (upd (upd H dy (.own x)) x (.ins CC dy (cF ⟨through h ps ++ [h.all.length], c, w, t == 1⟩ u))) R.lt (.lst (R.as.map V.ref ++ [V.ref x]))) R.ll (.lst (nv h.left ++ [V.int (h.all.length : Nat)]))) q a z = some o := by
    intro z o e zt zl
    rw [upd_ne (ne_of_none e nq), upd_ne zl, upd_ne zt, upd_ne (ne_of_none e nx), upd_ne (ne_of_none e ny)]
    exact e
  refine ⟨⟨dx, keep _ _ ha (ne_of ha I.told (by intro z; cases z)) (ne_of ha I.left (by intro z; cases z))⟩, ?_, ?_, I.ne, ?_, ?_, fun j e hj => ?_, fun z hz => ?_, good_grown I.good er⟩
  · show _ = some (HO.lst ((R.as ++ [x]).map V.ref))
    rw [upd_ne nqt, upd_ne I.ne, upd_same, List.map_append]
    rfl
  · show _ = some (HO.lst (nv (grown h c w t ps).left))
    rw [upd_ne nql, upd_same, left_grown hf, nv_append]
    rfl
  · show (R.as ++ [x]).length = (h.all ++ [_]).length
    rw [List.length_append, List.length_append, I.alen]
    rfl
  · show (R.us ++ [u]).length = (h.all ++ [_]).length
    rw [List.length_append, List.length_append, I.ulen]
    rfl
  · have hj' : (h.all ++ [⟨through h ps ++ [h.all.length], c, w, t == 1⟩])[j]? = some e := hj
    by_cases hjl : j < h.all.length
    · rw [List.getElem?_append_left hjl] at hj'
      obtain ⟨y, v, dz, hy, hv, ey, ev⟩ := I.chg j e hj'
      have hv2 := I.apart v (List.mem_of_getElem? hv)
      refine ⟨y, v, dz, ?_, ?_, keep _ _ ey (ne_of ey I.told (by intro z; cases z)) (ne_of ey I.left (by intro z; cases z)), keep _ _ ev hv2.1 hv2.2⟩
      · show (R.as ++ [x])[j]? = some y
        rw [List.getElem?_append_left (by rw [I.alen]; exact hjl)]
        exact hy
      · show (R.us ++ [u])[j]? = some v
        rw [List.getElem?_append_left (by rw [I.ulen]; exact hjl)]
        exact hv
    · rw [List.getElem?_append_right (Nat.le_of_not_lt hjl)] at hj'
      have hj0 : j - h.all.length = 0 := by
        have := lt_of_get hj'
        rw [List.length_singleton] at this
        omega
      rw [hj0] at hj'
      have ee : ⟨through h ps ++ [h.all.length], c, w, t == 1⟩ = e := Option.some.inj hj'
      subst ee
      refine ⟨x, u, dy, ?_, ?_, ?_, keep _ _ hu ut ul⟩
      · show (R.as ++ [x])[j]? = some x
        rw [List.getElem?_append_right (by rw [I.alen]; exact Nat.le_of_not_lt hjl), I.alen, hj0]
        rfl
      · show (R.us ++ [u])[j]? = some u
        rw [List.getElem?_append_right (by rw [I.ulen]; exact Nat.le_of_not_lt hjl), I.ulen, hj0]
        rfl
      · rw [upd_ne nxq, upd_ne nxl.symm, upd_ne nxt.symm, upd_same]
  · rcases List.mem_append.mp hz with hz | hz
    · exact I.apart z hz
    · rw [List.mem_singleton.mp hz]
      exact ⟨ut, ul⟩
theorem scChange : FnScope ["self", "cost", "weight", "tried", "parents", "refusal", "number", "made_upon"] ["self", "cost", "weight", "tried", "parents"] (defScope sChange) := ⟨rfl, rfl, rfl, by decide +kernel, rfl, by decide +kernel, by decide +kernel⟩
theorem ok_change {f fR fT fC : Addr} {fd fdR fdT fdC : FuncData} (F : Fun K "change" "House.change" sChange f fd) (T : Txt K mg CH CC)
    (GR : FnOk P w K mg base CX0 2 fR fdR ["self", "cost", "weight", "tried", "parents"] (spRefusal CH CC)) (bR : Binds K fdR ["self", "cost", "weight", "tried", "parents"] []) (mR : Meth K CH "refusal_of_change" fR)
    (GT : FnOk P w K mg base CX0 2 fT fdT ["self", "parents"] (spThrough CH CC)) (bT : Binds K fdT ["self", "parents"] []) (mT : Meth K CH "upon_through" fT)
    (M : Mk K CC fC) (GC : FnOk P w K mg base CX0 1 fC fdC ["self", "cost", "weight", "can_be_tried", "made_upon"] (spCInit CC)) (bC : Binds K fdC ["self", "cost", "weight", "can_be_tried", "made_upon"] []) : FnOk P w K mg base CX0 3 f fd ["self", "cost", "weight", "tried", "parents"] (spChange CH CC) := by
  refine F.ok scChange (fun vs H Q E h => ?_) (fun cdv A outer s H vs Q E hr h => ?_)
  · obtain ⟨R, h, c, w, t, p, ps, rfl, _⟩ := h
    rfl
  · obtain ⟨R, h, c, w, t, p, ps, rfl, I, hp, _, hlen, kq⟩ := h
    obtain ⟨dx, ha⟩ := I.hd
    refine ⟨_, pss_cons (ps_set (i := 5) scChange.nd rfl (Or.inl rfl) (pe_meth (pv 0) T.cH mR GR hr bR .nil pass0 (pa_cons (pv 1) (pa_cons (pv 2) (pa_cons (pv 3) (pa_cons (pv 4) pa_nil))))))
      (pss_cons (ps_if (pt_cmpR op_notN (pv 5) pe_non (nomark _)) (pss_one (ps_ret (pe_lst (pa_cons (pv 5) pa_nil)))) pss_nil)
      (pss_cons (ps_set (i := 6) scChange.nd rfl (Or.inl rfl) (pe_callB call_len_seq (by rfl) T.len PySem.boot_len (pa_cons (pe_fld (pv 0) rfl) pa_nil)))
      (pss_cons (ps_set (i := 7) scChange.nd rfl (Or.inl rfl) (pe_op op_cat (pe_meth (pv 0) T.cH mT GT hr bT .nil pass0 (pa_cons (pv 4) pa_nil)) (pe_lst (pa_cons (pv 6) pa_nil))))
      (pss_cons (ps_expr (pe_bm PySem.F.plainAttrs_list PySem.F.slot_list_append PySem.F.type_list_append mt_append (pe_fld (pv 0) rfl) (pa_cons (pe_make M GC hr rfl T.gC bC .nil pass0 (pa_cons (pv 1) (pa_cons (pv 2) (pa_cons (pe_cmpR op_eq (pv 3) pe_int (nomark _)) (pa_cons (pv 7) pa_nil))))) pa_nil)))
      (pss_cons (ps_expr (pe_bm PySem.F.plainAttrs_list PySem.F.slot_list_append PySem.F.type_list_append mt_append (pe_fld (pv 0) rfl) (pa_cons (pv 6) pa_nil)))
      (pss_one (ps_ret (pe_lst (pa_cons (pv 6) pa_nil))))))))), ?_⟩
    -- refusal
    refine ⟨_, rfl, R.a, dx, _, rfl, ha, hF_no _ _ _, _, rfl, _, rfl, _, rfl, _, rfl, R, h, c, w, t, p, ps, rfl, I, hp, hlen, fun H1 s1 => ?_⟩
    refine ⟨_, rfl, rfl, _, rfl, ?_⟩
    refine iteP (c := ¬ refusal h c w t ps = Option.none) (by rw [refV_none]; cases refusal h c w t ps <;> rfl) (fun e1 => ?_) (fun e1 => ?_)
    · cases er : refusal h c w t ps with
      | none => exact absurd er e1
      | some r => exact ⟨_, rfl, (by show 1 ≤ sizeLine; decide), fun q n => refuse I kq (step_change_no er) s1 n⟩
    have er : refusal h c w t ps = Option.none := Classical.not_not.mp e1
    obtain ⟨es, _, _, _, h7, hf, hlt⟩ := step_change_yes er
    have I1 := I.same s1
    have ha1 := s1 _ _ ha
    have el : (R.as.map V.ref).length = h.all.length := by rw [List.length_map, I.alen]
    have few : h.all.length ≤ 6 := by have := I.good.few; omega
    -- number
    refine ⟨_, rfl, R.a, CH, dx, _, _, rfl, ha1, T.cH, T.nTold, hF_told _ _ _, R.lt, _, rfl, .inl (SqL.of I1.told), ?_⟩
    rw [el]
    -- made_upon
    refine ⟨_, rfl, R.a, dx, _, rfl, ha1, hF_no _ _ _, _, rfl, R, h, p, ps, rfl, I1, s1 _ _ hp, hlen, hlt, fun H2 q2 s2 n2 hq2 => ?_⟩
    refine ⟨_, rfl, (by show 1 ≤ sizeLine; decide), fun q3 n3 => ?_⟩
    have n23 : q2 ≠ q3 := ne_of_none hq2 n3
    have s3 := same_upd (o := .lst [V.int (h.all.length : Nat)]) s2 n3
    refine ⟨q2, q3, _, _, rfl, rfl, (upd_ne n23).trans hq2, upd_same, ?_, fun u nu => ?_⟩
    · rw [nv_length]
      have := through_len h ps
      exact Nat.le_of_lt (small (m := 8) (by show _ + 1 ≤ 8; omega))
    have eu : nv (through h ps) ++ [V.int (h.all.length : Nat)] = nv (through h ps ++ [h.all.length]) := by rw [nv_append]; rfl
    rw [eu]
    have s4 := same_upd (o := .lst (nv (through h ps ++ [h.all.length]))) s3 nu
    generalize eH4 : upd (upd H2 q3 (.lst [V.int (h.all.length : Nat)])) u (.lst (nv (through h ps ++ [h.all.length]))) = H4 at s4 ⊢
    have hu4 : H4 u = some (.lst (nv (through h ps ++ [h.all.length]))) := by rw [← eH4, upd_same]
    have s14 : Same H H4 := s1.trans s4
    have I4 := I.same s14
    have ha4 := s14 _ _ ha
    have nuH : H u = Option.none := (s1.trans s3).free nu
    -- told.append(Change(..))
    refine ⟨_, rfl, R.a, CH, dx, _, _, rfl, ha4, T.cH, T.nTold, hF_told _ _ _, .inl ⟨rfl, _, SqL.of I4.told⟩, ?_⟩
    refine ⟨_, rfl, _, rfl, _, rfl, rfl, _, rfl, fun x dy nx ny nxy => ?_⟩
    have nxu : u ≠ x := ne_of_none hu4 nx
    have nyu : u ≠ dy := ne_of_none hu4 ny
    have nxa : R.a ≠ x := ne_of_none ha4 nx
    have nya : R.a ≠ dy := ne_of_none ha4 ny
    have nxt : R.lt ≠ x := ne_of_none I4.told nx
    have nyt : R.lt ≠ dy := ne_of_none I4.told ny
    have nxl : R.ll ≠ x := ne_of_none I4.left nx
    have nyl : R.ll ≠ dy := ne_of_none I4.left ny
    have nta : R.a ≠ R.lt := ne_of ha I.told (by intro z; cases z)
    have nla : R.a ≠ R.ll := ne_of ha I.left (by intro z; cases z)
    refine ⟨x, dy, u, c, w, t == 1, through h ps ++ [h.all.length], (by rw [eq_one]; rfl), upd_same, rfl, ?_⟩
    rw [upd_upd]
    have hlt5 : upd (upd H4 dy (.own x)) x (.ins CC dy (cF ⟨through h ps ++ [h.all.length], c, w, t == 1⟩ u)) R.lt = some (.lst (R.as.map V.ref)) := by
      rw [upd_ne nxt, upd_ne nyt]
      exact I4.told
    refine ⟨R.lt, _, _, rfl, rfl, hlt5, ?_, ?_⟩
    · rw [el]
      exact small (m := 7) (by omega)
    -- still_left.append(number)
    have ha6 : upd (upd (upd H4 dy (.own x)) x (.ins CC dy (cF ⟨through h ps ++ [h.all.length], c, w, t == 1⟩ u))) R.lt (.lst (R.as.map V.ref ++ [V.ref x])) R.a = some (.ins CH dx (hF R.lt R.ll (decide (h.found ≠ [])))) := by
      rw [upd_ne nta, upd_ne nxa, upd_ne nya]
      exact ha4
    have hl6 : upd (upd (upd H4 dy (.own x)) x (.ins CC dy (cF ⟨through h ps ++ [h.all.length], c, w, t == 1⟩ u))) R.lt (.lst (R.as.map V.ref ++ [V.ref x])) R.ll = some (.lst (nv h.left)) := by
      rw [upd_ne I.ne.symm, upd_ne nxl, upd_ne nyl]
      exact I4.left
    refine ⟨_, rfl, R.a, CH, dx, _, _, rfl, ha6, T.cH, T.nLeft, hF_left _ _ _, .inl ⟨rfl, _, SqL.of hl6⟩, _, rfl, R.ll, _, _, rfl, rfl, hl6, ?_, ?_⟩
    · rw [nv_length]
      exact small (m := 7) (Nat.le_trans (left_len h) (by omega))
    refine ⟨_, rfl, (by show 1 ≤ sizeLine; decide), fun q n => ?_⟩
    have nql : R.ll ≠ q := ne_of_none upd_same n
    have nqt : R.lt ≠ q := ne_of_none (show _ = some _ from (upd_ne I.ne).trans upd_same) n
    have nqx : x ≠ q := ne_of_none (show _ = some _ from (upd_ne nxl.symm).trans ((upd_ne nxt.symm).trans upd_same)) n
    have nqy : dy ≠ q := ne_of_none (show _ = some _ from (upd_ne nyl.symm).trans ((upd_ne nyt.symm).trans ((upd_ne nxy).trans upd_same))) n
    have n4 : H4 q = Option.none := by
      rw [upd_ne nql.symm, upd_ne nqt.symm, upd_ne nqx.symm, upd_ne nqy.symm] at n
      exact n
    unfold Call at kq
    rw [es] at kq
    refine kq _ { R with as := R.as ++ [x], us := R.us ++ [u] } q (house_grown I4 er hu4 nx ny nxy n4 nqx ?_ ?_) ⟨rfl, fun z hz => ?_⟩ (fun z o e nz => ?_) (s14.free n4) upd_same
    · exact fun z => (by rw [z, I.told] at nuH; cases nuH)
    · exact fun z => (by rw [z, I.left] at nuH; cases nuH)
    · rcases hz with hz | hz | hz | hz | hz
      · exact .inl (.inl hz)
      · exact .inl (.inr (.inl hz))
      · exact .inl (.inr (.inr (.inl hz)))
      · rcases List.mem_append.mp hz with hz | hz
        · exact .inl (.inr (.inr (.inr (.inl hz))))
        · exact .inr (by rw [List.mem_singleton.mp hz]; exact s14.free nx)
      · rcases List.mem_append.mp hz with hz | hz
        · exact .inl (.inr (.inr (.inr (.inr hz))))
        · exact .inr (by rw [List.mem_singleton.mp hz]; exact nuH)
    · have e4 := s14 _ _ e
      rw [upd_ne (ne_of_none e4 n4), upd_ne (fun y => nz (.inr (.inr (.inl y)))), upd_ne (fun y => nz (.inr (.inl y))), upd_ne (ne_of_none e4 nx), upd_ne (ne_of_none e4 ny)]
      exact e4
end
end Fb
/-! min(xs, key=lambda x: ..), max(xs, key=lambda x: ..): a rule of the hand layer. -/
namespace Fb
open PySem PySem.Spec PyProof.Rows L2
open LamX (Tabs TabS TabB ExtN CodeO)
open NdefX (NF NScope CellsAt Caps cells_of startF slotAt envF ncx inv_startN)
/-- a list walked, told by what stands for its items -/
theorem walks_vals {prog : Program} {w : World} {A : Around} (hh : A.handled = none) (it a : Addr) (hne : a ≠ it) (xs : List V) :
    WalksS prog w A it [it, a] [it] (fun g g' => g' = g) xs.length (fun i v => ∃ x, xs[i]? = some x ∧ RelV x v)
      (fun i s => s.heap.IsListIter it a i ∧ ∃ its : List Value, Vals xs its ∧ s.heap.IsList a its.toArray) where
  sub := fun b hb => by
    rw [List.mem_singleton.mp hb]
    exact List.mem_cons_self
  grefl := fun _ => rfl
  gtrans := fun _ _ _ h1 h2 => h2.trans h1
  frame := fun i s h' tk st _ hk => by
    obtain ⟨h1, its, r, l⟩ := st
    exact ⟨h1.at fun o e => hk it (by simp) o e, its, r, l.at fun o e => hk a (by simp) o e⟩
  item := fun i s Q E hi st hQ => by
    obtain ⟨h1, its, r, l⟩ := st
    have W := (Walks.list (prog := prog) (w := w) (A := A) hh it a hne its.toArray).toS
    have hsz : its.toArray.size = xs.length := by
      rw [List.size_toArray]
      exact r.length.symm
    refine W.item i s Q E (by omega) ⟨h1, l⟩ fun v s' hP st' hm => hQ v s' ?_ ⟨st'.1, its, r, st'.2⟩ hm
    have hx : xs[i]? = some xs[i] := List.getElem?_eq_getElem hi
    obtain ⟨u, hu, ru⟩ := r.get hx
    have hP' : its[i]? = some v := by simpa using hP
    have e : u = v := Option.some.inj (hu.symm.trans hP')
    rw [← e]
    exact ⟨_, hx, ru⟩
  done := fun s Q E st hQ => by
    obtain ⟨h1, its, r, l⟩ := st
    have W := (Walks.list (prog := prog) (w := w) (A := A) hh it a hne its.toArray).toS
    have hsz : its.toArray.size = xs.length := by
      rw [List.size_toArray]
      exact r.length.symm
    exact W.done s Q E ⟨by rw [hsz]; exact h1, l⟩ hQ
  self := fun i s Q E st hQ => by
    obtain ⟨h1, its, r, l⟩ := st
    have W := (Walks.list (prog := prog) (w := w) (A := A) hh it a hne its.toArray).toS
    exact W.self i s Q E ⟨h1, l⟩ hQ
section
variable {X : Cx} {pins : List (Addr × Obj)} {σ : L2.St}
/-- an address that nothing of the running frame holds -/
structure Fresh (X : Cx) (pins : List (Addr × Obj)) (b : Addr) : Prop where
  ge : X.s_0.heap.objs.size ≤ b
  loc : b ≠ X.env.locals
  cel : ∀ x c, X.env.cells.lookup x = some c → c ≠ b
  pin : ∀ p ∈ X.pn ++ pins, p.1 ≠ b
  stk : b ∉ frs X.stack
theorem fresh_of {H : Hp} {s : Shared} {b : Addr} (J : Inv X pins σ H s) (hb : s.heap.objs.size ≤ b) : Fresh X pins b := by
  have old : ∀ {d : Addr} {o : Obj}, s.heap.get? d = some o → d ≠ b := fun {d o} e z => by
    rw [z] at e
    exact Nat.lt_irrefl _ (Nat.lt_of_lt_of_le (Heap.lt_size e) hb)
  have l0 : b ≠ X.env.locals := fun z => Nat.lt_irrefl _ (Nat.lt_of_lt_of_le J.lt (by rw [← z]; exact hb))
  refine ⟨Nat.le_trans J.sz hb, l0, fun x c e => ?_, fun p hp => old (J.pin p hp).1, fun z => ?_⟩
  · obtain ⟨v, o, ho, _⟩ := J.cell x c e
    exact old ho
  · rcases List.mem_cons.mp (J.stkSub b z) with e | e
    · exact l0 e
    · exact J.nofs hb e
/-- what is known while min (max) walks: it, its iterator; S, its own list; f, the key -/
def KJ (X : Cx) (pins : List (Addr × Obj)) (σ : L2.St) (H1 : Hp) (f it S : Addr) (fo : Obj) (s : Shared) : Prop :=
  ∃ H, Inv X pins σ H s ∧ Same H1 H ∧ s.heap.get? f = some fo ∧ H f = none ∧ H it = none ∧ H S = none
theorem kj_keep {H1 : Hp} {f it S : Addr} {fo : Obj} {s s' : Shared} (nI : Fresh X pins it) (nS : Fresh X pins S) (hfI : f ≠ it) (hfS : f ≠ S) (j : KJ X pins σ H1 f it S fo s) (mv : Moved (S :: [it]) (fun g g' => g' = g) s s') : KJ X pins σ H1 f it S fo s' := by
  obtain ⟨H, J, sm, hf, nf, hI, hS⟩ := j
  have off : ∀ d o, H d = some o → d ∉ S :: [it] := fun d o e z => by
    rcases List.mem_cons.mp z with z | z
    · rw [z, hS] at e
      cases e
    · rw [List.mem_singleton.mp z, hI] at e
      cases e
  refine ⟨H, J.call' (ch := S :: [it]) mv.os ⟨fun b o e _ _ hx => mv.heap b o hx e, fun b o e _ _ hx => ⟨o.slots, mv.heap b o hx e⟩, fun _ _ _ n _ => n, fun b o e hx => ⟨o, mv.heap b o hx e⟩, fun _ _ q => q, fun _ _ _ q => q, fun _ ps q => ⟨#[], by rw [q]; simp⟩⟩
    (fun b u e => (J.hok b u e).stay (fun d v hd q => mv.heap d v ?_ q) (fun _ q => q) fun _ _ q => q) (by rw [show s'.gens = s.gens from mv.gens]; exact J.bare) (fun b hb => ?_), sm, mv.heap f fo (fun z => ?_) hf, nf, hI, hS⟩
  · rcases hd with z | z
    · rw [z]
      exact off b u e
    · exact off d _ z
  · rcases List.mem_cons.mp hb with z | z
    · rw [z]
      exact ⟨.inr nS.ge, nS.loc, nS.cel, nS.pin⟩
    · rw [List.mem_singleton.mp z]
      exact ⟨.inr nI.ge, nI.loc, nI.cel, nI.pin⟩
  · rcases List.mem_cons.mp z with z | z
    · exact hfS z
    · exact hfI (List.mem_singleton.mp z)
/-- the words of the lambda, its cells, its code object -/
abbrev lamF (X : Cx) (params : Arguments) (scope : Scope) (c' : Addr) : NF := ⟨"<lambda>", X.env.qual ++ "<lambda>", params, [], scope, cloFrom X.env.cells scope.names [], c'⟩
/-- the lambda of one parameter is called within the walk -/
theorem lam_turn {N fr : List Str} {y : Str} {js : List Nat} {k : Nat} {params : Arguments} {body : Expr} {scope : Scope} {tb : TE} {H : Hp} {s : Shared} {f c' : Addr} {pm ctv : Value} {x : V} {v : Value} {Q : VK} (NS : NScope N [y] fr scope) (cp : X.Ok → Caps X (cloFrom X.env.cells scope.names []) fr js)
    (hbind : ∀ (q : Str) (cl : List (Str × Addr)) (pm cv ctv : Value) (u : Value), bindArgs (PySem.W.kla_fn "<lambda>" q params body scope cl pm cv ctv) ⟨[u], []⟩ = pure [(y, u)])
    (hr : Room (k + 1) X.A.in1) (J : Inv X pins σ H s) (hf : s.heap.get? f = some (PySem.W.kla_obj "<lambda>" (X.env.qual ++ "<lambda>") params body scope (cloFrom X.env.cells scope.names []) pm c' ctv)) (hc : H c' = some (CodeO c' (X.env.qual ++ "<lambda>")))
    (hbody : ∀ (A : Around) (outer : List Env) (s : Shared) (H : Hp), Room k (A.deeper (envF (lamF X params scope c') f s.heap.objs.size)) → PE (ncx CX0 X.prog X.w X.K X.mg X.base N (lamF X params scope c') f A outer s H E0) body tb)
    (rx : RelV x v) (h : tb (startF N [x] (js.map (slotAt σ))) H Q) :
    codeAny (model X.prog X.w) X.A.in1 (.call (.ref f) ⟨[v], []⟩) (CR CX0 X.stack X.prog X.w H s Q E0) s := by
  obtain ⟨⟨oc, vs, t, hoc, hdc, hvc⟩, _, _⟩ := J.hok c' _ hc
  refine PySem.W.kla_callFunE hr.depth hf rfl NS.co NS.gen rfl ⟨c', oc, vs, t, rfl, hoc, hdc, hvc⟩ ?_
  rw [hbind]
  refine wpAny_pure (wpAny_newFunctionEnv NS.nocell (fun b hb => ?_) (fun h₁ hns hsb => ⟨J.nolimit.fresh _ hsb, ?_⟩) NS.kind)
  · rw [List.mem_singleton.mp hb]
    exact NS.par y List.mem_cons_self
  show codeAny _ _ (.expr body (envF (lamF X params scope c') f s.heap.objs.size)) _ _
  have kp : ∀ b o, s.heap.get? b = some o → h₁.get? b = some o := fun b o e => hsb.extBut b o (Nat.ne_of_lt (Heap.lt_size e)) (Heap.get?_push_of_some _ e)
  have I0 : Inv (ncx CX0 X.prog X.w X.K X.mg X.base N (lamF X params scope c') f X.A.in1 X.stack s H E0) [] (startF N [x] (js.map (slotAt σ))) H { s with heap := h₁, toks := s.toks + ([(y, v)] : List (Str × Value)).length } :=
    inv_startN (F := lamF X params scope c') (us := [v]) NS hr.hd J.env0.in1 rfl (.cons rx .nil) (cells_of J (cp J.ok)) hns kp
  refine PySem.W.kla_codeExpr (wpAny_mono ((hbody X.A.in1 X.stack s H (hr.deeper _)).run [] _ _ H Q I0 h) (fun u s' hq => ?_) fun e s' hq => hq)
  obtain ⟨w', H', J', rv, q⟩ := hq
  exact ⟨w', H', J'.os, J'.bare, J'.base, J'.hok, rv, q⟩
end
/-- the reading of min(e, key=lambda y: body), max(..): lt says when a key is better -/
def tKey (T : List (Addr × Str)) (lt : Int → Int → Bool) (N : List Str) (js : List Nat) (tb : TE) (ta : TA) : TE := fun σ H Q => ta σ H fun vs H0 => ∃ (a : Addr) (xs : List V), vs = [.ref a] ∧ H0 a = some (.lst xs) ∧ 0 < xs.length ∧ Tabs T H0 ∧
  ∀ H1, ExtN H0 H1 → Tabs T H1 → ∃ key : Nat → Int, (∀ (i : Nat) (x : V) (H' : Hp), xs[i]? = some x → Same H1 H' → tb (startF N [x] (js.map (slotAt σ))) H' fun v H'' => v = .int (key i) ∧ Same H' H'') ∧
    ∀ (x : V) (H' : Hp), xs[argBest (fun i j => lt (key i) (key j)) (xs.length - 1)]? = some x → Same H1 H' → Q x H'
section
variable {X : Cx}
theorem key_run {pins : List (Addr × Obj)} {σ : L2.St} {N fr : List Str} {y : Str} {js : List Nat} {k : Nat} {params : Arguments} {body : Expr} {scope : Scope} {tb : TE} {H1 : Hp} {f c' a it S : Addr} {pm ctv : Value} {xs : List V} {op : CmpOp} {lt : Int → Int → Bool} {key : Nat → Int} (NS : NScope N [y] fr scope) (cp : X.Ok → Caps X (cloFrom X.env.cells scope.names []) fr js)
    (hbind : ∀ (q : Str) (cl : List (Str × Addr)) (pm cv ctv : Value) (u : Value), bindArgs (PySem.W.kla_fn "<lambda>" q params body scope cl pm cv ctv) ⟨[u], []⟩ = pure [(y, u)])
    (hr : Room (k + 1) X.A.in1)
    (hbody : ∀ (A : Around) (outer : List Env) (s : Shared) (H : Hp), Room k (A.deeper (envF (lamF X params scope c') f s.heap.objs.size)) → PE (ncx CX0 X.prog X.w X.K X.mg X.base N (lamF X params scope c') f A outer s H E0) body tb)
    (hcmp : ∀ (i j : Int) (t u : Tok) (s : Shared) (Q : Value → Shared → Prop) (E : Value → Shared → Prop), Q (.bool (lt i j)) s → wpAny (model X.prog X.w) X.A.in1 (richCompare op (.int i t) (.int j u)) Q E s)
    (ha : H1 a = some (.lst xs)) (hc : H1 c' = some (CodeO c' (X.env.qual ++ "<lambda>"))) (nI : Fresh X pins it) (nS : Fresh X pins S) (hfI : f ≠ it) (hfS : f ≠ S) (hfr : f ∉ frs X.stack)
    (hk : ∀ (i : Nat) (x : V) (H' : Hp), xs[i]? = some x → Same H1 H' → tb (startF N [x] (js.map (slotAt σ))) H' fun v H'' => v = .int (key i) ∧ Same H' H'') :
    KeyRun X.prog X.w X.A.in1 (.ref f) op S [it] (fun g g' => g' = g) xs.length (fun i v => ∃ x, xs[i]? = some x ∧ RelV x v)
      (fun i s => s.heap.IsListIter it a i ∧ ∃ its : List Value, Vals xs its ∧ s.heap.IsList a its.toArray)
      (KJ X pins σ H1 f it S (PySem.W.kla_obj "<lambda>" (X.env.qual ++ "<lambda>") params body scope (cloFrom X.env.cells scope.names []) pm c' ctv)) (fun i u _ => ∃ t, u = .int (key i) t) (fun i j => lt (key i) (key j)) where
  keep := fun s s' j mv => kj_keep nI nS hfI hfS j mv
  keepV := fun _ _ _ _ v _ => v
  turn := fun i v s o Q E hi hP hJ hst hSo hQ => by
    obtain ⟨x, hx, rx⟩ := hP
    obtain ⟨H, J, sm, hf, nf, hI, hS⟩ := hJ
    refine wpAny_call (codeAny_mono (lam_turn NS cp hbind hr J hf (sm _ _ hc) hbody rx (hk i x H hx sm)) fun r s' hq => ?_)
    cases r with
    | error e => exact (show False from hq).elim
    | ok fl =>
      cases fl with
      | next => exact False.elim hq
      | brk => exact False.elim hq
      | cont => exact False.elim hq
      | ret u =>
        obtain ⟨v', H', os, bare, un, hok, rv, ev, sm'⟩ := hq
        subst ev
        obtain ⟨t, rfl⟩ := rv
        have J' : Inv X pins σ H' s' := J.call' (ch := []) os un hok bare (fun b z => absurd z (by simp))
        obtain ⟨⟨oi, hoi, hi1⟩, _⟩ := hst
        have ki := un.keep it oi hoi hI nI.stk (by simp)
        obtain ⟨its, rv2, pl, _⟩ := J'.list (SqL.of (sm' _ _ (sm _ _ ha)))
        exact hQ _ s' ⟨H', J', fun b o e => sm' b o (sm b o e), un.keep f _ hf nf hfr (by simp), un.free f _ hf nf (by simp), un.free it _ hoi hI (by simp), un.free S _ hSo hS (by simp)⟩ ⟨⟨oi, ki, hi1⟩, its, rv2, pl.isList⟩ (un.keep S _ hSo hS nS.stk (by simp)) ⟨t, rfl⟩ fun _ _ z => z
  cmp := fun i j ki kj s Q E _ hi hj hq => by
    obtain ⟨t, rfl⟩ := hi
    obtain ⟨u, rfl⟩ := hj
    exact hcmp _ _ _ _ s Q E hq
theorem pe_bestKey {T : List (Addr × Str)} {N fr : List Str} {y : Str} {js : List Nat} {k : Nat} {c P : Addr} {params : Arguments} {body e : Expr} {scope : Scope} {tb : TE} {ta : TA} {op : CmpOp} {lt : Int → Int → Bool} {fn : Str} {id : String} {p pos lpos kpos : Pos}
    (hwalk : ∀ (prog : Program) (w : World) (A : Around) (E : Value → Shared → Prop) (s : Shared) (x : Value) (q : Addr) (Q : Value → Shared → Prop), wpAny (model prog w) A.in1 (pyIter x) (fun it s₂ => ∃ I fp wr G n P St J V bt, it = .ref I ∧ WalksS prog w A.in1 I fp wr G n P St ∧ St 0 s₂ ∧ (∀ b ∈ fp, b < s₂.heap.objs.size) ∧ 0 < n ∧
      KeyRun prog w A.in1 (.ref q) op s₂.heap.objs.size wr G n P St J V bt ∧ J s₂ ∧ ∀ v s', P (argBest bt (n - 1)) v → J s' → Q v s') E s → wpAny (model prog w) A (call (.builtin id) [x] [(Str.ofString "key", .ref q)]) Q E s)
    (hcmp : ∀ (i j : Int) (t u : Tok) (s : Shared) (Q : Value → Shared → Prop) (E : Value → Shared → Prop), Q (.bool (lt i j)) s → wpAny (model X.prog X.w) X.A.in1 (richCompare op (.int i t) (.int j u)) Q E s)
    (hg : Gl X fn) (hm : X.mg fn = none) (hv : bootBuiltins fn = some (.builtin id)) (hn : fn ≠ "__name__") (hdb : (fn == ("__debug__" : Str)) = false)
    (ha : PA X [e] ta) (TB : TabB X.base X.mg c P) (hcode : X.env.code = .ref c) (hmT : (P, X.env.qual ++ "<lambda>") ∈ T) (hu : ∀ p ∈ T, p.1 = P → p.2 = X.env.qual ++ "<lambda>") (hr : Room (k + 2) X.A) (hcalm : X.calm = true)
    (NS : NScope N [y] fr scope) (hfree : ∀ y ∈ scope.names, y.2 = .free → X.env.scope.names.lookup y.1 = some .cell ∨ X.env.scope.names.lookup y.1 = some .free) (hfr : ∀ y ∈ fr, (y, NameKind.free) ∈ scope.names) (hjs : js.map (fun j => X.N[j]?) = fr.map some)
    (hdef : defaultsOf params X.env = ([], []))
    (hbind : ∀ (q : Str) (cl : List (Str × Addr)) (pm cv ctv : Value) (u : Value), bindArgs (PySem.W.kla_fn "<lambda>" q params body scope cl pm cv ctv) ⟨[u], []⟩ = pure [(y, u)])
    (hbody : ∀ (A : Around) (outer : List Env) (s : Shared) (H : Hp) (f c' : Addr), Room k (A.deeper (envF (lamF X params scope c') f s.heap.objs.size)) → PE (ncx CX0 X.prog X.w X.K X.mg X.base N (lamF X params scope c') f A outer s H E0) body tb)
    (he : backTo pos (starEach [e] X.env) = (false, eval e X.env) :: backTo pos (starEach [] X.env) := by rfl) (hpl : (backTo pos (starEach [e] X.env)).any (·.1) = false := by rfl) :
    PE X (.Call (.Name fn p) [e] [⟨some "key", .Lambda params body scope lpos, kpos⟩] pos) (tKey T lt N js tb ta) := by
  refine ⟨fun pins s σ H Q I h => ?_⟩
  refine wpAny_Call_Name_kw (ld_blt I hg hm hv ?_ hn hdb)
  refine PyProof.Rows.callWith_kw (thn (ha.run pos pins s σ H _ I h) fun us s1 ⟨vs, H0, I1, r1, q1⟩ => ?_) he hpl (by rfl) (by rfl)
  obtain ⟨a, xs, rfl, hl, hpos, hT, q1⟩ := q1
  have hfr' : ∀ z ∈ scope.names, z.2 = .free → ∃ c, X.env.cells.lookup z.1 = some c := fun z hz ez => (hfree z hz ez).elim (fun q => I.ok.has _ (.inl q)) fun q => I.ok.has _ (.inr q)
  show wpAny _ _ (evalAll ((do let v ← eval (.Lambda params body scope lpos) X.env; standAt pos; pure v) :: [])) _ _ s1
  refine wpAny_evalAll_cons (wpAny_bind (LamX.lam_make2 I1 TB hcode hmT hu hT hdef hfr' fun f c' pm ctv H1 s2 I2 eN T1 hf hfn hfs hco => wpAny_bind (wpAny_standAt (wpAny_pure (wpAny_evalAll_nil ?_)))))
  cases r1 with
  | cons r rr =>
    cases rr
    cases r
    show wpAny _ _ (call (.builtin id) [.ref a] [(Str.ofString "key", .ref f)]) _ _ s2
    obtain ⟨key, hkey, hq⟩ := q1 H1 eN T1
    have ha1 : H1 a = some (.lst xs) := eN a _ hl (fun ps z => by cases z)
    obtain ⟨its, rv, pl, hsz⟩ := I2.list (SqL.of ha1)
    have hne : a ≠ s2.heap.objs.size := Nat.ne_of_lt (I2.hok.lt ha1)
    have hfI : f ≠ s2.heap.objs.size := Nat.ne_of_lt (Heap.lt_size hf)
    have nI := fresh_of I2 (Nat.le_refl s2.heap.objs.size)
    have nIt : H1 s2.heap.objs.size = none := I2.hok.fresh (Nat.le_refl _)
    refine hwalk _ _ _ _ _ _ _ _ (wpAny_pyIter_list pl.isList ?_)
    have z1 : (s2.heap.push { cls := .type "list_iterator", data := .fields #[.ref a, .int 0 0] }).objs.size = s2.heap.objs.size + 1 := Heap.size_push ..
    have I3 : Inv X pins σ H1 { s2 with heap := s2.heap.push { cls := .type "list_iterator", data := .fields #[.ref a, .int 0 0] }, toks := s2.toks } := I2.kept fun b o ez => Heap.get?_push_of_some _ ez
    have nS := fresh_of I3 (Nat.le_refl _)
    have nSt : H1 (s2.heap.push { cls := .type "list_iterator", data := .fields #[.ref a, .int 0 0] }).objs.size = none := I3.hok.fresh (Nat.le_refl _)
    have hfS : f ≠ (s2.heap.push { cls := .type "list_iterator", data := .fields #[.ref a, .int 0 0] }).objs.size := by
      rw [z1]
      exact Nat.ne_of_lt (Nat.lt_succ_of_lt (Heap.lt_size hf))
    refine ⟨s2.heap.objs.size, [s2.heap.objs.size, a], [s2.heap.objs.size], _, xs.length, _, _, _, _, _, rfl, walks_vals (A := X.A.in1) (show X.A.in1.handled = none from I2.ok.hd hcalm) s2.heap.objs.size a hne xs, ⟨⟨_, Heap.get?_push_size _ rfl, rfl, rfl⟩, its, rv, pl.isList.push _⟩, fun b hb => ?_, hpos,
      key_run (key := key) (pm := pm) (ctv := ctv) NS (fun ok => Caps.made ok hfree hfr hjs) hbind hr.in1 (fun A outer s H hr' => hbody A outer s H f c' hr') hcmp ha1 hco nI nS hfI hfS hfs hkey, ⟨H1, I3, Same.refl _, Heap.get?_push_of_some _ hf, hfn, nIt, nSt⟩, fun v s' hP hJ => ?_⟩
    · show b < (s2.heap.push _).objs.size
      rw [z1]
      rcases List.mem_cons.mp hb with z | z
      · rw [z]
        exact Nat.lt_succ_self _
      · rw [List.mem_singleton.mp z]
        exact Nat.lt_succ_of_lt (I2.hok.lt ha1)
    · obtain ⟨x, hx, rx⟩ := hP
      obtain ⟨H', J, sm, _, _, _, _⟩ := hJ
      exact ⟨x, H', J, rx, hq x H' hx sm⟩
theorem lt_cmp (i j : Int) (t u : Tok) (s : Shared) (Q : Value → Shared → Prop) (E : Value → Shared → Prop) (h : Q (.bool (decide (i < j))) s) : wpAny (model X.prog X.w) X.A.in1 (richCompare .Lt (.int i t) (.int j u)) Q E s := wpAny_lt_int h
theorem gt_cmp (i j : Int) (t u : Tok) (s : Shared) (Q : Value → Shared → Prop) (E : Value → Shared → Prop) (h : Q (.bool (decide (i > j))) s) : wpAny (model X.prog X.w) X.A.in1 (richCompare .Gt (.int i t) (.int j u)) Q E s := gt_int h
end
end Fb
/-! Ways of trying: what a way is, which changes tell something. -/
namespace Fb
open PySem PySem.Spec PyProof.Rows L2
open PySem.W (Codec)
/-! ### what stays -/
/-- neither a dict whose keys are tuples nor a table: what these functions never change -/
def Kp (o : HO) : Prop := (∀ kvs, o ≠ .dT kvs) ∧ ∀ ps, o ≠ .tbl ps
theorem kp_lst {xs : List V} : Kp (.lst xs) := ⟨fun _ z => (by cases z), fun _ z => (by cases z)⟩
theorem kp_tup {xs : List V} : Kp (.tup xs) := ⟨fun _ z => (by cases z), fun _ z => (by cases z)⟩
theorem kp_ins {C dx : Addr} {fs : List (Str × V)} : Kp (.ins C dx fs) := ⟨fun _ z => (by cases z), fun _ z => (by cases z)⟩
theorem kp_frz {o : Obj} {u : HO} : Kp (.frz o u) := ⟨fun _ z => (by cases z), fun _ z => (by cases z)⟩
theorem kp_ext {f : Heap → Prop} : Kp (.ext f) := ⟨fun _ z => (by cases z), fun _ z => (by cases z)⟩
def Ext (H H' : Hp) : Prop := ∀ b o, H b = some o → Kp o → H' b = some o
/-- nothing that stays stands there -/
def New (H : Hp) (q : Addr) : Prop := ∀ o, H q = some o → ¬ Kp o
theorem Ext.refl (H : Hp) : Ext H H := fun _ _ e _ => e
theorem Ext.trans {H H1 H2 : Hp} (a : Ext H H1) (b : Ext H1 H2) : Ext H H2 := fun c o e k => b c o (a c o e k) k
theorem Same.ext {H H' : Hp} (s : Same H H') : Ext H H' := fun b o e _ => s b o e
theorem New.of {H : Hp} {q : Addr} (n : H q = none) : New H q := fun o e => by
  rw [n] at e
  cases e
theorem Ext.new {H H' : Hp} {q : Addr} (a : Ext H H') (n : New H' q) : New H q := fun o e k => n o (a q o e k) k
theorem New.ne {H : Hp} {q b : Addr} {o : HO} (n : New H q) (e : H b = some o) (k : Kp o) : b ≠ q := fun z => n o (by rw [← z]; exact e) k
theorem Ext.upd {H H' : Hp} {q : Addr} {o : HO} (a : Ext H H') (n : New H q) : Ext H (upd H' q o) := fun b u e k => by
  rw [upd_ne (n.ne e k)]
  exact a b u e k
theorem Ext.updD {H H' : Hp} {q : Addr} {kvs : List (List Key × V)} {o : HO} (a : Ext H H') (d : H' q = some (.dT kvs)) : Ext H (L2.upd H' q o) := fun b u e k => by
  have hb := a b u e k
  rw [upd_ne (fun z => by
    rw [z, d] at hb
    exact k.1 _ (Option.some.inj hb).symm)]
  exact hb
theorem Ext.seq {K : PySem.W.Frag} {H H' : Hp} {a : Addr} {xs : List V} (e : Ext H H') (q : SqL K H a xs) : SqL K H' a xs := by
  rcases q with (q | ⟨o, q⟩) | q
  · exact .inl (.inl (e _ _ q kp_lst))
  · exact .inl (.inr ⟨o, e _ _ q kp_frz⟩)
  · exact .inr q
theorem HouseAt.ext {CH CC : Addr} {H H' : Hp} {R : Rep} {h : Rp07.House} (I : HouseAt CH CC H R h) (e : Ext H H') : HouseAt CH CC H' R h := by
  obtain ⟨dx, hd⟩ := I.hd
  refine ⟨⟨dx, e _ _ hd kp_ins⟩, e _ _ I.told kp_lst, e _ _ I.left kp_lst, I.ne, I.alen, I.ulen, fun j c hc => ?_, I.apart, I.good⟩
  obtain ⟨x, u, dy, hx, hu, ex, eu⟩ := I.chg j c hc
  exact ⟨x, u, dy, hx, hu, e _ _ ex kp_ins, e _ _ eu kp_lst⟩
theorem LeftAt.ext {H H' : Hp} {h : Rp07.House} {p : Addr} {s : List Nat} (l : LeftAt H h p s) (e : Ext H H') : LeftAt H' h p s := ⟨e _ _ l.here kp_lst, l.few, l.lt⟩
theorem LeftAt.part {H : Hp} {h : Rp07.House} {p q : Addr} {s : List Nat} {m : Nat} {b : Bool} (l : LeftAt H h p s) {H' : Hp} (e : H' q = some (.lst (nv (h.if_ s m b)))) : LeftAt H' h q (h.if_ s m b) :=
  ⟨e, Nat.le_trans (List.length_filter_le _ _) l.few, fun x hx => l.lt x (List.mem_filter.mp hx).1⟩
/-- an object just made by its class -/
theorem same_make {H : Hp} {x dx : Addr} {a b c : HO} (nx : H x = none) (nd : H dx = none) : Same H (upd (upd (upd H dx a) x b) x c) := fun z o e => by
  rw [upd_ne (ne_of_none e nx), upd_ne (ne_of_none e nx), upd_ne (ne_of_none e nd)]
  exact e
/-! ### the text by places -/
abbrev cWay : Stmt := top 3
abbrev sWInit : Stmt := inClass cWay 0
abbrev sDone : Stmt := top 7
abbrev sTries : Stmt := top 8
abbrev sTelling : Stmt := top 9
abbrev sLesser : Stmt := top 10
structure TxtW (K : PySem.W.Frag) (mg : Str → Option Value) (CW : Addr) : Prop where
  cW : Cls K CW
  nTries : NoAttr K CW "tries"
  nGood : NoAttr K CW "if_good"
  nBad : NoAttr K CW "if_bad"
  nCosts : NoAttr K CW "costs"
  gW : mg "Way" = some (.ref CW)
  max : mg "max" = none
  min : mg "min" = none
  kWorst : GI mg "AT_WORST" 0
  kAver : GI mg "ON_THE_AVERAGE" 1
/-! ### a way -/
def wF (t g b : V) (k : Addr) : List (Str × V) := [("tries", t), ("if_good", g), ("if_bad", b), ("costs", .ref k)]
theorem wF_tries (t g b : V) (k : Addr) : (wF t g b k).lookup ("tries" : Str) = some t := lk_here
theorem wF_good (t g b : V) (k : Addr) : (wF t g b k).lookup ("if_good" : Str) = some g := (lk_past (by decide +kernel)).trans lk_here
theorem wF_bad (t g b : V) (k : Addr) : (wF t g b k).lookup ("if_bad" : Str) = some b := (lk_past (by decide +kernel)).trans ((lk_past (by decide +kernel)).trans lk_here)
theorem wF_costs (t g b : V) (k : Addr) : (wF t g b k).lookup ("costs" : Str) = some (.ref k) := (lk_past (by decide +kernel)).trans ((lk_past (by decide +kernel)).trans ((lk_past (by decide +kernel)).trans lk_here))
def wF2 (t g : V) : List (Str × V) := [("tries", t), ("if_good", g)]
def wF3 (t g b : V) : List (Str × V) := [("tries", t), ("if_good", g), ("if_bad", b)]
theorem wF2_of (t g : V) : putF "if_good" g (putF "tries" t []) = wF2 t g := put_past (by decide +kernel)
theorem wF3_of (t g b : V) : putF "if_bad" b (wF2 t g) = wF3 t g b := (put_past (by decide +kernel)).trans (congrArg _ (put_past (by decide +kernel)))
theorem wF4_of (t g b : V) (k : Addr) : putF "costs" (V.ref k) (wF3 t g b) = wF t g b k := (put_past (by decide +kernel)).trans (congrArg _ ((put_past (by decide +kernel)).trans (congrArg _ (put_past (by decide +kernel)))))
/-- what a way costs, in both ways of telling -/
def CostAt (CW : Addr) (H : Hp) (p : Addr) (x y : Nat) : Prop := ∃ dx t g b k, H p = some (.ins CW dx (wF t g b k)) ∧ H k = some (.tup [.int x, .int y])
def spWInit (CW : Addr) : Sp := fun vs H Q _ => ∃ (p dx k : Addr) (t g b : V), vs = [.ref p, t, g, b, .ref k] ∧ H p = some (.ins CW dx []) ∧ Q .non (upd H p (.ins CW dx (wF t g b k)))
def spDone (CW : Addr) : Sp := fun vs H Q _ => vs = [] ∧ ∀ (H' : Hp) (p dx k : Addr), Same H H' → H p = none → H' p = some (.ins CW dx (wF .non .non .non k)) → H' k = some (.tup [.int (0 : Nat), .int (0 : Nat)]) → Q (.ref p) H'
def spTries (CH CC CW : Addr) : Sp := fun vs H Q _ => ∃ (R : Rep) (h : Rp07.House) (p pg pb : Addr) (s : List Nat) (m x1 y1 x2 y2 : Nat), vs = [.ref R.lt, .ref p, .int m, .ref pg, .ref pb] ∧ HouseAt CH CC H R h ∧ LeftAt H h p s ∧ m < h.all.length ∧ CostAt CW H pg x1 y1 ∧ CostAt CW H pb x2 y2 ∧
  ∀ (H' : Hp) (p' dx k : Addr), Same H H' → H p' = none → H' p' = some (.ins CW dx (wF (.int m) (.ref pg) (.ref pb) k)) → H' k = some (.tup [.int (comb h false s m x1 x2 : Nat), .int (comb h true s m y1 y2 : Nat)]) → Q (.ref p') H'
def spLesser (CH CC : Addr) : Sp := fun vs H Q _ => ∃ (R : Rep) (h : Rp07.House) (p : Addr) (s : List Nat) (m : Nat), vs = [.ref R.lt, .ref p, .int m] ∧ HouseAt CH CC H R h ∧ LeftAt H h p s ∧ m < h.all.length ∧ ∀ (H' : Hp), Same H H' → Q (.int (lesser h s m : Nat)) H'
def spTelling (CH CC : Addr) : Sp := fun vs H Q _ => ∃ (R : Rep) (h : Rp07.House) (p : Addr) (s : List Nat), vs = [.ref R.lt, .ref p] ∧ HouseAt CH CC H R h ∧ LeftAt H h p s ∧
  ∀ (H' : Hp) (q : Addr), Same H H' → H q = none → H' q = some (.lst (nv (h.tries s))) → Q (.ref q) H'
section
variable {P : Program} {w : World} {K : PySem.W.Frag} {mg : Str → Option Value} {base : Heap} {CH CC CW : Addr}
theorem scWInit : FnScope ["self", "tries", "if_good", "if_bad", "costs"] ["self", "tries", "if_good", "if_bad", "costs"] (defScope sWInit) := ⟨rfl, rfl, rfl, by decide +kernel, rfl, by decide +kernel, by decide +kernel⟩
theorem ok_winit {f : Addr} {fd : FuncData} (F : Fun K "__init__" "Way.__init__" sWInit f fd) (U : TxtW K mg CW) : FnOk P w K mg base CX0 1 f fd ["self", "tries", "if_good", "if_bad", "costs"] (spWInit CW) := by
  refine F.ok scWInit (fun vs H Q E h => ?_) (fun cdv A outer s H vs Q E hr h => ?_)
  · obtain ⟨p, dx, k, t, g, b, rfl, _⟩ := h
    rfl
  · obtain ⟨p, dx, k, t, g, b, rfl, hp, kq⟩ := h
    refine ⟨_, pss_cons (ps_fld (pv 0) (pv 1) rfl) (pss_cons (ps_fld (pv 0) (pv 2) rfl) (pss_cons (ps_fld (pv 0) (pv 3) rfl) (pss_one (ps_fld (pv 0) (pv 4) rfl)))), ?_⟩
    refine ⟨_, rfl, _, rfl, p, CW, dx, _, rfl, hp, U.cW, U.nTries, (by show 0 < 1000; decide), ?_⟩
    refine ⟨_, rfl, _, rfl, p, CW, dx, _, rfl, upd_same, U.cW, U.nGood, (by show 1 < 1000; decide), ?_⟩
    refine ⟨_, rfl, _, rfl, p, CW, dx, _, rfl, upd_same, U.cW, U.nBad, (by rw [wF2_of]; show 2 < 1000; decide), ?_⟩
    refine ⟨_, rfl, _, rfl, p, CW, dx, _, rfl, upd_same, U.cW, U.nCosts, (by rw [wF2_of, wF3_of]; show 3 < 1000; decide), ?_⟩
    rw [upd_upd, upd_upd, upd_upd, wF2_of, wF3_of, wF4_of]
    exact kq
theorem scDone : FnScope [] [] (defScope sDone) := ⟨rfl, rfl, rfl, by decide +kernel, rfl, by decide +kernel, by decide +kernel⟩
theorem ok_done {f fI : Addr} {fd fdI : FuncData} (F : Fun K "way_that_is_done" "way_that_is_done" sDone f fd) (U : TxtW K mg CW) (M : Mk K CW fI) (GI : FnOk P w K mg base CX0 1 fI fdI ["self", "tries", "if_good", "if_bad", "costs"] (spWInit CW)) (bI : Binds K fdI ["self", "tries", "if_good", "if_bad", "costs"] []) :
    FnOk P w K mg base CX0 3 f fd [] (spDone CW) := by
  refine F.ok scDone (fun vs H Q E h => ?_) (fun cdv A outer s H vs Q E hr h => ?_)
  · obtain ⟨rfl, _⟩ := h
    rfl
  · obtain ⟨rfl, kq⟩ := h
    refine ⟨_, pss_one (ps_ret (pe_make M GI hr rfl U.gW bI .nil pass0 (pa_cons pe_non (pa_cons pe_non (pa_cons pe_non (pa_cons (pe_tup (pa_cons pe_int (pa_cons pe_int pa_nil))) pa_nil)))))), ?_⟩
    refine ⟨(by show 2 ≤ sizeLine; decide), fun k nk => ?_⟩
    intro x dx nx nd ne
    refine ⟨x, dx, k, _, _, _, rfl, upd_same, rfl, ?_⟩
    have s1 := same_upd (o := .tup [.int 0, .int 0]) (Same.refl H) nk
    have s2 := same_make (a := .own x) (b := .ins CW dx []) (c := .ins CW dx (wF .non .non .non k)) nx nd
    exact kq _ x dx k (s1.trans s2) (s1.free nx) upd_same (s2 _ _ upd_same)
theorem max_is (i j : Nat) : (if ((j : Nat) : Int) > (i : Int) then ((j : Nat) : Int) else (i : Int)) = ((max i j : Nat) : Int) := by
  by_cases h : (j : Int) > (i : Int)
  · rw [if_pos h]
    omega
  · rw [if_neg h]
    omega
theorem at_zero (x y : V) : atI [x, y] (0 : Int) = some x := atI_nat (j := 0) rfl
theorem at_one (x y : V) : atI [x, y] (1 : Int) = some y := atI_nat (j := 1) rfl
theorem at_lt {h : Rp07.House} {m : Nat} (g : Good h) (hm : m < h.all.length) : (h.at_ m).cost ≤ 10000 := g.cost _ (at_mem hm)
theorem scTries : FnScope ["changes", "left", "c", "if_good", "if_bad", "cost", "at_worst", "behind", "on_the_average"] ["changes", "left", "c", "if_good", "if_bad"] (defScope sTries) := ⟨rfl, rfl, rfl, by decide +kernel, rfl, by decide +kernel, by decide +kernel⟩
theorem ok_tries {f fI fW : Addr} {fd fdI fdW : FuncData} (F : Fun K "way_that_tries" "way_that_tries" sTries f fd) (T : Txt K mg CH CC) (U : TxtW K mg CW) (M : Mk K CW fI) (GI : FnOk P w K mg base CX0 1 fI fdI ["self", "tries", "if_good", "if_bad", "costs"] (spWInit CW)) (bI : Binds K fdI ["self", "tries", "if_good", "if_bad", "costs"] [])
    (GW : FnOk P w K mg base CX0 1 fW fdW ["changes", "left"] (spWeights CH CC)) (bW : Binds K fdW ["changes", "left"] []) (kW : PySem.W.keepIn K (.ref fW) = true) (gW : mg "weights_together" = some (.ref fW)) :
    FnOk P w K mg base CX0 3 f fd ["changes", "left", "c", "if_good", "if_bad"] (spTries CH CC CW) := by
  refine F.ok scTries (fun vs H Q E h => ?_) (fun cdv A outer st H vs Q E hr h => ?_)
  · obtain ⟨R, h, p, pg, pb, s, m, x1, y1, x2, y2, rfl, _⟩ := h
    rfl
  · obtain ⟨R, h, p, pg, pb, s, m, x1, y1, x2, y2, rfl, I, L, hm, ⟨dg, tg, gg, bg, kg, hg, hkg⟩, ⟨db, tb, gb, bb, kb, hb, hkb⟩, kq⟩ := h
    have hr1 : Room 1 _ := hr.mono (by decide)
    obtain ⟨y, u, dy, hat, hy, hu, _, _⟩ := I.change_at hm
    refine ⟨_, pss_cons (ps_set (i := 5) scTries.nd rfl (Or.inl rfl) (pe_fld (pe_ix ix_list (pv 0) (pv 2) (fun _ _ => rfl)) rfl))
      (pss_cons (ps_set (i := 6) scTries.nd rfl (Or.inl rfl) (pe_op op_add (pv 5) (pe_callB (call_max2 rfl) (by rfl) U.max boot_max (pa_cons (pe_ix ix_tup (pe_fld (pv 3) rfl) (pe_gi rfl U.kWorst) (fun _ _ => rfl)) (pa_cons (pe_ix ix_tup (pe_fld (pv 4) rfl) (pe_gi rfl U.kWorst) (fun _ _ => rfl)) pa_nil)))))
      (pss_cons (ps_set (i := 7) scTries.nd rfl (Or.inl rfl) (pe_op op_add (pe_ix ix_tup (pe_fld (pv 3) rfl) (pe_gi rfl U.kAver) (fun _ _ => rfl)) (pe_ix ix_tup (pe_fld (pv 4) rfl) (pe_gi rfl U.kAver) (fun _ _ => rfl))))
      (pss_cons (ps_set (i := 8) scTries.nd rfl (Or.inl rfl) (pe_op op_add (pe_op op_mul (pv 5) (pe_call GW hr1 rfl gW kW bW .nil pass0 (pa_cons (pv 0) (pa_cons (pv 1) pa_nil)))) (pv 7)))
      (pss_one (ps_ret (pe_make M GI hr rfl U.gW bI .nil pass0 (pa_cons (pv 2) (pa_cons (pv 3) (pa_cons (pv 4) (pa_cons (pe_tup (pa_cons (pv 6) (pa_cons (pv 8) pa_nil))) pa_nil)))))))))), ?_⟩
    refine ⟨_, rfl, _, rfl, R.lt, _, _, _, rfl, rfl, SqL.of I.told, hat, y, CC, dy, _, _, rfl, hy, T.cC, T.nCost, cF_cost _ _, ?_⟩
    refine ⟨_, rfl, _, rfl, pg, CW, dg, _, _, rfl, hg, U.cW, U.nCosts, wF_costs _ _ _ _, kg, _, _, _, rfl, rfl, SqT.of hkg, at_zero _ _, _, rfl, pb, CW, db, _, _, rfl, hb, U.cW, U.nCosts, wF_costs _ _ _ _, kb, _, _, _, rfl, rfl, SqT.of hkb, at_zero _ _, _, _, rfl, ?_⟩
    rw [max_is]
    refine ⟨_, _, rfl, rfl, ?_⟩
    refine ⟨_, rfl, pg, CW, dg, _, _, rfl, hg, U.cW, U.nCosts, wF_costs _ _ _ _, kg, _, _, _, rfl, rfl, SqT.of hkg, at_one _ _, _, rfl, pb, CW, db, _, _, rfl, hb, U.cW, U.nCosts, wF_costs _ _ _ _, kb, _, _, _, rfl, rfl, SqT.of hkb, at_one _ _, _, _, rfl, rfl, ?_⟩
    refine ⟨_, rfl, _, rfl, _, rfl, R, h, p, s, rfl, I, L, fun H1 s1 => ?_⟩
    have hc := at_lt I.good hm
    refine ⟨_, _, rfl, rfl, .inl ⟨(by omega), (by omega)⟩, _, rfl, _, _, rfl, rfl, ?_⟩
    refine ⟨_, rfl, _, rfl, _, rfl, _, rfl, _, rfl, (by show 2 ≤ sizeLine; decide), fun k nk => ?_⟩
    intro x dx nx nd ne
    refine ⟨x, dx, k, _, _, _, rfl, upd_same, rfl, ?_⟩
    have s2 := same_upd (o := .tup [.int (((h.at_ m).cost : Int) + ((max x1 x2 : Nat) : Int)), .int (((h.at_ m).cost : Int) * ((h.weigh s : Nat) : Int) + ((y1 : Int) + (y2 : Int)))]) s1 nk
    have s3 := same_make (a := .own x) (b := .ins CW dx []) (c := .ins CW dx (wF (.int m) (.ref pg) (.ref pb) k)) nx nd
    refine kq _ x dx k (s2.trans s3) (s2.free nx) upd_same ((s3 _ _ upd_same).trans ?_)
    show some (HO.tup [.int (((h.at_ m).cost : Int) + ((max x1 x2 : Nat) : Int)), .int (((h.at_ m).cost : Int) * ((h.weigh s : Nat) : Int) + ((y1 : Int) + (y2 : Int)))]) = some (HO.tup [.int (((h.at_ m).cost + max x1 x2 : Nat) : Int), .int (((h.at_ m).cost * h.weigh s + (y1 + y2) : Nat) : Int)])
    rw [Int.natCast_add, Int.natCast_add ((h.at_ m).cost * h.weigh s), Int.natCast_mul, Int.natCast_add]
theorem min_is (i j : Nat) : (if ((j : Nat) : Int) < (i : Int) then ((j : Nat) : Int) else (i : Int)) = ((min i j : Nat) : Int) := by
  by_cases h : (j : Int) < (i : Int)
  · rw [if_pos h]
    omega
  · rw [if_neg h]
    omega
theorem scLesser : FnScope ["changes", "left", "c", "count_if_bad"] ["changes", "left", "c"] (defScope sLesser) := ⟨rfl, rfl, rfl, by decide +kernel, rfl, by decide +kernel, by decide +kernel⟩
theorem ok_lesser {f fA : Addr} {fd fdA : FuncData} (F : Fun K "lesser_part" "lesser_part" sLesser f fd) (T : Txt K mg CH CC) (U : TxtW K mg CW)
    (GA : FnOk P w K mg base CX0 1 fA fdA ["changes", "left", "c", "is_bad"] (spAfter CH CC)) (bA : Binds K fdA ["changes", "left", "c", "is_bad"] []) (kA : PySem.W.keepIn K (.ref fA) = true) (gA : mg "left_after" = some (.ref fA)) :
    FnOk P w K mg base CX0 2 f fd ["changes", "left", "c"] (spLesser CH CC) := by
  refine F.ok scLesser (fun vs H Q E h => ?_) (fun cdv A outer st H vs Q E hr h => ?_)
  · obtain ⟨R, h, p, s, m, rfl, _⟩ := h
    rfl
  · obtain ⟨R, h, p, s, m, rfl, I, L, hm, kq⟩ := h
    refine ⟨_, pss_cons (ps_set (i := 3) scLesser.nd rfl (Or.inl rfl) (pe_callB call_len_seq (by rfl) T.len PySem.boot_len (pa_cons (pe_call GA hr rfl gA kA bA .nil pass0 (pa_cons (pv 0) (pa_cons (pv 1) (pa_cons (pv 2) (pa_cons pe_bl pa_nil))))) pa_nil)))
      (pss_one (ps_ret (pe_callB (call_min2 rfl) (by rfl) U.min boot_min (pa_cons (pv 3) (pa_cons (pe_op op_sub (pe_callB call_len_seq (by rfl) T.len PySem.boot_len (pa_cons (pv 1) pa_nil)) (pv 3)) pa_nil))))), ?_⟩
    refine ⟨_, rfl, _, rfl, _, rfl, R, h, p, s, m, true, rfl, I, L, hm, fun H1 q s1 nq hq => ?_⟩
    refine ⟨q, _, rfl, .inl (SqL.of hq), ?_⟩
    have L1 := L.same s1
    refine ⟨_, rfl, _, rfl, p, _, rfl, .inl (SqL.of L1.here), _, rfl, _, _, rfl, rfl, _, _, rfl, ?_⟩
    have hp := parts_len h s m
    have e : (((nv s).length : Nat) : Int) - (((nv (h.if_ s m true)).length : Nat) : Int) = (((h.if_ s m false).length : Nat) : Int) := by
      rw [nv_length, nv_length]
      omega
    rw [e, nv_length, min_is]
    exact kq _ s1
theorem scTelling : FnScope ["changes", "left", "can_be_tried", "c"] ["changes", "left"] (defScope sTelling) := ⟨rfl, rfl, rfl, by decide +kernel, rfl, by decide +kernel, by decide +kernel⟩
theorem tries_is (h : Rp07.House) (s : List Nat) : (((List.range h.all.length).filter fun m => (h.at_ m).tried).filter fun m => decide (0 < lesser h s m)) = h.tries s := by
  rw [List.filter_filter]
  unfold Rp07.House.tries
  refine List.filter_congr fun m _ => ?_
  rw [Bool.and_comm]
  refine congrArg (fun b => (h.at_ m).tried && b) ?_
  unfold lesser
  cases h.if_ s m true with
  | nil => exact decide_eq_false (by show ¬ 0 < min 0 _; omega)
  | cons a l =>
    cases h.if_ s m false with
    | nil => exact decide_eq_false (by show ¬ 0 < min _ 0; omega)
    | cons b r => exact decide_eq_true (by show 0 < min (l.length + 1) (r.length + 1); omega)
theorem ok_telling {f fL : Addr} {fd fdL : FuncData} (F : Fun K "telling_changes" "telling_changes" sTelling f fd) (T : Txt K mg CH CC)
    (GL : FnOk P w K mg base CX0 2 fL fdL ["changes", "left", "c"] (spLesser CH CC)) (bL : Binds K fdL ["changes", "left", "c"] []) (kL : PySem.W.keepIn K (.ref fL) = true) (gL : mg "lesser_part" = some (.ref fL)) :
    FnOk P w K mg base CX0 3 f fd ["changes", "left"] (spTelling CH CC) := by
  refine F.ok scTelling (fun vs H Q E h => ?_) (fun cdv A outer st H vs Q E hr h => ?_)
  · obtain ⟨R, h, p, s, rfl, _⟩ := h
    rfl
  · obtain ⟨R, h, p, s, rfl, I, L, kq⟩ := h
    have few := I.good.few
    refine ⟨_, pss_cons (ps_setLc (i := 2) (own := [("c", 3)]) (g := gName 3) (tt := tB (tFld K (tOp (rIxL K) (tVar 0) (tVar 3)) "can_be_tried")) (te := tVar 3) (by rfl) scTelling.nd rfl rfl (sw_true rfl rfl rfl (by decide +kernel))
        (pi_range1 (by rfl) T.range (pa_cons (pe_callB call_len_seq (by rfl) T.len PySem.boot_len (pa_cons (pv 0) pa_nil)) pa_nil))
        (blkOk_by (N := ["changes", "left", "can_be_tried", "c"]) (sc := defScope sTelling) (by decide +kernel)) (fun _ _ _ _ _ => pg_name (i := 3) scTelling.nd rfl (Or.inl rfl))
        (fun _ _ _ _ _ => pts_one (pt_val (pe_fld (pe_ix ix_list (pv 0) (pv 3) (fun _ _ => rfl)) rfl))) (fun _ _ _ _ _ => pv 3))
      (pss_one (ps_ret (pe_lc (own := [("c", 3)]) (g := gName 3) (tt := tTest (tOp (rI0 fun i j => V.bl (decide (j < i))) (tCall (spLesser CH CC) [] E0 (tCons (tVar 0) (tCons (tVar 1) (tCons (tVar 3) tNil)))) (tC (.int 0)))) (te := tVar 3) rfl scTelling.nd (pi_list (pv 2))
        (blkOk_by (N := ["changes", "left", "can_be_tried", "c"]) (sc := defScope sTelling) (by decide +kernel)) (fun _ _ _ _ _ => pg_name (i := 3) scTelling.nd rfl (Or.inl rfl))
        (fun _ _ _ _ _ => pts_one (pt_cmpR op_gt (pe_call GL hr rfl gL kL bL .nil pass0 (pa_cons (pv 0) (pa_cons (pv 1) (pa_cons (pv 3) pa_nil)))) pe_int (nomark _)))
        (fun _ _ _ _ _ => pv 3)))), ?_⟩
    have el : (R.as.map V.ref).length = h.all.length := by rw [List.length_map, I.alen]
    refine ⟨_, rfl, R.lt, _, rfl, .inl (SqL.of I.told), ?_⟩
    rw [el]
    refine ⟨_, rfl, (by omega), (by omega), fun D hD => ?_⟩
    refine lc_range (lo := 0) (n := h.all.length) (fun i H' => Same H H' ∧ H' D = some (.lst (nv ((List.range i).filter fun m => (h.at_ m).tried)))) ⟨same_upd (Same.refl H) hD, upd_same⟩ ?_ ?_
    · rintro i H' hi ⟨s1, hD1⟩
      rw [Int.zero_add]
      have I1 := I.same s1
      obtain ⟨y, u, dy, hat, hy, hu, _, _⟩ := I1.change_at hi
      refine ⟨rfl, ?_⟩
      refine ⟨_, rfl, _, rfl, R.lt, _, _, _, rfl, rfl, SqL.of I1.told, hat, y, CC, dy, _, _, rfl, hy, T.cC, T.nTried, cF_tried _ _, _, rfl, ?_⟩
      refine ite2 (fun c => ?_) (fun c => ?_)
      · refine ⟨_, rfl, _, hD1, ?_, same_upd_new s1 hD, ?_⟩
        · rw [nv_length]
          refine small (m := 7) (Nat.le_trans (List.length_filter_le _ _) ?_)
          rw [List.length_range]
          omega
        · rw [upd_same, List.range_succ, List.filter_append, nv_append, List.filter_cons, if_pos c]
          rfl
      · refine ⟨s1, ?_⟩
        rw [hD1, List.range_succ, List.filter_append, nv_append, List.filter_cons, if_neg c]
        show _ = some (HO.lst (_ ++ []))
        rw [List.append_nil]
    · rintro H1 ⟨s1, hD1⟩
      generalize hcan : ((List.range h.all.length).filter fun m => (h.at_ m).tried) = can at hD1
      have canlt : ∀ x ∈ can, x < h.all.length := fun x hx => by
        rw [← hcan] at hx
        exact List.mem_range.mp (List.mem_filter.mp hx).1
      have canfew : can.length ≤ 7 := by
        rw [← hcan]
        refine Nat.le_trans (List.length_filter_le _ _) ?_
        rw [List.length_range]
        exact few
      refine ⟨_, rfl, D, rfl, ⟨_, SqL.of hD1⟩, fun D2 hD2 => ?_⟩
      refine lc_list (K := K) (a := D) (xs := nv can) (fun i H' => Same H1 H' ∧ H' D2 = some (.lst (nv ((can.take i).filter fun m => decide (0 < lesser h s m))))) ⟨same_upd (Same.refl H1) hD2, upd_same⟩ (fun i H' _ ⟨s2, _⟩ => SqL.of (s2 _ _ hD1)) ?_ ?_
      · rintro i x H' hx ⟨s2, hD3⟩
        obtain ⟨c, hc, rfl⟩ := nv_got hx
        have s12 := s1.trans s2
        refine ⟨rfl, ?_⟩
        refine ⟨_, rfl, _, rfl, _, rfl, R, h, p, s, c, rfl, I.same s12, L.same s12, canlt c (List.mem_of_getElem? hc), fun H3 s3 => ?_⟩
        refine ⟨_, _, rfl, rfl, _, rfl, ?_⟩
        refine iteP (c := 0 < lesser h s c) (decide_eq_decide.mpr (by omega)) (fun e => ?_) (fun e => ?_)
        · refine ⟨_, rfl, _, s3 _ _ hD3, ?_, same_upd_new (s2.trans s3) hD2, ?_⟩
          · rw [nv_length]
            refine small (m := 7) (Nat.le_trans (List.length_filter_le _ _) ?_)
            rw [List.length_take]
            omega
          · rw [upd_same, filter_more hc, if_pos (decide_eq_true e), nv_append]
            rfl
        · refine ⟨s2.trans s3, ?_⟩
          rw [filter_more hc, if_neg (by rw [decide_eq_false e]; exact Bool.false_ne_true), List.append_nil]
          exact s3 _ _ hD3
      · rintro H2 ⟨s2, hD3⟩
        rw [nv_length, List.take_length, ← hcan, tries_is] at hD3
        exact kq _ D2 (s1.trans s2) (s1.free hD2) hD3
end
end Fb
/-! The best ways: the methods of BestWays. -/
namespace Fb
open PySem PySem.Spec PyProof.Rows L2
open PySem.W (Codec)
open LamX (Tabs TabS TabB ExtN CodeO)
open NdefX (NScope nscope_by)
/-! ### a def whose code object is known -/
structure FunC (K : PySem.W.Frag) (x qual : Str) (st : Stmt) (f : Addr) (fd : FuncData) (c : Addr) : Prop where
  ex : ∃ (oc : Value) (od : Option Addr) (kV doc pm : Value) (an : Option Addr) (ct : Value) (osl : Array (Option Value)), fd = PySem.W.fnOf x qual (defArgs st) (defBody st) (defScope st) .none kV doc pm an (.ref c) ct ∧ K.lookup f = some ⟨oc, od, .func fd, osl⟩ ∧ PySem.W.codeIn K (.ref c) qual = true
section
variable {P : Program} {w : World} {K : PySem.W.Frag} {mg : Str → Option Value} {base : Heap}
theorem FunC.ok {x qual : Str} {st : Stmt} {f c : Addr} {fd : FuncData} {N ps : List Str} {k : Nat} {sp : Sp} (F : FunC K x qual st f fd c) (S : FnScope N ps (defScope st)) (len : ∀ vs H Q E, sp vs H Q E → vs.length = ps.length)
    (hb : ∀ (A : Around) (outer : List Env) (s : Shared) (H : Hp) (vs : List V) (Q : VK) (E : XK), Room k (A.deeper (envOfC qual (defScope st) s.heap.objs.size f (.ref c))) → sp vs H Q E →
      ∃ t, PSs (cxOf CX0 P w K mg base N qual (defScope st) f (.ref c) A outer s H E).nox (defBody st) t ∧ t { nx := fun _ H' => Q .non H', rt := Q } (start N vs) H) : FnOk P w K mg base CX0 (k + 1) f fd ps sp := by
  obtain ⟨oc, od, kV, doc, pm, an, ct, osl, e, lk, hcd⟩ := F.ex
  subst e
  refine fn_of lk hcd S len fun A outer s H vs Q E hr hs => ?_
  obtain ⟨t, h, q⟩ := hb A outer s H vs Q E hr hs
  exact ⟨t, h.nox, q⟩
end
/-! ### the text by places -/
abbrev cBest : Stmt := top 4
abbrev sBInit : Stmt := inClass cBest 0
abbrev sBestOf : Stmt := inClass cBest 1
abbrev sLeast : Stmt := inClass cBest 2
abbrev sBegin : Stmt := inClass cBest 3
structure TxtB (K : PySem.W.Frag) (mg : Str → Option Value) (CB : Addr) : Prop where
  cB : Cls K CB
  nChanges : NoAttr K CB "changes"
  nKind : NoAttr K CB "kind"
  nKnown : NoAttr K CB "known"
  gB : mg "BestWays" = some (.ref CB)
  tuple : mg "tuple" = none
/-! ### how the best ways lie in the heap -/
def kN (how : Bool) : Nat := if how = true then 1 else 0
/-- of the two costs the one that is meant -/
def pr (how : Bool) (x y : Nat) : Nat := if how = true then y else x
theorem at_kind (how : Bool) (x y : Nat) : atI [V.int x, V.int y] ((kN how : Nat) : Int) = some (V.int (pr how x y : Nat)) := by
  cases how
  · exact at_zero _ _
  · exact at_one _ _
theorem comb_pr (h : Rp07.House) (how : Bool) (s : List Nat) (m x1 y1 x2 y2 : Nat) : pr how (comb h false s m x1 x2) (comb h true s m y1 y2) = comb h how s m (pr how x1 y1) (pr how x2 y2) := by
  cases how <;> rfl
def bF (lt : Addr) (how : Bool) (d : Addr) : List (Str × V) := [("changes", .ref lt), ("kind", .int (kN how : Nat)), ("known", .ref d)]
theorem bF_changes (lt : Addr) (how : Bool) (d : Addr) : (bF lt how d).lookup ("changes" : Str) = some (.ref lt) := lk_here
theorem bF_kind (lt : Addr) (how : Bool) (d : Addr) : (bF lt how d).lookup ("kind" : Str) = some (.int (kN how : Nat)) := (lk_past (by decide +kernel)).trans lk_here
theorem bF_known (lt : Addr) (how : Bool) (d : Addr) : (bF lt how d).lookup ("known" : Str) = some (.ref d) := (lk_past (by decide +kernel)).trans ((lk_past (by decide +kernel)).trans lk_here)
theorem bF_no (lt : Addr) (how : Bool) (d : Addr) {m : Str} (h1 : (m == ("changes" : Str)) = false := by decide +kernel) (h2 : (m == ("kind" : Str)) = false := by decide +kernel) (h3 : (m == ("known" : Str)) = false := by decide +kernel) : (bF lt how d).lookup m = none :=
  (lk_past h1).trans ((lk_past h2).trans ((lk_past h3).trans rfl))
/-- instances and tuples stay -/
def ExtI (H H' : Hp) : Prop := (∀ b C dx fs, H b = some (.ins C dx fs) → H' b = some (.ins C dx fs)) ∧ ∀ b xs, H b = some (.tup xs) → H' b = some (.tup xs)
theorem Ext.toI {H H' : Hp} (e : Ext H H') : ExtI H H' := ⟨fun _ _ _ _ z => e _ _ z kp_ins, fun _ _ z => e _ _ z kp_tup⟩
theorem extI_lst {H : Hp} {d : Addr} {l : List V} {o : HO} (e : H d = some (.lst l)) : ExtI H (upd H d o) := by
  refine ⟨fun b C dx fs z => ?_, fun b xs z => ?_⟩
  · rw [upd_ne (ne_of z e fun q => by cases q)]
    exact z
  · rw [upd_ne (ne_of z e fun q => by cases q)]
    exact z
theorem extI_dT {H : Hp} {d : Addr} {l : List (List Key × V)} {o : HO} (e : H d = some (.dT l)) : ExtI H (upd H d o) := by
  refine ⟨fun b C dx fs z => ?_, fun b xs z => ?_⟩
  · rw [upd_ne (ne_of z e fun q => by cases q)]
    exact z
  · rw [upd_ne (ne_of z e fun q => by cases q)]
    exact z
/-- at p lies the best way for s -/
inductive WayB (CW : Addr) (h : Rp07.House) (how : Bool) (H : Hp) : Addr → List Nat → Prop
  | done {p dx k : Addr} {s : List Nat} {x y : Nat} : N h how s = none → H p = some (.ins CW dx (wF .non .non .non k)) → H k = some (.tup [.int x, .int y]) → pr how x y = B h how s → WayB CW h how H p s
  | tries {p dx k pg pb : Addr} {s : List Nat} {m x y : Nat} : N h how s = some m → H p = some (.ins CW dx (wF (.int m) (.ref pg) (.ref pb) k)) → H k = some (.tup [.int x, .int y]) → pr how x y = B h how s →
      WayB CW h how H pg (h.if_ s m false) → WayB CW h how H pb (h.if_ s m true) → WayB CW h how H p s
theorem WayB.ext {CW : Addr} {h : Rp07.House} {how : Bool} {H H' : Hp} {p : Addr} {s : List Nat} (x : WayB CW h how H p s) (e : ExtI H H') : WayB CW h how H' p s := by
  induction x with
  | done a b c d => exact .done a (e.1 _ _ _ _ b) (e.2 _ _ c) d
  | tries a b c d _ _ i j => exact .tries a (e.1 _ _ _ _ b) (e.2 _ _ c) d i j
theorem WayB.cost {CW : Addr} {h : Rp07.House} {how : Bool} {H : Hp} {p : Addr} {s : List Nat} (x : WayB CW h how H p s) : ∃ a b, CostAt CW H p a b ∧ pr how a b = B h how s := by
  cases x with
  | done a b c d => exact ⟨_, _, ⟨_, _, _, _, _, b, c⟩, d⟩
  | tries a b c d _ _ => exact ⟨_, _, ⟨_, _, _, _, _, b, c⟩, d⟩
/-- at p lies the way that tries m first, and goes on best -/
def WayM (CW : Addr) (h : Rp07.House) (how : Bool) (H : Hp) (p : Addr) (s : List Nat) (m : Nat) : Prop :=
  ∃ (dx k pg pb : Addr) (x y : Nat), H p = some (.ins CW dx (wF (.int m) (.ref pg) (.ref pb) k)) ∧ H k = some (.tup [.int x, .int y]) ∧ pr how x y = byM h how s m ∧ WayB CW h how H pg (h.if_ s m false) ∧ WayB CW h how H pb (h.if_ s m true)
theorem WayM.ext {CW : Addr} {h : Rp07.House} {how : Bool} {H H' : Hp} {p : Addr} {s : List Nat} {m : Nat} (x : WayM CW h how H p s m) (e : ExtI H H') : WayM CW h how H' p s m := by
  obtain ⟨dx, k, pg, pb, a, b, h1, h2, h3, h4, h5⟩ := x
  exact ⟨dx, k, pg, pb, a, b, e.1 _ _ _ _ h1, e.2 _ _ h2, h3, h4.ext e, h5.ext e⟩
theorem WayM.best {CW : Addr} {h : Rp07.House} {how : Bool} {H : Hp} {p : Addr} {s : List Nat} {m : Nat} (x : WayM CW h how H p s m) (e : N h how s = some m) : WayB CW h how H p s := by
  obtain ⟨dx, k, pg, pb, a, b, h1, h2, h3, h4, h5⟩ := x
  exact .tries e h1 h2 (h3.trans (B_some e).symm) h4 h5
/-- some that are left, as a key -/
def keyOf (s : List Nat) : List Key := s.map fun k : Nat => (Sum.inl (k : Int) : Key)
theorem keyOf_v (s : List Nat) : (keyOf s).map kV = nv s := by
  unfold keyOf nv
  rw [List.map_map]
  rfl
theorem keyOf_inj : ∀ {s t : List Nat}, keyOf s = keyOf t → s = t
  | [], [], _ => rfl
  | [], _ :: _, e => by cases e
  | _ :: _, [], e => by cases e
  | a :: s, b :: t, e => by
    have e' : (Sum.inl (a : Int) : Key) :: keyOf s = Sum.inl (b : Int) :: keyOf t := e
    injection e' with e1 e2
    injection e1 with e1
    rw [keyOf_inj e2, Int.ofNat_inj.mp e1]
theorem tabs_upd {T : List (Addr × Str)} {H : Hp} {d : Addr} {o : HO} (t : Tabs T H) (n : ∀ u, H d = some u → (∀ ps, u ≠ .tbl ps) ∧ ∀ f, u ≠ .ext f) : Tabs T (upd H d o) := fun p hp => by
  obtain ⟨ps, h1, h2, h3⟩ := t p hp
  refine ⟨ps, (upd_ne fun z => (n _ (by rw [← z]; exact h1)).1 _ rfl).trans h1, h2, fun pos cv hc => ?_⟩
  obtain ⟨c, e1, e2⟩ := h3 pos cv hc
  exact ⟨c, e1, (upd_ne fun z => (n _ (by rw [← z]; exact e2)).2 _ rfl).trans e2⟩
theorem tabs_lst {T : List (Addr × Str)} {H : Hp} {d : Addr} {o : HO} {l : List V} (t : Tabs T H) (e : H d = some (.lst l)) : Tabs T (upd H d o) := tabs_upd t fun u hu => by
  rw [e] at hu
  cases hu
  exact ⟨fun _ z => (by cases z), fun _ z => (by cases z)⟩
theorem tabs_dT {T : List (Addr × Str)} {H : Hp} {d : Addr} {o : HO} {l : List (List Key × V)} (t : Tabs T H) (e : H d = some (.dT l)) : Tabs T (upd H d o) := tabs_upd t fun u hu => by
  rw [e] at hu
  cases hu
  exact ⟨fun _ z => (by cases z), fun _ z => (by cases z)⟩
theorem tabs_same {T : List (Addr × Str)} {H H' : Hp} (t : Tabs T H) (s : Same H H') : Tabs T H' := t.ext s
/-- the best ways of one kind, at b; what is known of them, at D -/
structure BestAt (CH CC CW CB : Addr) (T : List (Addr × Str)) (H : Hp) (b : Addr) (R : Rep) (h : Rp07.House) (how : Bool) (D : Addr) (kvs : List (List Key × V)) : Prop where
  hd : ∃ dx, H b = some (.ins CB dx (bF R.lt how D))
  dict : H D = some (.dT kvs)
  memo : ∀ s v, valV kvs (keyOf s) = some v → ∃ p, v = .ref p ∧ WayB CW h how H p s
  house : HouseAt CH CC H R h
  tabs : Tabs T H
section
variable {CH CC CW CB : Addr} {T : List (Addr × Str)} {H H' : Hp} {b : Addr} {R : Rep} {h : Rp07.House} {how : Bool} {D : Addr} {kvs : List (List Key × V)}
theorem BestAt.same (B : BestAt CH CC CW CB T H b R h how D kvs) (s : Same H H') : BestAt CH CC CW CB T H' b R h how D kvs := by
  obtain ⟨dx, hd⟩ := B.hd
  refine ⟨⟨dx, s _ _ hd⟩, s _ _ B.dict, fun t v e => ?_, B.house.same s, B.tabs.ext s⟩
  obtain ⟨p, e1, e2⟩ := B.memo t v e
  exact ⟨p, e1, e2.ext (Ext.toI (Same.ext s))⟩
/-- a list of the caller's own is changed -/
theorem BestAt.upd_lst {d : Addr} {l : List V} {o : HO} (B : BestAt CH CC CW CB T H b R h how D kvs) (e : H d = some (.lst l)) (I : HouseAt CH CC (upd H d o) R h) : BestAt CH CC CW CB T (upd H d o) b R h how D kvs := by
  obtain ⟨dx, hd⟩ := B.hd
  have ei : ExtI H (upd H d o) := extI_lst e
  refine ⟨⟨dx, ei.1 _ _ _ _ hd⟩, ?_, fun t v q => ?_, I, tabs_lst B.tabs e⟩
  · rw [upd_ne (ne_of B.dict e fun q => by cases q)]
    exact B.dict
  · obtain ⟨p, e1, e2⟩ := B.memo t v q
    exact ⟨p, e1, e2.ext ei⟩
theorem BestAt.put {s : List Nat} {p : Addr} (B : BestAt CH CC CW CB T H b R h how D kvs) (x : WayB CW h how H p s) : BestAt CH CC CW CB T (upd H D (.dT (putK kvs (keyOf s) (.ref p)))) b R h how D (putK kvs (keyOf s) (.ref p)) := by
  obtain ⟨dx, hd⟩ := B.hd
  have ei : ExtI H (upd H D (.dT (putK kvs (keyOf s) (.ref p)))) := extI_dT B.dict
  refine ⟨⟨dx, ei.1 _ _ _ _ hd⟩, upd_same, fun t v q => ?_, B.house.ext (Ext.updD (Ext.refl H) B.dict), tabs_dT B.tabs B.dict⟩
  rw [valV_put] at q
  by_cases z : keyOf t = keyOf s
  · rw [if_pos z] at q
    rw [keyOf_inj z, ← Option.some.inj q]
    exact ⟨p, rfl, x.ext ei⟩
  · rw [if_neg z] at q
    obtain ⟨p', e1, e2⟩ := B.memo t v q
    exact ⟨p', e1, e2.ext ei⟩
end
/-! ### how many ways can be known -/
def Tn : Nat → Nat
  | 0 => 1
  | 1 => 1
  | n + 2 => 1 + 14 * Tn (n + 1)
theorem Tn_pos : ∀ n, 1 ≤ Tn n
  | 0 => Nat.le_refl _
  | 1 => Nat.le_refl _
  | n + 2 => by
    show 1 ≤ 1 + 14 * Tn (n + 1)
    omega
theorem Tn_next : ∀ n, Tn n ≤ Tn (n + 1)
  | 0 => Nat.le_refl _
  | n + 1 => by
    show Tn (n + 1) ≤ 1 + 14 * Tn (n + 1)
    omega
theorem Tn_mono {m : Nat} : ∀ {n : Nat}, m ≤ n → Tn m ≤ Tn n
  | 0, e => by
    have : m = 0 := by omega
    subst this
    exact Nat.le_refl _
  | n + 1, e => by
    by_cases z : m = n + 1
    · subst z
      exact Nat.le_refl _
    · exact Nat.le_trans (Tn_mono (n := n) (by omega)) (Tn_next n)
def LIM : Nat := 8108731
theorem Tn_seven {n : Nat} (e : n ≤ 7) : Tn n ≤ LIM := Nat.le_trans (Tn_mono e) (by decide)
/-! ### the promises -/
def spBInit (CB : Addr) : Sp := fun vs H Q _ => ∃ (p dx lt : Addr) (how : Bool), vs = [.ref p, .ref lt, .int (kN how : Nat)] ∧ H p = some (.ins CB dx []) ∧
  ∀ (H' : Hp) (D : Addr), (∀ b o, H b = some o → b ≠ p → H' b = some o) → H' p = some (.ins CB dx (bF lt how D)) → H' D = some (.dT []) → Q .non H'
def spBest (CH CC CW CB : Addr) (T : List (Addr × Str)) (n : Nat) : Sp := fun vs H Q _ => ∃ (b : Addr) (R : Rep) (h : Rp07.House) (how : Bool) (D : Addr) (kvs : List (List Key × V)) (p : Addr) (s : List Nat), vs = [.ref b, .ref p] ∧ BestAt CH CC CW CB T H b R h how D kvs ∧ LeftAt H h p s ∧ s.length < n ∧
  kvs.length + Tn s.length ≤ LIM ∧ ∀ (H' : Hp) (p' : Addr) (kvs' : List (List Key × V)), Ext H H' → BestAt CH CC CW CB T H' b R h how D kvs' → kvs'.length ≤ kvs.length + Tn s.length → WayB CW h how H' p' s → Q (.ref p') H'
def spLeast (CH CC CW CB : Addr) (T : List (Addr × Str)) (n : Nat) : Sp := fun vs H Q _ => ∃ (b : Addr) (R : Rep) (h : Rp07.House) (how : Bool) (D : Addr) (kvs : List (List Key × V)) (p : Addr) (s : List Nat), vs = [.ref b, .ref p] ∧ BestAt CH CC CW CB T H b R h how D kvs ∧ LeftAt H h p s ∧ s.length ≤ n ∧
  kvs.length + Tn s.length ≤ LIM ∧ ∀ (H' : Hp) (p' : Addr) (kvs' : List (List Key × V)), Ext H H' → BestAt CH CC CW CB T H' b R h how D kvs' → kvs'.length + 1 ≤ kvs.length + Tn s.length → WayB CW h how H' p' s → Q (.ref p') H'
def spBegin (CH CC CW CB : Addr) (T : List (Addr × Str)) (n : Nat) : Sp := fun vs H Q _ => ∃ (b : Addr) (R : Rep) (h : Rp07.House) (how : Bool) (D : Addr) (kvs : List (List Key × V)) (p : Addr) (s : List Nat) (m : Nat), vs = [.ref b, .int m, .ref p] ∧ BestAt CH CC CW CB T H b R h how D kvs ∧ LeftAt H h p s ∧ s.length ≤ n ∧ m ∈ h.tries s ∧
  kvs.length + 2 * Tn (s.length - 1) ≤ LIM ∧ ∀ (H' : Hp) (p' : Addr) (kvs' : List (List Key × V)), Ext H H' → BestAt CH CC CW CB T H' b R h how D kvs' → kvs'.length ≤ kvs.length + 2 * Tn (s.length - 1) → WayM CW h how H' p' s m → Q (.ref p') H'
section
variable {P : Program} {w : World} {K : PySem.W.Frag} {mg : Str → Option Value} {base : Heap} {CH CC CW CB : Addr} {T : List (Addr × Str)}
theorem scBInit : FnScope ["self", "changes", "kind"] ["self", "changes", "kind"] (defScope sBInit) := ⟨rfl, rfl, rfl, by decide +kernel, rfl, by decide +kernel, by decide +kernel⟩
def bF2 (lt : Addr) (how : Bool) : List (Str × V) := [("changes", .ref lt), ("kind", .int (kN how : Nat))]
theorem bF2_of (lt : Addr) (how : Bool) : putF "kind" (V.int (kN how : Nat)) (putF "changes" (V.ref lt) []) = bF2 lt how := put_past (by decide +kernel)
theorem bF3_of (lt : Addr) (how : Bool) (d : Addr) : putF "known" (V.ref d) (bF2 lt how) = bF lt how d := (put_past (by decide +kernel)).trans (congrArg _ (put_past (by decide +kernel)))
theorem ok_binit {f : Addr} {fd : FuncData} (F : Fun K "__init__" "BestWays.__init__" sBInit f fd) (U : TxtB K mg CB) : FnOk P w K mg base CX0 1 f fd ["self", "changes", "kind"] (spBInit CB) := by
  refine F.ok scBInit (fun vs H Q E h => ?_) (fun cdv A outer s H vs Q E hr h => ?_)
  · obtain ⟨p, dx, lt, how, rfl, _⟩ := h
    rfl
  · obtain ⟨p, dx, lt, how, rfl, hp, kq⟩ := h
    refine ⟨_, pss_cons (ps_fld (pv 0) (pv 1) rfl) (pss_cons (ps_fld (pv 0) (pv 2) rfl) (pss_one (ps_fld (pv 0) pe_dnewT rfl))), ?_⟩
    refine ⟨_, rfl, _, rfl, p, CB, dx, _, rfl, hp, U.cB, U.nChanges, (by show 0 < 1000; decide), ?_⟩
    refine ⟨_, rfl, _, rfl, p, CB, dx, _, rfl, upd_same, U.cB, U.nKind, (by show 1 < 1000; decide), ?_⟩
    rw [upd_upd, bF2_of]
    intro D nD
    have npD : p ≠ D := ne_of_none upd_same nD
    refine ⟨_, rfl, p, CB, dx, _, rfl, (upd_ne npD).trans upd_same, U.cB, U.nKnown, (by show 2 < 1000; decide), ?_⟩
    rw [bF3_of]
    refine kq _ D (fun b o e nb => ?_) upd_same ?_
    · rw [upd_ne nb, upd_ne (ne_of_none ((upd_ne nb).trans e) nD), upd_ne nb]
      exact e
    · rw [upd_ne npD.symm, upd_same]
theorem scBegin : FnScope ["self", "c", "left", "if_good", "if_bad"] ["self", "c", "left"] (defScope sBegin) := ⟨rfl, rfl, rfl, by decide +kernel, rfl, by decide +kernel, by decide +kernel⟩
theorem ok_begin {n : Nat} {f fB fA fT : Addr} {fd fdB fdA fdT : FuncData} (F : Fun K "beginning_with" "BestWays.beginning_with" sBegin f fd) (U : TxtB K mg CB)
    (GB : FnOk P w K mg base CX0 (3 + 3 * n) fB fdB ["self", "left"] (spBest CH CC CW CB T n)) (bB : Binds K fdB ["self", "left"] []) (mB : Meth K CB "best_of" fB)
    (GA : FnOk P w K mg base CX0 1 fA fdA ["changes", "left", "c", "is_bad"] (spAfter CH CC)) (bA : Binds K fdA ["changes", "left", "c", "is_bad"] []) (kA : PySem.W.keepIn K (.ref fA) = true) (gA : mg "left_after" = some (.ref fA))
    (GT : FnOk P w K mg base CX0 3 fT fdT ["changes", "left", "c", "if_good", "if_bad"] (spTries CH CC CW)) (bT : Binds K fdT ["changes", "left", "c", "if_good", "if_bad"] []) (kT : PySem.W.keepIn K (.ref fT) = true) (gT : mg "way_that_tries" = some (.ref fT)) :
    FnOk P w K mg base CX0 (4 + 3 * n) f fd ["self", "c", "left"] (spBegin CH CC CW CB T n) := by
  have e4 : 4 + 3 * n = (3 + 3 * n) + 1 := by omega
  rw [e4]
  refine F.ok scBegin (fun vs H Q E h => ?_) (fun cdv A outer st H vs Q E hr h => ?_)
  · obtain ⟨b, R, h, how, D, kvs, p, s, m, rfl, _⟩ := h
    rfl
  · obtain ⟨b, R, h, how, D, kvs, p, s, m, rfl, I, L, hn, hm, hk, kq⟩ := h
    have hr1 : Room 1 _ := hr.mono (by omega)
    have hr3 : Room 3 _ := hr.mono (by omega)
    refine ⟨_, pss_cons (ps_set (i := 3) scBegin.nd rfl (Or.inl rfl) (pe_meth (pv 0) U.cB mB GB hr bB .nil pass0 (pa_cons (pe_call GA hr1 rfl gA kA bA .nil pass0 (pa_cons (pe_fld (pv 0) rfl) (pa_cons (pv 2) (pa_cons (pv 1) (pa_cons pe_bl pa_nil))))) pa_nil)))
      (pss_cons (ps_set (i := 4) scBegin.nd rfl (Or.inl rfl) (pe_meth (pv 0) U.cB mB GB hr bB .nil pass0 (pa_cons (pe_call GA hr1 rfl gA kA bA .nil pass0 (pa_cons (pe_fld (pv 0) rfl) (pa_cons (pv 2) (pa_cons (pv 1) (pa_cons pe_bl pa_nil))))) pa_nil)))
      (pss_one (ps_ret (pe_call GT hr3 rfl gT kT bT .nil pass0 (pa_cons (pe_fld (pv 0) rfl) (pa_cons (pv 2) (pa_cons (pv 1) (pa_cons (pv 3) (pa_cons (pv 4) pa_nil))))))))), ?_⟩
    obtain ⟨_, _, _, hlt⟩ := tries_nonempty hm
    have l1 := tries_lt hm false
    have l2 := tries_lt hm true
    have t1 : Tn (h.if_ s m false).length ≤ Tn (s.length - 1) := Tn_mono (by omega)
    have t2 : Tn (h.if_ s m true).length ≤ Tn (s.length - 1) := Tn_mono (by omega)
    obtain ⟨dx, hb⟩ := I.hd
    refine ⟨_, rfl, b, dx, _, rfl, hb, bF_no _ _ _, _, rfl, b, CB, dx, _, _, rfl, hb, U.cB, U.nChanges, bF_changes _ _ _, _, rfl, _, rfl, R, h, p, s, m, false, rfl, I.house, L, hlt, fun H1 q1 s1 n1 hq1 => ?_⟩
    refine ⟨b, R, h, how, D, kvs, q1, _, rfl, I.same s1, L.part hq1, by omega, by omega, fun H2 pg kvs2 x2 I2 k2 w2 => ?_⟩
    have x02 := (Same.ext s1).trans x2
    have L2 := L.ext x02
    obtain ⟨dx2, hb2⟩ := I2.hd
    refine ⟨_, rfl, b, dx2, _, rfl, hb2, bF_no _ _ _, _, rfl, b, CB, dx2, _, _, rfl, hb2, U.cB, U.nChanges, bF_changes _ _ _, _, rfl, _, rfl, R, h, p, s, m, true, rfl, I2.house, L2, hlt, fun H3 q3 s3 n3 hq3 => ?_⟩
    refine ⟨b, R, h, how, D, kvs2, q3, _, rfl, I2.same s3, L2.part hq3, by omega, by omega, fun H4 pb kvs4 x4 I4 k4 w4 => ?_⟩
    have x24 := (Same.ext s3).trans x4
    have L4 := L2.ext x24
    have w24 := w2.ext (Ext.toI x24)
    obtain ⟨dx4, hb4⟩ := I4.hd
    obtain ⟨a1, b1, c1, e1⟩ := w24.cost
    obtain ⟨a2, b2, c2, e2⟩ := w4.cost
    refine ⟨_, rfl, b, CB, dx4, _, _, rfl, hb4, U.cB, U.nChanges, bF_changes _ _ _, _, rfl, _, rfl, _, rfl, _, rfl, R, h, p, pg, pb, s, m, a1, b1, a2, b2, rfl, I4.house, L4, hlt, c1, c2, fun H5 p' dy k s5 n5 hp' hk' => ?_⟩
    have x45 : Ext H4 H5 := Same.ext s5
    refine kq H5 p' kvs4 ((x02.trans x24).trans x45) (I4.same s5) (by omega) ⟨dy, k, pg, pb, _, _, hp', hk', ?_, w24.ext (Ext.toI x45), w4.ext (Ext.toI x45)⟩
    rw [comb_pr, e1, e2]
    rfl
theorem scBestOf : FnScope ["self", "left", "key"] ["self", "left"] (defScope sBestOf) := ⟨rfl, rfl, rfl, by decide +kernel, rfl, by decide +kernel, by decide +kernel⟩
theorem ok_bestof {n : Nat} {f fL : Addr} {fd fdL : FuncData} (F : Fun K "best_of" "BestWays.best_of" sBestOf f fd) (U : TxtB K mg CB)
    (GL : FnOk P w K mg base CX0 (5 + 3 * n) fL fdL ["self", "left"] (spLeast CH CC CW CB T n)) (bL : Binds K fdL ["self", "left"] []) (mL : Meth K CB "least_costly" fL) :
    FnOk P w K mg base CX0 (3 + 3 * (n + 1)) f fd ["self", "left"] (spBest CH CC CW CB T (n + 1)) := by
  have e4 : 3 + 3 * (n + 1) = (5 + 3 * n) + 1 := by omega
  rw [e4]
  refine F.ok scBestOf (fun vs H Q E h => ?_) (fun cdv A outer st H vs Q E hr h => ?_)
  · obtain ⟨b, R, h, how, D, kvs, p, s, rfl, _⟩ := h
    rfl
  · obtain ⟨b, R, h, how, D, kvs, p, s, rfl, I, L, hn, hk, kq⟩ := h
    have hu := hu_of hr
    refine ⟨_, pss_cons (ps_set (i := 2) scBestOf.nd rfl (Or.inl rfl) (pe_callTy call_tuple_of (by rfl) U.tuple (by decide +kernel) (pa_cons (pv 1) pa_nil)))
      (pss_cons (ps_if (pt_cmp (pc_dnotin hu (pv 2) (pe_fld (pv 0) rfl))) (pss_one (ps_dput hu (pe_fld (pv 0) rfl) (pv 2) (pe_meth (pv 0) U.cB mL GL hr bL .nil pass0 (pa_cons (pv 1) pa_nil)) rfl)) pss_nil)
      (pss_one (ps_ret (pe_dget hu (pe_fld (pv 0) rfl) (pv 2) (fun _ _ => rfl))))), ?_⟩
    refine ⟨_, rfl, p, _, rfl, .inl ⟨SqL.of L.here, fun t nt => ?_⟩⟩
    have s1 := same_upd (o := .tup (nv s)) (Same.refl H) nt
    have ht : upd H t (.tup (nv s)) t = some (.tup ((keyOf s).map kV)) := by
      rw [keyOf_v]
      exact upd_same
    have I1 := I.same s1
    have L1 := L.same s1
    obtain ⟨dx, hb⟩ := I1.hd
    have tp := Tn_pos s.length
    have lim : LIM < sizeLine := by decide
    refine ⟨_, rfl, _, rfl, b, CB, dx, _, _, rfl, hb, U.cB, U.nKnown, bF_known _ _ _, D, _, rfl, DGet.t I1.dict ht, _, rfl, ?_⟩
    cases ev : valV kvs (keyOf s) with
    | none =>
      rw [if_pos (show (!(none : Option V).isSome) = true from rfl)]
      refine ⟨_, rfl, b, dx, _, rfl, hb, bF_no _ _ _, _, rfl, b, R, h, how, D, kvs, p, s, rfl, I1, L1, by omega, hk, fun H2 p2 kvs2 x2 I2 k2 w2 => ?_⟩
      obtain ⟨dx2, hb2⟩ := I2.hd
      have ht2 : H2 t = some (.tup ((keyOf s).map kV)) := x2 _ _ ht kp_tup
      refine ⟨_, rfl, b, CB, dx2, _, _, rfl, hb2, U.cB, U.nKnown, bF_known _ _ _, _, rfl, D, _, rfl, DPut.t I2.dict ht2 (by omega), ?_⟩
      have I3 := I2.put w2
      obtain ⟨dx3, hb3⟩ := I3.hd
      have x3 : Ext H2 (upd H2 D (.dT (putK kvs2 (keyOf s) (.ref p2)))) := Ext.updD (Ext.refl H2) I2.dict
      have g := DGet.t I3.dict (x3 _ _ ht2 kp_tup)
      rw [valV_put, if_pos rfl] at g
      refine ⟨_, rfl, b, CB, dx3, _, _, rfl, hb3, U.cB, U.nKnown, bF_known _ _ _, _, rfl, D, _, rfl, g, ?_⟩
      have lp := length_putK kvs2 (keyOf s) (.ref p2)
      exact kq _ p2 _ (((Same.ext s1).trans x2).trans x3) I3 (by omega) (w2.ext (Ext.toI x3))
    | some v =>
      rw [if_neg (show ¬ (!(some v : Option V).isSome) = true from Bool.false_ne_true)]
      have g := DGet.t I1.dict ht
      rw [ev] at g
      obtain ⟨p2, e2, w2⟩ := I1.memo s v ev
      refine ⟨_, rfl, b, CB, dx, _, _, rfl, hb, U.cB, U.nKnown, bF_known _ _ _, _, rfl, D, _, rfl, g, ?_⟩
      rw [e2]
      exact kq _ p2 _ (Same.ext s1) I1 (by omega) w2
end
end Fb
/-! The least costly way. -/
namespace Fb
open PySem PySem.Spec PyProof.Rows L2
open PySem.W (Codec)
open LamX (Tabs TabS TabB ExtN CodeO)
open NdefX (NScope nscope_by ndef_free ndef_fr)
/-- the place of the first of the least -/
theorem arg_first {f : Nat → Nat} {l : List Nat} {bt : Nat → Nat → Bool} (hb : ∀ i j x y, l[i]? = some x → l[j]? = some y → bt i j = decide (f x < f y)) : ∀ k, k < l.length → ∃ m, l[argBest bt k]? = some m ∧ Rp07.first f (l.take (k + 1)) = some m
  | 0, h => by
    obtain ⟨m, hm⟩ := get_lt h
    refine ⟨m, hm, ?_⟩
    rw [take_more hm]
    rfl
  | k + 1, h => by
    obtain ⟨m, h1, h2⟩ := arg_first hb k (by omega)
    obtain ⟨x, hx⟩ := get_lt h
    rw [take_more hx, first_snoc, h2]
    show ∃ m', l[if bt (k + 1) (argBest bt k) = true then k + 1 else argBest bt k]? = some m' ∧ (if f x < f m then some x else some m) = some m'
    rw [hb _ _ _ _ hx h1]
    by_cases c : f x < f m
    · rw [if_pos (decide_eq_true c), if_pos c]
      exact ⟨x, hx, rfl⟩
    · rw [if_neg (by rw [decide_eq_false c]; exact Bool.false_ne_true), if_neg c]
      exact ⟨m, h1, rfl⟩
theorem arg_best {f : Nat → Nat} {l : List Nat} {bt : Nat → Nat → Bool} (hb : ∀ i j x y, l[i]? = some x → l[j]? = some y → bt i j = decide (f x < f y)) (hl : 0 < l.length) : ∃ m, l[argBest bt (l.length - 1)]? = some m ∧ Rp07.first f l = some m := by
  obtain ⟨m, h1, h2⟩ := arg_first hb (l.length - 1) (by omega)
  rw [Nat.sub_add_cancel hl, List.take_length] at h2
  exact ⟨m, h1, h2⟩
theorem extN_ext {H H' : Hp} (e : ExtN H H') : Ext H H' := fun b o z k => e b o z k.2
theorem BestAt.extN {CH CC CW CB : Addr} {T : List (Addr × Str)} {H H' : Hp} {b : Addr} {R : Rep} {h : Rp07.House} {how : Bool} {D : Addr} {kvs : List (List Key × V)} (B : BestAt CH CC CW CB T H b R h how D kvs) (e : ExtN H H') (t : Tabs T H') : BestAt CH CC CW CB T H' b R h how D kvs := by
  obtain ⟨dx, hd⟩ := B.hd
  have x := extN_ext e
  refine ⟨⟨dx, x _ _ hd kp_ins⟩, e _ _ B.dict (fun ps z => by cases z), fun s v q => ?_, B.house.ext x, t⟩
  obtain ⟨p, e1, e2⟩ := B.memo s v q
  exact ⟨p, e1, e2.ext (Ext.toI x)⟩
theorem tries_few {h : Rp07.House} (g : Good h) (s : List Nat) : (h.tries s).length ≤ 7 := by
  unfold Rp07.House.tries
  refine Nat.le_trans (List.length_filter_le _ _) ?_
  rw [List.length_range]
  exact g.few
theorem Tn_two {n : Nat} (e : 2 ≤ n) : Tn n = 1 + 14 * Tn (n - 1) := by
  match n, e with
  | n + 2, _ => rfl
/-- the tables of the two defs that make a lambda -/
abbrev lamQ (q : Str) : Str := q ++ ".<locals>." ++ "<lambda>"
abbrev tabsT (PL PH : Addr) : List (Addr × Str) := [(PL, lamQ "BestWays.least_costly"), (PH, lamQ "halving_way")]
section
variable {P : Program} {w : World} {K : PySem.W.Frag} {mg : Str → Option Value} {base : Heap} {CH CC CW CB : Addr} {PL PH : Addr}
theorem scLeast : FnScope ["self", "left", "ways", "c"] ["self", "left"] (defScope sLeast) := ⟨rfl, rfl, rfl, by decide +kernel, rfl, by decide +kernel, by decide +kernel⟩
theorem ok_least {n : Nat} {f fB fT fD cL : Addr} {fd fdB fdT fdD : FuncData} (F : FunC K "least_costly" "BestWays.least_costly" sLeast f fd cL) (T : Txt K mg CH CC) (W : TxtW K mg CW) (U : TxtB K mg CB) (TB : TabB base mg cL PL) (ne : PL ≠ PH)
    (GB : FnOk P w K mg base CX0 (4 + 3 * n) fB fdB ["self", "c", "left"] (spBegin CH CC CW CB (tabsT PL PH) n)) (bB : Binds K fdB ["self", "c", "left"] []) (mB : Meth K CB "beginning_with" fB)
    (GT : FnOk P w K mg base CX0 3 fT fdT ["changes", "left"] (spTelling CH CC)) (bT : Binds K fdT ["changes", "left"] []) (kT : PySem.W.keepIn K (.ref fT) = true) (gT : mg "telling_changes" = some (.ref fT))
    (GD : FnOk P w K mg base CX0 3 fD fdD [] (spDone CW)) (bD : Binds K fdD [] []) (kD : PySem.W.keepIn K (.ref fD) = true) (gD : mg "way_that_is_done" = some (.ref fD)) :
    FnOk P w K mg base CX0 (5 + 3 * n) f fd ["self", "left"] (spLeast CH CC CW CB (tabsT PL PH) n) := by
  have e4 : 5 + 3 * n = (4 + 3 * n) + 1 := by omega
  rw [e4]
  refine F.ok scLeast (fun vs H Q E h => ?_) (fun A outer st H vs Q E hr h => ?_)
  · obtain ⟨b, R, h, how, D, kvs, p, s, rfl, _⟩ := h
    rfl
  · obtain ⟨b, R, h, how, D, kvs, p, s, rfl, I, L, hn, hk, kq⟩ := h
    have hr3 : Room 3 _ := hr.mono (by omega)
    have hr2 : Room (0 + 2) _ := hr.mono (by omega)
    refine ⟨_, pss_cons (ps_setLc (i := 2) (own := [("c", 3)]) (g := gName 3) (tt := tYes) (te := tMeth CB "beginning_with" (spBegin CH CC CW CB (tabsT PL PH) n) [] E0 (tVar 0) (tCons (tVar 3) (tCons (tVar 1) tNil))) (by rfl) scLeast.nd rfl rfl (sw_true rfl rfl rfl (by decide +kernel))
        (pi_list (pe_call GT hr3 rfl gT kT bT .nil pass0 (pa_cons (pe_fld (pv 0) rfl) (pa_cons (pv 1) pa_nil))))
        (blkOk_by (N := ["self", "left", "ways", "c"]) (sc := defScope sLeast) (by decide +kernel)) (fun _ _ _ _ _ => pg_name (i := 3) scLeast.nd rfl (Or.inl rfl)) (fun _ _ _ _ _ => pts_nil)
        (fun _ _ _ _ _ => pe_meth (pv 0) U.cB mB GB hr bB .nil pass0 (pa_cons (pv 3) (pa_cons (pv 1) pa_nil))))
      (pss_cons (ps_if (pt_cmpR op_eq (pe_callB call_len_seq (by rfl) T.len PySem.boot_len (pa_cons (pv 2) pa_nil)) pe_int (nomark _)) (pss_one (ps_ret (pe_call0 GD hr3 rfl gD kD bD .nil pass0))) pss_nil)
      (pss_one (ps_ret (pe_bestKey (T := tabsT PL PH) (N := ["way", "self"]) (fr := ["self"]) (y := "way") (js := [0]) (k := 0) (lt := fun i j => decide (i < j)) (tb := tOp (rIxT K) (tFld K (tVar 0) "costs") (tFld K (tVar 1) "kind")) (fun _ _ _ _ _ _ _ _ z => call_min_walkK z) lt_cmp (by rfl) W.min boot_min (by decide) (by decide)
        (pa_cons (pv 2) pa_nil) TB rfl List.mem_cons_self (fun q hq e => ?_) hr2 rfl (nscope_by (by decide +kernel)) (ndef_free (sc := defScope sLeast) (fr := ["self"]) (by decide +kernel)) (ndef_fr (sc := defScope sLeast) (by decide +kernel)) rfl rfl (fun _ _ _ _ _ _ => rfl)
        (fun _ _ _ _ _ _ _ => pe_ix ix_tup (pe_fld (pv 0) rfl) (pe_fld (pv 1) rfl) (fun _ _ => rfl)))))), ?_⟩
    · rcases List.mem_cons.mp hq with z | z
      · rw [z]
        rfl
      · rw [List.mem_singleton.mp z] at e
        exact absurd e.symm ne
    obtain ⟨dx, hb⟩ := I.hd
    refine ⟨_, rfl, b, CB, dx, _, _, rfl, hb, U.cB, U.nChanges, bF_changes _ _ _, _, rfl, R, h, p, s, rfl, I.house, L, fun H1 q s1 nq hq => ?_⟩
    have I1 := I.same s1
    have x1 : Ext H H1 := Same.ext s1
    have few := tries_few I.house.good s
    have tp := Tn_pos s.length
    refine ⟨q, rfl, ⟨_, SqL.of hq⟩, fun D2 nD => ?_⟩
    refine lc_list (K := K) (a := q) (xs := nv (h.tries s)) (fun i H' => Ext H1 H' ∧ ∃ (kvs' : List (List Key × V)) (ps : List Addr), BestAt CH CC CW CB (tabsT PL PH) H' b R h how D kvs' ∧ kvs'.length ≤ kvs.length + i * (2 * Tn (s.length - 1)) ∧ ps.length = i ∧ H' D2 = some (.lst (ps.map V.ref)) ∧
      ∀ (j : Nat) (p : Addr) (m : Nat), ps[j]? = some p → (h.tries s)[j]? = some m → WayM CW h how H' p s m) ?_ (fun i H' _ ⟨x, _⟩ => SqL.of (x _ _ hq kp_lst)) ?_ ?_
    · have sD := same_upd (o := .lst []) (Same.refl H1) nD
      exact ⟨Same.ext sD, kvs, [], I1.same sD, by omega, rfl, upd_same, fun j p m hp => (by cases hp)⟩
    · rintro i x H' hx ⟨x2, kvs', ps, I2, hk2, hl, hD2, hw⟩
      obtain ⟨m, hm, rfl⟩ := nv_got hx
      have hmem : m ∈ h.tries s := List.mem_of_getElem? hm
      have hi : i < (h.tries s).length := lt_of_get hm
      obtain ⟨dx2, hb2⟩ := I2.hd
      have l1 := tries_lt hmem true
      have l2 := tries_lt hmem false
      have pl := parts_len h s m
      have t2 := Tn_two (n := s.length) (by omega)
      have mul : (i + 1) * (2 * Tn (s.length - 1)) ≤ 7 * (2 * Tn (s.length - 1)) := Nat.mul_le_mul_right _ (by omega)
      rw [Nat.add_mul, Nat.one_mul] at mul
      refine ⟨rfl, ?_⟩
      refine ⟨_, rfl, b, dx2, _, rfl, hb2, bF_no _ _ _, _, rfl, _, rfl, b, R, h, how, D, kvs', p, s, m, rfl, I2, L.ext (x1.trans x2), hn, hmem, by omega, fun H3 p3 kvs3 x3 I3 k3 w3 => ?_⟩
      have hD3 : H3 D2 = some (.lst (ps.map V.ref)) := x3 _ _ hD2 kp_lst
      have x13 := x2.trans x3
      have xu : Ext H1 (upd H3 D2 (.lst (ps.map V.ref ++ [V.ref p3]))) := x13.upd (New.of nD)
      have eu : ExtI H3 (upd H3 D2 (.lst (ps.map V.ref ++ [V.ref p3]))) := extI_lst hD3
      refine ⟨_, hD3, ?_, xu, kvs3, ps ++ [p3], I3.upd_lst hD3 (I1.house.ext xu), ?_, ?_, ?_, fun j p4 m4 hp4 hm4 => ?_⟩
      · rw [List.length_map]
        exact small (m := 7) (by omega)
      · rw [Nat.add_mul, Nat.one_mul]
        omega
      · rw [List.length_append, hl]
        rfl
      · rw [upd_same, List.map_append]
        rfl
      · by_cases hj : j < ps.length
        · rw [List.getElem?_append_left hj] at hp4
          exact ((hw j p4 m4 hp4 hm4).ext (Ext.toI x3)).ext eu
        · have ej : j = i := by
            have := lt_of_get hp4
            rw [List.length_append, List.length_singleton] at this
            omega
          subst ej
          rw [List.getElem?_append_right (by omega), hl, Nat.sub_self] at hp4
          have e1 : p3 = p4 := Option.some.inj hp4
          have e2 : m = m4 := Option.some.inj (hm.symm.trans hm4)
          subst e1
          subst e2
          exact w3.ext eu
    · rintro H2 ⟨x2, kvs2, ps, I2, hk2, hl, hD2, hw⟩
      rw [nv_length] at hk2 hl
      refine ⟨_, rfl, D2, _, rfl, .inl (SqL.of hD2), rfl, _, rfl, ?_⟩
      have x02 := x1.trans x2
      refine iteP (c := h.tries s = []) (by
        rw [dec_int, List.length_map, hl]
        refine decide_eq_decide.mpr ⟨fun z => List.length_eq_zero_iff.mp (by omega), fun z => by rw [z]; rfl⟩) (fun e0 => ?_) (fun e0 => ?_)
      · have hN : N h how s = none := by
          unfold N
          rw [e0]
          rfl
        refine ⟨rfl, fun H3 p3 dy k s3 n3 hp3 hk3 => ?_⟩
        rw [e0] at hk2
        refine kq H3 p3 kvs2 (x02.trans (Same.ext s3)) (I2.same s3) ?_ (.done hN hp3 hk3 ?_)
        · have : ([] : List Nat).length * (2 * Tn (s.length - 1)) = 0 := Nat.zero_mul _
          omega
        · rw [B_none hN]
          cases how <;> rfl
      · have hpos : 0 < (h.tries s).length := List.length_pos_iff.mpr e0
        refine ⟨_, rfl, D2, _, rfl, hD2, (by rw [List.length_map]; omega), I2.tabs, fun H3 x3 t3 => ?_⟩
        have I3 := I2.extN x3 t3
        have e3 := extN_ext x3
        have way : ∀ (i : Nat) (x : V), (ps.map V.ref)[i]? = some x → ∃ p m, x = V.ref p ∧ (h.tries s)[i]? = some m ∧ WayM CW h how H3 p s m := fun i x hx => by
          rw [List.getElem?_map] at hx
          cases ep : ps[i]? with
          | none =>
            rw [ep] at hx
            cases hx
          | some p4 =>
            rw [ep] at hx
            obtain ⟨m4, hm4⟩ := get_lt (l := h.tries s) (j := i) (by rw [← hl]; exact lt_of_get ep)
            exact ⟨p4, m4, (Option.some.inj hx).symm, hm4, (hw i p4 m4 ep hm4).ext (Ext.toI e3)⟩
        refine ⟨fun i => ((byM h how s ((h.tries s).getD i 0) : Nat) : Int), fun i x H4 hx s4 => ?_, fun x H4 hx s4 => ?_⟩
        · obtain ⟨p4, m4, rfl, hm4, w4⟩ := way i x hx
          have I4 := I3.same s4
          obtain ⟨dx4, hb4⟩ := I4.hd
          obtain ⟨dy, k, pg, pb, a1, a2, h1, h2, h3, _, _⟩ := w4.ext (Ext.toI (Same.ext s4))
          refine ⟨_, rfl, p4, CW, dy, _, _, rfl, h1, W.cW, W.nCosts, wF_costs _ _ _ _, _, rfl, b, CB, dx4, _, _, rfl, hb4, U.cB, U.nKind, bF_kind _ _ _, k, _, _, _, rfl, rfl, SqT.of h2, at_kind how a1 a2, ?_, Same.refl H4⟩
          show V.int ((pr how a1 a2 : Nat) : Int) = V.int ((byM h how s ((h.tries s).getD i 0) : Nat) : Int)
          rw [h3, List.getD_eq_getElem?_getD, hm4]
          rfl
        · rw [List.length_map, hl] at hx
          obtain ⟨m5, h1, h2⟩ := arg_best (f := byM h how s) (l := h.tries s) (bt := fun i j => decide (((byM h how s ((h.tries s).getD i 0) : Nat) : Int) < ((byM h how s ((h.tries s).getD j 0) : Nat) : Int))) (fun i j x y hi hj => by
            rw [List.getD_eq_getElem?_getD, List.getD_eq_getElem?_getD, hi, hj]
            exact decide_eq_decide.mpr Int.ofNat_lt) hpos
          obtain ⟨p5, m6, rfl, hm6, w5⟩ := way _ x hx
          have e5 : m5 = m6 := Option.some.inj (h1.symm.trans hm6)
          subst e5
          have x4 : Ext H3 H4 := Same.ext s4
          obtain ⟨t0, r0, et⟩ : ∃ t r, h.tries s = t :: r := List.exists_cons_of_ne_nil e0
          have hmem : t0 ∈ h.tries s := by
            rw [et]
            exact List.mem_cons_self
          have l1 := tries_lt hmem true
          have l2 := tries_lt hmem false
          have pl := parts_len h s t0
          have t2 := Tn_two (n := s.length) (by omega)
          have mul : (h.tries s).length * (2 * Tn (s.length - 1)) ≤ 7 * (2 * Tn (s.length - 1)) := Nat.mul_le_mul_right _ few
          exact kq H4 p5 kvs2 ((x02.trans e3).trans x4) (I3.same s4) (by omega) ((w5.ext (Ext.toI x4)).best h2)
/-- the best way, whatever is left -/
theorem ok_best {fB fL fG : Addr} {fdB fdL fdG : FuncData} (base0 : ∀ n, FnOk P w K mg base CX0 (3 + 3 * n) fB fdB ["self", "left"] (spBest CH CC CW CB (tabsT PL PH) n) → FnOk P w K mg base CX0 (4 + 3 * n) fG fdG ["self", "c", "left"] (spBegin CH CC CW CB (tabsT PL PH) n))
    (base1 : ∀ n, FnOk P w K mg base CX0 (4 + 3 * n) fG fdG ["self", "c", "left"] (spBegin CH CC CW CB (tabsT PL PH) n) → FnOk P w K mg base CX0 (5 + 3 * n) fL fdL ["self", "left"] (spLeast CH CC CW CB (tabsT PL PH) n))
    (base2 : ∀ n, FnOk P w K mg base CX0 (5 + 3 * n) fL fdL ["self", "left"] (spLeast CH CC CW CB (tabsT PL PH) n) → FnOk P w K mg base CX0 (3 + 3 * (n + 1)) fB fdB ["self", "left"] (spBest CH CC CW CB (tabsT PL PH) (n + 1))) :
    ∀ n, FnOk P w K mg base CX0 (3 + 3 * n) fB fdB ["self", "left"] (spBest CH CC CW CB (tabsT PL PH) n)
  | 0 => by
    have no : ∀ vs H Q E, ¬ spBest CH CC CW CB (tabsT PL PH) 0 vs H Q E := fun vs H Q E h => by
      obtain ⟨b, R, h, how, D, kvs, p, s, _, _, _, z, _⟩ := h
      exact absurd z (Nat.not_lt_zero _)
    exact ⟨fun vs H Q E h => absurd h (no vs H Q E), fun A outer s H args us vs Q E _ _ _ _ h => absurd h (no vs H Q E)⟩
  | n + 1 => base2 n (base1 n (base0 n (ok_best base0 base1 base2 n)))
end
end Fb
/-! best_way, halving_way, way_in_numbers. -/
namespace Fb
open PySem PySem.Spec PyProof.Rows L2
open PySem.W (Codec)
open LamX (Tabs TabS TabB ExtN CodeO)
open NdefX (NScope nscope_by ndef_free ndef_fr)
abbrev sBestWay : Stmt := top 5
abbrev sHalving : Stmt := top 6
abbrev sNumbers : Stmt := top 13
abbrev sIsKind : Stmt := top 25
def spBestWay (CH CC CW : Addr) (T : List (Addr × Str)) : Sp := fun vs H Q _ => ∃ (R : Rep) (h : Rp07.House) (p : Addr) (s : List Nat) (how : Bool), vs = [.ref R.lt, .ref p, .int (kN how : Nat)] ∧ HouseAt CH CC H R h ∧ Tabs T H ∧ LeftAt H h p s ∧
  ∀ (H' : Hp) (p' : Addr), Ext H H' → Tabs T H' → WayB CW h how H' p' s → Q (.ref p') H'
def halfV : Option Nat → V
  | none => .non
  | some m => .int (m : Nat)
def spHalving (CH CC CW : Addr) (T : List (Addr × Str)) (n : Nat) : Sp := fun vs H Q _ => ∃ (R : Rep) (h : Rp07.House) (p : Addr) (s : List Nat), vs = [.ref R.lt, .ref p] ∧ HouseAt CH CC H R h ∧ Tabs T H ∧ LeftAt H h p s ∧ s.length < n ∧
  ∀ (H' : Hp) (p' dx k : Addr) (g b : V), Ext H H' → Tabs T H' → H' p' = some (.ins CW dx (wF (halfV (h.half s)) g b k)) → H' k = some (.tup [.int (Hv h false s : Nat), .int (Hv h true s : Nat)]) → Q (.ref p') H'
def spNumbers (CW : Addr) (n : Nat) : Sp := fun vs H Q _ => ∃ (h : Rp07.House) (how : Bool) (p : Addr) (s : List Nat), vs = [.ref p] ∧ WayB CW h how H p s ∧ s.length < n ∧ s.length ≤ 7 ∧
  ∀ (H' : Hp) (q : Addr), Same H H' → H q = none → H' q = some (.lst (nv (W h how s))) → Q (.ref q) H'
def spIsKind : Sp := fun vs H Q _ => ∃ k : Nat, vs = [.int k] ∧ Q (.bl (decide (k ≤ 1))) H
section
variable {P : Program} {w : World} {K : PySem.W.Frag} {mg : Str → Option Value} {base : Heap} {CH CC CW CB : Addr} {PL PH : Addr}
/-! ### is_kind -/
theorem scIsKind : FnScope ["kind"] ["kind"] (defScope sIsKind) := ⟨rfl, rfl, rfl, by decide +kernel, rfl, by decide +kernel, by decide +kernel⟩
theorem ok_iskind {f : Addr} {fd : FuncData} (F : Fun K "is_kind" "is_kind" sIsKind f fd) (U : TxtW K mg CW) : FnOk P w K mg base CX0 1 f fd ["kind"] spIsKind := by
  refine F.ok scIsKind (fun vs H Q E h => ?_) (fun cdv A outer s H vs Q E hr h => ?_)
  · obtain ⟨k, rfl, _⟩ := h
    rfl
  · obtain ⟨k, rfl, kq⟩ := h
    refine ⟨_, pss_one (ps_ret (pe_or (pe_cmpR op_eq (pv 0) (pe_gi rfl U.kWorst) (nomark _)) (pe_one (pe_cmpR op_eq (pv 0) (pe_gi rfl U.kAver) (nomark _))))), ?_⟩
    refine ⟨_, rfl, rfl, _, rfl, ?_⟩
    refine iteP (c := k = 0) (by rw [dec_int]; exact decide_eq_decide.mpr (by omega)) (fun e => ?_) (fun e => ?_)
    · rw [decide_eq_true (by omega : k ≤ 1)] at kq
      exact kq
    · refine ⟨_, rfl, rfl, ?_⟩
      rw [dec_int, decide_eq_decide.mpr (show (k : Int) = 1 ↔ k ≤ 1 by omega)]
      exact kq
/-! ### best_way -/
theorem scBestWay : FnScope ["changes", "left", "kind"] ["changes", "left", "kind"] (defScope sBestWay) := ⟨rfl, rfl, rfl, by decide +kernel, rfl, by decide +kernel, by decide +kernel⟩
theorem ok_bestway {f fI fB : Addr} {fd fdI fdB : FuncData} (F : Fun K "best_way" "best_way" sBestWay f fd) (U : TxtB K mg CB) (M : Mk K CB fI) (GI : FnOk P w K mg base CX0 1 fI fdI ["self", "changes", "kind"] (spBInit CB)) (bI : Binds K fdI ["self", "changes", "kind"] [])
    (GB : FnOk P w K mg base CX0 27 fB fdB ["self", "left"] (spBest CH CC CW CB (tabsT PL PH) 8)) (bB : Binds K fdB ["self", "left"] []) (mB : Meth K CB "best_of" fB) : FnOk P w K mg base CX0 28 f fd ["changes", "left", "kind"] (spBestWay CH CC CW (tabsT PL PH)) := by
  refine F.ok scBestWay (fun vs H Q E h => ?_) (fun cdv A outer st H vs Q E hr h => ?_)
  · obtain ⟨R, h, p, s, how, rfl, _⟩ := h
    rfl
  · obtain ⟨R, h, p, s, how, rfl, I, tb, L, kq⟩ := h
    have hr2 : Room 2 _ := hr.mono (by decide)
    refine ⟨_, pss_one (ps_ret (pe_meth (pe_make M GI hr2 rfl U.gB bI .nil pass0 (pa_cons (pv 0) (pa_cons (pv 2) pa_nil))) U.cB mB GB hr bB .nil pass0 (pa_cons (pv 1) pa_nil))), ?_⟩
    refine ⟨_, rfl, _, rfl, ?_⟩
    intro x dx nx nd ne
    refine ⟨x, dx, R.lt, how, rfl, upd_same, fun H1 D kp hb hD => ⟨rfl, ?_⟩⟩
    have s1 : Same H H1 := fun b o e => kp b o (by
      rw [upd_ne (ne_of_none e nx), upd_ne (ne_of_none e nd)]
      exact e) (ne_of_none e nx)
    have few := L.few
    refine ⟨x, dx, _, rfl, hb, bF_no _ _ _, _, rfl, x, R, h, how, D, [], p, s, rfl, ⟨⟨dx, hb⟩, hD, fun t v z => (by cases z), I.same s1, tb.ext s1⟩, L.same s1, by omega, ?_, fun H2 p' kvs' x2 I2 _ w2 => kq H2 p' ((Same.ext s1).trans x2) I2.tabs w2⟩
    have := Tn_seven few
    show 0 + _ ≤ _
    omega
/-! ### halving_way -/
theorem scHalving : FnScope ["changes", "left", "telling", "c", "if_good", "if_bad"] ["changes", "left"] (defScope sHalving) := ⟨rfl, rfl, rfl, by decide +kernel, rfl, by decide +kernel, by decide +kernel⟩
theorem ok_halving {n : Nat} {f fT fD fY fA fS cH : Addr} {fd fdT fdD fdY fdA fdS : FuncData} (F : FunC K "halving_way" "halving_way" sHalving f fd cH) (b : Binds K fd ["changes", "left"] []) (kf : PySem.W.keepIn K (.ref f) = true) (gf : mg "halving_way" = some (.ref f)) (T : Txt K mg CH CC) (U : TxtW K mg CW) (TB : TabB base mg cH PH) (ne : PL ≠ PH)
    (G : FnOk P w K mg base CX0 (4 + n) f fd ["changes", "left"] (spHalving CH CC CW (tabsT PL PH) n))
    (GT : FnOk P w K mg base CX0 3 fT fdT ["changes", "left"] (spTelling CH CC)) (bT : Binds K fdT ["changes", "left"] []) (kT : PySem.W.keepIn K (.ref fT) = true) (gT : mg "telling_changes" = some (.ref fT))
    (GD : FnOk P w K mg base CX0 3 fD fdD [] (spDone CW)) (bD : Binds K fdD [] []) (kD : PySem.W.keepIn K (.ref fD) = true) (gD : mg "way_that_is_done" = some (.ref fD))
    (GY : FnOk P w K mg base CX0 3 fY fdY ["changes", "left", "c", "if_good", "if_bad"] (spTries CH CC CW)) (bY : Binds K fdY ["changes", "left", "c", "if_good", "if_bad"] []) (kY : PySem.W.keepIn K (.ref fY) = true) (gY : mg "way_that_tries" = some (.ref fY))
    (GA : FnOk P w K mg base CX0 1 fA fdA ["changes", "left", "c", "is_bad"] (spAfter CH CC)) (bA : Binds K fdA ["changes", "left", "c", "is_bad"] []) (kA : PySem.W.keepIn K (.ref fA) = true) (gA : mg "left_after" = some (.ref fA))
    (GS : FnOk P w K mg base CX0 2 fS fdS ["changes", "left", "c"] (spLesser CH CC)) (bS : Binds K fdS ["changes", "left", "c"] []) (kS : PySem.W.keepIn K (.ref fS) = true) (gS : mg "lesser_part" = some (.ref fS)) :
    FnOk P w K mg base CX0 (4 + (n + 1)) f fd ["changes", "left"] (spHalving CH CC CW (tabsT PL PH) (n + 1)) := by
  refine F.ok (k := 4 + n) scHalving (fun vs H Q E h => ?_) (fun A outer st H vs Q E hr h => ?_)
  · obtain ⟨R, h, p, s, rfl, _⟩ := h
    rfl
  · obtain ⟨R, h, p, s, rfl, I, tb, L, hn, kq⟩ := h
    have hr1 : Room 1 _ := hr.mono (by omega)
    have hr3 : Room 3 _ := hr.mono (by omega)
    have hr4 : Room (2 + 2) _ := hr.mono (by omega)
    refine ⟨_, pss_cons (ps_set (i := 2) scHalving.nd rfl (Or.inl rfl) (pe_call GT hr3 rfl gT kT bT .nil pass0 (pa_cons (pv 0) (pa_cons (pv 1) pa_nil))))
      (pss_cons (ps_if (pt_cmpR op_eq (pe_callB call_len_seq (by rfl) T.len PySem.boot_len (pa_cons (pv 2) pa_nil)) pe_int (nomark _)) (pss_one (ps_ret (pe_call0 GD hr3 rfl gD kD bD .nil pass0))) pss_nil)
      (pss_cons (ps_set (i := 3) scHalving.nd rfl (Or.inl rfl) (pe_bestKey (T := tabsT PL PH) (N := ["one", "changes", "left"]) (fr := ["changes", "left"]) (y := "one") (js := [0, 1]) (k := 2) (lt := fun i j => decide (i > j)) (tb := tCall (spLesser CH CC) [] E0 (tCons (tVar 1) (tCons (tVar 2) (tCons (tVar 0) tNil))))
        (fun _ _ _ _ _ _ _ _ z => call_max_walkK z) gt_cmp (by rfl) U.max boot_max (by decide) (by decide)
        (pa_cons (pv 2) pa_nil) TB rfl (List.mem_cons_of_mem _ List.mem_cons_self) (fun q hq e => ?_) hr4 rfl (nscope_by (by decide +kernel)) (ndef_free (sc := defScope sHalving) (fr := ["changes", "left"]) (by decide +kernel)) (ndef_fr (sc := defScope sHalving) (by decide +kernel)) rfl rfl (fun _ _ _ _ _ _ => rfl)
        (fun _ _ _ _ _ _ hrk => pe_call GS hrk rfl gS kS bS .nil pass0 (pa_cons (pv 1) (pa_cons (pv 2) (pa_cons (pv 0) pa_nil))))))
      (pss_cons (ps_set (i := 4) scHalving.nd rfl (Or.inl rfl) (pe_call G hr rfl gf kf b .nil pass0 (pa_cons (pv 0) (pa_cons (pe_call GA hr1 rfl gA kA bA .nil pass0 (pa_cons (pv 0) (pa_cons (pv 1) (pa_cons (pv 3) (pa_cons pe_bl pa_nil))))) pa_nil))))
      (pss_cons (ps_set (i := 5) scHalving.nd rfl (Or.inl rfl) (pe_call G hr rfl gf kf b .nil pass0 (pa_cons (pv 0) (pa_cons (pe_call GA hr1 rfl gA kA bA .nil pass0 (pa_cons (pv 0) (pa_cons (pv 1) (pa_cons (pv 3) (pa_cons pe_bl pa_nil))))) pa_nil))))
      (pss_one (ps_ret (pe_call GY hr3 rfl gY kY bY .nil pass0 (pa_cons (pv 0) (pa_cons (pv 1) (pa_cons (pv 3) (pa_cons (pv 4) (pa_cons (pv 5) pa_nil)))))))))))), ?_⟩
    · rcases List.mem_cons.mp hq with z | z
      · rw [z] at e
        exact absurd e ne
      · rw [List.mem_singleton.mp z]
        rfl
    refine ⟨_, rfl, _, rfl, R, h, p, s, rfl, I, L, fun H1 q s1 nq hq => ?_⟩
    refine ⟨_, rfl, q, _, rfl, .inl (SqL.of hq), rfl, _, rfl, ?_⟩
    refine iteP (c := h.tries s = []) (by
      rw [dec_int, nv_length]
      refine decide_eq_decide.mpr ⟨fun z => List.length_eq_zero_iff.mp (by omega), fun z => by rw [z]; rfl⟩) (fun e0 => ?_) (fun e0 => ?_)
    · have hN : h.half s = none := by
        unfold Rp07.House.half
        rw [e0]
        rfl
      refine ⟨rfl, fun H3 p3 dy k s3 n3 hp3 hk3 => ?_⟩
      have s13 := s1.trans s3
      refine kq H3 p3 dy k _ _ (Same.ext s13) (tb.ext s13) (by rw [hN]; exact hp3) (by rw [Hv_none hN, Hv_none hN]; exact hk3)
    have hpos : 0 < (h.tries s).length := List.length_pos_iff.mpr e0
    refine ⟨_, rfl, q, _, rfl, hq, (by rw [nv_length]; exact hpos), tb.ext s1, fun H2 x2 t2 => ?_⟩
    have e2 := extN_ext x2
    have x02 := (Same.ext s1).trans e2
    have I2 := I.ext x02
    have L2 := L.ext x02
    refine ⟨fun i => ((lesser h s ((h.tries s).getD i 0) : Nat) : Int), fun i x H3 hx s3 => ?_, fun x H3 hx s3 => ?_⟩
    · obtain ⟨m, hm, rfl⟩ := nv_got hx
      obtain ⟨_, _, _, hlt⟩ := tries_nonempty (List.mem_of_getElem? hm)
      refine ⟨_, rfl, _, rfl, _, rfl, R, h, p, s, m, rfl, I2.same s3, L2.same s3, hlt, fun H4 s4 => ⟨?_, s4⟩⟩
      show V.int ((lesser h s m : Nat) : Int) = V.int ((lesser h s ((h.tries s).getD i 0) : Nat) : Int)
      rw [List.getD_eq_getElem?_getD, hm]
      rfl
    rw [nv_length] at hx
    obtain ⟨m, h1, h2⟩ := arg_best (f := fun m => s.length - lesser h s m) (l := h.tries s) (bt := fun i j => decide (((lesser h s ((h.tries s).getD i 0) : Nat) : Int) > ((lesser h s ((h.tries s).getD j 0) : Nat) : Int))) (fun i j x y hi hj => by
      rw [List.getD_eq_getElem?_getD, List.getD_eq_getElem?_getD, hi, hj]
      refine decide_eq_decide.mpr ⟨fun z => (half_lt h s x y).mpr (by
        have z' : ((lesser h s y : Nat) : Int) < ((lesser h s x : Nat) : Int) := z
        omega), fun z => ?_⟩
      have z' := (half_lt h s x y).mp z
      show ((lesser h s y : Nat) : Int) < ((lesser h s x : Nat) : Int)
      omega) hpos
    have hhalf : h.half s = some m := h2
    obtain ⟨m', hm', rfl⟩ := nv_got hx
    have em : m = m' := Option.some.inj (h1.symm.trans hm')
    subst em
    have hmem := half_mem hhalf
    obtain ⟨_, _, _, hlt⟩ := tries_nonempty hmem
    have l1 := tries_lt hmem false
    have l2 := tries_lt hmem true
    have x03 := x02.trans (Same.ext s3)
    have t3 := t2.ext s3
    have I3 := I.ext x03
    have L3 := L.ext x03
    -- if_good
    refine ⟨_, rfl, _, rfl, _, rfl, _, rfl, R, h, p, s, m, false, rfl, I3, L3, hlt, fun H4 q4 s4 n4 hq4 => ?_⟩
    refine ⟨R, h, q4, _, rfl, I3.same s4, t3.ext s4, L3.part hq4, by omega, fun H5 pg dg kg gg bg x5 t5 hpg hkg => ?_⟩
    have x05 := (x03.trans (Same.ext s4)).trans x5
    have I5 := I.ext x05
    have L5 := L.ext x05
    -- if_bad
    refine ⟨_, rfl, _, rfl, _, rfl, _, rfl, R, h, p, s, m, true, rfl, I5, L5, hlt, fun H6 q6 s6 n6 hq6 => ?_⟩
    refine ⟨R, h, q6, _, rfl, I5.same s6, t5.ext s6, L5.part hq6, by omega, fun H7 pb db kb gb bb x7 t7 hpb hkb => ?_⟩
    have x57 := (Same.ext s6).trans x7
    have x07 := x05.trans x57
    refine ⟨_, rfl, _, rfl, _, rfl, _, rfl, _, rfl, R, h, p, pg, pb, s, m, _, _, _, _, rfl, I.ext x07, L.ext x07, hlt, ⟨dg, _, _, _, kg, x57 _ _ hpg kp_ins, x57 _ _ hkg kp_tup⟩, ⟨db, _, _, _, kb, hpb, hkb⟩, fun H8 p8 dx8 k8 s8 n8 hp8 hk8 => ?_⟩
    exact kq H8 p8 dx8 k8 _ _ (x07.trans (Same.ext s8)) (t7.ext s8) (by rw [hhalf]; exact hp8) (by rw [Hv_some hhalf, Hv_some hhalf]; exact hk8)
theorem ok_halvings {f : Addr} {fd : FuncData} (step : ∀ n, FnOk P w K mg base CX0 (4 + n) f fd ["changes", "left"] (spHalving CH CC CW (tabsT PL PH) n) → FnOk P w K mg base CX0 (4 + (n + 1)) f fd ["changes", "left"] (spHalving CH CC CW (tabsT PL PH) (n + 1))) :
    ∀ n, FnOk P w K mg base CX0 (4 + n) f fd ["changes", "left"] (spHalving CH CC CW (tabsT PL PH) n)
  | 0 => by
    have no : ∀ vs H Q E, ¬ spHalving CH CC CW (tabsT PL PH) 0 vs H Q E := fun vs H Q E h => by
      obtain ⟨R, h, p, s, _, _, _, _, z, _⟩ := h
      exact absurd z (Nat.not_lt_zero _)
    exact ⟨fun vs H Q E h => absurd h (no vs H Q E), fun A outer s H args us vs Q E _ _ _ _ h => absurd h (no vs H Q E)⟩
  | n + 1 => step n (ok_halvings step n)
/-! ### way_in_numbers -/
theorem scNumbers : FnScope ["way"] ["way"] (defScope sNumbers) := ⟨rfl, rfl, rfl, by decide +kernel, rfl, by decide +kernel, by decide +kernel⟩
theorem ok_numbers {n : Nat} {f : Addr} {fd : FuncData} (F : Fun K "way_in_numbers" "way_in_numbers" sNumbers f fd) (b : Binds K fd ["way"] []) (kf : PySem.W.keepIn K (.ref f) = true) (gf : mg "way_in_numbers" = some (.ref f)) (U : TxtW K mg CW)
    (G : FnOk P w K mg base CX0 n f fd ["way"] (spNumbers CW n)) : FnOk P w K mg base CX0 (n + 1) f fd ["way"] (spNumbers CW (n + 1)) := by
  refine F.ok scNumbers (fun vs H Q E h => ?_) (fun cdv A outer st H vs Q E hr h => ?_)
  · obtain ⟨h, how, p, s, rfl, _⟩ := h
    rfl
  · obtain ⟨h, how, p, s, rfl, wy, hn, few, kq⟩ := h
    refine ⟨_, pss_cons (ps_if (pt_cmpR op_isN (pe_fld (pv 0) rfl) pe_non (nomark _)) (pss_one (ps_ret (pe_lst (pa_cons pe_int pa_nil)))) pss_nil)
      (pss_one (ps_ret (pe_op op_cat (pe_op op_cat (pe_lst (pa_cons (pe_op op_add (pe_fld (pv 0) rfl) pe_int) pa_nil)) (pe_call G hr rfl gf kf b .nil pass0 (pa_cons (pe_fld (pv 0) rfl) pa_nil))) (pe_call G hr rfl gf kf b .nil pass0 (pa_cons (pe_fld (pv 0) rfl) pa_nil))))), ?_⟩
    cases wy with
    | done hN hp hk hc =>
      refine ⟨_, rfl, p, CW, _, _, _, rfl, hp, U.cW, U.nTries, wF_tries _ _ _ _, rfl, _, rfl, ?_⟩
      refine iteP (c := True) (decide_eq_decide.mpr ⟨fun _ => trivial, fun _ => rfl⟩) (fun _ => ?_) (fun z => absurd trivial z)
      refine ⟨(by show 1 ≤ sizeLine; decide), fun q nq => ?_⟩
      exact kq _ q (same_upd (Same.refl H) nq) nq (by rw [upd_same, W_none hN]; rfl)
    | tries hN hp hk hc hg hb =>
      rename_i dx k pg pb m x y
      refine ⟨_, rfl, p, CW, _, _, _, rfl, hp, U.cW, U.nTries, wF_tries _ _ _ _, rfl, _, rfl, ?_⟩
      refine iteP (c := False) (decide_eq_decide.mpr ⟨fun z => (by cases z), fun z => z.elim⟩) (fun z => z.elim) (fun _ => ?_)
      have hmem := first_mem hN
      have l1 := tries_lt hmem false
      have l2 := tries_lt hmem true
      refine ⟨_, rfl, p, CW, _, _, _, rfl, hp, U.cW, U.nTries, wF_tries _ _ _ _, _, _, rfl, rfl, (by show 1 ≤ sizeLine; decide), fun q1 n1 => ?_⟩
      have s1 := same_upd (o := .lst [V.int ((m : Int) + 1)]) (Same.refl H) n1
      have w1 := W_small h how (s := h.if_ s m false) (n := 7) (by omega)
      have w2 := W_small h how (s := h.if_ s m true) (n := 7) (by omega)
      refine ⟨_, rfl, p, CW, _, _, _, rfl, s1 _ _ hp, U.cW, U.nGood, wF_good _ _ _ _, h, how, pg, _, rfl, hg.ext (Ext.toI (Same.ext s1)), by omega, by omega, fun H2 q2 s2 n2 hq2 => ?_⟩
      have hq1 := s2 _ _ (upd_same (H := H) (a := q1) (o := .lst [V.int ((m : Int) + 1)]))
      refine ⟨q1, q2, _, _, rfl, rfl, hq1, hq2, ?_, fun q3 n3 => ?_⟩
      · rw [nv_length]
        exact Nat.le_of_lt (small (m := 20) (by show 1 + _ ≤ 20; omega))
      have s12 := s1.trans s2
      have s3 := same_upd (o := .lst ([V.int ((m : Int) + 1)] ++ nv (W h how (h.if_ s m false)))) s12 n3
      refine ⟨_, rfl, p, CW, _, _, _, rfl, s3 _ _ hp, U.cW, U.nBad, wF_bad _ _ _ _, h, how, pb, _, rfl, hb.ext (Ext.toI (Same.ext s3)), by omega, by omega, fun H4 q4 s4 n4 hq4 => ?_⟩
      have hq3 := s4 _ _ (upd_same (H := H2) (a := q3) (o := .lst ([V.int ((m : Int) + 1)] ++ nv (W h how (h.if_ s m false)))))
      refine ⟨q3, q4, _, _, rfl, rfl, hq3, hq4, ?_, fun q5 n5 => ?_⟩
      · rw [List.length_append, nv_length, nv_length]
        exact Nat.le_of_lt (small (m := 40) (by show 1 + _ + _ ≤ 40; omega))
      have s34 := s3.trans s4
      refine kq _ q5 (same_upd s34 n5) (s34.free n5) ?_
      rw [upd_same, W_some hN]
      show _ = some (HO.lst (V.int ((m + 1 : Nat) : Int) :: nv (W h how (h.if_ s m false) ++ W h how (h.if_ s m true))))
      rw [nv_append, Int.natCast_add]
      rfl
theorem ok_numberss {f : Addr} {fd : FuncData} (step : ∀ n, FnOk P w K mg base CX0 n f fd ["way"] (spNumbers CW n) → FnOk P w K mg base CX0 (n + 1) f fd ["way"] (spNumbers CW (n + 1))) : ∀ n, FnOk P w K mg base CX0 n f fd ["way"] (spNumbers CW n)
  | 0 => by
    have no : ∀ vs H Q E, ¬ spNumbers CW 0 vs H Q E := fun vs H Q E h => by
      obtain ⟨h, how, p, s, _, _, z, _⟩ := h
      exact absurd z (Nat.not_lt_zero _)
    exact ⟨fun vs H Q E h => absurd h (no vs H Q E), fun A outer s H args us vs Q E _ _ _ _ h => absurd h (no vs H Q E)⟩
  | n + 1 => step n (ok_numberss step n)
end
end Fb
/-! The calls best, way, half, upon. -/
namespace Fb
open PySem PySem.Spec PyProof.Rows L2
open PySem.W (Codec)
open LamX (Tabs TabS TabB ExtN CodeO)
abbrev sHBest : Stmt := inClass cHouse 5
abbrev sHWay : Stmt := inClass cHouse 6
abbrev sHHalf : Stmt := inClass cHouse 7
abbrev sHUpon : Stmt := inClass cHouse 8
/-! ### a call, where tables may grow -/
def GrowT (H : Hp) (R R' : Rep) : Prop := R'.a = R.a ∧ ∀ b, R'.foot b → R.foot b ∨ New H b
def FrameT (H : Hp) (R : Rep) (H' : Hp) : Prop := ∀ b o, H b = some o → ¬ R.foot b → Kp o → H' b = some o
def CallT (CH CC : Addr) (T : List (Addr × Str)) (H : Hp) (R : Rep) (h : Rp07.House) (c : Rp07.Call) (Q : VK) : Prop :=
  ∀ (H' : Hp) (R' : Rep) (q : Addr), HouseAt CH CC H' R' (Rp07.step h c).1 → GrowT H R R' → FrameT H R H' → Tabs T H' → New H q → H' q = some (.lst (ansV (Rp07.step h c).2)) → Q (.ref q) H'
section
variable {CH CC : Addr} {T : List (Addr × Str)} {H H1 H' : Hp} {R : Rep} {h : Rp07.House} {c : Rp07.Call} {Q : VK}
theorem HouseAt.foot_kind (I : HouseAt CH CC H R h) {b : Addr} (hb : R.foot b) : ∃ o, H b = some o ∧ (∀ ps, o ≠ .tbl ps) ∧ ∀ f, o ≠ .ext f := by
  rcases hb with rfl | rfl | rfl | hb | hb
  · obtain ⟨dx, e⟩ := I.hd
    exact ⟨_, e, fun _ z => (by cases z), fun _ z => (by cases z)⟩
  · exact ⟨_, I.told, fun _ z => (by cases z), fun _ z => (by cases z)⟩
  · exact ⟨_, I.left, fun _ z => (by cases z), fun _ z => (by cases z)⟩
  · obtain ⟨j, hj⟩ := get_of_mem hb
    have hl : j < h.all.length := by rw [← I.alen]; exact lt_of_get hj
    obtain ⟨x, u, dx, hx, hu, ex, eu⟩ := I.chg j _ (List.getElem?_eq_getElem hl)
    have e : x = b := Option.some.inj (hx.symm.trans hj)
    subst e
    exact ⟨_, ex, fun _ z => (by cases z), fun _ z => (by cases z)⟩
  · obtain ⟨j, hj⟩ := get_of_mem hb
    have hl : j < h.all.length := by rw [← I.ulen]; exact lt_of_get hj
    obtain ⟨x, u, dx, hx, hu, ex, eu⟩ := I.chg j _ (List.getElem?_eq_getElem hl)
    have e : u = b := Option.some.inj (hu.symm.trans hj)
    subst e
    exact ⟨_, eu, fun _ z => (by cases z), fun _ z => (by cases z)⟩
theorem tabs_frame (t : Tabs T H) (I : HouseAt CH CC H R h) (f : Frame H R H') : Tabs T H' := fun p hp => by
  obtain ⟨ps, h1, h2, h3⟩ := t p hp
  refine ⟨ps, f _ _ h1 fun z => ?_, h2, fun pos cv hc => ?_⟩
  · obtain ⟨o, e, n, _⟩ := I.foot_kind z
    rw [h1] at e
    exact n ps (Option.some.inj e).symm
  · obtain ⟨c, e1, e2⟩ := h3 pos cv hc
    refine ⟨c, e1, f _ _ e2 fun z => ?_⟩
    obtain ⟨o, e, _, n⟩ := I.foot_kind z
    rw [e2] at e
    exact n _ (Option.some.inj e).symm
theorem CallT.old (k : CallT CH CC T H R h c Q) (I : HouseAt CH CC H R h) (t : Tabs T H) : Call CH CC H R h c Q := fun H' R' q I' g f n hq =>
  k H' R' q I' ⟨g.1, fun b hb => (g.2 b hb).imp id New.of⟩ (fun b o e nb _ => f b o e nb) (tabs_frame t I f) (New.of n) hq
/-- a call that changes nothing of the house -/
theorem answerT {r : Rp07.Ans} (I : HouseAt CH CC H R h) (k : CallT CH CC T H R h c Q) (e : Rp07.step h c = (h, r)) (x : Ext H H1) (t : Tabs T H1) {q : Addr} (n : H1 q = none) : Q (.ref q) (upd H1 q (.lst (ansV r))) := by
  have nq : New H q := x.new (New.of n)
  have xu : Ext H (upd H1 q (.lst (ansV r))) := x.upd nq
  unfold CallT at k
  rw [e] at k
  exact k _ R q (I.ext xu) ⟨rfl, fun _ z => .inl z⟩ (fun b o e _ ko => xu b o e ko) (t.ext (same_upd (Same.refl H1) n)) nq upd_same
end
def spHBest (CH CC : Addr) (T : List (Addr × Str)) : Sp := fun vs H Q _ => ∃ (R : Rep) (h : Rp07.House) (k : Nat), vs = [.ref R.a, .int k] ∧ HouseAt CH CC H R h ∧ Tabs T H ∧ CallT CH CC T H R h (.best k) Q
def spHWay (CH CC : Addr) (T : List (Addr × Str)) : Sp := fun vs H Q _ => ∃ (R : Rep) (h : Rp07.House) (k : Nat), vs = [.ref R.a, .int k] ∧ HouseAt CH CC H R h ∧ Tabs T H ∧ CallT CH CC T H R h (.way k) Q
def spHHalf (CH CC : Addr) (T : List (Addr × Str)) : Sp := fun vs H Q _ => ∃ (R : Rep) (h : Rp07.House), vs = [.ref R.a] ∧ HouseAt CH CC H R h ∧ Tabs T H ∧ CallT CH CC T H R h .half Q
def spHUpon (CH CC : Addr) (T : List (Addr × Str)) : Sp := fun vs H Q _ => ∃ (R : Rep) (h : Rp07.House) (m : Nat), vs = [.ref R.a, .int m] ∧ HouseAt CH CC H R h ∧ Tabs T H ∧ CallT CH CC T H R h (.upon m) Q
theorem kN_of {k : Nat} (e : k ≤ 1) : ∃ how, k = kN how := by
  match k, e with
  | 0, _ => exact ⟨false, rfl⟩
  | 1, _ => exact ⟨true, rfl⟩
theorem kN_is (how : Bool) : (kN how == 1) = how := by cases how <;> rfl
theorem kN_le (how : Bool) : ¬ 1 < kN how := by cases how <;> decide
section
variable {P : Program} {w : World} {K : PySem.W.Frag} {mg : Str → Option Value} {base : Heap} {CH CC CW : Addr} {PL PH : Addr}
/-! ### House.best -/
theorem scHBest : FnScope ["self", "kind", "way"] ["self", "kind"] (defScope sHBest) := ⟨rfl, rfl, rfl, by decide +kernel, rfl, by decide +kernel, by decide +kernel⟩
theorem ok_hbest {f fK fB : Addr} {fd fdK fdB : FuncData} (F : Fun K "best" "House.best" sHBest f fd) (T : Txt K mg CH CC) (U : TxtW K mg CW)
    (GK : FnOk P w K mg base CX0 1 fK fdK ["kind"] spIsKind) (bK : Binds K fdK ["kind"] []) (kK : PySem.W.keepIn K (.ref fK) = true) (gK : mg "is_kind" = some (.ref fK))
    (GB : FnOk P w K mg base CX0 28 fB fdB ["changes", "left", "kind"] (spBestWay CH CC CW (tabsT PL PH))) (bB : Binds K fdB ["changes", "left", "kind"] []) (kB : PySem.W.keepIn K (.ref fB) = true) (gB : mg "best_way" = some (.ref fB)) :
    FnOk P w K mg base CX0 29 f fd ["self", "kind"] (spHBest CH CC (tabsT PL PH)) := by
  refine F.ok scHBest (fun vs H Q E h => ?_) (fun cdv A outer st H vs Q E hr h => ?_)
  · obtain ⟨R, h, k, rfl, _⟩ := h
    rfl
  · obtain ⟨R, h, k, rfl, I, tb, kq⟩ := h
    obtain ⟨dx, ha⟩ := I.hd
    have hr1 : Room 1 _ := hr.mono (by decide)
    refine ⟨_, pss_cons (ps_if (pt_not (pt_val (pe_call GK hr1 rfl gK kK bK .nil pass0 (pa_cons (pv 1) pa_nil)))) (pss_one (ps_ret (pe_lst (pa_cons (pe_gi rfl T.k1) pa_nil)))) pss_nil)
      (pss_cons (ps_set (i := 2) scHBest.nd rfl (Or.inl rfl) (pe_call GB hr rfl gB kB bB .nil pass0 (pa_cons (pe_fld (pv 0) rfl) (pa_cons (pe_fld (pv 0) rfl) (pa_cons (pv 1) pa_nil)))))
      (pss_cons (ps_if (pt_cmpR op_isN (pe_fld (pv 2) rfl) pe_non (nomark _)) (pss_one (ps_ret (pe_lst (pa_cons pe_int pa_nil)))) pss_nil)
      (pss_one (ps_ret (pe_lst (pa_cons pe_int (pa_cons (pe_fld (pv 2) rfl) (pa_cons (pe_ix ix_tup (pe_fld (pv 2) rfl) (pv 1) (fun _ _ => rfl)) pa_nil)))))))), ?_⟩
    refine ⟨_, rfl, k, rfl, _, rfl, ?_⟩
    refine iteP (c := ¬ k ≤ 1) (by rw [decide_not]) (fun e1 => ?_) (fun e1 => ?_)
    · exact ⟨(by show 1 ≤ sizeLine; decide), fun q n => answerT I kq (step_kind (by omega)).1 (Ext.refl H) tb n⟩
    obtain ⟨how, rfl⟩ := kN_of (Classical.not_not.mp e1)
    have est := step_best (h := h) (kN_le how)
    rw [kN_is] at est
    refine ⟨_, rfl, R.a, CH, dx, _, _, rfl, ha, T.cH, T.nTold, hF_told _ _ _, _, rfl, R.a, CH, dx, _, _, rfl, ha, T.cH, T.nLeft, hF_left _ _ _, _, rfl, R, h, R.ll, h.left, how, rfl, I, tb, I.leftAt, fun H1 p x1 t1 w1 => ?_⟩
    cases w1 with
    | done hN hp hk hc =>
      rw [hN] at est
      refine ⟨_, rfl, p, CW, _, _, _, rfl, hp, U.cW, U.nTries, wF_tries _ _ _ _, rfl, _, rfl, ?_⟩
      refine iteP (c := True) (decide_eq_decide.mpr ⟨fun _ => trivial, fun _ => rfl⟩) (fun _ => ?_) (fun z => absurd trivial z)
      exact ⟨(by show 1 ≤ sizeLine; decide), fun q n => answerT I kq est x1 t1 n⟩
    | tries hN hp hk hc hg hb =>
      rw [hN] at est
      refine ⟨_, rfl, p, CW, _, _, _, rfl, hp, U.cW, U.nTries, wF_tries _ _ _ _, rfl, _, rfl, ?_⟩
      refine iteP (c := False) (decide_eq_decide.mpr ⟨fun z => (by cases z), fun z => z.elim⟩) (fun z => z.elim) (fun _ => ?_)
      refine ⟨_, rfl, p, CW, _, _, _, rfl, hp, U.cW, U.nTries, wF_tries _ _ _ _, _, rfl, p, CW, _, _, _, rfl, hp, U.cW, U.nCosts, wF_costs _ _ _ _, _, rfl, _, _, _, _, rfl, rfl, SqT.of hk, at_kind how _ _, ?_⟩
      rw [hc]
      exact ⟨(by show 3 ≤ sizeLine; decide), fun q n => answerT I kq est x1 t1 n⟩
/-! ### House.way -/
theorem scHWay : FnScope ["self", "kind", "way"] ["self", "kind"] (defScope sHWay) := ⟨rfl, rfl, rfl, by decide +kernel, rfl, by decide +kernel, by decide +kernel⟩
theorem ok_hway {f fK fB fN : Addr} {fd fdK fdB fdN : FuncData} (F : Fun K "way" "House.way" sHWay f fd) (T : Txt K mg CH CC) (U : TxtW K mg CW)
    (GK : FnOk P w K mg base CX0 1 fK fdK ["kind"] spIsKind) (bK : Binds K fdK ["kind"] []) (kK : PySem.W.keepIn K (.ref fK) = true) (gK : mg "is_kind" = some (.ref fK))
    (GB : FnOk P w K mg base CX0 28 fB fdB ["changes", "left", "kind"] (spBestWay CH CC CW (tabsT PL PH))) (bB : Binds K fdB ["changes", "left", "kind"] []) (kB : PySem.W.keepIn K (.ref fB) = true) (gB : mg "best_way" = some (.ref fB))
    (GN : FnOk P w K mg base CX0 8 fN fdN ["way"] (spNumbers CW 8)) (bN : Binds K fdN ["way"] []) (kNn : PySem.W.keepIn K (.ref fN) = true) (gN : mg "way_in_numbers" = some (.ref fN)) :
    FnOk P w K mg base CX0 29 f fd ["self", "kind"] (spHWay CH CC (tabsT PL PH)) := by
  refine F.ok scHWay (fun vs H Q E h => ?_) (fun cdv A outer st H vs Q E hr h => ?_)
  · obtain ⟨R, h, k, rfl, _⟩ := h
    rfl
  · obtain ⟨R, h, k, rfl, I, tb, kq⟩ := h
    obtain ⟨dx, ha⟩ := I.hd
    have hr1 : Room 1 _ := hr.mono (by decide)
    have hr8 : Room 8 _ := hr.mono (by decide)
    refine ⟨_, pss_cons (ps_if (pt_not (pt_val (pe_call GK hr1 rfl gK kK bK .nil pass0 (pa_cons (pv 1) pa_nil)))) (pss_one (ps_ret (pe_lst (pa_cons (pe_gi rfl T.k1) pa_nil)))) pss_nil)
      (pss_cons (ps_set (i := 2) scHWay.nd rfl (Or.inl rfl) (pe_call GB hr rfl gB kB bB .nil pass0 (pa_cons (pe_fld (pv 0) rfl) (pa_cons (pe_fld (pv 0) rfl) (pa_cons (pv 1) pa_nil)))))
      (pss_one (ps_ret (pe_op op_cat (pe_lst (pa_cons (pe_ix ix_tup (pe_fld (pv 2) rfl) (pv 1) (fun _ _ => rfl)) pa_nil)) (pe_call GN hr8 rfl gN kNn bN .nil pass0 (pa_cons (pv 2) pa_nil)))))), ?_⟩
    refine ⟨_, rfl, k, rfl, _, rfl, ?_⟩
    refine iteP (c := ¬ k ≤ 1) (by rw [decide_not]) (fun e1 => ?_) (fun e1 => ?_)
    · exact ⟨(by show 1 ≤ sizeLine; decide), fun q n => answerT I kq (step_kind (by omega)).2 (Ext.refl H) tb n⟩
    obtain ⟨how, rfl⟩ := kN_of (Classical.not_not.mp e1)
    have est := step_way (h := h) (kN_le how)
    rw [kN_is] at est
    have few := I.leftAt.few
    refine ⟨_, rfl, R.a, CH, dx, _, _, rfl, ha, T.cH, T.nTold, hF_told _ _ _, _, rfl, R.a, CH, dx, _, _, rfl, ha, T.cH, T.nLeft, hF_left _ _ _, _, rfl, R, h, R.ll, h.left, how, rfl, I, tb, I.leftAt, fun H1 p x1 t1 w1 => ?_⟩
    obtain ⟨a, b, ⟨dy, t, g, bb, k, hp, hk⟩, hc⟩ := w1.cost
    refine ⟨_, rfl, p, CW, dy, _, _, rfl, hp, U.cW, U.nCosts, wF_costs _ _ _ _, _, rfl, k, _, _, _, rfl, rfl, SqT.of hk, at_kind how a b, ?_⟩
    rw [hc]
    refine ⟨(by show 1 ≤ sizeLine; decide), fun q1 n1 => ?_⟩
    have s1 := same_upd (o := .lst [V.int ((B h how h.left : Nat) : Int)]) (Same.refl H1) n1
    refine ⟨_, rfl, h, how, p, h.left, rfl, w1.ext (Ext.toI (Same.ext s1)), by omega, few, fun H2 q2 s2 n2 hq2 => ?_⟩
    have hq1 := s2 _ _ (upd_same (H := H1) (a := q1) (o := .lst [V.int ((B h how h.left : Nat) : Int)]))
    refine ⟨q1, q2, _, _, rfl, rfl, hq1, hq2, ?_, fun q3 n3 => ?_⟩
    · have := W_small h how (s := h.left) (n := 7) few
      rw [nv_length]
      exact Nat.le_of_lt (small (m := 20) (by show 1 + _ ≤ 20; omega))
    have s12 := s1.trans s2
    exact answerT I kq est (x1.trans (Same.ext s12)) (t1.ext s12) n3
/-! ### House.half -/
theorem scHHalf : FnScope ["self", "way"] ["self"] (defScope sHHalf) := ⟨rfl, rfl, rfl, by decide +kernel, rfl, by decide +kernel, by decide +kernel⟩
theorem ok_hhalf {f fB : Addr} {fd fdB : FuncData} (F : Fun K "half" "House.half" sHHalf f fd) (T : Txt K mg CH CC) (U : TxtW K mg CW)
    (GB : FnOk P w K mg base CX0 12 fB fdB ["changes", "left"] (spHalving CH CC CW (tabsT PL PH) 8)) (bB : Binds K fdB ["changes", "left"] []) (kB : PySem.W.keepIn K (.ref fB) = true) (gB : mg "halving_way" = some (.ref fB)) :
    FnOk P w K mg base CX0 13 f fd ["self"] (spHHalf CH CC (tabsT PL PH)) := by
  refine F.ok scHHalf (fun vs H Q E h => ?_) (fun cdv A outer st H vs Q E hr h => ?_)
  · obtain ⟨R, h, rfl, _⟩ := h
    rfl
  · obtain ⟨R, h, rfl, I, tb, kq⟩ := h
    obtain ⟨dx, ha⟩ := I.hd
    refine ⟨_, pss_cons (ps_set (i := 1) scHHalf.nd rfl (Or.inl rfl) (pe_call GB hr rfl gB kB bB .nil pass0 (pa_cons (pe_fld (pv 0) rfl) (pa_cons (pe_fld (pv 0) rfl) pa_nil))))
      (pss_cons (ps_if (pt_cmpR op_isN (pe_fld (pv 1) rfl) pe_non (nomark _)) (pss_one (ps_ret (pe_lst (pa_cons pe_int pa_nil)))) pss_nil)
      (pss_one (ps_ret (pe_lst (pa_cons pe_int (pa_cons (pe_fld (pv 1) rfl) (pa_cons (pe_ix ix_tup (pe_fld (pv 1) rfl) (pe_gi rfl U.kWorst) (fun _ _ => rfl)) (pa_cons (pe_ix ix_tup (pe_fld (pv 1) rfl) (pe_gi rfl U.kAver) (fun _ _ => rfl)) pa_nil)))))))), ?_⟩
    have few := I.leftAt.few
    have est := step_half (h := h)
    refine ⟨_, rfl, R.a, CH, dx, _, _, rfl, ha, T.cH, T.nTold, hF_told _ _ _, _, rfl, R.a, CH, dx, _, _, rfl, ha, T.cH, T.nLeft, hF_left _ _ _, R, h, R.ll, h.left, rfl, I, tb, I.leftAt, by omega, fun H1 p dy k g b x1 t1 hp hk => ?_⟩
    cases hh : h.half h.left with
    | none =>
      rw [hh] at est hp
      refine ⟨_, rfl, p, CW, _, _, _, rfl, hp, U.cW, U.nTries, wF_tries _ _ _ _, rfl, _, rfl, ?_⟩
      refine iteP (c := True) (decide_eq_decide.mpr ⟨fun _ => trivial, fun _ => rfl⟩) (fun _ => ?_) (fun z => absurd trivial z)
      exact ⟨(by show 1 ≤ sizeLine; decide), fun q n => answerT I kq est x1 t1 n⟩
    | some m =>
      rw [hh] at est hp
      refine ⟨_, rfl, p, CW, _, _, _, rfl, hp, U.cW, U.nTries, wF_tries _ _ _ _, rfl, _, rfl, ?_⟩
      refine iteP (c := False) (decide_eq_decide.mpr ⟨fun z => (by cases z), fun z => z.elim⟩) (fun z => z.elim) (fun _ => ?_)
      refine ⟨_, rfl, p, CW, _, _, _, rfl, hp, U.cW, U.nTries, wF_tries _ _ _ _, _, rfl, p, CW, _, _, _, rfl, hp, U.cW, U.nCosts, wF_costs _ _ _ _, _, _, _, _, rfl, rfl, SqT.of hk, at_zero _ _, _, rfl, p, CW, _, _, _, rfl, hp, U.cW, U.nCosts, wF_costs _ _ _ _, _, _, _, _, rfl, rfl, SqT.of hk, at_one _ _, ?_⟩
      exact ⟨(by show 4 ≤ sizeLine; decide), fun q n => answerT I kq est x1 t1 n⟩
/-! ### House.upon -/
theorem scHUpon : FnScope ["self", "c", "made_upon"] ["self", "c"] (defScope sHUpon) := ⟨rfl, rfl, rfl, by decide +kernel, rfl, by decide +kernel, by decide +kernel⟩
theorem ok_hupon {f fI : Addr} {fd fdI : FuncData} (F : Fun K "upon" "House.upon" sHUpon f fd) (T : Txt K mg CH CC) (GI : FnOk P w K mg base CX0 1 fI fdI ["self", "c"] (spIsTold CH CC)) (bI : Binds K fdI ["self", "c"] []) (mI : Meth K CH "is_told" fI) :
    FnOk P w K mg base CX0 2 f fd ["self", "c"] (spHUpon CH CC (tabsT PL PH)) := by
  refine F.ok scHUpon (fun vs H Q E h => ?_) (fun cdv A outer st H vs Q E hr h => ?_)
  · obtain ⟨R, h, m, rfl, _⟩ := h
    rfl
  · obtain ⟨R, h, m, rfl, I, tb, kq⟩ := h
    obtain ⟨dx, ha⟩ := I.hd
    refine ⟨_, pss_cons (ps_if (pt_not (pt_val (pe_meth (pv 0) T.cH mI GI hr bI .nil pass0 (pa_cons (pv 1) pa_nil)))) (pss_one (ps_ret (pe_lst (pa_cons (pe_gi rfl T.k2) pa_nil)))) pss_nil)
      (pss_cons (ps_set (i := 2) scHUpon.nd rfl (Or.inl rfl) (pe_fld (pe_ix ix_list (pe_fld (pv 0) rfl) (pv 1) (fun _ _ => rfl)) rfl))
      (pss_one (ps_ret (pe_op op_cat (pe_lst (pa_cons (pe_callB call_len_seq (by rfl) T.len PySem.boot_len (pa_cons (pv 2) pa_nil)) pa_nil)) (pv 2))))), ?_⟩
    refine ⟨_, rfl, R.a, dx, _, rfl, ha, hF_no _ _ _, _, rfl, R, h, m, rfl, I, _, rfl, ?_⟩
    refine iteP (c := ¬ m < h.all.length) (by rw [decide_not]) (fun e1 => ?_) (fun e1 => ?_)
    · exact ⟨(by show 1 ≤ sizeLine; decide), fun q n => answerT I kq (step_upon2 e1) (Ext.refl H) tb n⟩
    have hm : m < h.all.length := Classical.not_not.mp e1
    obtain ⟨y, u, dy, hat, hy, hu, _, _⟩ := I.change_at hm
    refine ⟨_, rfl, R.a, CH, dx, _, _, rfl, ha, T.cH, T.nTold, hF_told _ _ _, _, rfl, R.lt, _, _, _, rfl, rfl, SqL.of I.told, hat, y, CC, dy, _, _, rfl, hy, T.cC, T.nUpon, cF_upon _ _, ?_⟩
    refine ⟨_, rfl, u, _, rfl, .inl (SqL.of hu), (by show 1 ≤ sizeLine; decide), fun q1 n1 => ?_⟩
    have s1 := same_upd (o := .lst [V.int (((nv (h.at_ m).upon).length : Nat) : Int)]) (Same.refl H) n1
    have up7 : (h.at_ m).upon.length ≤ 7 := I.good.up _ (at_mem hm)
    refine ⟨_, rfl, q1, u, _, _, rfl, rfl, upd_same, s1 _ _ hu, ?_, fun q2 n2 => ?_⟩
    · rw [nv_length]
      exact Nat.le_of_lt (small (m := 8) (by show 1 + _ ≤ 8; omega))
    have e := answerT (q := q2) I kq (step_upon hm) (Same.ext s1) (tb.ext s1) n2
    rw [nv_length] at e ⊢
    exact e
end
end Fb
/-! The list of calls. -/
namespace Fb
open PySem PySem.Spec PyProof.Rows L2
open PySem.W (Codec)
open LamX (Tabs TabS TabB ExtN CodeO)
abbrev sAnswers : Stmt := top 37
abbrev sEnd : Stmt := top 38
abbrev sAnswer : Stmt := top 39
/-! ### the mathematics -/
/-- a call as it stands in the list -/
def flat : List (List Int) → List Int
  | [row] => row
  | [row, ps] => row ++ ((ps.length : Int) :: ps)
  | _ => []
theorem head_flat {p : Int} {r : List Int} {c : List (List Int)} {t : List Int} (h : Head p r c t) : p :: r = flat c ++ t := by
  cases h with
  | c0 => rfl
  | c1 h0 hn =>
    subst hn
    rfl
  | c2 => rfl
  | c3 => rfl
  | c4 => rfl
  | c5 => rfl
  | c6 => rfl
  | c7 => rfl
/-- how many numbers a call has ahead of its row's -/
def callLen (p : Int) : Int := if p = 1 then 5 else if p = 2 then 3 else if p = 4 ∨ p = 5 ∨ p = 7 then 2 else 1
/-- what is asked of a call -/
structure CallOk (c : List (List Int)) : Prop where
  head : ∃ p r t, Head p r c t
  nn : ∀ z ∈ flat c, 0 ≤ z
  few : ∀ row ps, c = [row, ps] → ps.length ≤ 10
theorem whole_head {p : Int} {r : List Int} {c : List (List Int)} {t : List Int} (h : Head p r c t) : PyRp07.whole c = c := by
  cases h <;> rfl
theorem few_of {p : Int} {r : List Int} {c : List (List Int)} {t : List Int} (h : Head p r c t) (b : PyInside.call PyRp07.bound c = true) : ∀ row ps, c = [row, ps] → ps.length ≤ 10 := by
  intro row ps e
  cases h with
  | c1 h0 hn =>
    injection e with e1 e2
    injection e2 with e2 _
    subst e2
    have b2 : PyInside.lists [(0, 4294967295, 0, 10)] _ = true := (Bool.and_eq_true _ _ ▸ b).2
    unfold PyInside.lists at b2
    simp only [Bool.and_eq_true, decide_eq_true_eq] at b2
    exact b2.1.1.2
  | c0 => cases e
  | c2 => cases e
  | c3 => cases e
  | c4 => cases e
  | c5 => cases e
  | c6 => cases e
  | c7 => cases e
/-- where the loop stands: the rest of the list, the house, what has been answered -/
structure Stand (ns : List Int) (start : Nat) (h : Rp07.House) (out : List Int) : Prop where
  le : start ≤ ns.length
  rest : ∃ (f : Nat) (cs : List (List (List Int))), PyFlat.calls PyRp07.shape f (ns.drop start) = some cs ∧ (∀ c ∈ cs, PyInside.call PyRp07.bound c = true) ∧
    PyRp07.answers ns = out ++ PyFlat.told (PyFlat.played Rp07Neutral.step h (cs.map PyRp07.whole))
theorem stand_first {ns : List Int} (a : PyRp07.answers_asked ns = true) : Stand ns 0 Rp07.init [] ∧ (PyRp07.answers ns).length ≤ 10000000 := by
  unfold PyRp07.answers_asked at a
  cases e : PyFlat.calls PyRp07.shape ns.length ns with
  | none =>
    rw [e] at a
    cases a
  | some cs =>
    rw [e] at a
    simp only [Bool.and_eq_true] at a
    obtain ⟨⟨⟨_, a2⟩, _⟩, a3⟩ := a
    refine ⟨⟨Nat.zero_le _, ns.length, cs, e, fun c hc => List.all_eq_true.mp a2 c hc, ?_⟩, of_decide_eq_true a3⟩
    show PyRp07.answers ns = PyFlat.told _
    unfold PyRp07.answers PyRp07.calls
    rw [e]
    rfl
theorem stand_last {ns : List Int} {h : Rp07.House} {out : List Int} {start : Nat} (s : Stand ns start h out) (e : ¬ start < ns.length) : PyRp07.answers ns = out := by
  obtain ⟨f, cs, ec, _, ea⟩ := s.rest
  have ed : ns.drop start = [] := List.drop_eq_nil_of_le (Nat.le_of_not_lt e)
  rw [ed] at ec
  have : cs = [] := by
    cases f <;> cases ec <;> rfl
  subst this
  rw [ea]
  exact List.append_nil _
theorem stand_next {ns : List Int} {h : Rp07.House} {out : List Int} {start : Nat} (nn : ∀ z ∈ ns, 0 ≤ z) (s : Stand ns start h out) (e : start < ns.length) :
    ∃ (p : Int) (r : List Int) (c : List (List Int)) (t : List Int), ns.drop start = p :: r ∧ Head p r c t ∧ CallOk c ∧
      Stand ns (start + (flat c).length) (Rp07Neutral.step h c).1 (out ++ (((Rp07Neutral.step h c).2.length : Int) :: (Rp07Neutral.step h c).2)) ∧
      out.length + ((Rp07Neutral.step h c).2.length + 1) ≤ (PyRp07.answers ns).length := by
  obtain ⟨f, cs, ec, eb, ea⟩ := s.rest
  cases ed : ns.drop start with
  | nil =>
    have : (ns.drop start).length = 0 := by rw [ed]; rfl
    rw [List.length_drop] at this
    omega
  | cons p r =>
    rw [ed] at ec
    obtain ⟨f', c, t, cs', hd, ec', rfl⟩ := calls_cons ec
    have hf := head_flat hd
    have hl : (ns.drop start).length = (flat c).length + t.length := by rw [ed, hf, List.length_append]
    rw [List.length_drop] at hl
    have hdr : ns.drop (start + (flat c).length) = t := by
      rw [← List.drop_drop, ed, hf, List.drop_left]
    have ea2 : PyRp07.answers ns = (out ++ (((Rp07Neutral.step h c).2.length : Int) :: (Rp07Neutral.step h c).2)) ++ PyFlat.told (PyFlat.played Rp07Neutral.step (Rp07Neutral.step h c).1 (cs'.map PyRp07.whole)) := by
      rw [ea, List.map_cons, whole_head hd, List.append_assoc]
      rfl
    refine ⟨p, r, c, t, rfl, hd, ⟨⟨p, r, t, hd⟩, fun z hz => nn z ?_, few_of hd (eb c List.mem_cons_self)⟩, ⟨by omega, f', cs', by rw [hdr]; exact ec', fun c' hc' => eb c' (List.mem_cons_of_mem _ hc'), ea2⟩, ?_⟩
    · refine List.mem_of_mem_drop (i := start) ?_
      rw [ed, hf]
      exact List.mem_append_left _ hz
    · rw [ea2, List.length_append, List.length_append, List.length_cons]
      omega
theorem cut_is {ns : List Int} {start : Nat} {fl t : List Int} (e : ns.drop start = fl ++ t) (hs : start ≤ ns.length) : cutV (ns.map V.int) (some (start : Int)) (some ((start + fl.length : Nat) : Int)) = fl.map V.int := by
  have hl : (ns.drop start).length = fl.length + t.length := by rw [e, List.length_append]
  rw [List.length_drop] at hl
  unfold cutV
  rw [HT.sIx_nat, HT.sIx_nat, List.length_map, Nat.min_eq_left hs, Nat.min_eq_left (by omega), ← List.map_drop, ← List.map_take, e]
  rw [show start + fl.length - start = fl.length by omega, List.take_left]
theorem ansV_out (r : Rp07.Ans) : ansV r = (Rp07Neutral.out r).map V.int := by
  unfold ansV Rp07Neutral.out
  rw [List.map_cons, nv_ints]
/-! ### the promises -/
structure TxtT (K : PySem.W.Frag) (mg : Str → Option Value) : Prop where
  kBegins : GI mg "BEGINS" 0
  kChange : GI mg "CHANGE" 1
  kFound : GI mg "FOUND" 2
  kLeft : GI mg "LEFT" 3
  kBest : GI mg "BEST" 4
  kWay : GI mg "WAY" 5
  kHalf : GI mg "HALF" 6
  gNum : ∃ d, mg "NUMBERS_OF_CALL" = some (.ref d) ∧ ∀ (p : Int) (r : List Int) (c : List (List Int)) (t : List Int), Head p r c t → KDctI K d p (.int (callLen p))
def spEnd (K : PySem.W.Frag) : Sp := fun vs H Q _ => ∃ (a : Addr) (ns : List Int) (start : Nat) (p : Int) (r : List Int) (c : List (List Int)) (t : List Int), vs = [.ref a, .int start] ∧ SqL K H a (ns.map V.int) ∧ ns.drop start = p :: r ∧ Head p r c t ∧
  Q (.int (start + (flat c).length : Nat)) H
def BackT (CH CC : Addr) (T : List (Addr × Str)) (H : Hp) (R : Rep) (h : Rp07.House) (c : List (List Int)) (Q : VK) : Prop :=
  ∀ (H' : Hp) (R' : Rep) (q' : Addr), HouseAt CH CC H' R' (Rp07Neutral.step h c).1 → GrowT H R R' → FrameT H R H' → Tabs T H' → New H q' → H' q' = some (.lst ((Rp07Neutral.step h c).2.map V.int)) → Q (.ref q') H'
def spAnswer (CH CC : Addr) (T : List (Addr × Str)) : Sp := fun vs H Q _ => ∃ (R : Rep) (h : Rp07.House) (q : Addr) (c : List (List Int)), vs = [.ref R.a, .ref q] ∧ HouseAt CH CC H R h ∧ Tabs T H ∧ H q = some (.lst ((flat c).map V.int)) ∧ ¬ R.foot q ∧ CallOk c ∧ BackT CH CC T H R h c Q
def spAnswers (K : PySem.W.Frag) (T : List (Addr × Str)) : Sp := fun vs H Q _ => ∃ (a : Addr) (ns : List Int), vs = [.ref a] ∧ Tabs T H ∧ SqL K H a (ns.map V.int) ∧ ns.length ≤ 900 ∧ (∀ z ∈ ns, 0 ≤ z) ∧ PyRp07.answers_asked ns = true ∧
  ∀ (H' : Hp) (p : Addr), H' p = some (.lst ((PyRp07.answers ns).map V.int)) → Q (.ref p) H'
section
variable {P : Program} {w : World} {K : PySem.W.Frag} {mg : Str → Option Value} {base : Heap} {CH CC : Addr} {TT : List (Addr × Str)}
/-! ### end_of_call -/
theorem scEnd : FnScope ["calls", "start", "end"] ["calls", "start"] (defScope sEnd) := ⟨rfl, rfl, rfl, by decide +kernel, rfl, by decide +kernel, by decide +kernel⟩
theorem item_at {ns : List Int} {start j : Nat} {l : List Int} {z : Int} (e : ns.drop start = l) (hj : l[j]? = some z) : atI (ns.map V.int) ((start + j : Nat) : Int) = some (V.int z) := by
  refine atI_nat ?_
  rw [List.getElem?_map]
  have : ns[start + j]? = some z := by
    rw [← List.getElem?_drop, e]
    exact hj
  rw [this]
  rfl
theorem ok_end {f : Addr} {fd : FuncData} (F : Fun K "end_of_call" "end_of_call" sEnd f fd) (T : TxtT K mg) : FnOk P w K mg base CX0 1 f fd ["calls", "start"] (spEnd K) := by
  obtain ⟨d, gd, hd⟩ := T.gNum
  refine F.ok scEnd (fun vs H Q E h => ?_) (fun cdv A outer s H vs Q E hr h => ?_)
  · obtain ⟨a, ns, start, p, r, c, t, rfl, _⟩ := h
    rfl
  · obtain ⟨a, ns, start, p, r, c, t, rfl, hS, ed, hh, kq⟩ := h
    refine ⟨_, pss_cons (ps_set (i := 2) scEnd.nd rfl (Or.inl rfl) (pe_op op_add (pv 1) (pe_ix ix_kdictI (pe_glob (v := .ref d) rfl gd rfl) (pe_ix ix_list (pv 0) (pv 1) (fun _ _ => rfl)) (fun _ _ => rfl))))
      (pss_cons (ps_if (pt_cmpR op_eq (pe_ix ix_list (pv 0) (pv 1) (fun _ _ => rfl)) (pe_gi rfl T.kChange) (nomark _)) (pss_one (ps_ret (pe_op op_add (pv 2) (pe_ix ix_list (pv 0) (pe_op op_sub (pv 2) pe_int) (fun _ _ => rfl))))) pss_nil)
      (pss_one (ps_ret (pv 2)))), ?_⟩
    have h0 : atI (ns.map V.int) ((start : Nat) : Int) = some (V.int p) := item_at (j := 0) ed rfl
    refine ⟨_, rfl, _, rfl, _, rfl, a, _, _, _, rfl, rfl, hS, h0, d, p, _, rfl, rfl, hd p r c t hh, _, _, rfl, rfl, ?_⟩
    refine ⟨_, rfl, _, rfl, a, _, _, _, rfl, rfl, hS, h0, rfl, _, rfl, ?_⟩
    refine iteP (c := p = 1) (dec_int p 1) (fun e1 => ?_) (fun e1 => ?_)
    · subst e1
      cases hh with
      | c1 hn0 hn =>
        rename_i x y z n ps
        subst hn
        have h4 : atI (ns.map V.int) ((start + 4 : Nat) : Int) = some (V.int (ps.length : Int)) := item_at (j := 4) ed rfl
        have e5 : (start : Int) + callLen 1 - 1 = ((start + 4 : Nat) : Int) := by
          show (start : Int) + 5 - 1 = _
          omega
        refine ⟨_, rfl, _, rfl, _, rfl, _, _, rfl, rfl, a, _, _, _, rfl, rfl, hS, (by rw [e5]; exact h4), _, _, rfl, rfl, ?_⟩
        have e6 : (start : Int) + callLen 1 + (ps.length : Int) = ((start + (flat [[1, x, y, z], ps]).length : Nat) : Int) := by
          have el : (flat [[1, x, y, z], ps]).length = ps.length + 5 := rfl
          rw [el]
          show (start : Int) + 5 + (ps.length : Int) = _
          omega
        rw [← e6] at kq
        exact kq
    · refine ⟨_, rfl, ?_⟩
      have e6 : (start : Int) + callLen p = ((start + (flat c).length : Nat) : Int) := by
        cases hh with
        | c1 => exact absurd rfl e1
        | c0 => rfl
        | c2 => rfl
        | c3 => rfl
        | c4 => rfl
        | c5 => rfl
        | c6 => rfl
        | c7 => rfl
      rw [← e6] at kq
      exact kq
/-! ### answers -/
theorem scAnswers : FnScope ["calls", "house", "answered", "start", "end", "answer"] ["calls"] (defScope sAnswers) := ⟨rfl, rfl, rfl, by decide +kernel, rfl, by decide +kernel, by decide +kernel⟩
theorem ok_answers {k : Nat} {f fI fE fA : Addr} {fd fdI fdE fdA : FuncData} (F : Fun K "answers" "answers" sAnswers f fd) (T : Txt K mg CH CC) (M : Mk K CH fI) (GI : FnOk P w K mg base CX0 1 fI fdI ["self"] (spHInit CH CC)) (bI : Binds K fdI ["self"] [])
    (GE : FnOk P w K mg base CX0 1 fE fdE ["calls", "start"] (spEnd K)) (bE : Binds K fdE ["calls", "start"] []) (kE : PySem.W.keepIn K (.ref fE) = true) (gE : mg "end_of_call" = some (.ref fE))
    (GA : FnOk P w K mg base CX0 (k + 2) fA fdA ["house", "call"] (spAnswer CH CC TT)) (bA : Binds K fdA ["house", "call"] []) (kA : PySem.W.keepIn K (.ref fA) = true) (gA : mg "answer_of_call" = some (.ref fA)) : FnOk P w K mg base CX0 (k + 3) f fd ["calls"] (spAnswers K TT) := by
  refine F.ok scAnswers (fun vs H Q E h => ?_) (fun cdv A outer s H vs Q E hr h => ?_)
  · obtain ⟨a, ns, rfl, _⟩ := h
    rfl
  · obtain ⟨a, ns, rfl, tb, hS, hlen, nn, asked, kq⟩ := h
    have hr1 : Room 1 _ := hr.mono (by omega)
    have hr2 : Room 2 _ := hr.mono (by omega)
    refine ⟨_, pss_cons (ps_set (i := 1) scAnswers.nd rfl (Or.inl rfl) (pe_make0 M GI hr2 rfl T.gH bI .nil pass0))
      (pss_cons (ps_set (i := 2) scAnswers.nd rfl (Or.inl rfl) (pe_lst pa_nil))
      (pss_cons (ps_set (i := 3) scAnswers.nd rfl (Or.inl rfl) pe_int)
      (pss_cons (ps_while PassesOwn.never (pt_cmpR op_lt (pv 3) (pe_callB call_len_seq (by rfl) T.len PySem.boot_len (pa_cons (pv 0) pa_nil)) (nomark _))
        (pss_cons (ps_set (i := 4) scAnswers.nd rfl (Or.inl rfl) (pe_call GE hr1 rfl gE kE bE .nil pass0 (pa_cons (pv 0) (pa_cons (pv 3) pa_nil))))
        (pss_cons (ps_set (i := 5) scAnswers.nd rfl (Or.inl rfl) (pe_call GA hr rfl gA kA bA .nil pass0 (pa_cons (pv 1) (pa_cons (pe_slice sl_list (pv 0) (po_some (pv 3)) (po_some (pv 4))) pa_nil))))
        (pss_cons (ps_expr (pe_bm PySem.F.plainAttrs_list PySem.F.slot_list_append PySem.F.type_list_append mt_append (pv 2) (pa_cons (pe_callB call_len_seq (by rfl) T.len PySem.boot_len (pa_cons (pv 5) pa_nil)) pa_nil)))
        (pss_cons (ps_expr (pe_bm PySem.F.plainAttrs_list PySem.F.slot_list_extend PySem.F.type_list_extend mt_extend (pv 2) (pa_cons (pv 5) pa_nil)))
        (pss_one (ps_set (i := 3) scAnswers.nd rfl (Or.inl rfl) (pv 4))))))))
      (pss_one (ps_ret (pv 2)))))), ?_⟩
    obtain ⟨st0, total⟩ := stand_first asked
    intro x dx nx ndx nex
    refine ⟨x, dx, rfl, upd_same, fun H1 R ea I1 fr1 k1 => ⟨rfl, ?_⟩⟩
    have s1 : Same H H1 := Same.made nx ndx k1
    have new1 : ∀ b, R.foot b → H b = Option.none := fun b hb => by
      rcases fr1 b hb with rfl | e
      · exact nx
      · by_cases h1 : b = x
        · rw [h1]
          exact nx
        · rw [upd_ne h1] at e
          by_cases h2 : b = dx
          · rw [h2]
            exact ndx
          · rw [upd_ne h2] at e
            exact e
    refine ⟨Nat.zero_le _, fun l nl => ?_⟩
    have nlH : H l = Option.none := s1.free nl
    have s2 := same_upd (o := .lst []) s1 nl
    -- the loop
    refine while_by (fun σ H' => ∃ (R' : Rep) (h : Rp07.House) (out : List Int) (start : Nat) (v4 v5 : Option V), σ = [some (.ref a), some (.ref x), some (.ref l), some (.int start), v4, v5] ∧ R'.a = x ∧ Ext H H' ∧ Tabs TT H' ∧ HouseAt CH CC H' R' h ∧ (∀ b, R'.foot b → New H b) ∧
      ¬ R'.foot l ∧ H' l = some (.lst (out.map V.int)) ∧ Stand ns start h out) (fun (σ : L2.St) _ => match (σ[3]? : Option (Option V)) with | some (some (V.int i)) => ns.length - i.toNat | _ => 0) ?_ ?_ ?_
    · refine ⟨R, _, [], 0, none, none, rfl, ea, Same.ext s2, tb.ext s2, I1.same (same_upd (Same.refl _) nl), fun b hb => New.of (new1 b hb), I1.not_new nl, upd_same, st0⟩
    · rintro σ H' ⟨R', h, out, start, v4, v5, rfl, ea', s', tb', I', new', nfl, hl, st⟩
      refine ⟨_, rfl, _, rfl, a, _, rfl, .inl (s'.seq hS), _, _, rfl, rfl, _, rfl, ?_⟩
      refine iteP (c := start < ns.length) (by rw [List.length_map]; exact decide_eq_decide.mpr Int.ofNat_lt) (fun lt => ?_) (fun lt => ?_)
      · obtain ⟨p, r, c, t, edr, hh, cok, st2, big⟩ := stand_next nn st lt
        have hf := head_flat hh
        -- end = end_of_call(calls, start)
        refine ⟨_, rfl, _, rfl, a, ns, start, p, r, c, t, rfl, s'.seq hS, edr, hh, ?_⟩
        -- answer = answer_of_call(house, calls[start:end])
        refine ⟨_, rfl, _, rfl, _, rfl, _, rfl, _, rfl, _, rfl, a, _, rfl, s'.seq hS, fun q nq => ?_⟩
        rw [cut_is (by rw [edr]; exact hf) (Nat.le_of_lt lt)]
        have sq := same_upd (o := .lst ((flat c).map V.int)) (Same.refl H') nq
        refine ⟨R', h, q, c, (by rw [ea']; rfl), I'.same sq, tb'.ext sq, upd_same, I'.not_new nq, cok, fun H2 R2 q2 I2 gr fr tb2 nq2 hq2 => ?_⟩
        have nlq : l ≠ q := ne_of_none hl nq
        have hl2 : H2 l = some (.lst (out.map V.int)) := fr _ _ ((upd_ne nlq).trans hl) nfl kp_lst
        have nl2 : l ≠ q2 := nq2.ne (sq _ _ hl) kp_lst
        have sH2 : Ext H H2 := fun b o e ko => fr b o (sq _ _ (s' _ _ e ko)) (fun z => new' b z o e ko) ko
        have new2 : ∀ b, R2.foot b → New H b := fun b hb => by
          rcases gr.2 b hb with z | z
          · exact new' b z
          · exact (s'.trans (Same.ext sq)).new z
        have nfl2 : ¬ R2.foot l := fun z => by
          rcases gr.2 l z with z | z
          · exact nfl z
          · exact z _ (sq _ _ hl) kp_lst
        -- answered.append(len(answer))
        have small1 : (out.map V.int).length < sizeLine := by
          rw [List.length_map]
          exact small (m := 10000000) (by omega)
        refine ⟨_, rfl, .inl ⟨rfl, _, SqL.of hl2⟩, _, rfl, q2, _, rfl, .inl (SqL.of hq2), l, _, _, rfl, rfl, hl2, small1, ?_⟩
        -- answered.extend(answer)
        refine ⟨_, rfl, .inl ⟨rfl, _, SqL.of upd_same⟩, _, rfl, l, q2, _, _, rfl, rfl, upd_same, (upd_ne nl2.symm).trans hq2, ?_, ?_⟩
        · rw [List.length_append, List.length_map, List.length_map]
          exact Nat.le_of_lt (small (m := 10000000) (by show out.length + 1 + _ ≤ _; omega))
        rw [upd_upd]
        -- start = end
        refine ⟨_, rfl, ⟨R2, _, _, start + (flat c).length, _, _, rfl, gr.1.trans ea', sH2.upd (New.of nlH), tabs_lst tb2 hl2, I2.keep fun b o hb e => ?_, new2, nfl2, ?_, st2⟩, ?_⟩
        · rw [upd_ne (fun z => nfl2 (by rw [← z]; exact hb))]
          exact e
        · rw [upd_same, List.length_map, List.map_append, List.append_assoc]
          rfl
        · show ns.length - ((start + (flat c).length : Nat) : Int).toNat < ns.length - ((start : Nat) : Int).toNat
          have : 1 ≤ (flat c).length := by
            cases hh <;> exact Nat.succ_le_succ (Nat.zero_le _)
          rw [Int.toNat_natCast, Int.toNat_natCast]
          omega
      · refine ⟨_, rfl, kq _ l ?_⟩
        rw [stand_last st lt]
        exact hl
    · intro σ H' Q1 Q2 hq hc
      obtain ⟨v, e, u, e2, p, ys, e3, hs, i, j, e4, e5, b, e6, q⟩ := hc
      exact ⟨v, e, u, e2, p, ys, e3, hs, i, j, e4, e5, b, e6, hq _ _ q⟩
end
end Fb
/-! answer_of_call. -/
namespace Fb
open PySem PySem.Spec PyProof.Rows L2
open PySem.W (Codec)
open LamX (Tabs TabS TabB ExtN CodeO)
theorem nats_nv : ∀ {l : List Int}, (∀ z ∈ l, 0 ≤ z) → l.map V.int = nv (Rp07Neutral.nats l)
  | [], _ => rfl
  | z :: l, h => by
    have e : V.int z = V.int ((z.toNat : Nat) : Int) := by rw [Int.toNat_of_nonneg (h z List.mem_cons_self)]
    show V.int z :: l.map V.int = V.int ((z.toNat : Nat) : Int) :: nv (Rp07Neutral.nats l)
    rw [← e, nats_nv fun y hy => h y (List.mem_cons_of_mem _ hy)]
theorem nat_v {z : Int} (h : 0 ≤ z) : V.int z = V.int ((z.toNat : Nat) : Int) := by rw [Int.toNat_of_nonneg h]
theorem BackT.call {CH CC : Addr} {T : List (Addr × Str)} {H H1 : Hp} {R : Rep} {h : Rp07.House} {c : List (List Int)} {x : Rp07.Call} {Q : VK} (k : BackT CH CC T H R h c Q) (e : Rp07Neutral.callOf c = some x) (s : Same H H1) : CallT CH CC T H1 R h x Q := by
  intro H' R' q I g f t n hq
  have es : Rp07Neutral.step h c = ((Rp07.step h x).1, Rp07Neutral.out (Rp07.step h x).2) := by
    unfold Rp07Neutral.step
    rw [e]
  unfold BackT at k
  rw [es] at k
  refine k H' R' q I ⟨g.1, fun b hb => ?_⟩ (fun b o e nb ko => f b o (s _ _ e) nb ko) t ((Same.ext s).new n) (by rw [← ansV_out]; exact hq)
  rcases g.2 b hb with z | z
  · exact .inl z
  · exact .inr ((Same.ext s).new z)
section
variable {P : Program} {w : World} {K : PySem.W.Frag} {mg : Str → Option Value} {base : Heap} {CH CC : Addr} {TT : List (Addr × Str)}
theorem scAnswer : FnScope ["house", "call"] ["house", "call"] (defScope sAnswer) := ⟨rfl, rfl, rfl, by decide +kernel, rfl, by decide +kernel, by decide +kernel⟩
theorem ok_answer {f fB fC fF fL fE fY fV fU : Addr} {fd fdB fdC fdF fdL fdE fdY fdV fdU : FuncData} (F : Fun K "answer_of_call" "answer_of_call" sAnswer f fd) (T : Txt K mg CH CC) (U : TxtT K mg)
    (GB : FnOk P w K mg base CX0 1 fB fdB ["self"] (spBegins CH CC)) (bB : Binds K fdB ["self"] []) (mB : Meth K CH "begins" fB)
    (GC : FnOk P w K mg base CX0 3 fC fdC ["self", "cost", "weight", "tried", "parents"] (spChange CH CC)) (bC : Binds K fdC ["self", "cost", "weight", "tried", "parents"] []) (mC : Meth K CH "change" fC)
    (GF : FnOk P w K mg base CX0 2 fF fdF ["self", "c", "bad"] (spFound CH CC)) (bF : Binds K fdF ["self", "c", "bad"] []) (mF : Meth K CH "found" fF)
    (GL : FnOk P w K mg base CX0 2 fL fdL ["self"] (spLeft CH CC)) (bL : Binds K fdL ["self"] []) (mL : Meth K CH "left" fL)
    (GE : FnOk P w K mg base CX0 29 fE fdE ["self", "kind"] (spHBest CH CC TT)) (bE : Binds K fdE ["self", "kind"] []) (mE : Meth K CH "best" fE)
    (GY : FnOk P w K mg base CX0 29 fY fdY ["self", "kind"] (spHWay CH CC TT)) (bY : Binds K fdY ["self", "kind"] []) (mY : Meth K CH "way" fY)
    (GV : FnOk P w K mg base CX0 13 fV fdV ["self"] (spHHalf CH CC TT)) (bV : Binds K fdV ["self"] []) (mV : Meth K CH "half" fV)
    (GU : FnOk P w K mg base CX0 2 fU fdU ["self", "c"] (spHUpon CH CC TT)) (bU : Binds K fdU ["self", "c"] []) (mU : Meth K CH "upon" fU) : FnOk P w K mg base CX0 30 f fd ["house", "call"] (spAnswer CH CC TT) := by
  refine F.ok scAnswer (fun vs H Q E h => ?_) (fun cdv A outer s H vs Q E hr h => ?_)
  · obtain ⟨R, h, q, c, rfl, _⟩ := h
    rfl
  · obtain ⟨R, h, q, c, rfl, I, tb, hq, nf, cok, kq⟩ := h
    obtain ⟨dx, ha⟩ := I.hd
    have hr1 : Room 1 _ := hr.mono (by decide)
    have hr2 : Room 2 _ := hr.mono (by decide)
    have hr3 : Room 3 _ := hr.mono (by decide)
    have hr13 : Room 13 _ := hr.mono (by decide)
    refine ⟨_, pss_cons (ps_if (pt_cmpR op_eq (pe_ix ix_list (pv 1) pe_int (fun _ _ => rfl)) (pe_gi rfl U.kBegins) (nomark _)) (pss_one (ps_ret (pe_meth0 (pv 0) T.cH mB GB hr1 bB .nil pass0))) pss_nil)
      (pss_cons (ps_if (pt_cmpR op_eq (pe_ix ix_list (pv 1) pe_int (fun _ _ => rfl)) (pe_gi rfl U.kChange) (nomark _)) (pss_one (ps_ret (pe_meth (pv 0) T.cH mC GC hr3 bC .nil pass0 (pa_cons (pe_ix ix_list (pv 1) pe_int (fun _ _ => rfl))
        (pa_cons (pe_ix ix_list (pv 1) pe_int (fun _ _ => rfl)) (pa_cons (pe_ix ix_list (pv 1) pe_int (fun _ _ => rfl)) (pa_cons (pe_slice sl_list (pv 1) (po_some pe_int) po_none) pa_nil))))))) pss_nil)
      (pss_cons (ps_if (pt_cmpR op_eq (pe_ix ix_list (pv 1) pe_int (fun _ _ => rfl)) (pe_gi rfl U.kFound) (nomark _)) (pss_one (ps_ret (pe_meth (pv 0) T.cH mF GF hr2 bF .nil pass0 (pa_cons (pe_ix ix_list (pv 1) pe_int (fun _ _ => rfl)) (pa_cons (pe_ix ix_list (pv 1) pe_int (fun _ _ => rfl)) pa_nil))))) pss_nil)
      (pss_cons (ps_if (pt_cmpR op_eq (pe_ix ix_list (pv 1) pe_int (fun _ _ => rfl)) (pe_gi rfl U.kLeft) (nomark _)) (pss_one (ps_ret (pe_meth0 (pv 0) T.cH mL GL hr2 bL .nil pass0))) pss_nil)
      (pss_cons (ps_if (pt_cmpR op_eq (pe_ix ix_list (pv 1) pe_int (fun _ _ => rfl)) (pe_gi rfl U.kBest) (nomark _)) (pss_one (ps_ret (pe_meth (pv 0) T.cH mE GE hr bE .nil pass0 (pa_cons (pe_ix ix_list (pv 1) pe_int (fun _ _ => rfl)) pa_nil)))) pss_nil)
      (pss_cons (ps_if (pt_cmpR op_eq (pe_ix ix_list (pv 1) pe_int (fun _ _ => rfl)) (pe_gi rfl U.kWay) (nomark _)) (pss_one (ps_ret (pe_meth (pv 0) T.cH mY GY hr bY .nil pass0 (pa_cons (pe_ix ix_list (pv 1) pe_int (fun _ _ => rfl)) pa_nil)))) pss_nil)
      (pss_cons (ps_if (pt_cmpR op_eq (pe_ix ix_list (pv 1) pe_int (fun _ _ => rfl)) (pe_gi rfl U.kHalf) (nomark _)) (pss_one (ps_ret (pe_meth0 (pv 0) T.cH mV GV hr13 bV .nil pass0))) pss_nil)
      (pss_one (ps_ret (pe_meth (pv 0) T.cH mU GU hr2 bU .nil pass0 (pa_cons (pe_ix ix_list (pv 1) pe_int (fun _ _ => rfl)) pa_nil)))))))))), ?_⟩
    obtain ⟨p, r, t, hh⟩ := cok.head
    have hf := head_flat hh
    have at_ : ∀ (j : Nat) (z : Int), (flat c)[j]? = some z → atI ((flat c).map V.int) (j : Int) = some (V.int z) := fun j z e => atI_nat (by rw [List.getElem?_map, e]; rfl)
    have h0 : atI ((flat c).map V.int) ((0 : Nat) : Int) = some (V.int p) := at_ 0 p (by cases hh <;> rfl)
    refine ⟨_, rfl, q, _, _, _, rfl, rfl, SqL.of hq, h0, rfl, _, rfl, ?_⟩
    refine iteP (c := p = 0) (dec_int p 0) (fun e0 => ?_) (fun e0 => ?_)
    · subst e0
      cases hh
      exact ⟨_, rfl, R.a, dx, _, rfl, ha, hF_no _ _ _, R, h, rfl, I, (kq.call rfl (Same.refl H)).old I tb⟩
    refine ⟨_, rfl, q, _, _, _, rfl, rfl, SqL.of hq, h0, rfl, _, rfl, ?_⟩
    refine iteP (c := p = 1) (dec_int p 1) (fun e1 => ?_) (fun e1 => ?_)
    · subst e1
      cases hh with
      | c1 hn0 hn =>
        rename_i x y z n ps
        have nn := cok.nn
        have ex : 0 ≤ x := nn x (List.mem_cons_of_mem _ List.mem_cons_self)
        have ey : 0 ≤ y := nn y (List.mem_cons_of_mem _ (List.mem_cons_of_mem _ List.mem_cons_self))
        have ez : 0 ≤ z := nn z (List.mem_cons_of_mem _ (List.mem_cons_of_mem _ (List.mem_cons_of_mem _ List.mem_cons_self)))
        have ep : ∀ v ∈ ps, 0 ≤ v := fun v hv => nn v (List.mem_append_right [1, x, y, z] (List.mem_cons_of_mem _ hv))
        have ecut : cutV ((flat [[1, x, y, z], ps]).map V.int) (some ((5 : Nat) : Int)) none = nv (Rp07Neutral.nats ps) := by
          have el : ((flat [[1, x, y, z], ps]).map V.int).length = ps.length + 5 := List.length_map _
          unfold cutV
          rw [HT.sIx_nat, HT.sIx_none, el, Nat.min_eq_left (by omega), ← nats_nv ep]
          show List.take _ (ps.map V.int) = _
          exact List.take_of_length_le (by rw [List.length_map]; omega)
        refine ⟨_, rfl, R.a, dx, _, rfl, ha, hF_no _ _ _, _, rfl, q, _, _, _, rfl, rfl, SqL.of hq, at_ 1 x rfl, _, rfl, q, _, _, _, rfl, rfl, SqL.of hq, at_ 2 y rfl, _, rfl, q, _, _, _, rfl, rfl, SqL.of hq, at_ 3 z rfl,
          _, rfl, _, rfl, q, _, rfl, SqL.of hq, fun u nu => ?_⟩
        have su := same_upd (o := .lst (cutV ((flat [[1, x, y, z], ps]).map V.int) (some ((5 : Nat) : Int)) none)) (Same.refl H) nu
        refine ⟨R, h, x.toNat, y.toNat, z.toNat, u, Rp07Neutral.nats ps, ?_, I.same su, ?_, I.not_new nu, ?_, (kq.call rfl su).old (I.same su) (tb.ext su)⟩
        · rw [← nat_v ex, ← nat_v ey, ← nat_v ez]
          rfl
        · rw [← ecut]
          exact upd_same
        · unfold Rp07Neutral.nats
          rw [List.length_map]
          exact cok.few _ _ rfl
    refine ⟨_, rfl, q, _, _, _, rfl, rfl, SqL.of hq, h0, rfl, _, rfl, ?_⟩
    refine iteP (c := p = 2) (dec_int p 2) (fun e2 => ?_) (fun e2 => ?_)
    · subst e2
      cases hh with
      | c2 =>
        rename_i x y
        have nn := cok.nn
        have ex : 0 ≤ x := nn x (List.mem_cons_of_mem _ List.mem_cons_self)
        have ey : 0 ≤ y := nn y (List.mem_cons_of_mem _ (List.mem_cons_of_mem _ List.mem_cons_self))
        refine ⟨_, rfl, R.a, dx, _, rfl, ha, hF_no _ _ _, _, rfl, q, _, _, _, rfl, rfl, SqL.of hq, at_ 1 x rfl, _, rfl, q, _, _, _, rfl, rfl, SqL.of hq, at_ 2 y rfl, R, h, x.toNat, y.toNat, ?_, I, (kq.call rfl (Same.refl H)).old I tb⟩
        rw [← nat_v ex, ← nat_v ey]
        rfl
    refine ⟨_, rfl, q, _, _, _, rfl, rfl, SqL.of hq, h0, rfl, _, rfl, ?_⟩
    refine iteP (c := p = 3) (dec_int p 3) (fun e3 => ?_) (fun e3 => ?_)
    · subst e3
      cases hh
      exact ⟨_, rfl, R.a, dx, _, rfl, ha, hF_no _ _ _, R, h, rfl, I, (kq.call rfl (Same.refl H)).old I tb⟩
    refine ⟨_, rfl, q, _, _, _, rfl, rfl, SqL.of hq, h0, rfl, _, rfl, ?_⟩
    refine iteP (c := p = 4) (dec_int p 4) (fun e4 => ?_) (fun e4 => ?_)
    · subst e4
      cases hh with
      | c4 =>
        rename_i x
        have ex : 0 ≤ x := cok.nn x (List.mem_cons_of_mem _ List.mem_cons_self)
        refine ⟨_, rfl, R.a, dx, _, rfl, ha, hF_no _ _ _, _, rfl, q, _, _, _, rfl, rfl, SqL.of hq, at_ 1 x rfl, R, h, x.toNat, ?_, I, tb, kq.call rfl (Same.refl H)⟩
        rw [← nat_v ex]
        rfl
    refine ⟨_, rfl, q, _, _, _, rfl, rfl, SqL.of hq, h0, rfl, _, rfl, ?_⟩
    refine iteP (c := p = 5) (dec_int p 5) (fun e5 => ?_) (fun e5 => ?_)
    · subst e5
      cases hh with
      | c5 =>
        rename_i x
        have ex : 0 ≤ x := cok.nn x (List.mem_cons_of_mem _ List.mem_cons_self)
        refine ⟨_, rfl, R.a, dx, _, rfl, ha, hF_no _ _ _, _, rfl, q, _, _, _, rfl, rfl, SqL.of hq, at_ 1 x rfl, R, h, x.toNat, ?_, I, tb, kq.call rfl (Same.refl H)⟩
        rw [← nat_v ex]
        rfl
    refine ⟨_, rfl, q, _, _, _, rfl, rfl, SqL.of hq, h0, rfl, _, rfl, ?_⟩
    refine iteP (c := p = 6) (dec_int p 6) (fun e6 => ?_) (fun e6 => ?_)
    · subst e6
      cases hh
      exact ⟨_, rfl, R.a, dx, _, rfl, ha, hF_no _ _ _, R, h, rfl, I, tb, kq.call rfl (Same.refl H)⟩
    have e7 : p = 7 := by cases hh <;> first | rfl | exact absurd rfl e0 | exact absurd rfl e1 | exact absurd rfl e2 | exact absurd rfl e3 | exact absurd rfl e4 | exact absurd rfl e5 | exact absurd rfl e6
    subst e7
    cases hh with
    | c7 =>
      rename_i x
      have ex : 0 ≤ x := cok.nn x (List.mem_cons_of_mem _ List.mem_cons_self)
      refine ⟨_, rfl, R.a, dx, _, rfl, ha, hF_no _ _ _, _, rfl, q, _, _, _, rfl, rfl, SqL.of hq, at_ 1 x rfl, R, h, x.toNat, ?_, I, tb, kq.call rfl (Same.refl H)⟩
      rw [← nat_v ex]
      rfl
end
end Fb
/-! The end of a Spec row whose defs make lambdas: the tables of code objects are told with the heap. -/
namespace Fb
open PySem PySem.Spec PyProof.Rows L2
open PySem.W (WData Codec OpenSpec Well WellAll ReadsW ReadsAllW)
open LamX (TabB)
/-- what a list of tables is: empty, not of the written part, each of its code object -/
structure TabsOk (K : PySem.W.Frag) (h : Heap) (cs : List (Addr × Addr)) : Prop where
  emp : ∀ p ∈ cs, h.get? p.2 = some { cls := .none, data := .fields #[] }
  off : ∀ p ∈ cs, K.lookup p.2 = none
  code : ∀ p ∈ cs, PySem.W.CodeHd h p.1 p.2
/-- the module of built-ins, as the top left it -/
def BMain (mg : Str → Option Value) (h : Heap) : Prop := ∃ (bm : Addr) (ob : Obj), mg "__builtins__" = some (.ref bm) ∧ bm ≠ builtinsNs ∧ h.get? bm = some ob ∧ ob.cls = .type "module" ∧ ob.dict = some builtinsNs ∧ ob.data = .plain
def withT (cs : List (Addr × Addr)) (H : Hp) : Hp := fun b => if b ∈ cs.map (·.2) then some (.tbl #[]) else H b
section
variable {P : Program} {w : World} {K : PySem.W.Frag} {mg mb : Str → Option Value} {k : Nat} {fa : Addr} {fd : FuncData} {ps : List Str} {sp : Sp} {s : Shared} {vals : List Value} {ds : List WData} {R : PySem.W.WRecords} {cl : Str → Option Addr} {dd : WData} {cs : List (Addr × Addr)}
theorem spec_tab (KX : K.In s.heap) (hns : s.heap.Ns mainGlobals mg) (hb : s.heap.Ns builtinsNs mb) (hbb : ∀ x : Str, x ≠ "__name__" → mb x = bootBuiltins x) (hlim : s.heap.NoLimit) (hg : s.gens = #[]) (T : TabsOk K s.heap cs) (hbm : BMain mg s.heap)
    (hwl : WellAll w.params s.heap vals ds) (hpl : plWs ds = true) (hwt : ∀ d ∈ ds, d.weight ≤ 1048576) (hr : Room k callerA)
    (F : ∀ base : Heap, K.In base → base.Ns mainGlobals mg → (∀ p ∈ cs, TabB base mg p.1 p.2) → FnOk P w K mg base CX0 k fa fd ps sp) (hbind : ∀ (s : Shared) (us : List Value), us.length = ps.length → BindsTo s fd ⟨us, []⟩ (ps.zip us)) (hlen : ds.length = ps.length)
    (hsp : ∀ (G H : Hp) (xs : List V), Same G H → (∀ p ∈ cs, H p.2 = some (.tbl #[])) → DwAll K G xs ds → sp xs H (fun v H' => Dw K H' v dd) fun _ _ _ => False) :
    codeAny (model P w) callerA (.call (.ref fa) ⟨vals, []⟩) (fun r s' => ∃ u as, r = .ok (.ret u) ∧ ReadsW R cl s'.heap u dd as ∧ OldK s.heap s'.heap ∧ s'.os = s.os ∧ AllBare s'.gens) s := by
  obtain ⟨A, ho, ar⟩ := area_all ds vals hwl hpl hwt
  have only0 : OnlyF (argH K s.heap A) := argH_only ar
  have ok0 : HOk P w (argH K s.heap A) s.heap := argH_ok ar
  have dw0 := dw_all KX ar ds vals hwl hpl ho
  have rv := vals_toV ho
  have is0 : ∀ b u, argH K s.heap A b = some u → K.lookup b = none ∧ ∃ (o : Obj) (vs : List Value) (n : Nat), s.heap.get? b = some o ∧ o.data = .seq vs.toArray n := fun b u q => by
    obtain ⟨z, vs, _, _, e⟩ := argH_is ar q
    rcases e with ⟨e, _⟩ | ⟨e, _⟩ <;> exact ⟨z, _, vs, _, e, rfl⟩
  generalize argH K s.heap A = G at only0 ok0 dw0 is0
  have tabAt : ∀ b : Addr, b ∈ cs.map (·.2) → s.heap.get? b = some { cls := .none, data := .fields #[] } := fun b q => by
    obtain ⟨p, hp, e⟩ := List.mem_map.mp q
    rw [← e]
    exact T.emp p hp
  have inT : ∀ p ∈ cs, p.2 ∈ cs.map (·.2) := fun p hp => List.mem_map.mpr ⟨p, hp, rfl⟩
  have sm : Same G (withT cs G) := fun b u q => by
    refine (if_neg fun z => ?_).trans q
    obtain ⟨_, o, vs, n, e, d⟩ := is0 b u q
    rw [tabAt b z] at e
    cases e
    cases d
  have atT : ∀ p ∈ cs, withT cs G p.2 = some (.tbl #[]) := fun p hp => if_pos (inT p hp)
  have cases_ : ∀ b u, withT cs G b = some u → (b ∈ cs.map (·.2) ∧ u = .tbl #[]) ∨ G b = some u := fun b u q => by
    unfold withT at q
    split at q
    · rename_i z
      exact .inl ⟨z, (Option.some.inj q).symm⟩
    · exact .inr q
  have hok : HOk P w (withT cs G) s.heap := fun b u q => by
    rcases cases_ b u q with ⟨z, e⟩ | z
    · rw [e]
      exact tabAt b z
    · exact (ok0 b u z).stay (fun _ _ _ e => e) (fun _ e => sm _ _ e) fun _ _ e => sm _ _ e
  have free : ∀ {b : Addr} {o : Obj}, s.heap.get? b = some o → (∀ vs n, o.data ≠ .seq vs n) → o.data ≠ .fields #[] → withT cs G b = none := fun {b o} e h1 h2 => by
    cases q : withT cs G b with
    | none => rfl
    | some u =>
      rcases cases_ b u q with ⟨z, _⟩ | z
      · rw [tabAt b z] at e
        cases e
        exact absurd rfl h2
      · obtain ⟨_, o', vs, n, e', d⟩ := is0 b u z
        rw [e'] at e
        cases e
        exact absurd d (h1 _ _)
  have low : ∀ {b : Addr} {o : Obj}, s.heap.get? b = some o → (∀ vs n, o.data ≠ .seq vs n) → o.data ≠ .fields #[] → (hidT s.heap (withT cs G)).get? b = some o := fun e h1 h2 => hidT_get e (free e h1 h2)
  have nsK : ∀ {b : Addr} {m : Str → Option Value}, s.heap.Ns b m → (hidT s.heap (withT cs G)).Ns b m := fun {b m} ⟨o, es, ep, e, d, r⟩ => by
    refine ⟨o, es, ep, low e (fun vs n z => ?_) (fun z => ?_), d, r⟩
    · rw [d] at z
      cases z
    · rw [d] at z
      cases z
  have hKb : K.In (hidT s.heap (withT cs G)) := fun b o e => hidT_get (KX b o e) (by
    cases q : withT cs G b with
    | none => rfl
    | some u =>
      rcases cases_ b u q with ⟨z, _⟩ | z
      · obtain ⟨p, hp, ep⟩ := List.mem_map.mp z
        rw [← ep, T.off p hp] at e
        cases e
      · rw [(is0 b u z).1] at e
        cases e)
  have hM : Mod K mg (hidT s.heap (withT cs G)) := by
    obtain ⟨mc, l1, l2⟩ := hlim
    exact ⟨hKb, nsK hns, ⟨mb, nsK hb, hbb⟩, mc, nsK l1, l2⟩
  have TB : ∀ p ∈ cs, TabB (hidT s.heap (withT cs G)) mg p.1 p.2 := fun p hp => by
    have ep := T.emp p hp
    refine ⟨?_, ?_, fun z => ?_⟩
    · obtain ⟨o, us, file, tf, flags, tg, inF, text, tt, e1, r1, r2, r3, rest⟩ := T.code p hp
      refine ⟨o, us, file, tf, flags, tg, inF, text, tt, low e1 (fun vs n z => ?_) (fun z => ?_), r1, r2, r3, rest⟩
      · rw [r2] at z
        cases z
      · rw [r2] at z
        cases z
        simp at r3
    · obtain ⟨bm, ob, b1, b2, b3, b4, b5, b6⟩ := hbm
      refine ⟨bm, ob, b1, b2, fun q => ?_, fun q => ?_, low b3 (fun vs n z => ?_) (fun z => ?_), b4, b5, b6⟩
      · obtain ⟨o, es, ep', e, hd, _⟩ := hns
        rw [q, e] at b3
        cases b3
        rw [hd] at b6
        cases b6
      · rw [q, ep] at b3
        cases b3
        cases b6
      · rw [b6] at z
        cases z
      · rw [b6] at z
        cases z
    · obtain ⟨o, es, ep', e, hd, _⟩ := hns
      rw [z, ep] at e
      cases e
      cases hd
  have nil : ∀ b : Addr, b ∉ frs ([] : List Env) := fun b z => by cases z
  have e0 : Env0 P w K mg (hidT s.heap (withT cs G)) callerA [] s (withT cs G) := ⟨rfl, hM, fun b o e => of_hidT e, Nat.le_of_eq (hidT_size _ _), trivial, fun b z => absurd z (nil b), hok, .of_eq hg⟩
  have hl : vals.length = ps.length := (wellAll_len hwl).trans hlen
  refine codeAny_mono ((F _ hKb (nsK hns) TB).run callerA [] s (withT cs G) ⟨vals, []⟩ vals (vals.map toV) _ _ hr e0 (hbind s vals hl) rv (hsp G _ _ sm atT dw0)) fun r s' x => ?_
  cases r with
  | error e => exact (show False from x).elim
  | ok fl =>
    cases fl with
    | next => exact False.elim x
    | brk => exact False.elim x
    | cont => exact False.elim x
    | ret u =>
      obtain ⟨v, H', os, bare, un, hok', r', q⟩ := x
      have kept : ∀ b o, b ∉ cs.map (·.2) → s.heap.get? b = some o → s'.heap.get? b = some o := fun b o nb e => by
        cases q2 : withT cs G b with
        | none => exact un.keep b o e q2 (nil b) (by simp)
        | some u2 =>
          rcases cases_ b u2 q2 with ⟨z, _⟩ | z
          · exact absurd z nb
          · rcases only0 b with z2 | ⟨ob, u3, z2⟩
            · rw [z] at z2
              cases z2
            · have w2 := un.frzs b ob _ (sm _ _ z2)
              obtain ⟨e1, _⟩ := ok0 b _ z2
              obtain ⟨e2, _⟩ := hok' b _ w2
              rw [e] at e1
              cases e1
              exact e2
      have grown : ∀ p ∈ cs, ∃ more : Array Value, s'.heap.get? p.2 = some { cls := .none, data := .fields more } := fun p hp => by
        obtain ⟨more, z⟩ := un.tbls p.2 #[] (atT p hp)
        exact ⟨_, hok' p.2 _ z⟩
      have KX' : K.In s'.heap := fun b o e => kept b o (fun z => by
        obtain ⟨p, hp, ep⟩ := List.mem_map.mp z
        rw [← ep, T.off p hp] at e
        cases e) (KX b o e)
      obtain ⟨as, hrd⟩ := Dw.reads (R := R) (cl := cl) hok' KX' dd v u q r'
      refine ⟨u, as, rfl, hrd, ⟨fun b o e => ?_, fun b o e => ?_⟩, os, bare⟩
      · by_cases nb : b ∈ cs.map (·.2)
        · obtain ⟨p, hp, ep⟩ := List.mem_map.mp nb
          obtain ⟨more, hm⟩ := grown p hp
          subst ep
          rw [T.emp p hp] at e
          cases e
          exact .inr (.inl ⟨((T.code p hp).tab (T.emp p hp)).isCodeTable, rfl, #[], more, rfl, by rw [Array.empty_append]; exact hm⟩)
        · exact .inl (kept b o nb e)
      · by_cases nb : b ∈ cs.map (·.2)
        · obtain ⟨p, hp, ep⟩ := List.mem_map.mp nb
          obtain ⟨more, hm⟩ := grown p hp
          subst ep
          exact ⟨_, hm⟩
        · exact ⟨o, kept b o nb e⟩
end
/-- the goal that the head leaves, from the promise of the row's def, with tables -/
theorem walk_tab {r : OpenSpec} {k : Nat} {q : Program} {loose : List Str} {XP : (Str → Option Value) → Heap → Prop} {YP : World → Heap → Prop} {d : DefRec} {K : Params → PySem.W.Frag} {ps : List Str} {sp : World → Sp} {cs : List (Addr × Addr)}
    (hwell : r.wellSaid = true) (hdf : d.params.defaults = []) (hlen : r.args.length = ps.length) (hr : Room k callerA) (hY : ∀ (w : World) (h : Heap), YP w h → (K w.params).In h) (hT : ∀ (w : World) (h : Heap), YP w h → TabsOk (K w.params) h cs)
    (F : ∀ (w : World) (mg : Str → Option Value) (fa : Addr) (h : Heap), YP w h → (K w.params).In h → h.Ns mainGlobals mg → mg d.name = some (.ref fa) →
      ∃ fd : FuncData, (∀ (s : Shared) (us : List Value), us.length = ps.length → BindsTo s fd ⟨us, []⟩ (ps.zip us)) ∧
        ∀ base : Heap, (K w.params).In base → base.Ns mainGlobals mg → (∀ p ∈ cs, TabB base mg p.1 p.2) → FnOk r.prog w (K w.params) mg base CX0 k fa fd ps (sp w))
    (hsp : ∀ (w : World) (G H : Hp) (xs : List V) (a : Codec.denoteAll r.args), Same G H → (∀ p ∈ cs, H p.2 = some (.tbl #[])) → Codec.withinAll r.args a = true → Codec.app r.args r.asked a = true → DwAll (K w.params) G xs (Codec.encAll r.args a) →
      sp w xs H (fun v H' => Dw (K w.params) H' v (r.ret.enc (Codec.app r.args r.f a))) fun _ _ _ => False) :
    PySem.W.WalkOS q loose XP YP r d [] (fun f vs => PySem.call f vs) := by
  intro w s₀ s₁ mg mb G Y fa o pm cd doc dV kV ho hd hcd hD hmg hg args vals as hpre hlay hrd hwl hlo
  obtain ⟨a, e1, e2⟩ := PySem.W.os_pre_some hpre
  obtain ⟨e3, hwi⟩ := Codec.encAll_of_decAll r.args args a e1
  subst e3
  obtain ⟨fd, hb, hF⟩ := F w mg fa _ Y (hY w _ Y) G.T.g hmg
  have hl : (Codec.encAll r.args a).length = ps.length := (encAll_len _ _).trans hlen
  refine PySem.W.enter_call (codeAny_mono (spec_tab (R := []) (cl := classAt s₀.heap) (dd := r.ret.enc (Codec.app r.args r.f a)) (hY w _ Y) G.T.g G.T.b G.T.builtins G.T.nolimit hg (hT w _ Y) G.T.bmain hwl (pl_encAll _ _) (layable_weight hlay) hr hF hb hl
    fun G H xs sm tb dw => hsp w G H xs a sm tb hwi e2 dw) fun r' s' hq => ?_)
  obtain ⟨u, as', rfl, h1, h2, h3, h4⟩ := hq
  exact ⟨.inl ⟨u, _, as', rfl, fun _ => rfl, h1, (OpenSpec.post_iff hwell hwi _ _).mpr rfl, fun z => Bool.noConfusion (show false = true from z)⟩, h2, h3, h4⟩
/-- the same where the promise hangs on the written part alone -/
theorem walk_tabK {r : OpenSpec} {k : Nat} {q : Program} {loose : List Str} {XP : (Str → Option Value) → Heap → Prop} {YP : World → Heap → Prop} {d : DefRec} {K : Params → PySem.W.Frag} {ps : List Str} {sp : PySem.W.Frag → Sp} {cs : List (Addr × Addr)}
    (hwell : r.wellSaid = true) (hdf : d.params.defaults = []) (hlen : r.args.length = ps.length) (hr : Room k callerA) (hY : ∀ (w : World) (h : Heap), YP w h → (K w.params).In h) (hT : ∀ (w : World) (h : Heap), YP w h → TabsOk (K w.params) h cs)
    (F : ∀ (w : World) (mg : Str → Option Value) (fa : Addr) (h : Heap), YP w h → (K w.params).In h → h.Ns mainGlobals mg → mg d.name = some (.ref fa) →
      ∃ fd : FuncData, (∀ (s : Shared) (us : List Value), us.length = ps.length → BindsTo s fd ⟨us, []⟩ (ps.zip us)) ∧
        ∀ base : Heap, (K w.params).In base → base.Ns mainGlobals mg → (∀ p ∈ cs, TabB base mg p.1 p.2) → FnOk r.prog w (K w.params) mg base CX0 k fa fd ps (sp (K w.params)))
    (hsp : ∀ (K : PySem.W.Frag) (G H : Hp) (xs : List V) (a : Codec.denoteAll r.args), Same G H → (∀ p ∈ cs, H p.2 = some (.tbl #[])) → Codec.withinAll r.args a = true → Codec.app r.args r.asked a = true → DwAll K G xs (Codec.encAll r.args a) →
      sp K xs H (fun v H' => Dw K H' v (r.ret.enc (Codec.app r.args r.f a))) fun _ _ _ => False) :
    PySem.W.WalkOS q loose XP YP r d [] (fun f vs => PySem.call f vs) :=
  walk_tab (K := K) (sp := fun w => sp (K w.params)) hwell hdf hlen hr hY hT F fun w G H xs a h1 h2 h3 h4 h5 => hsp (K w.params) G H xs a h1 h2 h3 h4 h5
theorem TabsOk.two {K : PySem.W.Frag} {h : Heap} {c1 p1 c2 p2 : Addr} (KX : K.In h) (e1 : h.get? p1 = some { cls := .none, data := .fields #[] }) (e2 : h.get? p2 = some { cls := .none, data := .fields #[] }) (o1 : K.lookup p1 = none) (o2 : K.lookup p2 = none)
    (k1 : PySem.W.codeHdIn K c1 p1 = true) (k2 : PySem.W.codeHdIn K c2 p2 = true) : TabsOk K h [(c1, p1), (c2, p2)] := by
  refine ⟨fun p hp => ?_, fun p hp => ?_, fun p hp => ?_⟩
  · rcases List.mem_cons.mp hp with rfl | hp
    · exact e1
    · rw [List.mem_singleton.mp hp]
      exact e2
  · rcases List.mem_cons.mp hp with rfl | hp
    · exact o1
    · rw [List.mem_singleton.mp hp]
      exact o2
  · rcases List.mem_cons.mp hp with rfl | hp
    · exact PySem.W.codeHd_of_K KX k1
    · rw [List.mem_singleton.mp hp]
      exact PySem.W.codeHd_of_K KX k2
end Fb
/-! What the top has written, and the row's head. -/
namespace Fb
open PySem PySem.Spec PyProof.Rows L2
open PySem.W (Codec)
open LamX (TabB)
theorem all_mk {P : Program} {w : World} {K : PySem.W.Frag} {h : Heap} {mg : Str → Option Value} {fa CH CC CW CB fR fCI fHI fB fC fF fL fX fT fU fS fA fWt fWI fDn fTr fTl fLs fBI fBo fLc fBg fBw fHv fNm fKd fHb fHw fHh fHu fE fW fZ d0 xL xH PL PH : Addr} (X : K.In h) (G : h.Ns mainGlobals mg) (hfa : mg "answers" = some (.ref fa))
    {odR anR odCI anCI odHI anHI odB anB odC anC odF anF odL anL odX anX odT anT odU anU odS anS odA anA odWt anWt odWI anWI odDn anDn odTr anTr odTl anTl odLs anLs odBI anBI odBo anBo odLc anLc odBg anBg odBw anBw odHv anHv odNm anNm odKd anKd odHb anHb odHw anHw odHh anHh odHu anHu odE anE odW anW odZ anZ : Option Addr} {slR slCI slHI slB slC slF slL slX slT slU slS slA slWt slWI slDn slTr slTl slLs slBI slBo slLc slBg slBw slHv slNm slKd slHb slHw slHh slHu slE slW slZ : Array (Option Value)} {ocR kVR dcR pmR cdR ctR ocCI kVCI dcCI pmCI cdCI ctCI ocHI kVHI dcHI pmHI cdHI ctHI ocB kVB dcB pmB cdB ctB ocC kVC dcC pmC cdC ctC ocF kVF dcF pmF cdF ctF ocL kVL dcL pmL cdL ctL ocX kVX dcX pmX cdX ctX ocT kVT dcT pmT cdT ctT ocU kVU dcU pmU cdU ctU ocS kVS dcS pmS cdS ctS ocA kVA dcA pmA cdA ctA ocWt kVWt dcWt pmWt cdWt ctWt ocWI kVWI dcWI pmWI cdWI ctWI ocDn kVDn dcDn pmDn cdDn ctDn ocTr kVTr dcTr pmTr cdTr ctTr ocTl kVTl dcTl pmTl cdTl ctTl ocLs kVLs dcLs pmLs cdLs ctLs ocBI kVBI dcBI pmBI cdBI ctBI ocBo kVBo dcBo pmBo cdBo ctBo ocLc kVLc dcLc pmLc ctLc ocBg kVBg dcBg pmBg cdBg ctBg ocBw kVBw dcBw pmBw cdBw ctBw ocHv kVHv dcHv pmHv ctHv ocNm kVNm dcNm pmNm cdNm ctNm ocKd kVKd dcKd pmKd cdKd ctKd ocHb kVHb dcHb pmHb cdHb ctHb ocHw kVHw dcHw pmHw cdHw ctHw ocHh kVHh dcHh pmHh cdHh ctHh ocHu kVHu dcHu pmHu cdHu ctHu ocE kVE dcE pmE cdE ctE ocW kVW dcW pmW cdW ctW ocZ kVZ dcZ pmZ cdZ ctZ : Value} {t_MOST_CHANGES t_LARGEST_COST t_LARGEST_WEIGHT t_NOT_IN_RANGE t_NO_SUCH_CHANGE t_SOMETHING_FOUND t_CANNOT_BE_TRIED t_NONE_WOULD_BE_LEFT t_NO_MORE_ROOM t_BEGINS t_CHANGE t_FOUND t_LEFT t_BEST t_WAY t_HALF t_AT_WORST t_ON_THE_AVERAGE td0_0 td0_1 td0_2 td0_3 td0_4 td0_5 td0_6 td0_7 : Tok} {es0 : List DictEntry} {n0 : Nat}
    (gCH : PySem.W.nsIn K mainGlobals "House" = some (some (.ref CH)))
    (gCC : PySem.W.nsIn K mainGlobals "Change" = some (some (.ref CC)))
    (gCW : PySem.W.nsIn K mainGlobals "Way" = some (some (.ref CW)))
    (gCB : PySem.W.nsIn K mainGlobals "BestWays" = some (some (.ref CB)))
    (aR : PySem.W.nsIn K mainGlobals "numbers_in_range" = some (some (.ref fR)))
    (lR : K.lookup fR = some ⟨ocR, odR, .func (PySem.W.fnOf "numbers_in_range" "numbers_in_range" (defArgs sRange) (defBody sRange) (defScope sRange) .none kVR dcR pmR anR cdR ctR), slR⟩)
    (cR : PySem.W.codeIn K cdR "numbers_in_range" = true)
    (kR : PySem.W.keepIn K (.ref fR) = true)
    (aCI : PySem.W.findIn K (.ref CC) "__init__" = some (some (.ref fCI)))
    (iCI : PySem.W.isFn K (.ref fCI) = true)
    (lCI : K.lookup fCI = some ⟨ocCI, odCI, .func (PySem.W.fnOf "__init__" "Change.__init__" (defArgs sCInit) (defBody sCInit) (defScope sCInit) .none kVCI dcCI pmCI anCI cdCI ctCI), slCI⟩)
    (cCI : PySem.W.codeIn K cdCI "Change.__init__" = true)
    (kCI : PySem.W.keepIn K (.ref fCI) = true)
    (aHI : PySem.W.findIn K (.ref CH) "__init__" = some (some (.ref fHI)))
    (iHI : PySem.W.isFn K (.ref fHI) = true)
    (lHI : K.lookup fHI = some ⟨ocHI, odHI, .func (PySem.W.fnOf "__init__" "House.__init__" (defArgs sHInit) (defBody sHInit) (defScope sHInit) .none kVHI dcHI pmHI anHI cdHI ctHI), slHI⟩)
    (cHI : PySem.W.codeIn K cdHI "House.__init__" = true)
    (kHI : PySem.W.keepIn K (.ref fHI) = true)
    (aB : PySem.W.findIn K (.ref CH) "begins" = some (some (.ref fB)))
    (iB : PySem.W.isFn K (.ref fB) = true)
    (lB : K.lookup fB = some ⟨ocB, odB, .func (PySem.W.fnOf "begins" "House.begins" (defArgs sBegins) (defBody sBegins) (defScope sBegins) .none kVB dcB pmB anB cdB ctB), slB⟩)
    (cB : PySem.W.codeIn K cdB "House.begins" = true)
    (kB : PySem.W.keepIn K (.ref fB) = true)
    (aC : PySem.W.findIn K (.ref CH) "change" = some (some (.ref fC)))
    (iC : PySem.W.isFn K (.ref fC) = true)
    (lC : K.lookup fC = some ⟨ocC, odC, .func (PySem.W.fnOf "change" "House.change" (defArgs sChange) (defBody sChange) (defScope sChange) .none kVC dcC pmC anC cdC ctC), slC⟩)
    (cC : PySem.W.codeIn K cdC "House.change" = true)
    (kC : PySem.W.keepIn K (.ref fC) = true)
    (aF : PySem.W.findIn K (.ref CH) "found" = some (some (.ref fF)))
    (iF : PySem.W.isFn K (.ref fF) = true)
    (lF : K.lookup fF = some ⟨ocF, odF, .func (PySem.W.fnOf "found" "House.found" (defArgs sFound) (defBody sFound) (defScope sFound) .none kVF dcF pmF anF cdF ctF), slF⟩)
    (cF : PySem.W.codeIn K cdF "House.found" = true)
    (kF : PySem.W.keepIn K (.ref fF) = true)
    (aL : PySem.W.findIn K (.ref CH) "left" = some (some (.ref fL)))
    (iL : PySem.W.isFn K (.ref fL) = true)
    (lL : K.lookup fL = some ⟨ocL, odL, .func (PySem.W.fnOf "left" "House.left" (defArgs sLeft) (defBody sLeft) (defScope sLeft) .none kVL dcL pmL anL cdL ctL), slL⟩)
    (cL : PySem.W.codeIn K cdL "House.left" = true)
    (kL : PySem.W.keepIn K (.ref fL) = true)
    (aX : PySem.W.findIn K (.ref CH) "refusal_of_change" = some (some (.ref fX)))
    (iX : PySem.W.isFn K (.ref fX) = true)
    (lX : K.lookup fX = some ⟨ocX, odX, .func (PySem.W.fnOf "refusal_of_change" "House.refusal_of_change" (defArgs sRefusal) (defBody sRefusal) (defScope sRefusal) .none kVX dcX pmX anX cdX ctX), slX⟩)
    (cX : PySem.W.codeIn K cdX "House.refusal_of_change" = true)
    (kX : PySem.W.keepIn K (.ref fX) = true)
    (aT : PySem.W.findIn K (.ref CH) "is_told" = some (some (.ref fT)))
    (iT : PySem.W.isFn K (.ref fT) = true)
    (lT : K.lookup fT = some ⟨ocT, odT, .func (PySem.W.fnOf "is_told" "House.is_told" (defArgs sIsTold) (defBody sIsTold) (defScope sIsTold) .none kVT dcT pmT anT cdT ctT), slT⟩)
    (cT : PySem.W.codeIn K cdT "House.is_told" = true)
    (kT : PySem.W.keepIn K (.ref fT) = true)
    (aU : PySem.W.findIn K (.ref CH) "upon_through" = some (some (.ref fU)))
    (iU : PySem.W.isFn K (.ref fU) = true)
    (lU : K.lookup fU = some ⟨ocU, odU, .func (PySem.W.fnOf "upon_through" "House.upon_through" (defArgs sThrough) (defBody sThrough) (defScope sThrough) .none kVU dcU pmU anU cdU ctU), slU⟩)
    (cU : PySem.W.codeIn K cdU "House.upon_through" = true)
    (kU : PySem.W.keepIn K (.ref fU) = true)
    (aS : PySem.W.findIn K (.ref CH) "some_made_upon" = some (some (.ref fS)))
    (iS : PySem.W.isFn K (.ref fS) = true)
    (lS : K.lookup fS = some ⟨ocS, odS, .func (PySem.W.fnOf "some_made_upon" "House.some_made_upon" (defArgs sSome) (defBody sSome) (defScope sSome) .none kVS dcS pmS anS cdS ctS), slS⟩)
    (cS : PySem.W.codeIn K cdS "House.some_made_upon" = true)
    (kS : PySem.W.keepIn K (.ref fS) = true)
    (aA : PySem.W.nsIn K mainGlobals "left_after" = some (some (.ref fA)))
    (lA : K.lookup fA = some ⟨ocA, odA, .func (PySem.W.fnOf "left_after" "left_after" (defArgs sAfter) (defBody sAfter) (defScope sAfter) .none kVA dcA pmA anA cdA ctA), slA⟩)
    (cA : PySem.W.codeIn K cdA "left_after" = true)
    (kA : PySem.W.keepIn K (.ref fA) = true)
    (aWt : PySem.W.nsIn K mainGlobals "weights_together" = some (some (.ref fWt)))
    (lWt : K.lookup fWt = some ⟨ocWt, odWt, .func (PySem.W.fnOf "weights_together" "weights_together" (defArgs sWeights) (defBody sWeights) (defScope sWeights) .none kVWt dcWt pmWt anWt cdWt ctWt), slWt⟩)
    (cWt : PySem.W.codeIn K cdWt "weights_together" = true)
    (kWt : PySem.W.keepIn K (.ref fWt) = true)
    (aWI : PySem.W.findIn K (.ref CW) "__init__" = some (some (.ref fWI)))
    (iWI : PySem.W.isFn K (.ref fWI) = true)
    (lWI : K.lookup fWI = some ⟨ocWI, odWI, .func (PySem.W.fnOf "__init__" "Way.__init__" (defArgs sWInit) (defBody sWInit) (defScope sWInit) .none kVWI dcWI pmWI anWI cdWI ctWI), slWI⟩)
    (cWI : PySem.W.codeIn K cdWI "Way.__init__" = true)
    (kWI : PySem.W.keepIn K (.ref fWI) = true)
    (aDn : PySem.W.nsIn K mainGlobals "way_that_is_done" = some (some (.ref fDn)))
    (lDn : K.lookup fDn = some ⟨ocDn, odDn, .func (PySem.W.fnOf "way_that_is_done" "way_that_is_done" (defArgs sDone) (defBody sDone) (defScope sDone) .none kVDn dcDn pmDn anDn cdDn ctDn), slDn⟩)
    (cDn : PySem.W.codeIn K cdDn "way_that_is_done" = true)
    (kDn : PySem.W.keepIn K (.ref fDn) = true)
    (aTr : PySem.W.nsIn K mainGlobals "way_that_tries" = some (some (.ref fTr)))
    (lTr : K.lookup fTr = some ⟨ocTr, odTr, .func (PySem.W.fnOf "way_that_tries" "way_that_tries" (defArgs sTries) (defBody sTries) (defScope sTries) .none kVTr dcTr pmTr anTr cdTr ctTr), slTr⟩)
    (cTr : PySem.W.codeIn K cdTr "way_that_tries" = true)
    (kTr : PySem.W.keepIn K (.ref fTr) = true)
    (aTl : PySem.W.nsIn K mainGlobals "telling_changes" = some (some (.ref fTl)))
    (lTl : K.lookup fTl = some ⟨ocTl, odTl, .func (PySem.W.fnOf "telling_changes" "telling_changes" (defArgs sTelling) (defBody sTelling) (defScope sTelling) .none kVTl dcTl pmTl anTl cdTl ctTl), slTl⟩)
    (cTl : PySem.W.codeIn K cdTl "telling_changes" = true)
    (kTl : PySem.W.keepIn K (.ref fTl) = true)
    (aLs : PySem.W.nsIn K mainGlobals "lesser_part" = some (some (.ref fLs)))
    (lLs : K.lookup fLs = some ⟨ocLs, odLs, .func (PySem.W.fnOf "lesser_part" "lesser_part" (defArgs sLesser) (defBody sLesser) (defScope sLesser) .none kVLs dcLs pmLs anLs cdLs ctLs), slLs⟩)
    (cLs : PySem.W.codeIn K cdLs "lesser_part" = true)
    (kLs : PySem.W.keepIn K (.ref fLs) = true)
    (aBI : PySem.W.findIn K (.ref CB) "__init__" = some (some (.ref fBI)))
    (iBI : PySem.W.isFn K (.ref fBI) = true)
    (lBI : K.lookup fBI = some ⟨ocBI, odBI, .func (PySem.W.fnOf "__init__" "BestWays.__init__" (defArgs sBInit) (defBody sBInit) (defScope sBInit) .none kVBI dcBI pmBI anBI cdBI ctBI), slBI⟩)
    (cBI : PySem.W.codeIn K cdBI "BestWays.__init__" = true)
    (kBI : PySem.W.keepIn K (.ref fBI) = true)
    (aBo : PySem.W.findIn K (.ref CB) "best_of" = some (some (.ref fBo)))
    (iBo : PySem.W.isFn K (.ref fBo) = true)
    (lBo : K.lookup fBo = some ⟨ocBo, odBo, .func (PySem.W.fnOf "best_of" "BestWays.best_of" (defArgs sBestOf) (defBody sBestOf) (defScope sBestOf) .none kVBo dcBo pmBo anBo cdBo ctBo), slBo⟩)
    (cBo : PySem.W.codeIn K cdBo "BestWays.best_of" = true)
    (kBo : PySem.W.keepIn K (.ref fBo) = true)
    (aLc : PySem.W.findIn K (.ref CB) "least_costly" = some (some (.ref fLc)))
    (iLc : PySem.W.isFn K (.ref fLc) = true)
    (lLc : K.lookup fLc = some ⟨ocLc, odLc, .func (PySem.W.fnOf "least_costly" "BestWays.least_costly" (defArgs sLeast) (defBody sLeast) (defScope sLeast) .none kVLc dcLc pmLc anLc (.ref xL) ctLc), slLc⟩)
    (cLc : PySem.W.codeIn K (.ref xL) "BestWays.least_costly" = true)
    (kLc : PySem.W.keepIn K (.ref fLc) = true)
    (aBg : PySem.W.findIn K (.ref CB) "beginning_with" = some (some (.ref fBg)))
    (iBg : PySem.W.isFn K (.ref fBg) = true)
    (lBg : K.lookup fBg = some ⟨ocBg, odBg, .func (PySem.W.fnOf "beginning_with" "BestWays.beginning_with" (defArgs sBegin) (defBody sBegin) (defScope sBegin) .none kVBg dcBg pmBg anBg cdBg ctBg), slBg⟩)
    (cBg : PySem.W.codeIn K cdBg "BestWays.beginning_with" = true)
    (kBg : PySem.W.keepIn K (.ref fBg) = true)
    (aBw : PySem.W.nsIn K mainGlobals "best_way" = some (some (.ref fBw)))
    (lBw : K.lookup fBw = some ⟨ocBw, odBw, .func (PySem.W.fnOf "best_way" "best_way" (defArgs sBestWay) (defBody sBestWay) (defScope sBestWay) .none kVBw dcBw pmBw anBw cdBw ctBw), slBw⟩)
    (cBw : PySem.W.codeIn K cdBw "best_way" = true)
    (kBw : PySem.W.keepIn K (.ref fBw) = true)
    (aHv : PySem.W.nsIn K mainGlobals "halving_way" = some (some (.ref fHv)))
    (lHv : K.lookup fHv = some ⟨ocHv, odHv, .func (PySem.W.fnOf "halving_way" "halving_way" (defArgs sHalving) (defBody sHalving) (defScope sHalving) .none kVHv dcHv pmHv anHv (.ref xH) ctHv), slHv⟩)
    (cHv : PySem.W.codeIn K (.ref xH) "halving_way" = true)
    (kHv : PySem.W.keepIn K (.ref fHv) = true)
    (aNm : PySem.W.nsIn K mainGlobals "way_in_numbers" = some (some (.ref fNm)))
    (lNm : K.lookup fNm = some ⟨ocNm, odNm, .func (PySem.W.fnOf "way_in_numbers" "way_in_numbers" (defArgs sNumbers) (defBody sNumbers) (defScope sNumbers) .none kVNm dcNm pmNm anNm cdNm ctNm), slNm⟩)
    (cNm : PySem.W.codeIn K cdNm "way_in_numbers" = true)
    (kNm : PySem.W.keepIn K (.ref fNm) = true)
    (aKd : PySem.W.nsIn K mainGlobals "is_kind" = some (some (.ref fKd)))
    (lKd : K.lookup fKd = some ⟨ocKd, odKd, .func (PySem.W.fnOf "is_kind" "is_kind" (defArgs sIsKind) (defBody sIsKind) (defScope sIsKind) .none kVKd dcKd pmKd anKd cdKd ctKd), slKd⟩)
    (cKd : PySem.W.codeIn K cdKd "is_kind" = true)
    (kKd : PySem.W.keepIn K (.ref fKd) = true)
    (aHb : PySem.W.findIn K (.ref CH) "best" = some (some (.ref fHb)))
    (iHb : PySem.W.isFn K (.ref fHb) = true)
    (lHb : K.lookup fHb = some ⟨ocHb, odHb, .func (PySem.W.fnOf "best" "House.best" (defArgs sHBest) (defBody sHBest) (defScope sHBest) .none kVHb dcHb pmHb anHb cdHb ctHb), slHb⟩)
    (cHb : PySem.W.codeIn K cdHb "House.best" = true)
    (kHb : PySem.W.keepIn K (.ref fHb) = true)
    (aHw : PySem.W.findIn K (.ref CH) "way" = some (some (.ref fHw)))
    (iHw : PySem.W.isFn K (.ref fHw) = true)
    (lHw : K.lookup fHw = some ⟨ocHw, odHw, .func (PySem.W.fnOf "way" "House.way" (defArgs sHWay) (defBody sHWay) (defScope sHWay) .none kVHw dcHw pmHw anHw cdHw ctHw), slHw⟩)
    (cHw : PySem.W.codeIn K cdHw "House.way" = true)
    (kHw : PySem.W.keepIn K (.ref fHw) = true)
    (aHh : PySem.W.findIn K (.ref CH) "half" = some (some (.ref fHh)))
    (iHh : PySem.W.isFn K (.ref fHh) = true)
    (lHh : K.lookup fHh = some ⟨ocHh, odHh, .func (PySem.W.fnOf "half" "House.half" (defArgs sHHalf) (defBody sHHalf) (defScope sHHalf) .none kVHh dcHh pmHh anHh cdHh ctHh), slHh⟩)
    (cHh : PySem.W.codeIn K cdHh "House.half" = true)
    (kHh : PySem.W.keepIn K (.ref fHh) = true)
    (aHu : PySem.W.findIn K (.ref CH) "upon" = some (some (.ref fHu)))
    (iHu : PySem.W.isFn K (.ref fHu) = true)
    (lHu : K.lookup fHu = some ⟨ocHu, odHu, .func (PySem.W.fnOf "upon" "House.upon" (defArgs sHUpon) (defBody sHUpon) (defScope sHUpon) .none kVHu dcHu pmHu anHu cdHu ctHu), slHu⟩)
    (cHu : PySem.W.codeIn K cdHu "House.upon" = true)
    (kHu : PySem.W.keepIn K (.ref fHu) = true)
    (aE : PySem.W.nsIn K mainGlobals "end_of_call" = some (some (.ref fE)))
    (lE : K.lookup fE = some ⟨ocE, odE, .func (PySem.W.fnOf "end_of_call" "end_of_call" (defArgs sEnd) (defBody sEnd) (defScope sEnd) .none kVE dcE pmE anE cdE ctE), slE⟩)
    (cE : PySem.W.codeIn K cdE "end_of_call" = true)
    (kE : PySem.W.keepIn K (.ref fE) = true)
    (aW : PySem.W.nsIn K mainGlobals "answer_of_call" = some (some (.ref fW)))
    (lW : K.lookup fW = some ⟨ocW, odW, .func (PySem.W.fnOf "answer_of_call" "answer_of_call" (defArgs sAnswer) (defBody sAnswer) (defScope sAnswer) .none kVW dcW pmW anW cdW ctW), slW⟩)
    (cW : PySem.W.codeIn K cdW "answer_of_call" = true)
    (kW : PySem.W.keepIn K (.ref fW) = true)
    (aZ : PySem.W.nsIn K mainGlobals "answers" = some (some (.ref fZ)))
    (lZ : K.lookup fZ = some ⟨ocZ, odZ, .func (PySem.W.fnOf "answers" "answers" (defArgs sAnswers) (defBody sAnswers) (defScope sAnswers) .none kVZ dcZ pmZ anZ cdZ ctZ), slZ⟩)
    (cZ : PySem.W.codeIn K cdZ "answers" = true)
    (kZ : PySem.W.keepIn K (.ref fZ) = true)
    (pgCH : PySem.W.plainGet K CH Str.empty = true)
    (hdCH : PySem.W.hasDictIn K CH = true)
    (poCH : PySem.W.plainOver K CH = true)
    (saCH : PySem.W.findIn K (.ref CH) "__setattr__" = some (some (.builtin "object.__setattr__")))
    (mkCH : PySem.W.makesIn K CH = true)
    (kcCH : PySem.W.keepIn K (.ref CH) = true)
    (pgCC : PySem.W.plainGet K CC Str.empty = true)
    (hdCC : PySem.W.hasDictIn K CC = true)
    (poCC : PySem.W.plainOver K CC = true)
    (saCC : PySem.W.findIn K (.ref CC) "__setattr__" = some (some (.builtin "object.__setattr__")))
    (mkCC : PySem.W.makesIn K CC = true)
    (kcCC : PySem.W.keepIn K (.ref CC) = true)
    (pgCW : PySem.W.plainGet K CW Str.empty = true)
    (hdCW : PySem.W.hasDictIn K CW = true)
    (poCW : PySem.W.plainOver K CW = true)
    (saCW : PySem.W.findIn K (.ref CW) "__setattr__" = some (some (.builtin "object.__setattr__")))
    (mkCW : PySem.W.makesIn K CW = true)
    (kcCW : PySem.W.keepIn K (.ref CW) = true)
    (pgCB : PySem.W.plainGet K CB Str.empty = true)
    (hdCB : PySem.W.hasDictIn K CB = true)
    (poCB : PySem.W.plainOver K CB = true)
    (saCB : PySem.W.findIn K (.ref CB) "__setattr__" = some (some (.builtin "object.__setattr__")))
    (mkCB : PySem.W.makesIn K CB = true)
    (kcCB : PySem.W.keepIn K (.ref CB) = true)
    (nCH_told : PySem.W.findIn K (.ref CH) "told" = some none)
    (nCH_still_left : PySem.W.findIn K (.ref CH) "still_left" = some none)
    (nCH_anything_found : PySem.W.findIn K (.ref CH) "anything_found" = some none)
    (nCC_cost : PySem.W.findIn K (.ref CC) "cost" = some none)
    (nCC_weight : PySem.W.findIn K (.ref CC) "weight" = some none)
    (nCC_can_be_tried : PySem.W.findIn K (.ref CC) "can_be_tried" = some none)
    (nCC_made_upon : PySem.W.findIn K (.ref CC) "made_upon" = some none)
    (nCW_tries : PySem.W.findIn K (.ref CW) "tries" = some none)
    (nCW_if_good : PySem.W.findIn K (.ref CW) "if_good" = some none)
    (nCW_if_bad : PySem.W.findIn K (.ref CW) "if_bad" = some none)
    (nCW_costs : PySem.W.findIn K (.ref CW) "costs" = some none)
    (nCB_changes : PySem.W.findIn K (.ref CB) "changes" = some none)
    (nCB_kind : PySem.W.findIn K (.ref CB) "kind" = some none)
    (nCB_known : PySem.W.findIn K (.ref CB) "known" = some none)
    (z_len : PySem.W.nsIn K mainGlobals "len" = some none)
    (z_range : PySem.W.nsIn K mainGlobals "range" = some none)
    (z_sum : PySem.W.nsIn K mainGlobals "sum" = some none)
    (z_any : PySem.W.nsIn K mainGlobals "any" = some none)
    (z_all : PySem.W.nsIn K mainGlobals "all" = some none)
    (z_max : PySem.W.nsIn K mainGlobals "max" = some none)
    (z_min : PySem.W.nsIn K mainGlobals "min" = some none)
    (z_tuple : PySem.W.nsIn K mainGlobals "tuple" = some none)
    (v_MOST_CHANGES : PySem.W.nsIn K mainGlobals "MOST_CHANGES" = some (some (.int 7 t_MOST_CHANGES)))
    (v_LARGEST_COST : PySem.W.nsIn K mainGlobals "LARGEST_COST" = some (some (.int 10000 t_LARGEST_COST)))
    (v_LARGEST_WEIGHT : PySem.W.nsIn K mainGlobals "LARGEST_WEIGHT" = some (some (.int 10000 t_LARGEST_WEIGHT)))
    (v_NOT_IN_RANGE : PySem.W.nsIn K mainGlobals "NOT_IN_RANGE" = some (some (.int (-1) t_NOT_IN_RANGE)))
    (v_NO_SUCH_CHANGE : PySem.W.nsIn K mainGlobals "NO_SUCH_CHANGE" = some (some (.int (-2) t_NO_SUCH_CHANGE)))
    (v_SOMETHING_FOUND : PySem.W.nsIn K mainGlobals "SOMETHING_FOUND" = some (some (.int (-3) t_SOMETHING_FOUND)))
    (v_CANNOT_BE_TRIED : PySem.W.nsIn K mainGlobals "CANNOT_BE_TRIED" = some (some (.int (-4) t_CANNOT_BE_TRIED)))
    (v_NONE_WOULD_BE_LEFT : PySem.W.nsIn K mainGlobals "NONE_WOULD_BE_LEFT" = some (some (.int (-6) t_NONE_WOULD_BE_LEFT)))
    (v_NO_MORE_ROOM : PySem.W.nsIn K mainGlobals "NO_MORE_ROOM" = some (some (.int (-7) t_NO_MORE_ROOM)))
    (v_BEGINS : PySem.W.nsIn K mainGlobals "BEGINS" = some (some (.int 0 t_BEGINS)))
    (v_CHANGE : PySem.W.nsIn K mainGlobals "CHANGE" = some (some (.int 1 t_CHANGE)))
    (v_FOUND : PySem.W.nsIn K mainGlobals "FOUND" = some (some (.int 2 t_FOUND)))
    (v_LEFT : PySem.W.nsIn K mainGlobals "LEFT" = some (some (.int 3 t_LEFT)))
    (v_BEST : PySem.W.nsIn K mainGlobals "BEST" = some (some (.int 4 t_BEST)))
    (v_WAY : PySem.W.nsIn K mainGlobals "WAY" = some (some (.int 5 t_WAY)))
    (v_HALF : PySem.W.nsIn K mainGlobals "HALF" = some (some (.int 6 t_HALF)))
    (v_AT_WORST : PySem.W.nsIn K mainGlobals "AT_WORST" = some (some (.int 0 t_AT_WORST)))
    (v_ON_THE_AVERAGE : PySem.W.nsIn K mainGlobals "ON_THE_AVERAGE" = some (some (.int 1 t_ON_THE_AVERAGE)))
    (gd0 : PySem.W.nsIn K mainGlobals "NUMBERS_OF_CALL" = some (some (.ref d0)))
    (ld0 : K.lookup d0 = some ⟨.type "dict", none, .dict es0.toArray n0, #[]⟩)
    (ki0 : KeysInt es0)
    (fd0_0 : findBy Value.isInt es0.toArray 0 = some (.int 1 td0_0))
    (fd0_1 : findBy Value.isInt es0.toArray 1 = some (.int 5 td0_1))
    (fd0_2 : findBy Value.isInt es0.toArray 2 = some (.int 3 td0_2))
    (fd0_3 : findBy Value.isInt es0.toArray 3 = some (.int 1 td0_3))
    (fd0_4 : findBy Value.isInt es0.toArray 4 = some (.int 2 td0_4))
    (fd0_5 : findBy Value.isInt es0.toArray 5 = some (.int 2 td0_5))
    (fd0_6 : findBy Value.isInt es0.toArray 6 = some (.int 1 td0_6))
    (fd0_7 : findBy Value.isInt es0.toArray 7 = some (.int 2 td0_7))
    (ne : PL ≠ PH)
    : ∃ fd : FuncData, (∀ (s : Shared) (us : List Value), us.length = (["calls"] : List Str).length → BindsTo s fd ⟨us, []⟩ ((["calls"] : List Str).zip us)) ∧ ∀ base : Heap, K.In base → base.Ns mainGlobals mg → (∀ p ∈ [(xL, PL), (xH, PH)], TabB base mg p.1 p.2) → FnOk P w K mg base CX0 31 fa fd ["calls"] (spAnswers K (tabsT PL PH)) := by
  have e := hfa.symm.trans (PySem.W.mg_of X G aZ)
  cases e
  have T : Txt K mg CH CC := ⟨⟨pgCH, hdCH, poCH, saCH⟩, ⟨pgCC, hdCC, poCC, saCC⟩, nCH_told, nCH_still_left, nCH_anything_found, nCC_cost, nCC_weight, nCC_can_be_tried, nCC_made_upon, PySem.W.mg_of X G gCH, PySem.W.mg_of X G gCC, PySem.W.mg_none_of X G z_len, PySem.W.mg_none_of X G z_range, PySem.W.mg_none_of X G z_sum, PySem.W.mg_none_of X G z_any, PySem.W.mg_none_of X G z_all, ⟨_, PySem.W.mg_of X G v_MOST_CHANGES⟩, ⟨_, PySem.W.mg_of X G v_LARGEST_COST⟩, ⟨_, PySem.W.mg_of X G v_LARGEST_WEIGHT⟩, ⟨_, PySem.W.mg_of X G v_NOT_IN_RANGE⟩, ⟨_, PySem.W.mg_of X G v_NO_SUCH_CHANGE⟩, ⟨_, PySem.W.mg_of X G v_SOMETHING_FOUND⟩, ⟨_, PySem.W.mg_of X G v_CANNOT_BE_TRIED⟩, ⟨_, PySem.W.mg_of X G v_NONE_WOULD_BE_LEFT⟩, ⟨_, PySem.W.mg_of X G v_NO_MORE_ROOM⟩⟩
  have W : TxtW K mg CW := ⟨⟨pgCW, hdCW, poCW, saCW⟩, nCW_tries, nCW_if_good, nCW_if_bad, nCW_costs, PySem.W.mg_of X G gCW, PySem.W.mg_none_of X G z_max, PySem.W.mg_none_of X G z_min, ⟨_, PySem.W.mg_of X G v_AT_WORST⟩, ⟨_, PySem.W.mg_of X G v_ON_THE_AVERAGE⟩⟩
  have V : TxtB K mg CB := ⟨⟨pgCB, hdCB, poCB, saCB⟩, nCB_changes, nCB_kind, nCB_known, PySem.W.mg_of X G gCB, PySem.W.mg_none_of X G z_tuple⟩
  have D : ∀ (p : Int) (r : List Int) (c : List (List Int)) (t : List Int), Head p r c t → KDctI K d0 p (.int (callLen p)) := fun p r c t hh => by
    cases hh with
    | c0 => exact ⟨_, _, _, ld0, ki0, fd0_0, ⟨_, rfl⟩⟩
    | c1 => exact ⟨_, _, _, ld0, ki0, fd0_1, ⟨_, rfl⟩⟩
    | c2 => exact ⟨_, _, _, ld0, ki0, fd0_2, ⟨_, rfl⟩⟩
    | c3 => exact ⟨_, _, _, ld0, ki0, fd0_3, ⟨_, rfl⟩⟩
    | c4 => exact ⟨_, _, _, ld0, ki0, fd0_4, ⟨_, rfl⟩⟩
    | c5 => exact ⟨_, _, _, ld0, ki0, fd0_5, ⟨_, rfl⟩⟩
    | c6 => exact ⟨_, _, _, ld0, ki0, fd0_6, ⟨_, rfl⟩⟩
    | c7 => exact ⟨_, _, _, ld0, ki0, fd0_7, ⟨_, rfl⟩⟩
  have U : TxtT K mg := ⟨⟨_, PySem.W.mg_of X G v_BEGINS⟩, ⟨_, PySem.W.mg_of X G v_CHANGE⟩, ⟨_, PySem.W.mg_of X G v_FOUND⟩, ⟨_, PySem.W.mg_of X G v_LEFT⟩, ⟨_, PySem.W.mg_of X G v_BEST⟩, ⟨_, PySem.W.mg_of X G v_WAY⟩, ⟨_, PySem.W.mg_of X G v_HALF⟩, d0, PySem.W.mg_of X G gd0, D⟩
  have FR := fun_mk (st := sRange) lR cR kR
  have bR := FR.binds (ps := ["cost", "weight", "tried"]) fun _ _ _ _ _ _ us hl => match us, hl with | [_, _, _], _ => rfl
  have FCI := fun_mk (st := sCInit) lCI cCI kCI
  have bCI := FCI.binds (ps := ["self", "cost", "weight", "can_be_tried", "made_upon"]) fun _ _ _ _ _ _ us hl => match us, hl with | [_, _, _, _, _], _ => rfl
  have FHI := fun_mk (st := sHInit) lHI cHI kHI
  have bHI := FHI.binds (ps := ["self"]) fun _ _ _ _ _ _ us hl => match us, hl with | [_], _ => rfl
  have FB := fun_mk (st := sBegins) lB cB kB
  have bB := FB.binds (ps := ["self"]) fun _ _ _ _ _ _ us hl => match us, hl with | [_], _ => rfl
  have FC := fun_mk (st := sChange) lC cC kC
  have bC := FC.binds (ps := ["self", "cost", "weight", "tried", "parents"]) fun _ _ _ _ _ _ us hl => match us, hl with | [_, _, _, _, _], _ => rfl
  have FF := fun_mk (st := sFound) lF cF kF
  have bF := FF.binds (ps := ["self", "c", "bad"]) fun _ _ _ _ _ _ us hl => match us, hl with | [_, _, _], _ => rfl
  have FL := fun_mk (st := sLeft) lL cL kL
  have bL := FL.binds (ps := ["self"]) fun _ _ _ _ _ _ us hl => match us, hl with | [_], _ => rfl
  have FX := fun_mk (st := sRefusal) lX cX kX
  have bX := FX.binds (ps := ["self", "cost", "weight", "tried", "parents"]) fun _ _ _ _ _ _ us hl => match us, hl with | [_, _, _, _, _], _ => rfl
  have FT := fun_mk (st := sIsTold) lT cT kT
  have bT := FT.binds (ps := ["self", "c"]) fun _ _ _ _ _ _ us hl => match us, hl with | [_, _], _ => rfl
  have FU := fun_mk (st := sThrough) lU cU kU
  have bU := FU.binds (ps := ["self", "parents"]) fun _ _ _ _ _ _ us hl => match us, hl with | [_, _], _ => rfl
  have FS := fun_mk (st := sSome) lS cS kS
  have bS := FS.binds (ps := ["self", "changes", "one"]) fun _ _ _ _ _ _ us hl => match us, hl with | [_, _, _], _ => rfl
  have FA := fun_mk (st := sAfter) lA cA kA
  have bA := FA.binds (ps := ["changes", "left", "c", "is_bad"]) fun _ _ _ _ _ _ us hl => match us, hl with | [_, _, _, _], _ => rfl
  have FWt := fun_mk (st := sWeights) lWt cWt kWt
  have bWt := FWt.binds (ps := ["changes", "left"]) fun _ _ _ _ _ _ us hl => match us, hl with | [_, _], _ => rfl
  have FWI := fun_mk (st := sWInit) lWI cWI kWI
  have bWI := FWI.binds (ps := ["self", "tries", "if_good", "if_bad", "costs"]) fun _ _ _ _ _ _ us hl => match us, hl with | [_, _, _, _, _], _ => rfl
  have FDn := fun_mk (st := sDone) lDn cDn kDn
  have bDn := FDn.binds (ps := []) fun _ _ _ _ _ _ us hl => match us, hl with | [], _ => rfl
  have FTr := fun_mk (st := sTries) lTr cTr kTr
  have bTr := FTr.binds (ps := ["changes", "left", "c", "if_good", "if_bad"]) fun _ _ _ _ _ _ us hl => match us, hl with | [_, _, _, _, _], _ => rfl
  have FTl := fun_mk (st := sTelling) lTl cTl kTl
  have bTl := FTl.binds (ps := ["changes", "left"]) fun _ _ _ _ _ _ us hl => match us, hl with | [_, _], _ => rfl
  have FLs := fun_mk (st := sLesser) lLs cLs kLs
  have bLs := FLs.binds (ps := ["changes", "left", "c"]) fun _ _ _ _ _ _ us hl => match us, hl with | [_, _, _], _ => rfl
  have FBI := fun_mk (st := sBInit) lBI cBI kBI
  have bBI := FBI.binds (ps := ["self", "changes", "kind"]) fun _ _ _ _ _ _ us hl => match us, hl with | [_, _, _], _ => rfl
  have FBo := fun_mk (st := sBestOf) lBo cBo kBo
  have bBo := FBo.binds (ps := ["self", "left"]) fun _ _ _ _ _ _ us hl => match us, hl with | [_, _], _ => rfl
  have FLc := fun_mk (st := sLeast) lLc cLc kLc
  have CLc : FunC K "least_costly" "BestWays.least_costly" sLeast fLc _ xL := ⟨_, _, _, _, _, _, _, _, rfl, lLc, cLc⟩
  have bLc := FLc.binds (ps := ["self", "left"]) fun _ _ _ _ _ _ us hl => match us, hl with | [_, _], _ => rfl
  have FBg := fun_mk (st := sBegin) lBg cBg kBg
  have bBg := FBg.binds (ps := ["self", "c", "left"]) fun _ _ _ _ _ _ us hl => match us, hl with | [_, _, _], _ => rfl
  have FBw := fun_mk (st := sBestWay) lBw cBw kBw
  have bBw := FBw.binds (ps := ["changes", "left", "kind"]) fun _ _ _ _ _ _ us hl => match us, hl with | [_, _, _], _ => rfl
  have FHv := fun_mk (st := sHalving) lHv cHv kHv
  have CHv : FunC K "halving_way" "halving_way" sHalving fHv _ xH := ⟨_, _, _, _, _, _, _, _, rfl, lHv, cHv⟩
  have bHv := FHv.binds (ps := ["changes", "left"]) fun _ _ _ _ _ _ us hl => match us, hl with | [_, _], _ => rfl
  have FNm := fun_mk (st := sNumbers) lNm cNm kNm
  have bNm := FNm.binds (ps := ["way"]) fun _ _ _ _ _ _ us hl => match us, hl with | [_], _ => rfl
  have FKd := fun_mk (st := sIsKind) lKd cKd kKd
  have bKd := FKd.binds (ps := ["kind"]) fun _ _ _ _ _ _ us hl => match us, hl with | [_], _ => rfl
  have FHb := fun_mk (st := sHBest) lHb cHb kHb
  have bHb := FHb.binds (ps := ["self", "kind"]) fun _ _ _ _ _ _ us hl => match us, hl with | [_, _], _ => rfl
  have FHw := fun_mk (st := sHWay) lHw cHw kHw
  have bHw := FHw.binds (ps := ["self", "kind"]) fun _ _ _ _ _ _ us hl => match us, hl with | [_, _], _ => rfl
  have FHh := fun_mk (st := sHHalf) lHh cHh kHh
  have bHh := FHh.binds (ps := ["self"]) fun _ _ _ _ _ _ us hl => match us, hl with | [_], _ => rfl
  have FHu := fun_mk (st := sHUpon) lHu cHu kHu
  have bHu := FHu.binds (ps := ["self", "c"]) fun _ _ _ _ _ _ us hl => match us, hl with | [_, _], _ => rfl
  have FE := fun_mk (st := sEnd) lE cE kE
  have bE := FE.binds (ps := ["calls", "start"]) fun _ _ _ _ _ _ us hl => match us, hl with | [_, _], _ => rfl
  have FW := fun_mk (st := sAnswer) lW cW kW
  have bW := FW.binds (ps := ["house", "call"]) fun _ _ _ _ _ _ us hl => match us, hl with | [_, _], _ => rfl
  have FZ := fun_mk (st := sAnswers) lZ cZ kZ
  refine ⟨PySem.W.fnOf "answers" "answers" (defArgs sAnswers) (defBody sAnswers) (defScope sAnswers) .none kVZ dcZ pmZ anZ cdZ ctZ, fun s us hu => match us, hu with | [_], _ => .of_eq rfl, fun base _ _ TB => ?_⟩
  have TL : TabB base mg xL PL := TB (xL, PL) List.mem_cons_self
  have TH : TabB base mg xH PH := TB (xH, PH) (List.mem_cons_of_mem _ List.mem_cons_self)
  have GR : FnOk P w K mg base CX0 1 fR _ _ _ := ok_range FR T
  have GCI : FnOk P w K mg base CX0 1 fCI _ _ _ := ok_cinit FCI T
  have GHI : FnOk P w K mg base CX0 1 fHI _ _ _ := ok_hinit FHI T
  have GB : FnOk P w K mg base CX0 1 fB _ _ _ := ok_begins FB T
  have GT : FnOk P w K mg base CX0 1 fT _ _ _ := ok_istold FT T
  have GS : FnOk P w K mg base CX0 1 fS _ _ _ := ok_some FS T
  have GU : FnOk P w K mg base CX0 2 fU _ _ _ := ok_through FU T GS bS ⟨aS, iS, kS⟩
  have GA : FnOk P w K mg base CX0 1 fA _ _ _ := ok_after FA T
  have GWt : FnOk P w K mg base CX0 1 fWt _ _ _ := ok_weights FWt T
  have GL : FnOk P w K mg base CX0 2 fL _ _ _ := ok_left FL T GWt bWt kWt (PySem.W.mg_of X G aWt)
  have GX : FnOk P w K mg base CX0 2 fX _ _ _ := ok_refusal FX T GR bR kR (PySem.W.mg_of X G aR) GT bT ⟨aT, iT, kT⟩
  have GF : FnOk P w K mg base CX0 2 fF _ _ _ := ok_found FF T GA bA kA (PySem.W.mg_of X G aA) GT bT ⟨aT, iT, kT⟩
  have GC : FnOk P w K mg base CX0 3 fC _ _ _ := ok_change FC T GX bX ⟨aX, iX, kX⟩ GU bU ⟨aU, iU, kU⟩ ⟨mkCC, aCI, iCI, kcCC⟩ GCI bCI
  have GWI : FnOk P w K mg base CX0 1 fWI _ _ _ := ok_winit FWI W
  have GDn : FnOk P w K mg base CX0 3 fDn _ _ _ := ok_done FDn W ⟨mkCW, aWI, iWI, kcCW⟩ GWI bWI
  have GTr : FnOk P w K mg base CX0 3 fTr _ _ _ := ok_tries FTr T W ⟨mkCW, aWI, iWI, kcCW⟩ GWI bWI GWt bWt kWt (PySem.W.mg_of X G aWt)
  have GLs : FnOk P w K mg base CX0 2 fLs _ _ _ := ok_lesser FLs T W GA bA kA (PySem.W.mg_of X G aA)
  have GTl : FnOk P w K mg base CX0 3 fTl _ _ _ := ok_telling FTl T GLs bLs kLs (PySem.W.mg_of X G aLs)
  have GBI : FnOk P w K mg base CX0 1 fBI _ _ _ := ok_binit FBI V
  have GBo : FnOk P w K mg base CX0 27 fBo _ ["self", "left"] (spBest CH CC CW CB (tabsT PL PH) 8) := ok_best (fun n g => ok_begin FBg V g bBo ⟨aBo, iBo, kBo⟩ GA bA kA (PySem.W.mg_of X G aA) GTr bTr kTr (PySem.W.mg_of X G aTr)) (fun n g => ok_least CLc T W V TL ne g bBg ⟨aBg, iBg, kBg⟩ GTl bTl kTl (PySem.W.mg_of X G aTl) GDn bDn kDn (PySem.W.mg_of X G aDn)) (fun n g => ok_bestof FBo V g bLc ⟨aLc, iLc, kLc⟩) 8
  have GBw : FnOk P w K mg base CX0 28 fBw _ _ _ := ok_bestway FBw V ⟨mkCB, aBI, iBI, kcCB⟩ GBI bBI GBo bBo ⟨aBo, iBo, kBo⟩
  have GHv : FnOk P w K mg base CX0 12 fHv _ ["changes", "left"] (spHalving CH CC CW (tabsT PL PH) 8) := ok_halvings (fun n g => ok_halving CHv bHv kHv (PySem.W.mg_of X G aHv) T W TH ne g GTl bTl kTl (PySem.W.mg_of X G aTl) GDn bDn kDn (PySem.W.mg_of X G aDn) GTr bTr kTr (PySem.W.mg_of X G aTr) GA bA kA (PySem.W.mg_of X G aA) GLs bLs kLs (PySem.W.mg_of X G aLs)) 8
  have GNm : FnOk P w K mg base CX0 8 fNm _ ["way"] (spNumbers CW 8) := ok_numberss (fun n g => ok_numbers FNm bNm kNm (PySem.W.mg_of X G aNm) W g) 8
  have GKd : FnOk P w K mg base CX0 1 fKd _ _ _ := ok_iskind FKd W
  have GHb : FnOk P w K mg base CX0 29 fHb _ _ _ := ok_hbest FHb T W GKd bKd kKd (PySem.W.mg_of X G aKd) GBw bBw kBw (PySem.W.mg_of X G aBw)
  have GHw : FnOk P w K mg base CX0 29 fHw _ _ _ := ok_hway FHw T W GKd bKd kKd (PySem.W.mg_of X G aKd) GBw bBw kBw (PySem.W.mg_of X G aBw) GNm bNm kNm (PySem.W.mg_of X G aNm)
  have GHh : FnOk P w K mg base CX0 13 fHh _ _ _ := ok_hhalf FHh T W GHv bHv kHv (PySem.W.mg_of X G aHv)
  have GHu : FnOk P w K mg base CX0 2 fHu _ _ (spHUpon CH CC (tabsT PL PH)) := ok_hupon FHu T GT bT ⟨aT, iT, kT⟩
  have GE : FnOk P w K mg base CX0 1 fE _ _ _ := ok_end FE U
  have GW : FnOk P w K mg base CX0 30 fW _ _ _ := ok_answer FW T U GB bB ⟨aB, iB, kB⟩ GC bC ⟨aC, iC, kC⟩ GF bF ⟨aF, iF, kF⟩ GL bL ⟨aL, iL, kL⟩ GHb bHb ⟨aHb, iHb, kHb⟩ GHw bHw ⟨aHw, iHw, kHw⟩ GHh bHh ⟨aHh, iHh, kHh⟩ GHu bHu ⟨aHu, iHu, kHu⟩
  exact ok_answers (k := 28) FZ T ⟨mkCH, aHI, iHI, kcCH⟩ GHI bHI GE bE kE (PySem.W.mg_of X G aE) GW bW kW (PySem.W.mg_of X G aW)
end Fb
open PySem PySem.W PyProof.Rows
local macro_rules | `(tactic| o_headS ($_h $k $a $e)) => `(tactic| o_headS (kmHook $k $a $e [58, 84]))
set_option maxRecDepth 100000 in
set_option maxHeartbeats 0 in
theorem PySem.Challenge.cw_firstbadyard_s01_answers_holds : PySem.Challenge.rw_firstbadyard_s01_answers.Holds := by
  w_on; k_headS; (case hw => exact ⟨[.list [.int 6]], by decide +kernel, by decide +kernel⟩)
  k_fillS
  refine Fb.walk_tabK (r := PySem.Challenge.rw_firstbadyard_s01_answers) (k := 31) (ps := ["calls"]) (sp := fun K => Fb.spAnswers K (Fb.tabsT 58 84)) (cs := [(60, 58), (88, 84)]) (by decide +kernel) rfl rfl ⟨rfl, by decide, by decide⟩ (fun w h Y => PySem.W.km_in_of Y) ?T ?F ?S
  case T =>
    intro w h Y
    exact Fb.TabsOk.two (PySem.W.km_in_of Y) (PySem.W.km_tabs_of Y 58 (by decide)) (PySem.W.km_tabs_of Y 84 (by decide)) (by kernel_rfl) (by kernel_rfl) (by kernel_rfl) (by kernel_rfl)
  case F =>
    intro w mg fa h Y KX G hmg
    refine' Fb.all_mk KX G hmg ?gCH ?gCC ?gCW ?gCB ?aR ?lR ?cR ?kR ?aCI ?iCI ?lCI ?cCI ?kCI ?aHI ?iHI ?lHI ?cHI ?kHI ?aB ?iB ?lB ?cB ?kB ?aC ?iC ?lC ?cC ?kC ?aF ?iF ?lF ?cF ?kF ?aL ?iL ?lL ?cL ?kL ?aX ?iX ?lX ?cX ?kX ?aT ?iT ?lT ?cT ?kT ?aU ?iU ?lU ?cU ?kU ?aS ?iS ?lS ?cS ?kS ?aA ?lA ?cA ?kA ?aWt ?lWt ?cWt ?kWt ?aWI ?iWI ?lWI ?cWI ?kWI ?aDn ?lDn ?cDn ?kDn ?aTr ?lTr ?cTr ?kTr ?aTl ?lTl ?cTl ?kTl ?aLs ?lLs ?cLs ?kLs ?aBI ?iBI ?lBI ?cBI ?kBI ?aBo ?iBo ?lBo ?cBo ?kBo ?aLc ?iLc ?lLc ?cLc ?kLc ?aBg ?iBg ?lBg ?cBg ?kBg ?aBw ?lBw ?cBw ?kBw ?aHv ?lHv ?cHv ?kHv ?aNm ?lNm ?cNm ?kNm ?aKd ?lKd ?cKd ?kKd ?aHb ?iHb ?lHb ?cHb ?kHb ?aHw ?iHw ?lHw ?cHw ?kHw ?aHh ?iHh ?lHh ?cHh ?kHh ?aHu ?iHu ?lHu ?cHu ?kHu ?aE ?lE ?cE ?kE ?aW ?lW ?cW ?kW ?aZ ?lZ ?cZ ?kZ ?pgCH ?hdCH ?poCH ?saCH ?mkCH ?kcCH ?pgCC ?hdCC ?poCC ?saCC ?mkCC ?kcCC ?pgCW ?hdCW ?poCW ?saCW ?mkCW ?kcCW ?pgCB ?hdCB ?poCB ?saCB ?mkCB ?kcCB ?nCH_told ?nCH_still_left ?nCH_anything_found ?nCC_cost ?nCC_weight ?nCC_can_be_tried ?nCC_made_upon ?nCW_tries ?nCW_if_good ?nCW_if_bad ?nCW_costs ?nCB_changes ?nCB_kind ?nCB_known ?z_len ?z_range ?z_sum ?z_any ?z_all ?z_max ?z_min ?z_tuple ?v_MOST_CHANGES ?v_LARGEST_COST ?v_LARGEST_WEIGHT ?v_NOT_IN_RANGE ?v_NO_SUCH_CHANGE ?v_SOMETHING_FOUND ?v_CANNOT_BE_TRIED ?v_NONE_WOULD_BE_LEFT ?v_NO_MORE_ROOM ?v_BEGINS ?v_CHANGE ?v_FOUND ?v_LEFT ?v_BEST ?v_WAY ?v_HALF ?v_AT_WORST ?v_ON_THE_AVERAGE ?gd0 ?ld0 ?ki0 ?fd0_0 ?fd0_1 ?fd0_2 ?fd0_3 ?fd0_4 ?fd0_5 ?fd0_6 ?fd0_7 ?ne
    case gCH => k_is
    case gCC => k_is
    case gCW => k_is
    case gCB => k_is
    case aR => k_is
    case lR => k_is
    case cR => k_is
    case kR => k_is
    case aCI => k_is
    case iCI => k_is
    case lCI => k_is
    case cCI => k_is
    case kCI => k_is
    case aHI => k_is
    case iHI => k_is
    case lHI => k_is
    case cHI => k_is
    case kHI => k_is
    case aB => k_is
    case iB => k_is
    case lB => k_is
    case cB => k_is
    case kB => k_is
    case aC => k_is
    case iC => k_is
    case lC => k_is
    case cC => k_is
    case kC => k_is
    case aF => k_is
    case iF => k_is
    case lF => k_is
    case cF => k_is
    case kF => k_is
    case aL => k_is
    case iL => k_is
    case lL => k_is
    case cL => k_is
    case kL => k_is
    case aX => k_is
    case iX => k_is
    case lX => k_is
    case cX => k_is
    case kX => k_is
    case aT => k_is
    case iT => k_is
    case lT => k_is
    case cT => k_is
    case kT => k_is
    case aU => k_is
    case iU => k_is
    case lU => k_is
    case cU => k_is
    case kU => k_is
    case aS => k_is
    case iS => k_is
    case lS => k_is
    case cS => k_is
    case kS => k_is
    case aA => k_is
    case lA => k_is
    case cA => k_is
    case kA => k_is
    case aWt => k_is
    case lWt => k_is
    case cWt => k_is
    case kWt => k_is
    case aWI => k_is
    case iWI => k_is
    case lWI => k_is
    case cWI => k_is
    case kWI => k_is
    case aDn => k_is
    case lDn => k_is
    case cDn => k_is
    case kDn => k_is
    case aTr => k_is
    case lTr => k_is
    case cTr => k_is
    case kTr => k_is
    case aTl => k_is
    case lTl => k_is
    case cTl => k_is
    case kTl => k_is
    case aLs => k_is
    case lLs => k_is
    case cLs => k_is
    case kLs => k_is
    case aBI => k_is
    case iBI => k_is
    case lBI => k_is
    case cBI => k_is
    case kBI => k_is
    case aBo => k_is
    case iBo => k_is
    case lBo => k_is
    case cBo => k_is
    case kBo => k_is
    case aLc => k_is
    case iLc => k_is
    case lLc => k_is
    case cLc => k_is
    case kLc => k_is
    case aBg => k_is
    case iBg => k_is
    case lBg => k_is
    case cBg => k_is
    case kBg => k_is
    case aBw => k_is
    case lBw => k_is
    case cBw => k_is
    case kBw => k_is
    case aHv => k_is
    case lHv => k_is
    case cHv => k_is
    case kHv => k_is
    case aNm => k_is
    case lNm => k_is
    case cNm => k_is
    case kNm => k_is
    case aKd => k_is
    case lKd => k_is
    case cKd => k_is
    case kKd => k_is
    case aHb => k_is
    case iHb => k_is
    case lHb => k_is
    case cHb => k_is
    case kHb => k_is
    case aHw => k_is
    case iHw => k_is
    case lHw => k_is
    case cHw => k_is
    case kHw => k_is
    case aHh => k_is
    case iHh => k_is
    case lHh => k_is
    case cHh => k_is
    case kHh => k_is
    case aHu => k_is
    case iHu => k_is
    case lHu => k_is
    case cHu => k_is
    case kHu => k_is
    case aE => k_is
    case lE => k_is
    case cE => k_is
    case kE => k_is
    case aW => k_is
    case lW => k_is
    case cW => k_is
    case kW => k_is
    case aZ => k_is
    case lZ => k_is
    case cZ => k_is
    case kZ => k_is
    case pgCH => k_is
    case hdCH => k_is
    case poCH => k_is
    case saCH => k_is
    case mkCH => k_is
    case kcCH => k_is
    case pgCC => k_is
    case hdCC => k_is
    case poCC => k_is
    case saCC => k_is
    case mkCC => k_is
    case kcCC => k_is
    case pgCW => k_is
    case hdCW => k_is
    case poCW => k_is
    case saCW => k_is
    case mkCW => k_is
    case kcCW => k_is
    case pgCB => k_is
    case hdCB => k_is
    case poCB => k_is
    case saCB => k_is
    case mkCB => k_is
    case kcCB => k_is
    case nCH_told => k_is
    case nCH_still_left => k_is
    case nCH_anything_found => k_is
    case nCC_cost => k_is
    case nCC_weight => k_is
    case nCC_can_be_tried => k_is
    case nCC_made_upon => k_is
    case nCW_tries => k_is
    case nCW_if_good => k_is
    case nCW_if_bad => k_is
    case nCW_costs => k_is
    case nCB_changes => k_is
    case nCB_kind => k_is
    case nCB_known => k_is
    case z_len => k_is
    case z_range => k_is
    case z_sum => k_is
    case z_any => k_is
    case z_all => k_is
    case z_max => k_is
    case z_min => k_is
    case z_tuple => k_is
    case v_MOST_CHANGES => k_is
    case v_LARGEST_COST => k_is
    case v_LARGEST_WEIGHT => k_is
    case v_NOT_IN_RANGE => k_is
    case v_NO_SUCH_CHANGE => k_is
    case v_SOMETHING_FOUND => k_is
    case v_CANNOT_BE_TRIED => k_is
    case v_NONE_WOULD_BE_LEFT => k_is
    case v_NO_MORE_ROOM => k_is
    case v_BEGINS => k_is
    case v_CHANGE => k_is
    case v_FOUND => k_is
    case v_LEFT => k_is
    case v_BEST => k_is
    case v_WAY => k_is
    case v_HALF => k_is
    case v_AT_WORST => k_is
    case v_ON_THE_AVERAGE => k_is
    case gd0 => k_is
    case ld0 => k_is
    case ki0 => exact ⟨⟨_, _, rfl, rfl⟩, ⟨_, _, rfl, rfl⟩, ⟨_, _, rfl, rfl⟩, ⟨_, _, rfl, rfl⟩, ⟨_, _, rfl, rfl⟩, ⟨_, _, rfl, rfl⟩, ⟨_, _, rfl, rfl⟩, ⟨_, _, rfl, rfl⟩, trivial⟩
    case fd0_0 => rfl
    case fd0_1 => rfl
    case fd0_2 => rfl
    case fd0_3 => rfl
    case fd0_4 => rfl
    case fd0_5 => rfl
    case fd0_6 => rfl
    case fd0_7 => rfl
    case ne => decide
  case S =>
    -- the request
    intro K G H xs a sm tb hwi hask hx
    cases hx with
    | cons h1 h2 =>
      cases h2
      cases h1 with
      | lst hs ha =>
        have e := L2.ints_dw a.1 _ ha
        subst e
        have q : ((Codec.inLen 0 900 a.1 && a.1.all (Codec.inInt 0 4294967295)) && true) = true := hwi
        rw [Bool.and_eq_true, Bool.and_eq_true] at q
        refine ⟨_, a.1, rfl, fun p hp => ?_, sm.seq hs, (Codec.inNat_iff.mp q.1.1).2, fun z hz => ?_, hask, fun H' p hp => .lst (L2.SqL.of hp) (L2.dw_ints _)⟩
        · rcases List.mem_cons.mp hp with rfl | hp
          · exact LamX.TabS.nil (tb (60, 58) List.mem_cons_self)
          · rw [List.mem_singleton.mp hp]
            exact LamX.TabS.nil (tb (88, 84) (List.mem_cons_of_mem _ List.mem_cons_self))
        · exact (Codec.inInt_iff.mp (List.all_eq_true.mp q.1.2 z hz)).1

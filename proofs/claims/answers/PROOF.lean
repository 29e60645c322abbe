import PyProof.Rows.All
import Wide.All
import OpenK.AllK
import Wide.FinOn
import Open.SpecLaws
import KE.OsGo
import KE.KeyNested
import KE.KDictKeyed
import KE.KMinBuiltin
import HandS.ForSpec
import HandS.Comp
import HandS.Dict
import HandS.Iter
import HandS.Walk
import HandS.SetFor
import HandS.Text
import HandS.TupAny
import HandS.SortInts
import HandS.Lambda
import HandS.Nested
import HandS.DictTup
import PySem.Challenge.RW_putaway_s01_answers
import KE.DatumOrd
import HandS.SortKw
import KE.OsSort
import KE.KMinKey
import HandS.EndTab
set_option linter.all false
set_option Elab.async false
set_option maxRecDepth 100000
set_option maxHeartbeats 4000000
/-! The least price, by the paths of the specification's own search; plain Lean. -/
namespace Lb
open Cm07
/-- what one situation becomes by a step -/
def one (w : Work) (j : Nat) (s : Sit) : List Sit :=
  let missing := (stepAt w j).uses.filter fun v => !s.regs.contains v
  (leaveMany w (s.regs.length + missing.length - w.regs) (s.regs.filter fun v => !(stepAt w j).uses.contains v) s).flatMap fun s =>
    let t := tidy w (j + 1) (missing.foldl (comes w) s)
    if (stepAt w j).gives = false then [t] else
      (leaveMany w (t.regs.length + 1 - w.regs) t.regs t).map fun s => tidy w (j + 1) { s with regs := insert (valueOf w j) s.regs }
theorem through_one (w : Work) (j : Nat) (ss : List Sit) : through w j ss = merge (ss.flatMap (one w j)) [] := rfl
/-- alike but for the price, and no dearer -/
def Best (t s : Sit) : Prop := t.regs = s.regs ∧ t.away = s.away ∧ t.price ≤ s.price
theorem Best.refl (s : Sit) : Best s s := ⟨rfl, rfl, Nat.le_refl _⟩
theorem Best.trans {a b c : Sit} (h : Best a b) (k : Best b c) : Best a c := ⟨h.1.trans k.1, h.2.1.trans k.2.1, Nat.le_trans h.2.2 k.2.2⟩
theorem merge_sub : ∀ (l m : List Sit) (t : Sit), t ∈ merge l m → t ∈ l ∨ t ∈ m
  | [], m, t, h => .inr h
  | s :: l, m, t, h => by
    rcases merge_sub l _ t h with h | h
    · exact .inl (List.mem_cons_of_mem _ h)
    · split at h
      · exact .inr h
      · rcases List.mem_cons.mp h with h | h
        · exact .inl (by rw [h]; exact List.mem_cons_self ..)
        · exact .inr (List.mem_filter.mp h).1
theorem merge_best : ∀ (l m : List Sit) (s : Sit), s ∈ l ∨ s ∈ m → ∃ t ∈ merge l m, Best t s
  | [], m, s, h => by
    rcases h with h | h
    · cases h
    · exact ⟨s, h, .refl s⟩
  | a :: l, m, s, h => by
    have key : ∀ s, s = a ∨ s ∈ m → ∃ t, t ∈ (if (m.any fun t => t.regs == a.regs && (t.away == a.away && decide (t.price ≤ a.price))) = true then m else a :: m.filter fun t => !(t.regs == a.regs && t.away == a.away)) ∧ Best t s := by
      intro s h
      by_cases q : (m.any fun t => t.regs == a.regs && (t.away == a.away && decide (t.price ≤ a.price))) = true
      · rw [if_pos q]
        rcases h with rfl | h
        · obtain ⟨t, ht, e⟩ := List.any_eq_true.mp q
          simp only [Bool.and_eq_true, beq_iff_eq, decide_eq_true_eq] at e
          exact ⟨t, ht, e.1, e.2.1, e.2.2⟩
        · exact ⟨s, h, .refl s⟩
      · rw [if_neg q]
        rcases h with rfl | h
        · exact ⟨s, List.mem_cons_self .., .refl s⟩
        · by_cases e : s.regs = a.regs ∧ s.away = a.away
          · refine ⟨a, List.mem_cons_self .., e.1.symm, e.2.symm, ?_⟩
            refine Nat.le_of_not_le fun hle => q ?_
            refine List.any_eq_true.mpr ⟨s, h, ?_⟩
            simp [e.1, e.2, hle]
          · refine ⟨s, List.mem_cons_of_mem _ (List.mem_filter.mpr ⟨h, ?_⟩), .refl s⟩
            cases hr : (s.regs == a.regs && s.away == a.away) with
            | false => rfl
            | true =>
              simp only [Bool.and_eq_true, beq_iff_eq] at hr
              exact absurd hr e
    rcases h with h | h
    · rcases List.mem_cons.mp h with rfl | h
      · obtain ⟨t, ht, b⟩ := key s (.inl rfl)
        obtain ⟨u, hu, b'⟩ := merge_best l _ t (.inr ht)
        exact ⟨u, hu, b'.trans b⟩
      · exact merge_best l _ s (.inl h)
    · obtain ⟨t, ht, b⟩ := key s (.inr h)
      obtain ⟨u, hu, b'⟩ := merge_best l _ t (.inr ht)
      exact ⟨u, hu, b'.trans b⟩
/-! the price is only carried along -/
def up (n : Nat) (s : Sit) : Sit := { s with price := s.price + n }
theorem leaves_up (w : Work) (v n : Nat) (s : Sit) : leaves w v (up n s) = (leaves w v s).map (up n) := by
  unfold leaves up
  by_cases h : v ∈ s.away
  · simp [h]
  · by_cases k : isNumber w v = true
    · simp [h, k, Nat.add_right_comm]
    · simp [h, k, Nat.add_right_comm]
theorem leavesAll_up (w : Work) (n : Nat) : ∀ (vs : List Nat) (ss : List Sit), vs.foldl (fun ss v => ss.flatMap (leaves w v)) (ss.map (up n)) = (vs.foldl (fun ss v => ss.flatMap (leaves w v)) ss).map (up n)
  | [], _ => rfl
  | v :: vs, ss => by
    rw [List.foldl_cons, List.foldl_cons, ← leavesAll_up w n vs]
    congr 1
    rw [List.flatMap_map, List.map_flatMap]
    congr 1
    funext s
    exact leaves_up w v n s
theorem leaveMany_up (w : Work) (k n : Nat) (l : List Nat) (s : Sit) : leaveMany w k l (up n s) = (leaveMany w k l s).map (up n) := by
  unfold leaveMany
  rw [List.map_flatMap]
  congr 1
  funext vs
  exact leavesAll_up w n vs [s]
theorem comes_up (w : Work) (n v : Nat) (s : Sit) : comes w (up n s) v = up n (comes w s v) := by
  unfold comes up
  simp [Nat.add_right_comm]
theorem comesAll_up (w : Work) (n : Nat) : ∀ (vs : List Nat) (s : Sit), vs.foldl (comes w) (up n s) = up n (vs.foldl (comes w) s)
  | [], _ => rfl
  | v :: vs, s => by
    rw [List.foldl_cons, List.foldl_cons, comes_up, comesAll_up w n vs]
theorem one_up (w : Work) (j n : Nat) (s : Sit) : one w j (up n s) = (one w j s).map (up n) := by
  have e : (up n s).regs = s.regs := rfl
  unfold one
  simp only [e, leaveMany_up]
  rw [List.flatMap_map, List.map_flatMap]
  congr 1
  funext t
  simp only [comesAll_up]
  have e2 : ∀ u : Sit, tidy w (j + 1) (up n u) = up n (tidy w (j + 1) u) := fun _ => rfl
  have e3 : ∀ u : Sit, (up n u).regs = u.regs := fun _ => rfl
  rw [e2, e3]
  split
  · rfl
  · rw [leaveMany_up, List.map_map, List.map_map]
    rfl
theorem one_best {w : Work} {j : Nat} {s t u : Sit} (h : Best t s) (hu : u ∈ one w j s) : ∃ v ∈ one w j t, Best v u := by
  obtain ⟨h1, h2, h3⟩ := h
  have e : s = up (s.price - t.price) t := by
    obtain ⟨r, a, p⟩ := s
    obtain ⟨r', a', p'⟩ := t
    simp only at h1 h2 h3
    subst h1 h2
    unfold up
    simp only [Sit.mk.injEq, true_and]
    omega
  rw [e, one_up] at hu
  obtain ⟨v, hv, rfl⟩ := List.mem_map.mp hu
  exact ⟨v, hv, rfl, rfl, Nat.le_add_right _ _⟩
/-- a path of the search: k steps from step j on -/
def Path (w : Work) : Nat → Nat → Sit → Sit → Prop
  | 0, _, s, e => e = s
  | k + 1, j, s, e => ∃ t ∈ one w j s, Path w k (j + 1) t e
theorem all_path (w : Work) : ∀ (k j : Nat) (ss : List Sit) (e : Sit), e ∈ allThrough w k j ss → ∃ s ∈ ss, Path w k j s e
  | 0, _, ss, e, h => ⟨e, h, rfl⟩
  | k + 1, j, ss, e, h => by
    obtain ⟨t, ht, p⟩ := all_path w k (j + 1) (through w j ss) e h
    rw [through_one] at ht
    rcases merge_sub _ _ _ ht with ht | ht
    · obtain ⟨s, hs, hst⟩ := List.mem_flatMap.mp ht
      exact ⟨s, hs, t, hst, p⟩
    · cases ht
theorem path_all (w : Work) : ∀ (k j : Nat) (ss : List Sit) (s e : Sit), (∃ t ∈ ss, Best t s) → Path w k j s e → ∃ t ∈ allThrough w k j ss, Best t e
  | 0, _, ss, s, e, h, p => by
    have p' : e = s := p
    subst p'
    exact h
  | k + 1, j, ss, s, e, h, p => by
    obtain ⟨u, hu, p⟩ := p
    obtain ⟨t, ht, b⟩ := h
    obtain ⟨v, hv, b'⟩ := one_best b hu
    refine path_all w k (j + 1) (through w j ss) u e ?_ p
    rw [through_one]
    obtain ⟨x, hx, bx⟩ := merge_best (ss.flatMap (one w j)) [] v (.inl (List.mem_flatMap.mpr ⟨t, ht, hv⟩))
    exact ⟨x, hx, bx.trans b'⟩
theorem foldl_min : ∀ (l : List Nat) (a : Nat), (l.foldl min a = a ∨ l.foldl min a ∈ l) ∧ l.foldl min a ≤ a ∧ ∀ x ∈ l, l.foldl min a ≤ x
  | [], a => ⟨.inl rfl, Nat.le_refl _, fun x h => by cases h⟩
  | b :: l, a => by
    obtain ⟨h1, h2, h3⟩ := foldl_min l (min a b)
    rw [List.foldl_cons]
    refine ⟨?_, by omega, fun x hx => ?_⟩
    · rcases h1 with h1 | h1
      · by_cases c : a ≤ b
        · exact .inl (by rw [h1]; omega)
        · exact .inr (by rw [h1, show min a b = b by omega]; exact List.mem_cons_self ..)
      · exact .inr (List.mem_cons_of_mem _ h1)
    · rcases List.mem_cons.mp hx with rfl | hx
      · omega
      · exact h3 x hx
def sit0 : Sit := ⟨[], [], 0⟩
/-- **The least price is the least of the paths' prices**, if there is a path. -/
theorem least_le {w : Work} {e : Sit} (p : Path w w.steps.length 0 sit0 e) : least w ≤ e.price := by
  obtain ⟨t, ht, b⟩ := path_all w w.steps.length 0 [sit0] sit0 e ⟨sit0, List.mem_singleton.mpr rfl, .refl _⟩ p
  have hp : t.price ∈ (allThrough w w.steps.length 0 [⟨[], [], 0⟩]).map fun s => s.price := List.mem_map.mpr ⟨t, ht, rfl⟩
  unfold least
  refine Nat.le_trans ?_ b.2.2
  cases q : (allThrough w w.steps.length 0 [⟨[], [], 0⟩]).map fun s => s.price with
  | nil =>
    rw [q] at hp
    cases hp
  | cons a l =>
    rw [q] at hp
    obtain ⟨_, h2, h3⟩ := foldl_min l a
    rcases List.mem_cons.mp hp with h | h
    · rw [h]
      exact h2
    · exact h3 _ h
theorem least_path {w : Work} {e : Sit} (p : Path w w.steps.length 0 sit0 e) : ∃ e', Path w w.steps.length 0 sit0 e' ∧ e'.price = least w := by
  obtain ⟨t, ht, _⟩ := path_all w w.steps.length 0 [sit0] sit0 e ⟨sit0, List.mem_singleton.mpr rfl, .refl _⟩ p
  have key : least w ∈ (allThrough w w.steps.length 0 [⟨[], [], 0⟩]).map fun s => s.price := by
    have hp : t.price ∈ (allThrough w w.steps.length 0 [⟨[], [], 0⟩]).map fun s => s.price := List.mem_map.mpr ⟨t, ht, rfl⟩
    unfold least
    cases q : (allThrough w w.steps.length 0 [⟨[], [], 0⟩]).map fun s => s.price with
    | nil =>
      rw [q] at hp
      cases hp
    | cons a l =>
      obtain ⟨h1, _⟩ := foldl_min l a
      rcases h1 with h1 | h1
      · exact List.mem_cons.mpr (.inl h1)
      · exact List.mem_cons_of_mem _ h1
  obtain ⟨e', he', hpr⟩ := List.mem_map.mp key
  obtain ⟨s, hs, p'⟩ := all_path w _ _ _ _ he'
  rw [List.mem_singleton.mp hs] at p'
  exact ⟨e', p', hpr⟩
end Lb
/-! No plan costs less than the specification's search tells: what the search has not paid yet is owed, value by value. Plain Lean. -/
namespace Lb
open Cm07
/-! ### wanted, given -/
theorem wanted_iff {w : Work} {j v : Nat} : wanted w j v = true ↔ ∃ i, j ≤ i ∧ i < w.steps.length ∧ v ∈ (stepAt w i).uses := by
  unfold wanted nextUse
  rw [List.find?_isSome]
  constructor
  · rintro ⟨i, hi, hv⟩
    obtain ⟨k, hk, e⟩ := List.mem_drop_iff_getElem.mp hi
    simp only [List.getElem_range] at e
    simp only [List.length_range] at hk
    exact ⟨i, by omega, by omega, by simpa using hv⟩
  · rintro ⟨i, h1, h2, hv⟩
    refine ⟨i, List.mem_drop_iff_getElem.mpr ⟨i - j, by simp; omega, by simp; omega⟩, by simpa using hv⟩
theorem wanted_succ {w : Work} {j v : Nat} (h : wanted w (j + 1) v = true) : wanted w j v = true := by
  obtain ⟨i, h1, h2, h3⟩ := wanted_iff.mp h
  exact wanted_iff.mpr ⟨i, by omega, h2, h3⟩
theorem wanted_use {w : Work} {j v : Nat} (hj : j < w.steps.length) (h : v ∈ (stepAt w j).uses) : wanted w j v = true := wanted_iff.mpr ⟨j, Nat.le_refl _, hj, h⟩
theorem wanted_split {w : Work} {j v : Nat} (h : wanted w j v = true) : v ∈ (stepAt w j).uses ∨ wanted w (j + 1) v = true := by
  obtain ⟨i, h1, h2, h3⟩ := wanted_iff.mp h
  by_cases e : i = j
  · subst e
    exact .inl h3
  · exact .inr (wanted_iff.mpr ⟨i, by omega, h2, h3⟩)
theorem wanted_end {w : Work} {j v : Nat} (hj : w.steps.length ≤ j) : wanted w j v = false := by
  cases h : wanted w j v with
  | false => rfl
  | true =>
    obtain ⟨i, h1, h2, _⟩ := wanted_iff.mp h
    omega
theorem valueOf_succ {w : Work} {j : Nat} (hj : j < w.steps.length) : valueOf w (j + 1) = valueOf w j + (if (stepAt w j).gives = true then 1 else 0) := by
  have e : w.steps.take (j + 1) = w.steps.take j ++ [stepAt w j] := by
    rw [List.take_add_one]
    simp [stepAt, List.getD, hj]
  unfold valueOf
  rw [e, List.filter_append, List.length_append]
  by_cases g : (stepAt w j).gives = true
  · simp [g]
  · simp [g]
theorem valueOf_le {w : Work} {j : Nat} : valueOf w j ≤ values w := by
  unfold valueOf values
  exact ((List.take_sublist j w.steps).filter _).length_le
theorem uses_nodup (s : Step) : s.uses.Nodup := by
  cases s with
  | num k => simp [Step.uses]
  | say a => simp [Step.uses]
  | two o a b =>
    by_cases h : a = b
    · simp [Step.uses, h]
    · simp [Step.uses, h]
/-! ### sums over the values that are wanted -/
def sumOn (l : List Nat) (p : Nat → Bool) (f : Nat → Nat) : Nat := (l.map fun v => if p v = true then f v else 0).sum
theorem sumOn_cons (a : Nat) (l : List Nat) (p : Nat → Bool) (f : Nat → Nat) : sumOn (a :: l) p f = (if p a = true then f a else 0) + sumOn l p f := by
  simp [sumOn]
theorem sumOn_le {p q : Nat → Bool} {f g : Nat → Nat} (hp : ∀ u, q u = true → p u = true) (h : ∀ u, q u = true → g u ≤ f u) : ∀ l : List Nat, sumOn l q g ≤ sumOn l p f
  | [] => Nat.le_refl _
  | a :: l => by
    rw [sumOn_cons, sumOn_cons]
    have ih := sumOn_le hp h l
    by_cases c : q a = true
    · rw [if_pos c, if_pos (hp a c)]
      have := h a c
      omega
    · rw [if_neg c]
      omega
/-- one value's share grows by c -/
theorem sumOn_up {p : Nat → Bool} {f g : Nat → Nat} {v c : Nat} (h : ∀ u, g u ≤ f u + (if u = v then c else 0)) : ∀ l : List Nat, l.Nodup → sumOn l p g ≤ sumOn l p f + (if v ∈ l then c else 0)
  | [], _ => by simp [sumOn]
  | a :: l, hn => by
    obtain ⟨h1, h2⟩ := List.nodup_cons.mp hn
    have ih := sumOn_up (p := p) h l h2
    rw [sumOn_cons, sumOn_cons]
    have ha := h a
    by_cases e : a = v
    · subst e
      rw [if_neg h1] at ih
      rw [if_pos rfl] at ha
      simp only [List.mem_cons, true_or, if_true]
      split <;> omega
    · rw [if_neg e] at ha
      have e2 : (v ∈ a :: l) ↔ v ∈ l := by
        simp [Ne.symm e]
      simp only [e2]
      split <;> omega
/-- one value's share pays c -/
theorem sumOn_pay {p : Nat → Bool} {f g : Nat → Nat} {v c : Nat} (hv : p v = true) (h : ∀ u, g u + (if u = v then c else 0) ≤ f u) : ∀ l : List Nat, l.Nodup → sumOn l p g + (if v ∈ l then c else 0) ≤ sumOn l p f
  | [], _ => by simp [sumOn]
  | a :: l, hn => by
    obtain ⟨h1, h2⟩ := List.nodup_cons.mp hn
    have ih := sumOn_pay hv h l h2
    rw [sumOn_cons, sumOn_cons]
    have ha := h a
    by_cases e : a = v
    · subst e
      rw [if_neg h1] at ih
      rw [if_pos rfl] at ha
      simp only [List.mem_cons, true_or, if_true, hv]
      omega
    · rw [if_neg e] at ha
      have e2 : (v ∈ a :: l) ↔ v ∈ l := by
        simp [Ne.symm e]
      simp only [e2]
      split <;> omega
/-! ### a plan, by what stands where -/
structure Pl where
  j : Nat
  R : List Nat
  A : List Nat
def Good (w : Work) (s : Pl) : Prop := s.R.Nodup ∧ s.R.length ≤ w.regs
/-- a move: at most this is there behind it -/
inductive Mv (w : Work) (s t : Pl) : Nat → Prop
  | put (v : Nat) : t.j = s.j → v ∈ s.R → (∀ u ∈ t.R, u ∈ s.R) → (∀ u ∈ t.A, u = v ∨ u ∈ s.A) → Mv w s t w.put
  | get (v : Nat) : t.j = s.j → v ∈ s.A → (∀ u ∈ t.R, u = v ∨ u ∈ s.R) → (∀ u ∈ t.A, u ∈ s.A) → Mv w s t w.get
  | drop : t.j = s.j → (∀ u ∈ t.R, u ∈ s.R) → (∀ u ∈ t.A, u ∈ s.A) → Mv w s t 0
  | again (v : Nat) : t.j = s.j → isNumber w v = true → v < valueOf w s.j → (∀ u ∈ t.R, u = v ∨ u ∈ s.R) → (∀ u ∈ t.A, u ∈ s.A) → Mv w s t w.again
  | next : s.j < w.steps.length → t.j = s.j + 1 → (∀ u ∈ (stepAt w s.j).uses, u ∈ s.R) → (∀ u ∈ t.R, u ∈ s.R ∨ ((stepAt w s.j).gives = true ∧ u = valueOf w s.j)) →
      ((stepAt w s.j).gives = true → valueOf w s.j ∈ t.R) → (∀ u ∈ t.A, u ∈ s.A) → Mv w s t 0
inductive Run (w : Work) : Pl → Nat → Prop
  | done {s : Pl} : s.j = w.steps.length → Run w s 0
  | mv {s t : Pl} {c d : Nat} : Mv w s t c → Good w t → Run w t d → Run w s (c + d)
/-- what is wanted is there, or can be made again -/
theorem Run.avail {w : Work} {s : Pl} {c : Nat} (h : Run w s c) : ∀ v, wanted w s.j v = true → v < valueOf w s.j → v ∈ s.R ∨ v ∈ s.A ∨ isNumber w v = true := by
  induction h with
  | done e =>
    intro v hv _
    rw [wanted_end (by omega)] at hv
    cases hv
  | @mv s t c d m _ _ ih =>
    intro v hv hl
    cases m with
    | put x hj hx hR hA =>
      rw [hj] at ih
      rcases ih v hv hl with h | h | h
      · exact .inl (hR v h)
      · rcases hA v h with rfl | h
        · exact .inl hx
        · exact .inr (.inl h)
      · exact .inr (.inr h)
    | get x hj hx hR hA =>
      rw [hj] at ih
      rcases ih v hv hl with h | h | h
      · rcases hR v h with rfl | h
        · exact .inr (.inl hx)
        · exact .inl h
      · exact .inr (.inl (hA v h))
      · exact .inr (.inr h)
    | drop hj hR hA =>
      rw [hj] at ih
      rcases ih v hv hl with h | h | h
      · exact .inl (hR v h)
      · exact .inr (.inl (hA v h))
      · exact .inr (.inr h)
    | again x hj hn hx hR hA =>
      rw [hj] at ih
      rcases ih v hv hl with h | h | h
      · rcases hR v h with rfl | h
        · exact .inr (.inr hn)
        · exact .inl h
      · exact .inr (.inl (hA v h))
      · exact .inr (.inr h)
    | next hlt hj hu hR hg hA =>
      rcases wanted_split hv with q | q
      · exact .inl (hu v q)
      · rw [hj] at ih
        have hv2 : v < valueOf w (s.j + 1) := by
          rw [valueOf_succ hlt]
          omega
        rcases ih v q hv2 with h | h | h
        · rcases hR v h with h | ⟨_, h⟩
          · exact .inl h
          · omega
        · exact .inr (.inl (hA v h))
        · exact .inr (.inr h)
/-! ### what is owed -/
def load (w : Work) (v : Nat) : Nat := if isNumber w v = true then min w.get w.again else w.get
def phi (w : Work) (Rp Ap Rl Al : List Nat) (v : Nat) : Nat :=
  if v ∈ Rl then (if v ∈ Ap ∧ v ∉ Al then w.put else 0)
  else if v ∈ Al then (if v ∈ Rp then load w v else 0)
  else (if v ∈ Rp ∨ v ∈ Ap then w.again else 0) + (if v ∈ Ap then w.put else 0)
theorem phi_mono {w : Work} {Rp Ap Rp' Ap' Rl Al : List Nat} {v : Nat} (hR : v ∈ Rp' → v ∈ Rp) (hA : v ∈ Ap' → v ∈ Ap) : phi w Rp' Ap' Rl Al v ≤ phi w Rp Ap Rl Al v := by
  unfold phi
  by_cases a : v ∈ Rl
  · simp only [if_pos a]
    by_cases b : v ∈ Ap' ∧ v ∉ Al
    · rw [if_pos b, if_pos ⟨hA b.1, b.2⟩]
      exact Nat.le_refl _
    · rw [if_neg b]
      exact Nat.zero_le _
  · simp only [if_neg a]
    by_cases b : v ∈ Al
    · simp only [if_pos b]
      by_cases c : v ∈ Rp'
      · rw [if_pos c, if_pos (hR c)]
        exact Nat.le_refl _
      · rw [if_neg c]
        exact Nat.zero_le _
    · simp only [if_neg b]
      refine Nat.add_le_add ?_ ?_
      · by_cases c : v ∈ Rp' ∨ v ∈ Ap'
        · rw [if_pos c, if_pos (c.imp hR hA)]
          exact Nat.le_refl _
        · rw [if_neg c]
          exact Nat.zero_le _
      · by_cases c : v ∈ Ap'
        · rw [if_pos c, if_pos (hA c)]
          exact Nat.le_refl _
        · rw [if_neg c]
          exact Nat.zero_le _
/-- the search stands at s where a plan stands at R, A, having paid cp; b: more than all values that are given -/
structure Sim (w : Work) (j b : Nat) (R A : List Nat) (s : Sit) (cp : Nat) : Prop where
  nd : s.regs.Nodup
  len : s.regs.length ≤ w.regs
  wr : ∀ v ∈ s.regs, wanted w j v = true
  lr : ∀ v ∈ s.regs, v < b
  pr : ∀ v ∈ R, v < b
  pa : ∀ v ∈ A, v < b
  pay : s.price + sumOn (List.range (values w)) (wanted w j) (phi w R A s.regs s.away) ≤ cp
theorem Sim.mono {w : Work} {j b : Nat} {R A R' A' : List Nat} {s : Sit} {cp : Nat} (h : Sim w j b R A s cp) (hR : ∀ v ∈ R', v ∈ R) (hA : ∀ v ∈ A', v ∈ A) : Sim w j b R' A' s cp :=
  ⟨h.nd, h.len, h.wr, h.lr, fun v hv => h.pr v (hR v hv), fun v hv => h.pa v (hA v hv), Nat.le_trans (Nat.add_le_add_left (sumOn_le (fun _ z => z) (fun _ _ => phi_mono (hR _) (hA _)) _) _) h.pay⟩
/-- a plan's move that costs c at one value -/
theorem Sim.paid {w : Work} {j b : Nat} {R A R' A' : List Nat} {s : Sit} {cp c : Nat} (h : Sim w j b R A s cp) (v : Nat) (hR : ∀ u ∈ R', u < b) (hA : ∀ u ∈ A', u < b)
    (e : ∀ u, phi w R' A' s.regs s.away u ≤ phi w R A s.regs s.away u + (if u = v then c else 0)) : Sim w j b R' A' s (cp + c) := by
  refine ⟨h.nd, h.len, h.wr, h.lr, hR, hA, ?_⟩
  have q := sumOn_up (p := wanted w j) e (List.range (values w)) List.nodup_range
  have q2 : (if v ∈ List.range (values w) then c else 0) ≤ c := by
    split <;> omega
  have := h.pay
  omega
theorem mem_insert {v u : Nat} : ∀ {l : List Nat}, u ∈ insert v l ↔ u = v ∨ u ∈ l
  | [] => by simp [Cm07.insert]
  | a :: l => by
    unfold Cm07.insert
    split
    · simp
    · split
      · rename_i h
        subst h
        simp
      · rw [List.mem_cons, mem_insert, List.mem_cons]
        constructor
        · rintro (h | h | h) <;> simp [h]
        · rintro (h | h | h) <;> simp [h]
theorem insert_nodup {v : Nat} : ∀ {l : List Nat}, l.Nodup → v ∉ l → (insert v l).Nodup ∧ (insert v l).length = l.length + 1
  | [], _, _ => by simp [Cm07.insert]
  | a :: l, hn, hv => by
    obtain ⟨h1, h2⟩ := List.nodup_cons.mp hn
    have hva : v ≠ a := fun z => hv (by rw [z]; exact List.mem_cons_self ..)
    have hvl : v ∉ l := fun z => hv (List.mem_cons_of_mem _ z)
    unfold Cm07.insert
    by_cases c : v < a
    · rw [if_pos c]
      exact ⟨List.nodup_cons.mpr ⟨hv, hn⟩, rfl⟩
    · rw [if_neg c, if_neg hva]
      obtain ⟨i1, i2⟩ := insert_nodup h2 hvl
      refine ⟨List.nodup_cons.mpr ⟨fun z => ?_, i1⟩, by simp [i2]⟩
      rcases mem_insert.mp z with z | z
      · exact hva z.symm
      · exact h1 z
theorem mem_without {l : List Nat} {v u : Nat} : u ∈ l.filter (fun x => !(x == v)) ↔ u ∈ l ∧ u ≠ v := by
  simp [List.mem_filter]
theorem length_without : ∀ {l : List Nat} {v : Nat}, l.Nodup → v ∈ l → (l.filter (fun x => !(x == v))).length + 1 = l.length
  | [], v, _, h => by cases h
  | a :: l, v, hn, h => by
    obtain ⟨h1, h2⟩ := List.nodup_cons.mp hn
    by_cases e : a = v
    · subst e
      have : l.filter (fun x => !(x == a)) = l := List.filter_eq_self.mpr fun x hx => by
        simp only [Bool.not_eq_true', beq_eq_false_iff_ne]
        intro z
        exact h1 (z ▸ hx)
      simp [this]
    · have hv : v ∈ l := by
        rcases List.mem_cons.mp h with z | z
        · exact absurd z.symm e
        · exact z
      have ih := length_without h2 hv
      simp [e, ih]
/-- a value leaves that the plan hasn't in a register either -/
theorem Sim.leave {w : Work} {j b : Nat} {R A : List Nat} {s : Sit} {cp v : Nat} (h : Sim w j b R A s cp) (hb : b ≤ values w) (hv : v ∈ s.regs) (hR : v ∉ R) (av : v ∈ A ∨ isNumber w v = true) :
    ∃ s1 ∈ leaves w v s, s1.regs = s.regs.filter (fun x => !(x == v)) ∧ Sim w j b R A s1 cp := by
  have nd' : (s.regs.filter (fun x => !(x == v))).Nodup := h.nd.sublist List.filter_sublist
  have len' : (s.regs.filter (fun x => !(x == v))).length ≤ w.regs := Nat.le_trans (List.filter_sublist.length_le) h.len
  have sub : ∀ u ∈ s.regs.filter (fun x => !(x == v)), u ∈ s.regs := fun u hu => (mem_without.mp hu).1
  have hvb := h.lr v hv
  have hin : v ∈ List.range (values w) := List.mem_range.mpr (by omega)
  by_cases ha : v ∈ s.away
  · refine ⟨{ s with regs := s.regs.filter (fun x => !(x == v)) }, ?_, rfl, nd', len', fun u hu => h.wr u (sub u hu), fun u hu => h.lr u (sub u hu), h.pr, h.pa, ?_⟩
    · simp [leaves, ha]
    · refine Nat.le_trans (Nat.add_le_add_left (sumOn_le (fun _ z => z) (fun u _ => ?_) _) _) h.pay
      by_cases e : u = v
      · subst e
        simp [phi, ha, hR]
      · simp [phi, e]
  · by_cases hA : v ∈ A
    · refine ⟨{ s with regs := s.regs.filter (fun x => !(x == v)), away := insert v s.away, price := s.price + w.put }, ?_, rfl, nd', len', fun u hu => h.wr u (sub u hu), fun u hu => h.lr u (sub u hu), h.pr, h.pa, ?_⟩
      · simp [leaves, ha]
      · have q := sumOn_pay (p := wanted w j) (f := phi w R A s.regs s.away) (g := phi w R A (s.regs.filter (fun x => !(x == v))) (insert v s.away)) (v := v) (c := w.put) (h.wr v hv) (fun u => by
          by_cases e : u = v
          · subst e
            simp [phi, mem_insert, hR, hv, hA, ha]
          · simp [phi, mem_insert, e]) (List.range (values w)) List.nodup_range
        rw [if_pos hin] at q
        have := h.pay
        show s.price + w.put + sumOn (List.range (values w)) (wanted w j) (phi w R A (s.regs.filter (fun x => !(x == v))) (insert v s.away)) ≤ cp
        omega
    · have hn : isNumber w v = true := av.resolve_left hA
      refine ⟨{ s with regs := s.regs.filter (fun x => !(x == v)) }, ?_, rfl, nd', len', fun u hu => h.wr u (sub u hu), fun u hu => h.lr u (sub u hu), h.pr, h.pa, ?_⟩
      · simp [leaves, ha, hn]
      · refine Nat.le_trans (Nat.add_le_add_left (sumOn_le (fun _ z => z) (fun u _ => ?_) _) _) h.pay
        by_cases e : u = v
        · subst e
          simp [phi, ha, hR, hA]
        · simp [phi, e]
/-- a value comes that the plan has in a register -/
theorem Sim.come {w : Work} {j b : Nat} {R A : List Nat} {s : Sit} {cp v : Nat} (h : Sim w j b R A s cp) (hb : b ≤ values w) (hv : v ∉ s.regs) (hR : v ∈ R) (hw : wanted w j v = true) (hl : s.regs.length < w.regs) : Sim w j b R A (comes w s v) cp := by
  obtain ⟨n1, n2⟩ := insert_nodup h.nd hv
  have hvb := h.pr v hR
  have hin : v ∈ List.range (values w) := List.mem_range.mpr (by omega)
  refine ⟨n1, by show (insert v s.regs).length ≤ _; omega, fun u hu => ?_, fun u hu => ?_, h.pr, h.pa, ?_⟩
  · rcases mem_insert.mp hu with rfl | hu
    · exact hw
    · exact h.wr u hu
  · rcases mem_insert.mp hu with rfl | hu
    · exact hvb
    · exact h.lr u hu
  · have q := sumOn_pay (p := wanted w j) (f := phi w R A s.regs s.away) (g := phi w R A (insert v s.regs) s.away) (v := v) (c := if s.away.contains v then (if isNumber w v then min w.get w.again else w.get) else w.again) hw (fun u => by
      by_cases e : u = v
      · subst e
        by_cases ha : u ∈ s.away
        · simp [phi, mem_insert, hR, hv, ha, load]
        · by_cases hA : u ∈ A
          · simp [phi, mem_insert, hR, hv, ha, hA, Nat.add_comm]
          · simp [phi, mem_insert, hR, hv, ha, hA]
      · simp [phi, mem_insert, e]) (List.range (values w)) List.nodup_range
    rw [if_pos hin] at q
    have := h.pay
    show s.price + (if s.away.contains v then (if isNumber w v then min w.get w.again else w.get) else w.again) + sumOn (List.range (values w)) (wanted w j) (phi w R A (insert v s.regs) s.away) ≤ cp
    omega
end Lb
namespace Lb
open Cm07
theorem leaves_sub (w : Work) : ∀ (vs : List Nat) (ss ss' : List Sit), (∀ s ∈ ss, s ∈ ss') → ∀ t ∈ vs.foldl (fun ss v => ss.flatMap (leaves w v)) ss, t ∈ vs.foldl (fun ss v => ss.flatMap (leaves w v)) ss'
  | [], _, _, h, t, ht => h t ht
  | v :: vs, ss, ss', h, t, ht => by
    refine leaves_sub w vs (ss.flatMap (leaves w v)) (ss'.flatMap (leaves w v)) (fun s hs => ?_) t ht
    obtain ⟨a, ha, hsa⟩ := List.mem_flatMap.mp hs
    exact List.mem_flatMap.mpr ⟨a, h a ha, hsa⟩
theorem Sim.leaveAll {w : Work} {j b : Nat} {R A : List Nat} {cp : Nat} (hb : b ≤ values w) : ∀ (vs : List Nat) (s : Sit), Sim w j b R A s cp → vs.Nodup → (∀ v ∈ vs, v ∈ s.regs ∧ v ∉ R ∧ (v ∈ A ∨ isNumber w v = true)) →
    ∃ s1 ∈ vs.foldl (fun ss v => ss.flatMap (leaves w v)) [s], Sim w j b R A s1 cp ∧ (∀ u, u ∈ s1.regs ↔ u ∈ s.regs ∧ u ∉ vs) ∧ s1.regs.length + vs.length = s.regs.length
  | [], s, h, _, _ => ⟨s, List.mem_singleton.mpr rfl, h, by simp, by simp⟩
  | v :: vs, s, h, hn, hv => by
    obtain ⟨h1, h2⟩ := List.nodup_cons.mp hn
    obtain ⟨q1, q2, q3⟩ := hv v (List.mem_cons_self ..)
    obtain ⟨s1, m1, e1, S1⟩ := h.leave hb q1 q2 q3
    obtain ⟨s2, m2, S2, e2, l2⟩ := Sim.leaveAll hb vs s1 S1 h2 (fun u hu => by
      obtain ⟨a1, a2, a3⟩ := hv u (List.mem_cons_of_mem _ hu)
      refine ⟨?_, a2, a3⟩
      rw [e1]
      exact mem_without.mpr ⟨a1, fun z => h1 (z ▸ hu)⟩)
    refine ⟨s2, leaves_sub w vs [s1] _ (fun x hx => ?_) s2 m2, S2, fun u => ?_, ?_⟩
    · rw [List.mem_singleton.mp hx]
      exact List.mem_flatMap.mpr ⟨s, List.mem_singleton.mpr rfl, m1⟩
    · rw [e2 u, e1, mem_without, List.mem_cons]
      constructor
      · rintro ⟨⟨a1, a2⟩, a3⟩
        exact ⟨a1, fun z => z.elim a2 a3⟩
      · rintro ⟨a1, a2⟩
        exact ⟨⟨a1, fun z => a2 (.inl z)⟩, fun z => a2 (.inr z)⟩
    · have := length_without h.nd q1
      rw [e1] at l2
      rw [List.length_cons]
      omega
theorem Sim.comeAll {w : Work} {j b : Nat} {R A : List Nat} {cp : Nat} (hb : b ≤ values w) : ∀ (ms : List Nat) (s : Sit), Sim w j b R A s cp → ms.Nodup → (∀ v ∈ ms, v ∉ s.regs ∧ v ∈ R ∧ wanted w j v = true) → s.regs.length + ms.length ≤ w.regs →
    Sim w j b R A (ms.foldl (comes w) s) cp ∧ (∀ u, u ∈ (ms.foldl (comes w) s).regs ↔ u ∈ s.regs ∨ u ∈ ms) ∧ (ms.foldl (comes w) s).regs.length = s.regs.length + ms.length
  | [], s, h, _, _, _ => ⟨h, by simp, by simp⟩
  | v :: ms, s, h, hn, hv, hl => by
    obtain ⟨h1, h2⟩ := List.nodup_cons.mp hn
    obtain ⟨q1, q2, q3⟩ := hv v (List.mem_cons_self ..)
    rw [List.length_cons] at hl
    have S1 := h.come hb q1 q2 q3 (by omega)
    have l1 : (comes w s v).regs.length = s.regs.length + 1 := (insert_nodup h.nd q1).2
    have m1 : ∀ u, u ∈ (comes w s v).regs ↔ u = v ∨ u ∈ s.regs := fun u => mem_insert
    obtain ⟨S2, e2, l2⟩ := Sim.comeAll hb ms (comes w s v) S1 h2 (fun u hu => by
      obtain ⟨a1, a2, a3⟩ := hv u (List.mem_cons_of_mem _ hu)
      refine ⟨fun z => ?_, a2, a3⟩
      rcases (m1 u).mp z with z | z
      · exact h1 (z ▸ hu)
      · exact a1 z) (by omega)
    refine ⟨S2, fun u => ?_, ?_⟩
    · show u ∈ (ms.foldl (comes w) (comes w s v)).regs ↔ _
      rw [e2 u, m1 u, List.mem_cons]
      constructor
      · rintro ((a | a) | a)
        · exact .inr (.inl a)
        · exact .inl a
        · exact .inr (.inr a)
      · rintro (a | a | a)
        · exact .inl (.inr a)
        · exact .inl (.inl a)
        · exact .inr a
    · show (ms.foldl (comes w) (comes w s v)).regs.length = _
      rw [l2, l1, List.length_cons]
      omega
theorem Sim.tidy {w : Work} {j b : Nat} {R A : List Nat} {s : Sit} {cp : Nat} (h : Sim w j b R A s cp) : Sim w (j + 1) b R A (Cm07.tidy w (j + 1) s) cp := by
  refine ⟨h.nd.sublist List.filter_sublist, Nat.le_trans List.filter_sublist.length_le h.len, fun v hv => (List.mem_filter.mp hv).2, fun v hv => h.lr v (List.mem_filter.mp hv).1, h.pr, h.pa, ?_⟩
  refine Nat.le_trans (Nat.add_le_add_left (sumOn_le (fun u hu => wanted_succ hu) (fun u hu => ?_) _) _) h.pay
  simp [phi, Cm07.tidy, List.mem_filter, hu]
theorem choices_mem : ∀ (l vs : List Nat), vs.Sublist l → vs ∈ choices vs.length l
  | l, [], _ => by
    cases l <;> simp [choices]
  | _, v :: vs, h => by
    cases h with
    | @cons _ l a h =>
      rw [List.length_cons]
      unfold choices
      refine List.mem_append_right _ ?_
      exact choices_mem l (v :: vs) h
    | @cons_cons _ l _ h =>
      rw [List.length_cons]
      unfold choices
      exact List.mem_append_left _ (List.mem_map.mpr ⟨vs, choices_mem l vs h, rfl⟩)
theorem leaveMany_mem {w : Work} {n : Nat} {l vs : List Nat} {s t : Sit} (h : vs.Sublist l) (hn : vs.length = n) (ht : t ∈ vs.foldl (fun ss v => ss.flatMap (leaves w v)) [s]) : t ∈ leaveMany w n l s := by
  subst hn
  exact List.mem_flatMap.mpr ⟨vs, choices_mem l vs h, ht⟩
theorem filter_split (l : List Nat) (p : Nat → Bool) : (l.filter p).length + (l.filter fun x => !p x).length = l.length := by
  induction l with
  | nil => rfl
  | cons a l ih =>
    cases h : p a <;> simp [h] <;> omega
/-- as many leave as must, all of them such that the plan hasn't either -/
theorem Sim.leaveMany {w : Work} {j b n : Nat} {R A : List Nat} {s : Sit} {cp : Nat} {l : List Nat} (h : Sim w j b R A s cp) (hb : b ≤ values w) (hl : l.Sublist s.regs) (hn : n ≤ (l.filter fun v => !R.contains v).length)
    (av : ∀ v ∈ s.regs, v ∉ R → v ∈ A ∨ isNumber w v = true) : ∃ s1 ∈ Cm07.leaveMany w n l s, Sim w j b R A s1 cp ∧ (∀ u, u ∈ s1.regs → u ∈ s.regs) ∧ (∀ u ∈ s.regs, u ∉ l → u ∈ s1.regs) ∧ s1.regs.length + n = s.regs.length := by
  let vs := (l.filter fun v => !R.contains v).take n
  have hlen : vs.length = n := by
    show ((l.filter fun v => !R.contains v).take n).length = n
    rw [List.length_take]
    omega
  have hsub : vs.Sublist l := (List.take_sublist _ _).trans List.filter_sublist
  have hnd : vs.Nodup := h.nd.sublist (hsub.trans hl)
  have hm : ∀ v ∈ vs, v ∈ l ∧ v ∉ R := fun v hv => by
    have := List.mem_filter.mp ((List.take_sublist _ _).subset hv)
    simpa using this
  obtain ⟨s1, m1, S1, e1, l1⟩ := h.leaveAll hb vs s hnd fun v hv => ⟨hl.subset (hm v hv).1, (hm v hv).2, av v (hl.subset (hm v hv).1) (hm v hv).2⟩
  exact ⟨s1, leaveMany_mem hsub hlen m1, S1, fun u hu => ((e1 u).mp hu).1, fun u hu hul => (e1 u).mpr ⟨hu, fun z => hul (hm u z).1⟩, by omega⟩
/-- **One step**: where a plan does it, the search has a situation that has paid no more. -/
theorem Sim.next {w : Work} {p t : Pl} {s : Sit} {cp d : Nat} (h : Sim w p.j (valueOf w p.j) p.R p.A s cp) (hg : Good w p) (hlt : p.j < w.steps.length) (hj : t.j = p.j + 1) (hu : ∀ u ∈ (stepAt w p.j).uses, u ∈ p.R)
    (hR : ∀ u ∈ t.R, u ∈ p.R ∨ ((stepAt w p.j).gives = true ∧ u = valueOf w p.j)) (hgv : (stepAt w p.j).gives = true → valueOf w p.j ∈ t.R) (hA : ∀ u ∈ t.A, u ∈ p.A) (hgt : Good w t) (hp : Run w p d) (ht : ∃ d', Run w t d') :
    ∃ s' ∈ one w p.j s, Sim w t.j (valueOf w t.j) t.R t.A s' cp := by
  obtain ⟨j, R, A⟩ := p
  obtain ⟨j', R', A'⟩ := t
  have hj' : j' = j + 1 := hj
  subst hj'
  have hb : valueOf w j ≤ values w := valueOf_le
  have hb' : valueOf w (j + 1) ≤ values w := valueOf_le
  -- make room and get what is missing
  have un := uses_nodup (stepAt w j)
  have ndm : ((stepAt w j).uses.filter fun v => !s.regs.contains v).Nodup := un.sublist List.filter_sublist
  have count : s.regs.length + ((stepAt w j).uses.filter fun v => !s.regs.contains v).length - w.regs ≤ ((s.regs.filter fun v => !(stepAt w j).uses.contains v).filter fun v => !R.contains v).length := by
    have c1 := filter_split s.regs (fun v => (stepAt w j).uses.contains v)
    have c2 := filter_split (s.regs.filter fun v => !(stepAt w j).uses.contains v) (fun v => R.contains v)
    have c3 := filter_split (stepAt w j).uses (fun v => s.regs.contains v)
    have c4 : (s.regs.filter fun v => (stepAt w j).uses.contains v).length ≤ ((stepAt w j).uses.filter fun v => s.regs.contains v).length :=
      (h.nd.sublist List.filter_sublist).length_le_of_subset fun v hv => by
        simp only [List.mem_filter, List.contains_iff_mem] at hv ⊢
        exact ⟨hv.2, hv.1⟩
    have c5 : ((stepAt w j).uses ++ ((s.regs.filter fun v => !(stepAt w j).uses.contains v).filter fun v => R.contains v)).length ≤ R.length := by
      refine List.Nodup.length_le_of_subset ?_ fun v hv => ?_
      · refine List.nodup_append.mpr ⟨un, (h.nd.sublist List.filter_sublist).sublist List.filter_sublist, ?_⟩
        intro a ha b hb2 e
        subst e
        have q := (List.mem_filter.mp (List.mem_filter.mp hb2).1).2
        have q2 : a ∉ (stepAt w j).uses := by simpa using q
        exact q2 ha
      · rcases List.mem_append.mp hv with hv | hv
        · exact hu v hv
        · simpa using (List.mem_filter.mp hv).2
    rw [List.length_append] at c5
    have c6 : R.length ≤ w.regs := hg.2
    omega
  obtain ⟨s1, m1, S1, e1, k1, l1⟩ := h.leaveMany (n := s.regs.length + ((stepAt w j).uses.filter fun v => !s.regs.contains v).length - w.regs) hb (List.filter_sublist (p := fun v => !(stepAt w j).uses.contains v)) count fun v hv hvR => by
    have := hp.avail v (h.wr v hv) (h.lr v hv)
    exact this.resolve_left hvR
  have hl := h.len
  have uR : (stepAt w j).uses.length ≤ w.regs := Nat.le_trans (un.length_le_of_subset hu) hg.2
  have room : s1.regs.length + ((stepAt w j).uses.filter fun v => !s.regs.contains v).length ≤ w.regs := by
    have := ((stepAt w j).uses.length_filter_le fun v => !s.regs.contains v)
    omega
  obtain ⟨S2, e2, l2⟩ := S1.comeAll hb _ s1 ndm (fun v hv => by
    simp only [List.mem_filter, Bool.not_eq_true', List.contains_eq_mem, decide_eq_false_iff_not] at hv
    exact ⟨fun z => hv.2 (e1 v z), hu v hv.1, wanted_use hlt hv.1⟩) room
  have S3 : Sim w (j + 1) (valueOf w j) R A (Cm07.tidy w (j + 1) (List.foldl (comes w) s1 ((stepAt w j).uses.filter fun v => !s.regs.contains v))) cp := S2.tidy
  cases g : (stepAt w j).gives with
  | false =>
    have ev : valueOf w (j + 1) = valueOf w j := by
      rw [valueOf_succ hlt, g]
      rfl
    refine ⟨Cm07.tidy w (j + 1) (List.foldl (comes w) s1 ((stepAt w j).uses.filter fun v => !s.regs.contains v)), List.mem_flatMap.mpr ⟨s1, m1, ?_⟩, ?_⟩
    · show _ ∈ (if (stepAt w j).gives = false then _ else _)
      rw [if_pos g]
      exact List.mem_singleton.mpr rfl
    · rw [show (valueOf w (j + 1)) = valueOf w j from ev]
      refine S3.mono (fun v hv => ?_) hA
      rcases hR v hv with q | q
      · exact q
      · rw [g] at q
        exact absurd q.1 (by decide)
  | true =>
    have ev : valueOf w (j + 1) = valueOf w j + 1 := by
      rw [valueOf_succ hlt, g]
      rfl
    have hnew := hgv g
    -- the plan's registers but for the new value
    have S4 : Sim w (j + 1) (valueOf w j) (R'.filter fun x => !(x == valueOf w j)) A' (Cm07.tidy w (j + 1) (List.foldl (comes w) s1 ((stepAt w j).uses.filter fun v => !s.regs.contains v))) cp := S3.mono (fun v hv => by
      obtain ⟨q1, q2⟩ := mem_without.mp hv
      rcases hR v q1 with q | q
      · exact q
      · exact absurd q.2 q2) hA
    have cnt : (Cm07.tidy w (j + 1) (List.foldl (comes w) s1 ((stepAt w j).uses.filter fun v => !s.regs.contains v))).regs.length + 1 - w.regs ≤ ((Cm07.tidy w (j + 1) (List.foldl (comes w) s1 ((stepAt w j).uses.filter fun v => !s.regs.contains v))).regs.filter fun v => !(R'.filter fun x => !(x == valueOf w j)).contains v).length := by
      have c1 := filter_split (Cm07.tidy w (j + 1) (List.foldl (comes w) s1 ((stepAt w j).uses.filter fun v => !s.regs.contains v))).regs (fun v => (R'.filter fun x => !(x == valueOf w j)).contains v)
      have c2 : ((Cm07.tidy w (j + 1) (List.foldl (comes w) s1 ((stepAt w j).uses.filter fun v => !s.regs.contains v))).regs.filter fun v => (R'.filter fun x => !(x == valueOf w j)).contains v).length ≤ (R'.filter fun x => !(x == valueOf w j)).length :=
        (S4.nd.sublist List.filter_sublist).length_le_of_subset fun v hv => by
          simpa using (List.mem_filter.mp hv).2
      have c3 := length_without hgt.1 hnew
      have c4 : R'.length ≤ w.regs := hgt.2
      simp only at c3 c4
      omega
    obtain ⟨s4, m4, S5, e4, _, l4⟩ := S4.leaveMany (n := (Cm07.tidy w (j + 1) (List.foldl (comes w) s1 ((stepAt w j).uses.filter fun v => !s.regs.contains v))).regs.length + 1 - w.regs) hb (List.Sublist.refl _) cnt fun v hv hvR => by
      obtain ⟨d', ht⟩ := ht
      have hvb := S4.lr v hv
      have hne : v ≠ valueOf w j := by omega
      have := ht.avail v (S4.wr v hv) (by show v < valueOf w (j + 1); omega)
      rcases this with q | q
      · exact absurd (mem_without.mpr ⟨q, hne⟩) hvR
      · exact q
    have hnr : valueOf w j ∉ s4.regs := fun z => by
      have := S5.lr _ z
      omega
    obtain ⟨i1, i2⟩ := insert_nodup S5.nd hnr
    have hreg : 1 ≤ w.regs := by
      have c4 : R'.length ≤ w.regs := hgt.2
      have := List.length_pos_of_mem hnew
      simp only at this
      omega
    refine ⟨Cm07.tidy w (j + 1) { s4 with regs := insert (valueOf w j) s4.regs }, List.mem_flatMap.mpr ⟨s1, m1, ?_⟩, ?_⟩
    · show _ ∈ (if (stepAt w j).gives = false then _ else _)
      rw [if_neg (by rw [g]; decide)]
      exact List.mem_map.mpr ⟨s4, m4, rfl⟩
    · refine ⟨i1.sublist List.filter_sublist, ?_, fun v hv => (List.mem_filter.mp hv).2, fun v hv => ?_, fun v hv => ?_, fun v hv => ?_, ?_⟩
      · refine Nat.le_trans (List.filter_sublist.length_le) ?_
        have := S4.len
        show (insert (valueOf w j) s4.regs).length ≤ w.regs
        omega
      · show v < valueOf w (j + 1)
        rcases mem_insert.mp (List.mem_filter.mp hv).1 with q | q
        · omega
        · have := S5.lr v q
          omega
      · show v < valueOf w (j + 1)
        by_cases q : v = valueOf w j
        · omega
        · have := S5.pr v (mem_without.mpr ⟨hv, q⟩)
          omega
      · show v < valueOf w (j + 1)
        have := S5.pa v hv
        omega
      · refine Nat.le_trans (Nat.add_le_add_left (sumOn_le (fun _ z => z) (fun u hw => ?_) _) _) S5.pay
        have hAn : valueOf w j ∉ A' := fun z => by
          have := S5.pa _ z
          omega
        by_cases e : u = valueOf w j
        · subst e
          simp [phi, Cm07.tidy, List.mem_filter, hw, mem_insert, hAn]
        · simp [phi, Cm07.tidy, List.mem_filter, hw, mem_insert, e]
/-- **No plan costs less.** -/
theorem low {w : Work} {p : Pl} {c : Nat} (h : Run w p c) : ∀ (s : Sit) (cp : Nat), Good w p → Sim w p.j (valueOf w p.j) p.R p.A s cp → p.j ≤ w.steps.length → ∃ e, Path w (w.steps.length - p.j) p.j s e ∧ e.price ≤ cp + c := by
  induction h with
  | @done q e =>
    intro s cp _ S _
    refine ⟨s, ?_, ?_⟩
    · rw [e, Nat.sub_self]
      rfl
    · have := S.pay
      omega
  | @mv p t c d m gt run ih =>
    intro s cp hg S hj
    have hrun : Run w p (c + d) := .mv m gt run
    cases m with
    | put v e hv hR hA =>
      have S' : Sim w p.j (valueOf w p.j) t.R t.A s (cp + w.put) := S.paid v (fun u hu => S.pr u (hR u hu)) (fun u hu => by
          rcases hA u hu with rfl | q
          · exact S.pr _ hv
          · exact S.pa u q) fun u => by
        by_cases q : u = v
        · subst q
          rw [if_pos rfl]
          unfold phi
          by_cases a1 : u ∈ s.regs
          · simp only [if_pos a1]
            split <;> omega
          · simp only [if_neg a1]
            by_cases a2 : u ∈ s.away
            · simp only [if_pos a2, if_pos hv]
              split <;> omega
            · simp only [if_neg a2, hv, true_or, if_true]
              split <;> split <;> split <;> omega
        · rw [if_neg q]
          exact phi_mono (hR u) fun z => (hA u z).resolve_left q
      rw [← e] at S'
      obtain ⟨x, hx, hle⟩ := ih s _ gt S' (by omega)
      rw [e] at hx
      exact ⟨x, hx, by omega⟩
    | get v e hv hR hA =>
      have S' : Sim w p.j (valueOf w p.j) t.R t.A s (cp + w.get) := S.paid v (fun u hu => by
          rcases hR u hu with rfl | q
          · exact S.pa _ hv
          · exact S.pr u q) (fun u hu => S.pa u (hA u hu)) fun u => by
        by_cases q : u = v
        · subst q
          rw [if_pos rfl]
          refine Nat.le_trans (phi_mono (Rp := u :: p.R) (Ap := p.A) (fun _ => List.mem_cons_self ..) (hA u)) ?_
          unfold phi
          by_cases a1 : u ∈ s.regs
          · simp only [if_pos a1]
            omega
          · simp only [if_neg a1]
            by_cases a2 : u ∈ s.away
            · simp only [if_pos a2, List.mem_cons, true_or, if_true]
              unfold load
              split <;> split <;> omega
            · simp only [if_neg a2, hv, or_true, if_true]
              omega
        · rw [if_neg q]
          exact phi_mono (fun z => (hR u z).resolve_left q) (hA u)
      rw [← e] at S'
      obtain ⟨x, hx, hle⟩ := ih s _ gt S' (by omega)
      rw [e] at hx
      exact ⟨x, hx, by omega⟩
    | drop e hR hA =>
      have S' := S.mono hR hA
      rw [← e] at S'
      obtain ⟨x, hx, hle⟩ := ih s _ gt S' (by omega)
      rw [e] at hx
      exact ⟨x, hx, by omega⟩
    | again v e hn hv hR hA =>
      have S' : Sim w p.j (valueOf w p.j) t.R t.A s (cp + w.again) := S.paid v (fun u hu => by
          rcases hR u hu with rfl | q
          · exact hv
          · exact S.pr u q) (fun u hu => S.pa u (hA u hu)) fun u => by
        by_cases q : u = v
        · subst q
          rw [if_pos rfl]
          refine Nat.le_trans (phi_mono (Rp := u :: p.R) (Ap := p.A) (fun _ => List.mem_cons_self ..) (hA u)) ?_
          unfold phi
          by_cases a1 : u ∈ s.regs
          · simp only [if_pos a1]
            omega
          · simp only [if_neg a1]
            by_cases a2 : u ∈ s.away
            · simp only [if_pos a2, List.mem_cons, true_or, if_true]
              unfold load
              rw [if_pos hn]
              split <;> omega
            · simp only [if_neg a2, List.mem_cons, true_or, if_true]
              split <;> split <;> omega
        · rw [if_neg q]
          exact phi_mono (fun z => (hR u z).resolve_left q) (hA u)
      rw [← e] at S'
      obtain ⟨x, hx, hle⟩ := ih s _ gt S' (by omega)
      rw [e] at hx
      exact ⟨x, hx, by omega⟩
    | next hlt e hu hR hgv hA =>
      obtain ⟨s', m', S'⟩ := S.next hg hlt e hu hR hgv hA gt hrun ⟨_, run⟩
      obtain ⟨x, hx, hle⟩ := ih s' cp gt S' (by omega)
      rw [e] at hx
      refine ⟨x, ?_, by omega⟩
      rw [show w.steps.length - p.j = (w.steps.length - (p.j + 1)) + 1 by omega]
      exact ⟨s', m', hx⟩
/-- from the beginning -/
theorem least_low {w : Work} {c : Nat} (h : Run w ⟨0, [], []⟩ c) : (∃ e, Path w w.steps.length 0 sit0 e) ∧ least w ≤ c := by
  obtain ⟨e, p, hle⟩ := low h sit0 0 ⟨List.nodup_nil, Nat.zero_le _⟩ ⟨List.nodup_nil, Nat.zero_le _, by simp [sit0], by simp [sit0], by simp, by simp, by
    have : sumOn (List.range (values w)) (wanted w 0) (phi w [] [] [] []) ≤ sumOn (List.range (values w)) (wanted w 0) (fun _ => 0) := sumOn_le (fun _ z => z) (fun u _ => by simp [phi]) _
    have z : ∀ l : List Nat, sumOn l (wanted w 0) (fun _ => 0) = 0 := fun l => by
      induction l with
      | nil => rfl
      | cons a l ih => simp [sumOn_cons, ih]
    rw [z] at this
    show 0 + sumOn (List.range (values w)) (wanted w 0) (phi w [] [] [] []) ≤ 0
    omega⟩ (Nat.zero_le _)
  have p' : Path w w.steps.length 0 sit0 e := p
  exact ⟨⟨e, p'⟩, Nat.le_trans (least_le p') (by omega)⟩
end Lb
/-! Plans, by the specification's own desk: what they cost and say, and that the plan which lets go what's wanted last can be done. Plain Lean. -/
namespace Lb
open Cm07
def cost (w : Work) : Act → Nat
  | .put _ => w.put
  | .get _ => w.get
  | .again _ => w.again
  | _ => 0
def planCost (w : Work) (l : List Act) : Nat := (l.map (cost w)).sum
theorem does_price {w : Work} {d e : Desk} {r : List (Nat × Nat)} (h : does w d r = some e) : e.price = d.price := by
  unfold does at h
  split at h
  · cases h
  · cases s : stepAt w d.done with
    | num k =>
      simp only [s, Option.some.injEq] at h
      subst h
      rfl
    | two o a b =>
      simp only [s, Option.bind_eq_some_iff, Option.some.injEq] at h
      obtain ⟨x, _, y, _, rfl⟩ := h
      rfl
    | say a =>
      simp only [s, Option.map_eq_some_iff] at h
      obtain ⟨x, _, rfl⟩ := h
      rfl
theorem act_price {w : Work} {d e : Desk} {a : Act} (h : act w d a = some e) : e.price = d.price + cost w a := by
  cases a with
  | put v =>
    simp only [act, Option.map_eq_some_iff] at h
    obtain ⟨x, _, rfl⟩ := h
    rfl
  | get v =>
    simp only [act] at h
    split at h
    · cases h
    · simp only [Option.map_eq_some_iff] at h
      obtain ⟨x, _, rfl⟩ := h
      rfl
  | drop v =>
    simp only [act, Option.map_eq_some_iff] at h
    obtain ⟨x, _, rfl⟩ := h
    rfl
  | again v =>
    simp only [act] at h
    split at h
    · cases h
    · simp only [Option.map_eq_some_iff] at h
      obtain ⟨x, _, rfl⟩ := h
      rfl
  | next =>
    simp only [act] at h
    split at h
    · cases h
    · exact does_price h
  | nextIn v =>
    simp only [act] at h
    split at h
    · cases h
    · exact does_price h
theorem acts_price {w : Work} : ∀ {l : List Act} {d e : Desk}, acts w l d = some e → e.price = d.price + planCost w l
  | [], d, e, h => by
    cases h
    rfl
  | a :: l, d, e, h => by
    simp only [acts, Option.bind_eq_some_iff] at h
    obtain ⟨f, h1, h2⟩ := h
    have q1 := act_price h1
    have q2 := acts_price h2
    rw [q2, q1, planCost, planCost, List.map_cons, List.sum_cons]
    omega
theorem acts_append {w : Work} : ∀ (l m : List Act) (d : Desk), acts w (l ++ m) d = (acts w l d).bind (acts w m)
  | [], _, _ => rfl
  | a :: l, m, d => by
    show (act w d a).bind (acts w (l ++ m)) = ((act w d a).bind (acts w l)).bind (acts w m)
    cases act w d a with
    | none => rfl
    | some e =>
      show acts w (l ++ m) e = (acts w l e).bind (acts w m)
      exact acts_append l m e
theorem acts_snoc {w : Work} {l : List Act} {a : Act} {d0 d e : Desk} (h : acts w l d0 = some d) (k : act w d a = some e) : acts w (l ++ [a]) d0 = some e := by
  rw [acts_append, h]
  show (act w d a).bind (acts w []) = some e
  rw [k]
  rfl
/-! ### words -/
theorem wordIn_isSome {l : List (Nat × Nat)} {v : Nat} : (wordIn l v).isSome = true ↔ v ∈ l.map (·.1) := by
  unfold wordIn
  rw [Option.isSome_map, List.find?_isSome]
  simp only [List.mem_map, beq_iff_eq]
theorem wordIn_none {l : List (Nat × Nat)} {v : Nat} : wordIn l v = none ↔ v ∉ l.map (·.1) := by
  rw [← wordIn_isSome]
  cases wordIn l v <;> simp
theorem wordIn_mem {l : List (Nat × Nat)} {v x : Nat} (h : wordIn l v = some x) : (v, x) ∈ l := by
  unfold wordIn at h
  simp only [Option.map_eq_some_iff] at h
  obtain ⟨q, hq, rfl⟩ := h
  have h1 := List.mem_of_find?_eq_some hq
  have h2 := List.find?_some hq
  simp only [beq_iff_eq] at h2
  rw [← h2]
  exact h1
theorem without_map (l : List (Nat × Nat)) (v : Nat) : (without l v).map (·.1) = (l.map (·.1)).filter fun x => !(x == v) := by
  unfold without
  rw [List.filter_map]
  rfl
/-- each step uses what is given by then -/
def Valid (w : Work) : Prop := ∀ j, j < w.steps.length → ∀ v ∈ (stepAt w j).uses, v < valueOf w j
/-! ### lastWanted -/
theorem lastWanted_mem {w : Work} {j : Nat} : ∀ {l : List Nat} {u : Nat}, lastWanted w j l = some u → u ∈ l
  | [], u, h => by cases h
  | v :: l, u, h => by
    unfold lastWanted at h
    cases e : lastWanted w j l with
    | none =>
      rw [e] at h
      cases h
      exact List.mem_cons_self ..
    | some x =>
      have ih := lastWanted_mem e
      rw [e] at h
      have key : u = v ∨ u = x := by
        simp only at h
        split at h
        · cases h
          omega
        · cases h
          exact .inl rfl
        · cases h
          exact .inr rfl
        · split at h
          · cases h
            exact .inl rfl
          · split at h
            · cases h
              exact .inr rfl
            · cases h
              omega
      rcases key with rfl | rfl
      · exact List.mem_cons_self ..
      · exact List.mem_cons_of_mem _ ih
theorem lastWanted_some {w : Work} {j : Nat} : ∀ {l : List Nat}, l ≠ [] → ∃ u, lastWanted w j l = some u
  | [], h => absurd rfl h
  | v :: l, _ => by
    unfold lastWanted
    cases lastWanted w j l with
    | none => exact ⟨v, rfl⟩
    | some x =>
      simp only
      split
      · exact ⟨_, rfl⟩
      · exact ⟨_, rfl⟩
      · exact ⟨_, rfl⟩
      · split
        · exact ⟨_, rfl⟩
        · split
          · exact ⟨_, rfl⟩
          · exact ⟨_, rfl⟩
/-! ### the plan can be done -/
def FarAt (w : Work) (j b : Nat) (f : Far) : Prop := ∃ d, acts w f.plan desk0 = some d ∧ d.done = j ∧ d.regs.map (·.1) = f.regs ∧ d.away.map (·.1) = f.away ∧ f.regs.Nodup ∧ f.regs.length ≤ w.regs ∧
  (∀ v ∈ f.regs, v < b) ∧ (∀ v, wanted w j v = true → v < b → v ∈ f.regs ∨ v ∈ f.away)
theorem far_put {w : Work} {j b i : Nat} {f : Far} {v : Nat} (h : FarAt w j b f) (hv : v ∈ f.regs) : FarAt w j b (putIf w i f v) ∧ (putIf w i f v).regs = f.regs ∧ (wanted w i v = true → v ∈ (putIf w i f v).away) ∧ ∀ u ∈ f.away, u ∈ (putIf w i f v).away := by
  unfold putIf
  by_cases c : (wanted w i v && !f.away.contains v) = true
  · rw [if_pos c]
    obtain ⟨d, h1, h2, h3, h4, h5, h6, h7, h8⟩ := h
    have c2 : v ∉ f.away := by
      simp only [Bool.and_eq_true, Bool.not_eq_true', List.contains_eq_mem, decide_eq_false_iff_not] at c
      exact c.2
    have hw : (wordIn d.regs v).isSome = true := wordIn_isSome.mpr (by rw [h3]; exact hv)
    obtain ⟨x, hx⟩ := Option.isSome_iff_exists.mp hw
    have e : act w d (.put v) = some { d with away := (v, x) :: without d.away v, price := d.price + w.put } := by
      simp [act, hx]
    refine ⟨⟨_, acts_snoc h1 e, h2, h3, ?_, h5, h6, h7, fun u a1 a2 => (h8 u a1 a2).imp id (List.mem_cons_of_mem _)⟩, rfl, fun _ => List.mem_cons_self .., fun u hu => List.mem_cons_of_mem _ hu⟩
    show v :: (without d.away v).map (·.1) = v :: f.away
    rw [without_map, h4]
    congr 1
    refine List.filter_eq_self.mpr fun x hx => ?_
    simp only [Bool.not_eq_true', beq_eq_false_iff_ne]
    intro z
    exact c2 (z ▸ hx)
  · rw [if_neg c]
    refine ⟨h, rfl, fun hw => ?_, fun u hu => hu⟩
    simp only [hw, Bool.true_and, Bool.not_eq_true', Bool.not_eq_false, List.contains_eq_mem, decide_eq_true_eq] at c
    exact c
theorem far_drop {w : Work} {j b : Nat} {f : Far} {u : Nat} (h : FarAt w j b f) (hu : u ∈ f.regs) (ha : wanted w j u = true → u ∈ f.away) : FarAt w j b { f with regs := f.regs.filter (fun x => !(x == u)), plan := f.plan ++ [.drop u] } := by
  obtain ⟨d, h1, h2, h3, h4, h5, h6, h7, h8⟩ := h
  have hw : (wordIn d.regs u).isSome = true := wordIn_isSome.mpr (by rw [h3]; exact hu)
  obtain ⟨x, hx⟩ := Option.isSome_iff_exists.mp hw
  have e : act w d (.drop u) = some { d with regs := without d.regs u } := by
    simp [act, hx]
  refine ⟨_, acts_snoc h1 e, h2, ?_, h4, h5.sublist List.filter_sublist, Nat.le_trans List.filter_sublist.length_le h6, fun v hv => h7 v (mem_without.mp hv).1, fun v a1 a2 => ?_⟩
  · show (without d.regs u).map (·.1) = _
    rw [without_map, h3]
  · rcases h8 v a1 a2 with q | q
    · by_cases z : v = u
      · subst z
        exact .inr (ha a1)
      · exact .inl (mem_without.mpr ⟨q, z⟩)
    · exact .inr q
theorem far_load {w : Work} {j b : Nat} {f : Far} {v : Nat} (h : FarAt w j b f) (hv : v ∉ f.regs) (hw : wanted w j v = true) (hb : v < b) (hl : f.regs.length < w.regs) : FarAt w j b { f with regs := v :: f.regs, plan := f.plan ++ [.get v] } := by
  obtain ⟨d, h1, h2, h3, h4, h5, h6, h7, h8⟩ := h
  have ha : v ∈ f.away := (h8 v hw hb).resolve_left hv
  have hws : (wordIn d.away v).isSome = true := wordIn_isSome.mpr (by rw [h4]; exact ha)
  obtain ⟨x, hx⟩ := Option.isSome_iff_exists.mp hws
  have hno : wordIn d.regs v = none := wordIn_none.mpr (by rw [h3]; exact hv)
  have hlen : d.regs.length < w.regs := by
    have : (d.regs.map (·.1)).length = f.regs.length := by rw [h3]
    rw [List.length_map] at this
    omega
  have e : act w d (.get v) = some { d with regs := (v, x) :: d.regs, price := d.price + w.get } := by
    simp [act, hx, hno, hasRoom, hlen]
  refine ⟨_, acts_snoc h1 e, h2, ?_, h4, List.nodup_cons.mpr ⟨hv, h5⟩, hl, fun u hu => ?_, fun u a1 a2 => (h8 u a1 a2).imp (List.mem_cons_of_mem _) id⟩
  · show v :: d.regs.map (·.1) = _
    rw [h3]
  · rcases List.mem_cons.mp hu with rfl | hu
    · exact hb
    · exact h7 u hu
/-- farGet keeps it, and what it is called for is there -/
theorem far_get {w : Work} {j : Nat} {f : Far} {v : Nat} (hk : 2 ≤ w.regs) (h : FarAt w j (valueOf w j) f) (hj : j < w.steps.length) (hV : Valid w) (hv : v ∈ (stepAt w j).uses) :
    FarAt w j (valueOf w j) (farGet w j f v) ∧ v ∈ (farGet w j f v).regs ∧ ∀ u ∈ (stepAt w j).uses, u ∈ f.regs → u ∈ (farGet w j f v).regs := by
  unfold farGet
  by_cases c : v ∈ f.regs
  · have c' : f.regs.contains v = true := by simpa using c
    rw [if_pos c']
    exact ⟨h, c, fun u _ hu => hu⟩
  · have c' : ¬ f.regs.contains v = true := by simpa using c
    rw [if_neg c']
    have hw := wanted_use hj hv
    have hb := hV j hj v hv
    by_cases l : f.regs.length < w.regs
    · simp only [if_pos l]
      exact ⟨far_load h c hw hb l, List.mem_cons_self .., fun u _ hu => List.mem_cons_of_mem _ hu⟩
    · simp only [if_neg l]
      have h' := h
      obtain ⟨d, h1, h2, h3, h4, h5, h6, h7, h8⟩ := h'
      have ne : (f.regs.filter fun u => !(stepAt w j).uses.contains u) ≠ [] := fun z => by
        have all : ∀ u ∈ f.regs, u ∈ (stepAt w j).uses := fun u hu => by
          refine Classical.byContradiction fun q => ?_
          have : u ∈ f.regs.filter fun u => !(stepAt w j).uses.contains u := List.mem_filter.mpr ⟨hu, by simpa using q⟩
          rw [z] at this
          cases this
        have q1 : (v :: f.regs).length ≤ (stepAt w j).uses.length := by
          refine (List.nodup_cons.mpr ⟨c, h5⟩).length_le_of_subset fun u hu => ?_
          rcases List.mem_cons.mp hu with rfl | hu
          · exact hv
          · exact all u hu
        have q2 : (stepAt w j).uses.length ≤ 2 := by
          cases stepAt w j with
          | num k => simp [Step.uses]
          | say a => simp [Step.uses]
          | two o a b =>
            by_cases e : a = b
            · simp [Step.uses, e]
            · simp [Step.uses, e]
        rw [List.length_cons] at q1
        omega
      obtain ⟨u, hu⟩ := lastWanted_some (w := w) (j := j) ne
      rw [hu]
      have hum := List.mem_filter.mp (lastWanted_mem hu)
      have huu : u ∉ (stepAt w j).uses := by simpa using hum.2
      obtain ⟨p1, p2, p3, p4⟩ := far_put (i := j) h hum.1
      have p5 := far_drop p1 (by rw [p2]; exact hum.1) p3
      have hne : v ≠ u := fun z => huu (z ▸ hv)
      have hlt : ((putIf w j f u).regs.filter fun x => !(x == u)).length < w.regs := by
        have := length_without h5 hum.1
        rw [p2]
        omega
      refine ⟨far_load p5 (fun z => c ?_) hw hb hlt, List.mem_cons_self .., fun x hx hxr => List.mem_cons_of_mem _ (mem_without.mpr ⟨by rw [p2]; exact hxr, fun z => huu (z ▸ hx)⟩)⟩
      have := (mem_without.mp z).1
      rw [p2] at this
      exact this
theorem far_gets {w : Work} {j : Nat} (hk : 2 ≤ w.regs) (hj : j < w.steps.length) (hV : Valid w) : ∀ (us : List Nat) (f : Far), (∀ u ∈ us, u ∈ (stepAt w j).uses) → FarAt w j (valueOf w j) f →
    FarAt w j (valueOf w j) (us.foldl (farGet w j) f) ∧ (∀ u ∈ us, u ∈ (us.foldl (farGet w j) f).regs) ∧ ∀ u ∈ (stepAt w j).uses, u ∈ f.regs → u ∈ (us.foldl (farGet w j) f).regs
  | [], f, _, h => ⟨h, fun u hu => (by cases hu), fun u _ hu => hu⟩
  | v :: us, f, hu, h => by
    obtain ⟨a1, a2, a3⟩ := far_get hk h hj hV (hu v (List.mem_cons_self ..))
    obtain ⟨b1, b2, b3⟩ := far_gets hk hj hV us (farGet w j f v) (fun u h => hu u (List.mem_cons_of_mem _ h)) a1
    refine ⟨b1, fun u h => ?_, fun u h1 h2 => b3 u h1 (a3 u h1 h2)⟩
    rcases List.mem_cons.mp h with rfl | h
    · exact b3 u (hu u (List.mem_cons_self ..)) a2
    · exact b2 u h
theorem does_ok {w : Work} {d : Desk} {r : List (Nat × Nat)} (hj : d.done < w.steps.length) (hu : ∀ u ∈ (stepAt w d.done).uses, u ∈ d.regs.map (·.1)) :
    ∃ e, does w d r = some e ∧ e.done = d.done + 1 ∧ e.away = d.away ∧ (((stepAt w d.done).gives = true ∧ ∃ x, e.regs = (valueOf w d.done, x) :: r) ∨ ((stepAt w d.done).gives = false ∧ e.regs = d.regs)) := by
  unfold does
  rw [if_neg (by omega)]
  cases s : stepAt w d.done with
  | num k => exact ⟨_, rfl, rfl, rfl, .inl ⟨rfl, _, rfl⟩⟩
  | say a =>
    rw [s] at hu
    obtain ⟨x, hx⟩ := Option.isSome_iff_exists.mp (wordIn_isSome.mpr (hu a (by simp [Step.uses])))
    simp only [hx, Option.map_some]
    exact ⟨_, rfl, rfl, rfl, .inr ⟨rfl, rfl⟩⟩
  | two o a b =>
    rw [s] at hu
    have ha : a ∈ (Step.two o a b).uses := by
      by_cases e : a = b <;> simp [Step.uses, e]
    have hb : b ∈ (Step.two o a b).uses := by
      by_cases e : a = b <;> simp [Step.uses, e]
    obtain ⟨x, hx⟩ := Option.isSome_iff_exists.mp (wordIn_isSome.mpr (hu a ha))
    obtain ⟨y, hy⟩ := Option.isSome_iff_exists.mp (wordIn_isSome.mpr (hu b hb))
    simp only [hx, hy, Option.bind_some]
    exact ⟨_, rfl, rfl, rfl, .inl ⟨rfl, _, rfl⟩⟩
theorem far_step {w : Work} {j : Nat} {f : Far} (hk : 2 ≤ w.regs) (hj : j < w.steps.length) (hV : Valid w) (h : FarAt w j (valueOf w j) f) : FarAt w (j + 1) (valueOf w (j + 1)) (farStep w f j) := by
  obtain ⟨g1, g2, _⟩ := far_gets hk hj hV (stepAt w j).uses f (fun _ z => z) h
  have ev := valueOf_succ hj
  unfold farStep
  generalize (stepAt w j).uses.foldl (farGet w j) f = g at g1 g2
  simp only
  cases hg : (stepAt w j).gives with
  | false =>
    rw [hg] at ev
    simp only [if_true]
    obtain ⟨d, h1, h2, h3, h4, h5, h6, h7, h8⟩ := g1
    subst h2
    obtain ⟨e, e1, e2, e3, e4⟩ := does_ok (w := w) (d := d) (r := d.regs) hj (fun u hu => by rw [h3]; exact g2 u hu)
    have er : e.regs = d.regs := by
      rcases e4 with q | q
      · rw [hg] at q
        exact absurd q.1 (by decide)
      · exact q.2
    have ea : act w d .next = some e := by
      simp [act, hg, e1]
    have ev' : valueOf w (d.done + 1) = valueOf w d.done := by
      rw [ev]
      rfl
    refine ⟨e, acts_snoc h1 ea, e2, by rw [er]; exact h3, by rw [e3]; exact h4, h5, h6, fun v hv => by rw [ev']; exact h7 v hv, fun v a1 a2 => h8 v (wanted_succ a1) (by rw [← ev']; exact a2)⟩
  | true =>
    rw [hg] at ev
    have ev' : valueOf w (j + 1) = valueOf w j + 1 := by
      rw [ev]
      rfl
    simp only [Bool.true_eq_false, if_false]
    by_cases l : g.regs.length < w.regs
    · rw [if_pos l]
      obtain ⟨d, h1, h2, h3, h4, h5, h6, h7, h8⟩ := g1
      subst h2
      obtain ⟨e, e1, e2, e3, e4⟩ := does_ok (w := w) (d := d) (r := d.regs) hj (fun u hu => by rw [h3]; exact g2 u hu)
      obtain ⟨x, er⟩ : ∃ x, e.regs = (valueOf w d.done, x) :: d.regs := by
        rcases e4 with q | q
        · exact q.2
        · rw [hg] at q
          exact absurd q.1 (by decide)
      have hlen : d.regs.length < w.regs := by
        have : (d.regs.map (·.1)).length = g.regs.length := by rw [h3]
        rw [List.length_map] at this
        omega
      have ea : act w d .next = some e := by
        simp [act, hasRoom, hlen, e1]
      have hn : valueOf w d.done ∉ g.regs := fun z => by
        have := h7 _ z
        omega
      refine ⟨e, acts_snoc h1 ea, e2, by rw [er, List.map_cons, h3], by rw [e3]; exact h4, List.nodup_cons.mpr ⟨hn, h5⟩, l, fun v hv => ?_, fun v a1 a2 => ?_⟩
      · rw [ev']
        rcases List.mem_cons.mp hv with q | q
        · omega
        · have := h7 v q
          omega
      · rw [ev'] at a2
        by_cases q : v = valueOf w d.done
        · exact .inl (by rw [q]; exact List.mem_cons_self ..)
        · exact (h8 v (wanted_succ a1) (by omega)).imp (List.mem_cons_of_mem _) id
    · rw [if_neg l]
      have ne : g.regs ≠ [] := fun z => by
        rw [z] at l
        simp at l
        omega
      obtain ⟨u, hu⟩ := lastWanted_some (w := w) (j := j + 1) ne
      rw [hu]
      have hum := lastWanted_mem hu
      obtain ⟨p1, p2, p3, p4⟩ := far_put (i := j + 1) g1 hum
      simp only
      generalize putIf w (j + 1) g u = q at p1 p2 p3 p4
      obtain ⟨d, h1, h2, h3, h4, h5, h6, h7, h8⟩ := p1
      subst h2
      obtain ⟨e, e1, e2, e3, e4⟩ := does_ok (w := w) (d := d) (r := without d.regs u) hj (fun x hx => by rw [h3, p2]; exact g2 x hx)
      obtain ⟨x, er⟩ : ∃ x, e.regs = (valueOf w d.done, x) :: without d.regs u := by
        rcases e4 with q | q
        · exact q.2
        · rw [hg] at q
          exact absurd q.1 (by decide)
      have hus : (wordIn d.regs u).isNone = false := by
        obtain ⟨y, hy⟩ := Option.isSome_iff_exists.mp (wordIn_isSome.mpr (show u ∈ d.regs.map (·.1) by rw [h3, p2]; exact hum))
        simp [hy]
      have ea : act w d (.nextIn u) = some e := by
        simp [act, hg, hus, e1]
      have hn : valueOf w d.done ∉ q.regs := fun z => by
        have := h7 _ z
        omega
      have hl2 := length_without h5 (show u ∈ q.regs by rw [p2]; exact hum)
      refine ⟨e, acts_snoc h1 ea, e2, by rw [er, List.map_cons, without_map, h3], by rw [e3]; exact h4, List.nodup_cons.mpr ⟨fun z => hn (mem_without.mp z).1, h5.sublist List.filter_sublist⟩, ?_, fun v hv => ?_, fun v a1 a2 => ?_⟩
      · rw [List.length_cons]
        omega
      · rw [ev']
        rcases List.mem_cons.mp hv with z | z
        · omega
        · have := h7 v (mem_without.mp z).1
          omega
      · rw [ev'] at a2
        by_cases z : v = valueOf w d.done
        · exact .inl (by rw [z]; exact List.mem_cons_self ..)
        · rcases h8 v (wanted_succ a1) (by omega) with y | y
          · by_cases t : v = u
            · subst t
              exact .inr (p3 a1)
            · exact .inl (List.mem_cons_of_mem _ (mem_without.mpr ⟨y, t⟩))
          · exact .inr y
theorem far_steps {w : Work} (hk : 2 ≤ w.regs) (hV : Valid w) : ∀ (n : Nat), n ≤ w.steps.length → FarAt w n (valueOf w n) ((List.range n).foldl (farStep w) ⟨[], [], []⟩)
  | 0, _ => ⟨desk0, rfl, rfl, rfl, rfl, List.nodup_nil, Nat.zero_le _, fun v h => (by cases h), fun v _ h => (by simp [valueOf] at h)⟩
  | n + 1, h => by
    rw [List.range_succ, List.foldl_append]
    exact far_step hk (by omega) hV (far_steps hk hV n (by omega))
/-- **The plan that lets go what's wanted last can be done**, and costs the sum of its acts. -/
theorem far_right {w : Work} (hk : 2 ≤ w.regs) (hV : Valid w) : ((acts w (far w) desk0).map fun d => d.price).getD 0 = planCost w (far w) := by
  obtain ⟨d, h1, _⟩ := far_steps hk hV w.steps.length (Nat.le_refl _)
  have e : acts w (far w) desk0 = some d := h1
  rw [e]
  show d.price = _
  rw [acts_price e]
  show 0 + _ = _
  omega
end Lb
/-! Whatever a right plan does, it says what the work says. Plain Lean. -/
namespace Lb
open Cm07
/-- the words of the values that are given -/
def env : List Step → List Nat → List Nat
  | [], e => e
  | .num k :: l, e => env l (e ++ [k])
  | .two o a b :: l, e => env l (e ++ [(o.make (e.getD a 0) (e.getD b 0)).getD 0])
  | .say _ :: l, e => env l e
theorem env_append : ∀ (l m : List Step) (e : List Nat), env (l ++ m) e = env m (env l e)
  | [], _, _ => rfl
  | .num _ :: l, m, _ => env_append l m _
  | .two .. :: l, m, _ => env_append l m _
  | .say _ :: l, m, _ => env_append l m _
theorem says_append : ∀ (l m : List Step) (e : List Nat), saysFrom (l ++ m) e = saysFrom l e ++ saysFrom m (env l e)
  | [], _, _ => rfl
  | .num _ :: l, m, _ => says_append l m _
  | .two .. :: l, m, _ => says_append l m _
  | .say a :: l, m, e => congrArg (fun z => e.getD a 0 :: z) (says_append l m e)
theorem env_length : ∀ (l : List Step) (e : List Nat), (env l e).length = e.length + (l.filter Step.gives).length
  | [], _ => rfl
  | .num n :: l, e => by
    have q : ((Step.num n :: l).filter Step.gives).length = (l.filter Step.gives).length + 1 := rfl
    rw [env, env_length l, List.length_append, List.length_singleton, q]
    omega
  | .two o a b :: l, e => by
    have q : ((Step.two o a b :: l).filter Step.gives).length = (l.filter Step.gives).length + 1 := rfl
    rw [env, env_length l, List.length_append, List.length_singleton, q]
    omega
  | .say a :: l, e => by
    have q : ((Step.say a :: l).filter Step.gives).length = (l.filter Step.gives).length := rfl
    rw [env, env_length l, q]
theorem getD_left {l m : List Nat} {v : Nat} (h : v < l.length) : (l ++ m).getD v 0 = l.getD v 0 := by
  simp [List.getD, List.getElem?_append_left h]
theorem getD_new {l : List Nat} {x : Nat} : (l ++ [x]).getD l.length 0 = x := by
  simp [List.getD]
/-- what was given stays -/
theorem env_keep : ∀ (l : List Step) (e : List Nat) (v : Nat), v < e.length → (env l e).getD v 0 = e.getD v 0
  | [], _, _, _ => rfl
  | .num _ :: l, e, v, h => by
    rw [env, env_keep l _ v (by simp; omega), getD_left h]
  | .two .. :: l, e, v, h => by
    rw [env, env_keep l _ v (by simp; omega), getD_left h]
  | .say _ :: l, e, v, h => by
    rw [env, env_keep l _ v h]
theorem env_num : ∀ (l : List Step) (e : List Nat) (v k : Nat), (l.filter Step.gives)[v]? = some (.num k) → (env l e).getD (e.length + v) 0 = k
  | [], _, v, k, h => by simp at h
  | .num n :: l, e, 0, k, h => by
    have h' : some (Step.num n) = some (.num k) := h
    cases h'
    rw [env, env_keep l _ _ (by simp)]
    exact getD_new
  | .num n :: l, e, v + 1, k, h => by
    have ih := env_num l (e ++ [n]) v k h
    rw [env]
    rw [List.length_append, List.length_singleton] at ih
    rw [show e.length + (v + 1) = e.length + 1 + v by omega]
    exact ih
  | .two o a b :: l, e, 0, k, h => by
    have h' : some (Step.two o a b) = some (.num k) := h
    cases h'
  | .two o a b :: l, e, v + 1, k, h => by
    have ih := env_num l (e ++ [(o.make (e.getD a 0) (e.getD b 0)).getD 0]) v k h
    rw [env]
    rw [List.length_append, List.length_singleton] at ih
    rw [show e.length + (v + 1) = e.length + 1 + v by omega]
    exact ih
  | .say a :: l, e, v, k, h => env_num l e v k h
def envAt (w : Work) (j : Nat) : List Nat := env (w.steps.take j) []
theorem envAt_length (w : Work) (j : Nat) : (envAt w j).length = valueOf w j := by
  unfold envAt valueOf
  rw [env_length]
  simp
theorem take_step {w : Work} {j : Nat} (hj : j < w.steps.length) : w.steps.take (j + 1) = w.steps.take j ++ [stepAt w j] := by
  rw [List.take_add_one]
  simp [stepAt, List.getD, hj]
theorem envAt_succ {w : Work} {j : Nat} (hj : j < w.steps.length) : envAt w (j + 1) = env [stepAt w j] (envAt w j) := by
  unfold envAt
  rw [take_step hj, env_append]
theorem numberOf_word {w : Work} {j v k : Nat} (h : numberOf w v = some k) (hv : v < valueOf w j) : (envAt w j).getD v 0 = k := by
  have h1 : (w.steps.filter Step.gives)[v]? = some (.num k) := by
    unfold numberOf at h
    split at h
    · rename_i e
      cases h
      exact e
    · cases h
  have h2 : ((w.steps.take j).filter Step.gives)[v]? = some (.num k) := by
    have e : w.steps.filter Step.gives = (w.steps.take j).filter Step.gives ++ (w.steps.drop j).filter Step.gives := by
      rw [← List.filter_append, List.take_append_drop]
    rw [e, List.getElem?_append_left (show v < ((w.steps.take j).filter Step.gives).length from hv)] at h1
    exact h1
  have := env_num (w.steps.take j) [] v k h2
  simpa [envAt] using this
/-- how a desk stands -/
structure DeskAt (w : Work) (d : Desk) : Prop where
  le : d.done ≤ w.steps.length
  said : d.said = saysFrom (w.steps.take d.done) []
  regs : ∀ q ∈ d.regs, q.1 < valueOf w d.done ∧ q.2 = (envAt w d.done).getD q.1 0
  away : ∀ q ∈ d.away, q.1 < valueOf w d.done ∧ q.2 = (envAt w d.done).getD q.1 0
theorem desk0_at (w : Work) : DeskAt w desk0 := ⟨Nat.zero_le _, rfl, fun q h => (by cases h), fun q h => (by cases h)⟩
theorem DeskAt.word {w : Work} {d : Desk} (h : DeskAt w d) {v x : Nat} (e : wordIn d.regs v = some x) : v < valueOf w d.done ∧ x = (envAt w d.done).getD v 0 := h.regs (v, x) (wordIn_mem e)
theorem DeskAt.does {w : Work} {d e : Desk} {r : List (Nat × Nat)} (h : DeskAt w d) (hr : ∀ q ∈ r, q ∈ d.regs) (he : Cm07.does w d r = some e) : DeskAt w e := by
  unfold Cm07.does at he
  split at he
  · cases he
  · rename_i hlt
    have hj : d.done < w.steps.length := by omega
    have es := envAt_succ hj
    have ev := valueOf_succ hj
    have el := envAt_length w d.done
    have et := take_step hj
    have sa : saysFrom (w.steps.take (d.done + 1)) [] = d.said ++ saysFrom [stepAt w d.done] (envAt w d.done) := by
      rw [et, says_append, h.said]
      rfl
    -- what stood stands, if the words of it do
    have keep : ∀ x : List Nat, envAt w (d.done + 1) = envAt w d.done ++ x → ∀ q : Nat × Nat, (q.1 < valueOf w d.done ∧ q.2 = (envAt w d.done).getD q.1 0) → q.1 < valueOf w (d.done + 1) ∧ q.2 = (envAt w (d.done + 1)).getD q.1 0 := by
      intro x ex q hq
      refine ⟨by omega, ?_⟩
      rw [ex, getD_left (by omega)]
      exact hq.2
    cases s : stepAt w d.done with
    | num k =>
      simp only [s, Option.some.injEq] at he
      subst he
      rw [s] at es ev sa
      have ex : envAt w (d.done + 1) = envAt w d.done ++ [k] := es
      refine ⟨hj, ?_, fun q hq => ?_, fun q hq => keep _ ex q (h.away q hq)⟩
      · show d.said = saysFrom (w.steps.take (d.done + 1)) []
        rw [sa]
        simp [saysFrom]
      · rcases List.mem_cons.mp hq with rfl | hq
        · refine ⟨by show valueOf w d.done < valueOf w (d.done + 1); rw [ev]; simp [Step.gives], ?_⟩
          show k = (envAt w (d.done + 1)).getD (valueOf w d.done) 0
          rw [ex, ← el, getD_new]
        · exact keep _ ex q (h.regs q (hr q hq))
    | two o a b =>
      simp only [s, Option.bind_eq_some_iff, Option.some.injEq] at he
      obtain ⟨x, hx, y, hy, rfl⟩ := he
      rw [s] at es ev sa
      have ex : envAt w (d.done + 1) = envAt w d.done ++ [(o.make ((envAt w d.done).getD a 0) ((envAt w d.done).getD b 0)).getD 0] := es
      refine ⟨hj, ?_, fun q hq => ?_, fun q hq => keep _ ex q (h.away q hq)⟩
      · show d.said = saysFrom (w.steps.take (d.done + 1)) []
        rw [sa]
        simp [saysFrom]
      · rcases List.mem_cons.mp hq with rfl | hq
        · refine ⟨by show valueOf w d.done < valueOf w (d.done + 1); rw [ev]; simp [Step.gives], ?_⟩
          show (o.make x y).getD 0 = (envAt w (d.done + 1)).getD (valueOf w d.done) 0
          rw [ex, ← el, getD_new, (h.word hx).2, (h.word hy).2]
        · exact keep _ ex q (h.regs q (hr q hq))
    | say a =>
      simp only [s, Option.map_eq_some_iff] at he
      obtain ⟨x, hx, rfl⟩ := he
      rw [s] at es ev sa
      have ex : envAt w (d.done + 1) = envAt w d.done ++ [] := by
        rw [es, List.append_nil]
        rfl
      refine ⟨hj, ?_, fun q hq => keep _ ex q (h.regs q hq), fun q hq => keep _ ex q (h.away q hq)⟩
      show d.said ++ [x] = saysFrom (w.steps.take (d.done + 1)) []
      rw [sa, (h.word hx).2]
      rfl
theorem DeskAt.act {w : Work} {d e : Desk} {a : Act} (h : DeskAt w d) (he : Cm07.act w d a = some e) : DeskAt w e := by
  cases a with
  | put v =>
    simp only [Cm07.act, Option.map_eq_some_iff] at he
    obtain ⟨x, hx, rfl⟩ := he
    refine ⟨h.le, h.said, h.regs, fun q hq => ?_⟩
    rcases List.mem_cons.mp hq with rfl | hq
    · exact h.word hx
    · exact h.away q (List.mem_filter.mp hq).1
  | get v =>
    simp only [Cm07.act] at he
    split at he
    · cases he
    · simp only [Option.map_eq_some_iff] at he
      obtain ⟨x, hx, rfl⟩ := he
      refine ⟨h.le, h.said, fun q hq => ?_, h.away⟩
      rcases List.mem_cons.mp hq with rfl | hq
      · exact h.away (v, x) (wordIn_mem hx)
      · exact h.regs q hq
  | drop v =>
    simp only [Cm07.act, Option.map_eq_some_iff] at he
    obtain ⟨x, hx, rfl⟩ := he
    exact ⟨h.le, h.said, fun q hq => h.regs q (List.mem_filter.mp hq).1, h.away⟩
  | again v =>
    simp only [Cm07.act] at he
    split at he
    · cases he
    · rename_i hc
      simp only [Option.map_eq_some_iff] at he
      obtain ⟨x, hx, rfl⟩ := he
      have hv : v < valueOf w d.done := by
        refine Nat.lt_of_not_le fun z => hc (.inr (.inr z))
      refine ⟨h.le, h.said, fun q hq => ?_, h.away⟩
      rcases List.mem_cons.mp hq with rfl | hq
      · exact ⟨hv, (numberOf_word hx hv).symm⟩
      · exact h.regs q hq
  | next =>
    simp only [Cm07.act] at he
    split at he
    · cases he
    · exact h.does (fun _ z => z) he
  | nextIn v =>
    simp only [Cm07.act] at he
    split at he
    · cases he
    · exact h.does (fun q hq => (List.mem_filter.mp hq).1) he
theorem DeskAt.acts {w : Work} : ∀ {l : List Act} {d e : Desk}, DeskAt w d → Cm07.acts w l d = some e → DeskAt w e
  | [], d, e, h, he => by
    cases he
    exact h
  | a :: l, d, e, h, he => by
    simp only [Cm07.acts, Option.bind_eq_some_iff] at he
    obtain ⟨f, h1, h2⟩ := he
    exact (h.act h1).acts h2
/-- **A right plan says what the work says**, and costs the sum of its acts. -/
theorem right_says {w : Work} {l : List Act} {d : Desk} (h : rightPlan w l = some d) : d.said = says w ∧ d.price = planCost w l := by
  unfold rightPlan at h
  simp only [Option.bind_eq_some_iff] at h
  obtain ⟨e, h1, h2⟩ := h
  split at h2
  · rename_i hd
    cases h2
    have q := (desk0_at w).acts h1
    refine ⟨?_, ?_⟩
    · rw [q.said, hd, List.take_length]
      rfl
    · rw [acts_price h1]
      show 0 + _ = _
      omega
  · cases h2
end Lb
/-! What is handed in, call by call: plain Lean over the specification's modules. -/
namespace PaFlat
/-- what is told of the calls that are left -/
def out (s : Cm07.St) (raw : List (List (List Int))) : List Int := PyFlat.told (PyFlat.played (fun s c => Cm07Neutral.step s (c.headD [])) s (raw.map PyCm07.whole))
theorem out_nil (s : Cm07.St) : out s [] = [] := rfl
theorem out_cons (s : Cm07.St) (c : List (List Int)) (raw : List (List (List Int))) :
    out s (c :: raw) = (((Cm07Neutral.step s ((PyCm07.whole c).headD [])).2.length : Int) :: (Cm07Neutral.step s ((PyCm07.whole c).headD [])).2) ++ out (Cm07Neutral.step s ((PyCm07.whole c).headD [])).1 raw := rfl
def ns (l : List Nat) : List Int := l.map fun (n : Nat) => (n : Int)
/-- how a call's numbers stand in the list: its place, what stands behind the place, the call -/
inductive Form : Nat → List Nat → Cm07.Call → Prop
  | work (k p g a : Nat) : Form 0 [k, p, g, a] (.work k p g a)
  | num (k : Nat) : Form 1 [k] (.num k)
  | two (o a b : Nat) : Form 2 [o, a, b] (.two o a b)
  | say (a : Nat) : Form 3 [a] (.say a)
  | shows : Form 4 [] .shows
  | says : Form 5 [] .says
  | most : Form 6 [] .most
  | least : Form 7 [] .least
  | far : Form 8 [] .far
  | judge (l : List Nat) : l.length ≤ 240 → Form 9 (l.length :: l) (.judge l)
/-- the calls that are left of a list, each number a word -/
inductive Left : List Int → List Cm07.Call → Prop
  | nil : Left [] []
  | cons {p : Nat} {a : List Nat} {c : Cm07.Call} {r : List Int} {cs : List Cm07.Call} : Form p a c → (∀ n ∈ a, n < 4294967296) → Left r cs → Left ((p : Int) :: (ns a ++ r)) (c :: cs)
/-- what is told of them -/
def tells : Cm07.St → List Cm07.Call → List Int
  | _, [] => []
  | s, c :: cs => (((Cm07.step s c).2.length : Int) :: (Cm07.step s c).2) ++ tells (Cm07.step s c).1 cs
theorem toNats {l : List Int} (h : ∀ x ∈ l, 0 ≤ x ∧ x ≤ 4294967295) : ∃ a : List Nat, l = ns a ∧ ∀ n ∈ a, n < 4294967296 := by
  refine ⟨l.map Int.toNat, ?_, ?_⟩
  · unfold ns
    rw [List.map_map]
    conv => lhs; rw [← List.map_id l]
    refine List.map_congr_left fun x hx => ?_
    have := h x hx
    simp only [id, Function.comp_def]
    omega
  · intro n hn
    obtain ⟨x, hx, rfl⟩ := List.mem_map.mp hn
    have := h x hx
    omega
theorem ns_toNat (a : List Nat) : (ns a).map Int.toNat = a := by
  unfold ns
  rw [List.map_map]
  conv => rhs; rw [← List.map_id a]
  exact List.map_congr_left fun x _ => by simp
theorem nat_all {a : List Nat} (h : ∀ n ∈ a, n < 4294967296) : (ns a).all Cm07Neutral.nat = true := by
  rw [List.all_eq_true]
  intro x hx
  obtain ⟨n, hn, rfl⟩ := List.mem_map.mp hx
  have := h n hn
  simp only [Cm07Neutral.nat, Bool.and_eq_true, decide_eq_true_eq]
  omega
theorem callOf_ns {a : List Nat} (h : ∀ n ∈ a, n < 4294967296) : Cm07Neutral.callOf (ns a) = Cm07Neutral.callIn a := by
  unfold Cm07Neutral.callOf
  rw [nat_all h, ns_toNat, if_neg (by decide)]
theorem step_ns {s : Cm07.St} {a : List Nat} {c : Cm07.Call} (h : ∀ n ∈ a, n < 4294967296) (e : Cm07Neutral.callIn a = some c) : Cm07Neutral.step s (ns a) = Cm07.step s c := by
  unfold Cm07Neutral.step
  rw [callOf_ns h, e]
theorem cons_of_length {l : List Int} {n : Nat} (h : l.length = n + 1) : ∃ x r, l = x :: r ∧ r.length = n := by
  cases l with
  | nil => cases h
  | cons x r => exact ⟨x, r, rfl, by simpa using h⟩
/-- a call without rows -/
theorem call_flat {p : Int} {n : Nat} {r t : List Int} {c : List (List Int)} (hs : PyCm07.shape p = some (n, 0)) (h : PyFlat.call PyCm07.shape (p :: r) = some (c, t)) : c = [p :: r.take n] ∧ t = r.drop n ∧ n ≤ r.length := by
  have h' : (match PyCm07.shape p with
    | none => none
    | some (n, k) => if r.length < n then none else match PyFlat.rows k (r.drop n) with
      | none => none
      | some (xs, t) => some ((p :: r.take n) :: xs, t)) = some (c, t) := h
  rw [hs] at h'
  by_cases q : r.length < n
  · simp [q] at h'
  · simp only [q, if_false, PyFlat.rows] at h'
    obtain ⟨e1, e2⟩ := Prod.mk.inj (Option.some.inj h')
    exact ⟨e1.symm, e2.symm, by omega⟩
/-- judge -/
theorem call_judge {r t : List Int} {c : List (List Int)} (h : PyFlat.call PyCm07.shape (9 :: r) = some (c, t)) : ∃ n r', r = n :: r' ∧ 0 ≤ n ∧ n.toNat ≤ r'.length ∧ c = [[9], r'.take n.toNat] ∧ t = r'.drop n.toNat := by
  have h' : (if r.length < 0 then none else match PyFlat.rows 1 (r.drop 0) with
      | none => none
      | some (xs, t) => some (((9 : Int) :: r.take 0) :: xs, t)) = some (c, t) := h
  rw [if_neg (by omega)] at h'
  cases r with
  | nil => simp [PyFlat.rows, PyFlat.row] at h'
  | cons n r' =>
    by_cases q : 0 ≤ n ∧ n.toNat ≤ r'.length
    · simp only [List.drop, PyFlat.rows, PyFlat.row, q, and_self, if_true, List.take] at h'
      obtain ⟨e1, e2⟩ := Prod.mk.inj (Option.some.inj h')
      exact ⟨n, r', rfl, q.1, q.2, e1.symm, e2.symm⟩
    · simp only [List.drop, PyFlat.rows, PyFlat.row, if_neg q] at h'
      cases h'
theorem shape_cases {p : Int} {q : Nat × Nat} (h : PyCm07.shape p = some q) : (∃ m : Nat, p = m ∧ m < 9) ∨ p = 9 := by
  unfold PyCm07.shape at h
  by_cases c0 : p = 0
  · exact .inl ⟨0, c0, by decide⟩
  by_cases c1 : p = 1
  · exact .inl ⟨1, c1, by decide⟩
  by_cases c2 : p = 2
  · exact .inl ⟨2, c2, by decide⟩
  by_cases c3 : p = 3
  · exact .inl ⟨3, c3, by decide⟩
  by_cases c4 : p = 4
  · exact .inl ⟨4, c4, by decide⟩
  by_cases c5 : p = 5
  · exact .inl ⟨5, c5, by decide⟩
  by_cases c6 : p = 6
  · exact .inl ⟨6, c6, by decide⟩
  by_cases c7 : p = 7
  · exact .inl ⟨7, c7, by decide⟩
  by_cases c8 : p = 8
  · exact .inl ⟨8, c8, by decide⟩
  by_cases c9 : p = 9
  · exact .inr c9
  · simp [c0, c1, c2, c3, c4, c5, c6, c7, c8, c9] at h
/-- one call's form, and what it answers -/
theorem one_call {p : Int} {r t : List Int} {c : List (List Int)} (hb : ∀ x ∈ p :: r, 0 ≤ x ∧ x ≤ 4294967295) (hi : PyInside.call PyCm07.bound c = true) (h : PyFlat.call PyCm07.shape (p :: r) = some (c, t)) :
    ∃ (m : Nat) (a : List Nat) (x : Cm07.Call), p = m ∧ r = ns a ++ t ∧ Form m a x ∧ (∀ n ∈ a, n < 4294967296) ∧ ∀ s, Cm07Neutral.step s ((PyCm07.whole c).headD []) = Cm07.step s x := by
  have hr : ∀ x ∈ r, 0 ≤ x ∧ x ≤ 4294967295 := fun x hx => hb x (List.mem_cons_of_mem _ hx)
  cases hs : PyCm07.shape p with
  | none =>
    have h' : (match PyCm07.shape p with
      | none => none
      | some (n, k) => if r.length < n then none else match PyFlat.rows k (r.drop n) with
        | none => none
        | some (xs, t) => some ((p :: r.take n) :: xs, t)) = some (c, t) := h
    rw [hs] at h'
    cases h'
  | some q =>
    have flat : ∀ (m n : Nat) (x : List Nat → Cm07.Call), p = m → m < 9 → PyCm07.shape p = some (n, 0) → (∀ a : List Nat, a.length = n → Form m a (x a)) → (∀ a : List Nat, a.length = n → (PyCm07.whole [p :: ns a]).headD [] = ns (m :: a) ∧ Cm07Neutral.callIn (m :: a) = some (x a)) →
        ∃ (m : Nat) (a : List Nat) (x : Cm07.Call), p = m ∧ r = ns a ++ t ∧ Form m a x ∧ (∀ n ∈ a, n < 4294967296) ∧ ∀ s, Cm07Neutral.step s ((PyCm07.whole c).headD []) = Cm07.step s x := by
      intro m n x hp hm hsh hf hw
      obtain ⟨rfl, rfl, hn⟩ := call_flat hsh h
      obtain ⟨a, ea, ha⟩ := toNats (l := r.take n) fun x hx => hr x (List.mem_of_mem_take hx)
      have hl : a.length = n := by
        have e : (ns a).length = (r.take n).length := by rw [← ea]
        rw [List.length_take] at e
        simp [ns] at e
        omega
      refine ⟨m, a, x a, hp, ?_, hf a hl, ha, fun s => ?_⟩
      · rw [← ea, List.take_append_drop]
      · rw [ea, (hw a hl).1]
        exact step_ns (fun k hk => by
          rcases List.mem_cons.mp hk with z | z
          · omega
          · exact ha k z) (hw a hl).2
    rcases shape_cases hs with ⟨m, rfl, hm⟩ | rfl
    · match m, hm with
      | 0, _ =>
        refine flat 0 4 (fun a => match a with | [k, p, g, b] => .work k p g b | _ => .shows) rfl (by decide) rfl ?_ ?_
        · intro a ha
          match a, ha with
          | [k, p, g, b], _ => exact .work k p g b
        · intro a ha
          match a, ha with
          | [k, p, g, b], _ => exact ⟨rfl, rfl⟩
      | 1, _ =>
        refine flat 1 1 (fun a => match a with | [k] => .num k | _ => .shows) rfl (by decide) rfl ?_ ?_
        · intro a ha
          match a, ha with
          | [k], _ => exact .num k
        · intro a ha
          match a, ha with
          | [k], _ => exact ⟨rfl, rfl⟩
      | 2, _ =>
        refine flat 2 3 (fun a => match a with | [o, x, y] => .two o x y | _ => .shows) rfl (by decide) rfl ?_ ?_
        · intro a ha
          match a, ha with
          | [o, x, y], _ => exact .two o x y
        · intro a ha
          match a, ha with
          | [o, x, y], _ => exact ⟨rfl, rfl⟩
      | 3, _ =>
        refine flat 3 1 (fun a => match a with | [k] => .say k | _ => .shows) rfl (by decide) rfl ?_ ?_
        · intro a ha
          match a, ha with
          | [k], _ => exact .say k
        · intro a ha
          match a, ha with
          | [k], _ => exact ⟨rfl, rfl⟩
      | 4, _ =>
        refine flat 4 0 (fun _ => .shows) rfl (by decide) rfl ?_ ?_
        · intro a ha
          match a, ha with
          | [], _ => exact .shows
        · intro a ha
          match a, ha with
          | [], _ => exact ⟨rfl, rfl⟩
      | 5, _ =>
        refine flat 5 0 (fun _ => .says) rfl (by decide) rfl ?_ ?_
        · intro a ha
          match a, ha with
          | [], _ => exact .says
        · intro a ha
          match a, ha with
          | [], _ => exact ⟨rfl, rfl⟩
      | 6, _ =>
        refine flat 6 0 (fun _ => .most) rfl (by decide) rfl ?_ ?_
        · intro a ha
          match a, ha with
          | [], _ => exact .most
        · intro a ha
          match a, ha with
          | [], _ => exact ⟨rfl, rfl⟩
      | 7, _ =>
        refine flat 7 0 (fun _ => .least) rfl (by decide) rfl ?_ ?_
        · intro a ha
          match a, ha with
          | [], _ => exact .least
        · intro a ha
          match a, ha with
          | [], _ => exact ⟨rfl, rfl⟩
      | 8, _ =>
        refine flat 8 0 (fun _ => .far) rfl (by decide) rfl ?_ ?_
        · intro a ha
          match a, ha with
          | [], _ => exact .far
        · intro a ha
          match a, ha with
          | [], _ => exact ⟨rfl, rfl⟩
    · obtain ⟨n, r', rfl, h0, hn, rfl, rfl⟩ := call_judge h
      obtain ⟨a, ea, ha⟩ := toNats (l := r'.take n.toNat) fun x hx => hr x (List.mem_cons_of_mem _ (List.mem_of_mem_take hx))
      have hl : a.length = n.toNat := by
        have e : (ns a).length = (r'.take n.toNat).length := by rw [← ea]
        rw [List.length_take] at e
        simp [ns] at e
        omega
      have h240 : a.length ≤ 240 := by
        have hi' : (decide (0 ≤ (r'.take n.toNat).length) && decide ((r'.take n.toNat).length ≤ 240) && (r'.take n.toNat).all (PyInside.within 0 4294967295) && true) = true := by
          simpa [PyInside.call, PyInside.each, PyInside.lists, PyCm07.bound] using hi
        simp only [Bool.and_eq_true, decide_eq_true_eq, List.length_take] at hi'
        omega
      refine ⟨9, a.length :: a, .judge a, rfl, ?_, .judge a h240, ?_, fun s => ?_⟩
      · have e2 : ((a.length : Nat) : Int) = n := by omega
        show n :: r' = ((a.length : Nat) : Int) :: (ns a ++ r'.drop n.toNat)
        rw [e2, ← ea, List.take_append_drop]
      · intro k hk
        rcases List.mem_cons.mp hk with z | z
        · omega
        · exact ha k z
      · rw [ea]
        exact step_ns (a := 9 :: a) (fun k hk => by
          rcases List.mem_cons.mp hk with z | z
          · omega
          · exact ha k z) rfl
theorem left_of : ∀ (f : Nat) (l : List Int) (raw : List (List (List Int))), (∀ x ∈ l, 0 ≤ x ∧ x ≤ 4294967295) → PyFlat.calls PyCm07.shape f l = some raw → PyInside.calls PyCm07.bound raw = true →
    ∃ cs, Left l cs ∧ cs.length = raw.length ∧ ∀ s, out s raw = tells s cs
  | f, [], raw, _, h, _ => by
    have e : some [] = some raw := by
      cases f <;> exact h
    cases e
    exact ⟨[], .nil, rfl, fun _ => rfl⟩
  | 0, _ :: _, _, _, h, _ => by cases h
  | f + 1, p :: r, raw, hb, h, hi => by
    have h' : (match PyFlat.call PyCm07.shape (p :: r) with
      | none => none
      | some (c, t) => match PyFlat.calls PyCm07.shape f t with
        | none => none
        | some cs => some (c :: cs)) = some raw := h
    cases e1 : PyFlat.call PyCm07.shape (p :: r) with
    | none =>
      rw [e1] at h'
      cases h'
    | some q =>
      obtain ⟨c, t⟩ := q
      rw [e1] at h'
      cases e2 : PyFlat.calls PyCm07.shape f t with
      | none =>
        simp only [e2] at h'
        cases h'
      | some raw' =>
        simp only [e2] at h'
        have e3 : c :: raw' = raw := Option.some.inj h'
        subst e3
        have hi2 : PyInside.call PyCm07.bound c = true ∧ PyInside.calls PyCm07.bound raw' = true := by
          have : (PyInside.call PyCm07.bound c && raw'.all (PyInside.call PyCm07.bound)) = true := hi
          rw [Bool.and_eq_true] at this
          exact this
        obtain ⟨m, a, x, rfl, rfl, hf, ha, hstep⟩ := one_call hb hi2.1 e1
        obtain ⟨cs, hl, hn, ho⟩ := left_of f t raw' (fun y hy => hb y (List.mem_cons_of_mem _ (List.mem_append_right _ hy))) e2 hi2.2
        refine ⟨x :: cs, .cons hf ha hl, by simp [hn], fun s => ?_⟩
        rw [out_cons, hstep, ho]
        rfl
/-- **What is asked, as a row of calls.** -/
theorem asked_left {l : List Int} (hb : ∀ x ∈ l, 0 ≤ x ∧ x ≤ 4294967295) (h : PyCm07.answers_asked l = true) : ∃ cs, Left l cs ∧ PyCm07.answers l = tells Cm07.init cs ∧ cs.length ≤ 40 ∧ (tells Cm07.init cs).length ≤ 10000000 := by
  unfold PyCm07.answers_asked at h
  cases e : PyFlat.calls PyCm07.shape l.length l with
  | none =>
    rw [e] at h
    cases h
  | some raw =>
    rw [e] at h
    simp only [Bool.and_eq_true, PyFlat.atMost, PyFlat.short, decide_eq_true_eq] at h
    obtain ⟨⟨⟨⟨_, h40⟩, hin⟩, _⟩, hsh⟩ := h
    obtain ⟨cs, hl, hn, ho⟩ := left_of l.length l raw hb e hin
    have ea : PyCm07.answers l = tells Cm07.init cs := by
      rw [← ho]
      show (match PyCm07.calls l with
        | none => []
        | some cs => PyFlat.told (PyFlat.played (fun s c => Cm07Neutral.step s (c.headD [])) Cm07Neutral.start cs)) = _
      have ec : PyCm07.calls l = some (raw.map PyCm07.whole) := by
        unfold PyCm07.calls
        rw [e]
      rw [ec]
      rfl
    exact ⟨cs, hl, ea, by omega, by rw [← ea]; exact hsh⟩
end PaFlat
namespace Pb
open PySem PySem.Spec PyProof.Rows L2
/-! ### values -/
abbrev nv (n : Nat) : V := .int (n : Int)
def tupOf (s : Cm07.Step) : List V := s.nums.map nv
/-- what a step uses, as the program tells it -/
def usedL : Cm07.Step → List Nat
  | .num _ => []
  | .two _ a b => [a, b]
  | .say a => [a]
theorem mem_usedL {s : Cm07.Step} {v : Nat} : v ∈ usedL s ↔ v ∈ s.uses := by
  cases s with
  | num k => simp [usedL, Cm07.Step.uses]
  | say a => simp [usedL, Cm07.Step.uses]
  | two o a b =>
    by_cases h : a = b
    · simp [usedL, Cm07.Step.uses, h]
    · simp [usedL, Cm07.Step.uses, h]
theorem if_true_of {c : Bool} {A B : Prop} (hc : c = true) (h : A) : if c = true then A else B := by
  rw [if_pos hc]
  exact h
theorem if_false_of {c : Bool} {A B : Prop} (hc : c = false) (h : B) : if c = true then A else B := by
  rw [hc, if_neg Bool.false_ne_true]
  exact h
/-- one item more -/
theorem take_more {A : Type} : ∀ {l : List A} {i : Nat} {x : A}, l[i]? = some x → l.take (i + 1) = l.take i ++ [x]
  | [], i, x, h => by simp at h
  | a :: l, 0, x, h => by
    have e : a = x := Option.some.inj h
    subst e
    rfl
  | a :: l, i + 1, x, h => by
    have ih := take_more (l := l) (i := i) (x := x) h
    show a :: l.take (i + 1) = a :: l.take i ++ [x]
    rw [ih]
    rfl
theorem at_map {A B : Type} {f : A → B} {l : List A} {i : Nat} {y : B} (h : (l.map f)[i]? = some y) : ∃ x, l[i]? = some x ∧ y = f x := by
  rw [List.getElem?_map] at h
  cases e : l[i]? with
  | none =>
    rw [e] at h
    cases h
  | some x =>
    rw [e] at h
    exact ⟨x, rfl, (Option.some.inj h).symm⟩
theorem in_nats {a : Nat} {l : List Nat} : inV (nv a) (l.map nv) = decide (a ∈ l) := by
  unfold inV
  rw [List.any_map]
  have e : (l.any ((fun y => eqV y (nv a)) ∘ nv)) = l.any fun b => decide (b = a) := by
    congr 1
    funext b
    show ((b : Int) == (a : Int)) = decide (b = a)
    by_cases h : b = a
    · subst h
      simp
    · have h' : ¬ (b : Int) = (a : Int) := by omega
      simp [h]
      exact h'
  rw [e]
  by_cases h : a ∈ l
  · rw [decide_eq_true h]
    exact List.any_eq_true.mpr ⟨a, h, by simp⟩
  · rw [decide_eq_false h]
    refine List.any_eq_false.mpr fun b hb => ?_
    simp only [decide_eq_true_eq]
    intro z
    exact h (z ▸ hb)
theorem flat_nats (l : List Nat) : (l.map nv).all flatV = true := by
  rw [List.all_map]
  exact List.all_eq_true.mpr fun _ _ => rfl
theorem nv_ints (l : List Nat) : l.map nv = (l.map fun (n : Nat) => (n : Int)).map V.int := by
  rw [List.map_map]
  rfl
/-! ### the fields of an instance -/
theorem lk_here {k : Str} {v : V} {r : List (Str × V)} : List.lookup k ((k, v) :: r) = some v := by
  have e : (k == k) = true := beq_self_eq_true k
  simp only [List.lookup, e]
theorem lk_past {k g : Str} {v : V} {r : List (Str × V)} (h : (k == g) = false) : List.lookup k ((g, v) :: r) = List.lookup k r := by
  simp only [List.lookup, h]
theorem put_here {f : Str} {v x : V} {r : List (Str × V)} : putF f v ((f, x) :: r) = (f, v) :: r := if_pos rfl
theorem put_past {f g : Str} {v x : V} {r : List (Str × V)} (h : ¬ g = f) : putF f v ((g, x) :: r) = (g, x) :: putF f v r := if_neg h
def wF (k p g a : V) (ss : Addr) : List (Str × V) := [("registers", k), ("put_price", p), ("get_price", g), ("again_price", a), ("steps", .ref ss)]
section
variable {k p g a : V} {ss : Addr}
theorem wF_reg : (wF k p g a ss).lookup ("registers" : Str) = some k := lk_here
theorem wF_put : (wF k p g a ss).lookup ("put_price" : Str) = some p := (lk_past (by decide +kernel)).trans lk_here
theorem wF_get : (wF k p g a ss).lookup ("get_price" : Str) = some g := (lk_past (by decide +kernel)).trans ((lk_past (by decide +kernel)).trans lk_here)
theorem wF_aga : (wF k p g a ss).lookup ("again_price" : Str) = some a := (lk_past (by decide +kernel)).trans ((lk_past (by decide +kernel)).trans ((lk_past (by decide +kernel)).trans lk_here))
theorem wF_ste : (wF k p g a ss).lookup ("steps" : Str) = some (.ref ss) := (lk_past (by decide +kernel)).trans ((lk_past (by decide +kernel)).trans ((lk_past (by decide +kernel)).trans ((lk_past (by decide +kernel)).trans lk_here)))
end
def cF (w d h a p : V) : List (Str × V) := [("work", w), ("done", d), ("held", h), ("away", a), ("price", p)]
section
variable {w d h a p : V}
theorem cF_wor : (cF w d h a p).lookup ("work" : Str) = some w := lk_here
theorem cF_don : (cF w d h a p).lookup ("done" : Str) = some d := (lk_past (by decide +kernel)).trans lk_here
theorem cF_hel : (cF w d h a p).lookup ("held" : Str) = some h := (lk_past (by decide +kernel)).trans ((lk_past (by decide +kernel)).trans lk_here)
theorem cF_awa : (cF w d h a p).lookup ("away" : Str) = some a := (lk_past (by decide +kernel)).trans ((lk_past (by decide +kernel)).trans ((lk_past (by decide +kernel)).trans lk_here))
theorem cF_pri : (cF w d h a p).lookup ("price" : Str) = some p := (lk_past (by decide +kernel)).trans ((lk_past (by decide +kernel)).trans ((lk_past (by decide +kernel)).trans ((lk_past (by decide +kernel)).trans lk_here)))
theorem cF_don' {x : V} : putF "done" x (cF w d h a p) = cF w x h a p := (put_past (by decide +kernel)).trans (congrArg _ put_here)
theorem cF_pri' {x : V} : putF "price" x (cF w d h a p) = cF w d h a x := (put_past (by decide +kernel)).trans (congrArg _ ((put_past (by decide +kernel)).trans (congrArg _ ((put_past (by decide +kernel)).trans (congrArg _ ((put_past (by decide +kernel)).trans (congrArg _ put_here)))))))
end
/-! ### how steps and a work lie in the heap -/
structure StepsIn (H : Hp) (ss : Addr) (ts : List Addr) (l : List Cm07.Step) : Prop where
  st : H ss = some (.lst (ts.map V.ref))
  len : ts.length = l.length
  tup : ∀ (i : Nat) (t : Addr) (s : Cm07.Step), ts[i]? = some t → l[i]? = some s → H t = some (.tup (tupOf s))
  few : l.length ≤ 10
theorem same_new {H : Hp} {p : Addr} {o : HO} (h : H p = none) : Same H (upd H p o) := fun b u e => by
  rw [upd_ne (ne_of_none e h)]
  exact e
theorem StepsIn.keep {H H' : Hp} {ss : Addr} {ts : List Addr} {l : List Cm07.Step} (h : StepsIn H ss ts l) (e : Same H H') : StepsIn H' ss ts l :=
  ⟨e _ _ h.st, h.len, fun i t s a b => e _ _ (h.tup i t s a b), h.few⟩
theorem StepsIn.at {H : Hp} {ss : Addr} {ts : List Addr} {l : List Cm07.Step} (h : StepsIn H ss ts l) {i : Nat} {y : V} (hi : (ts.map V.ref)[i]? = some y) : ∃ t s, ts[i]? = some t ∧ l[i]? = some s ∧ y = V.ref t ∧ H t = some (.tup (tupOf s)) := by
  obtain ⟨t, h1, rfl⟩ := at_map hi
  have hlt : i < l.length := by
    rw [← h.len]
    exact (List.getElem?_eq_some_iff.mp h1).1
  have e2 : l[i]? = some l[i] := by simp [hlt]
  exact ⟨t, l[i], h1, e2, rfl, h.tup i t _ h1 e2⟩
theorem StepsIn.ix {H : Hp} {ss : Addr} {ts : List Addr} {l : List Cm07.Step} (h : StepsIn H ss ts l) {i : Nat} {s : Cm07.Step} (hi : l[i]? = some s) : ∃ t, (ts.map V.ref)[i]? = some (.ref t) ∧ H t = some (.tup (tupOf s)) := by
  have hlt : i < ts.length := by
    rw [h.len]
    exact (List.getElem?_eq_some_iff.mp hi).1
  have e : ts[i]? = some ts[i] := by simp [hlt]
  exact ⟨ts[i], by rw [List.getElem?_map, e]; rfl, h.tup i _ s e hi⟩
/-- a part of the steps, as another list -/
theorem StepsIn.sub {H : Hp} {ss : Addr} {ts : List Addr} {l : List Cm07.Step} (h : StepsIn H ss ts l) {p : Addr} (m n : Nat) (hp : H p = some (.lst (((ts.map V.ref).drop m).take n))) : StepsIn H p ((ts.drop m).take n) ((l.drop m).take n) := by
  refine ⟨?_, by simp [h.len], fun i t s a b => ?_, ?_⟩
  · rw [hp, List.map_take, List.map_drop]
  · rw [List.getElem?_take] at a b
    split at a
    · rename_i q
      rw [if_pos q, List.getElem?_drop] at b
      rw [List.getElem?_drop] at a
      exact h.tup _ t s a b
    · cases a
  · have := h.few
    rw [List.length_take, List.length_drop]
    omega
structure WorkIn (C : Addr) (H : Hp) (x dx ss : Addr) (ts : List Addr) (w : Cm07.Work) : Prop where
  obj : H x = some (.ins C dx (wF (nv w.regs) (nv w.put) (nv w.get) (nv w.again) ss))
  st : StepsIn H ss ts w.steps
theorem WorkIn.keep {C : Addr} {H H' : Hp} {x dx ss : Addr} {ts : List Addr} {w : Cm07.Work} (h : WorkIn C H x dx ss ts w) (e : Same H H') : WorkIn C H' x dx ss ts w :=
  ⟨e _ _ h.obj, h.st.keep e⟩
/-! ### what the top has written -/
structure Txt (K : PySem.W.Frag) (mg : Str → Option Value) (C CC : Addr) : Prop where
  cl : Cls K C
  nR : NoAttr K C "registers"
  nP : NoAttr K C "put_price"
  nG : NoAttr K C "get_price"
  nA : NoAttr K C "again_price"
  nS : NoAttr K C "steps"
  gC : mg "Work" = some (.ref C)
  cc : Cls K CC
  cW : NoAttr K CC "work"
  cD : NoAttr K CC "done"
  cH : NoAttr K CC "held"
  cA : NoAttr K CC "away"
  cP : NoAttr K CC "price"
  gCC : mg "Course" = some (.ref CC)
  len : mg "len" = none
  mx : mg "max" = none
  mn : mg "min" = none
  rng : mg "range" = none
  enu : mg "enumerate" = none
  tpl : mg "tuple" = none
  srt : mg "sorted" = none
  all : mg "all" = none
  gNU : ∃ t, mg "NUMBER" = some (.int 0 t)
  gTW : ∃ t, mg "TWO" = some (.int 1 t)
  gSA : ∃ t, mg "SAY" = some (.int 2 t)
  gWO : ∃ t, mg "WORDS" = some (.int 4294967296 t)
  gBI : ∃ t, mg "BITS" = some (.int 32 t)
  o0 : ∃ t, mg "SUM" = some (.int 0 t)
  o1 : ∃ t, mg "DIFFERENCE" = some (.int 1 t)
  o2 : ∃ t, mg "PRODUCT" = some (.int 2 t)
  o3 : ∃ t, mg "AND" = some (.int 3 t)
  o4 : ∃ t, mg "OR" = some (.int 4 t)
  o5 : ∃ t, mg "EXCLUSIVE_OR" = some (.int 5 t)
  o6 : ∃ t, mg "TIMES_POWER" = some (.int 6 t)
  o7 : ∃ t, mg "DIVIDED_BY_POWER" = some (.int 7 t)
  o8 : ∃ t, mg "IS_LESS" = some (.int 8 t)
  a0 : ∃ t, mg "PUT" = some (.int 0 t)
  a1 : ∃ t, mg "GET" = some (.int 1 t)
  a2 : ∃ t, mg "DROP" = some (.int 2 t)
  a3 : ∃ t, mg "AGAIN" = some (.int 3 t)
  a4 : ∃ t, mg "NEXT" = some (.int 4 t)
  a5 : ∃ t, mg "IN_PLACE" = some (.int 5 t)
  gMN : ∃ t, mg "MOST_NUMBERS" = some (.int 200 t)
  gFR : ∃ t, mg "FEWEST_REGISTERS" = some (.int 2 t)
  gMR : ∃ t, mg "MOST_REGISTERS" = some (.int 4 t)
  gHP : ∃ t, mg "HIGHEST_PRICE" = some (.int 9 t)
  gMS : ∃ t, mg "MOST_STEPS" = some (.int 10 t)
  gOP : ∃ t, mg "OPERATIONS" = some (.int 10 t)
  k0 : ∃ t, mg "CALL_WORK" = some (.int 0 t)
  k1 : ∃ t, mg "CALL_NUM" = some (.int 1 t)
  k2 : ∃ t, mg "CALL_TWO" = some (.int 2 t)
  k3 : ∃ t, mg "CALL_SAY" = some (.int 3 t)
  k4 : ∃ t, mg "CALL_SHOWS" = some (.int 4 t)
  k5 : ∃ t, mg "CALL_SAYS" = some (.int 5 t)
  k6 : ∃ t, mg "CALL_MOST" = some (.int 6 t)
  k7 : ∃ t, mg "CALL_LEAST" = some (.int 7 t)
  k8 : ∃ t, mg "CALL_FAR" = some (.int 8 t)
  k9 : ∃ t, mg "CALL_JUDGE" = some (.int 9 t)
def top (i : Nat) : Stmt := PySem.Challenge.pw_putaway_s01_answers.main.body.getD i (.Pass ⟨0, 0, 0, 0⟩)
theorem pgl {X : Cx} {x : Str} {i : Int} {pos : Pos} (hg : Gl X x) (h : ∃ t, X.mg x = some (.int i t)) (hd : (x == ("__debug__" : Str)) = false := by decide) : PE X (.Name x pos) (tC (.int i)) := by
  obtain ⟨t, h⟩ := h
  exact pe_glob hg h ⟨_, rfl⟩ hd
/-- a def of the top: g is the name it is called by, x its own -/
structure Df (K : PySem.W.Frag) (mg : Str → Option Value) (g x : Str) (st : Stmt) (ps : List Str) where
  f : Addr
  fd : FuncData
  F : Fun K x x st f fd
  g : mg g = some (.ref f)
  b : Binds K fd ps []
theorem pcall {X : Cx} {k j : Nat} {g x : Str} {st : Stmt} {ps : List Str} {sp : Sp} {e : Expr} {es : List Expr} {t : TA} {p pos : Pos} (D : Df X.K X.mg g x st ps) (G : FnOk X.prog X.w X.K X.mg X.base CX0 k D.f D.fd ps sp) (hr : Room j X.A) (hg : Gl X g) (ha : PA X (e :: es) t) (hk : k ≤ j := by decide)
    (hdb : (g == ("__debug__" : Str)) = false := by decide) (he : starEach (e :: es) X.env = (false, eval e X.env) :: starEach es X.env := by rfl) (hpl : (backTo pos (starEach es X.env)).any (·.1) = false := by rfl) :
    PE X (.Call (.Name g p) (e :: es) [] pos) (tCall sp [] E0 t) := pe_call G (hr.mono hk) hg D.g D.F.kp D.b .nil pass0 ha hdb he hpl
abbrev scOf (i : Nat) : Scope := defScope (top i)
/-! ### all defs -/
structure Ds (K : PySem.W.Frag) (mg : Str → Option Value) where
  used : Df K mg "used" "used" (top 5) ["step"]
  gives : Df K mg "gives" "gives" (top 6) ["step"]
  vals : Df K mg "values_given" "values_given" (top 7) ["steps"]
  nums : Df K mg "numbers_given" "numbers_given" (top 8) ["steps"]
  first : Df K mg "first_use" "first_use" (top 9) ["steps", "value", "start"]
  wantd : Df K mg "is_wanted" "is_wanted" (top 10) ["steps", "value", "start"]
  there : Df K mg "there_behind" "there_behind" (top 11) ["steps", "at"]
  most : Df K mg "most_at_once" "most_at_once" (top 12) ["steps"]
  made : Df K mg "made" "made" (top 25) ["operation", "first", "second"]
  said : Df K mg "words_said" "words_said" (top 26) ["steps"]
  room : Df K mg "has_room" "has_room" (top 36) ["course"]
  put : Df K mg "put" "put" (top 37) ["course", "value"]
  bringP : Df K mg "bring_plans" "bring" (top 38) ["course", "value", "price"]
  fetch : Df K mg "fetch" "fetch" (top 40) ["course", "value"]
  drop : Df K mg "drop" "drop" (top 41) ["course", "value"]
  again : Df K mg "make_again" "make_again" (top 42) ["course", "value"]
  ready : Df K mg "is_ready" "is_ready" (top 43) ["course"]
  finish : Df K mg "finish_step" "finish_step" (top 44) ["course"]
  next : Df K mg "do_next" "do_next" (top 45) ["course"]
  place : Df K mg "do_in_place" "do_in_place" (top 46) ["course", "value"]
  act : Df K mg "do_act" "do_act" (top 47) ["course", "act", "value"]
  acts : Df K mg "are_acts" "are_acts" (top 48) ["plan"]
  judge : Df K mg "judge" "judge" (top 49) ["work", "plan"]
  addAct : Df K mg "add_act" "add_act" (top 51) ["course", "plan", "act", "value"]
  last : Df K mg "wanted_last" "wanted_last" (top 52) ["steps", "values", "start"]
  letGo : Df K mg "let_go" "let_go" (top 53) ["course", "plan", "values", "start", "act"]
  getUsed : Df K mg "get_used" "get_used" (top 54) ["course", "plan", "value", "step"]
  addStep : Df K mg "add_step" "add_step" (top 55) ["course", "plan", "step"]
  far : Df K mg "far_plan" "far_plan" (top 56) ["work"]
  cheap : Df K mg "cheapest" "cheapest" (top 58) ["ways"]
  withHeld : Df K mg "with_held" "with_held" (top 59) ["way", "value", "price"]
  noHeld : Df K mg "without_held" "without_held" (top 60) ["way", "value"]
  withAway : Df K mg "with_away" "with_away" (top 61) ["way", "value", "price"]
  still : Df K mg "still_wanted" "still_wanted" (top 62) ["steps", "way", "start"]
  toLet : Df K mg "ways_to_let_go" "ways_to_let_go" (top 63) ["work", "way", "value"]
  wroom : Df K mg "with_room" "with_room" (top 64) ["work", "way", "kept"]
  toBring : Df K mg "price_to_bring" "price_to_bring" (top 65) ["work", "way", "value"]
  bringL : Df K mg "bring_least" "bring" (top 66) ["work", "way", "value", "kept"]
  bringAll : Df K mg "bring_all" "bring_all" (top 68) ["work", "ways", "value", "kept"]
  doStep : Df K mg "do_step" "do_step" (top 69) ["work", "way", "at"]
  stepAll : Df K mg "do_step_all" "do_step_all" (top 70) ["work", "ways", "at"]
  least : Df K mg "least_price" "least_price" (top 71) ["work"]
  begin : Df K mg "begin" "begin" (top 89) ["work", "registers", "prices"]
  behind : Df K mg "put_behind" "put_behind" (top 90) ["work", "step"]
  num : Df K mg "num" "num" (top 91) ["work", "word"]
  two : Df K mg "two" "two" (top 92) ["work", "operation", "first", "second"]
  say : Df K mg "say" "say" (top 93) ["work", "value"]
  shows : Df K mg "shows" "shows" (top 94) ["work"]
  says : Df K mg "says" "says" (top 95) ["work"]
  answer : Df K mg "answer" "answer" (top 96) ["work", "call", "numbers"]
  endc : Df K mg "end_of_call" "end_of_call" (top 97) ["calls", "at"]
/-! ### used, gives -/
/-- a new list of these numbers is answered, all else stands -/
def Nats (H : Hp) (l : List Nat) (Q : VK) : Prop := ∀ (H' : Hp) (p : Addr), Same H H' → H p = none → H' p = some (.lst (l.map nv)) → Q (.ref p) H'
theorem Nats.new {H : Hp} {l : List Nat} {Q : VK} (k : Nats H l Q) : ∀ p, H p = none → Q (.ref p) (upd H p (.lst (l.map nv))) := fun p hp => k _ p (same_new hp) hp upd_same
theorem Nats.mono {H H1 : Hp} {l : List Nat} {Q : VK} (k : Nats H l Q) (e : Same H H1) : Nats H1 l Q := fun H' p e' hp hp' => k H' p (e.trans e') (e.free hp) hp'
def spUsed : Sp := fun vs H Q _ => ∃ (t : Addr) (s : Cm07.Step), vs = [.ref t] ∧ H t = some (.tup (tupOf s)) ∧ Nats H (usedL s) Q
def spGives : Sp := fun vs H Q _ => ∃ (t : Addr) (s : Cm07.Step), vs = [.ref t] ∧ H t = some (.tup (tupOf s)) ∧ Q (.bl s.gives) H
section
variable {P : Program} {w : World} {K : PySem.W.Frag} {mg : Str → Option Value} {base : Heap} {C CC : Addr}
theorem scUsed : FnScope ["step"] ["step"] (scOf 5) := ⟨rfl, rfl, rfl, by decide +kernel, rfl, by decide +kernel, by decide +kernel⟩
theorem ok_used (D : Ds K mg) (T : Txt K mg C CC) : FnOk P w K mg base CX0 1 D.used.f D.used.fd ["step"] spUsed := by
  refine D.used.F.ok scUsed (fun vs H Q E h => ?_) (fun cdv A outer s H vs Q E hr h => ?_)
  · obtain ⟨t, s, rfl, _⟩ := h
    rfl
  · obtain ⟨t, s, rfl, ht, k⟩ := h
    refine ⟨_, pss_cons (ps_if (pt_cmpR op_eq (pe_ix ix_tup (pv 0) pe_int (fun _ _ => rfl)) (pgl rfl T.gTW) (nomark _)) (pss_one (ps_ret (pe_lst (pa_cons (pe_ix ix_tup (pv 0) pe_int (fun _ _ => rfl)) (pa_cons (pe_ix ix_tup (pv 0) pe_int (fun _ _ => rfl)) pa_nil))))) pss_nil)
      (pss_cons (ps_if (pt_cmpR op_eq (pe_ix ix_tup (pv 0) pe_int (fun _ _ => rfl)) (pgl rfl T.gSA) (nomark _)) (pss_one (ps_ret (pe_lst (pa_cons (pe_ix ix_tup (pv 0) pe_int (fun _ _ => rfl)) pa_nil)))) pss_nil)
      (pss_one (ps_ret (pe_lst pa_nil)))), ?_⟩
    cases s with
    | num n =>
      refine ⟨_, rfl, t, _, _, _, rfl, rfl, SqT.of ht, atI_nat (j := 0) rfl, rfl, _, rfl, if_false_of rfl ?_⟩
      refine ⟨_, rfl, t, _, _, _, rfl, rfl, SqT.of ht, atI_nat (j := 0) rfl, rfl, _, rfl, if_false_of rfl ?_⟩
      exact ⟨by show 0 ≤ sizeLine; decide, k.new⟩
    | two o a b =>
      refine ⟨_, rfl, t, _, _, _, rfl, rfl, SqT.of ht, atI_nat (j := 0) rfl, rfl, _, rfl, if_true_of rfl ?_⟩
      exact ⟨_, rfl, t, _, _, _, rfl, rfl, SqT.of ht, atI_nat (j := 2) rfl, _, rfl, t, _, _, _, rfl, rfl, SqT.of ht, atI_nat (j := 3) rfl, by show 2 ≤ sizeLine; decide, k.new⟩
    | say a =>
      refine ⟨_, rfl, t, _, _, _, rfl, rfl, SqT.of ht, atI_nat (j := 0) rfl, rfl, _, rfl, if_false_of rfl ?_⟩
      refine ⟨_, rfl, t, _, _, _, rfl, rfl, SqT.of ht, atI_nat (j := 0) rfl, rfl, _, rfl, if_true_of rfl ?_⟩
      exact ⟨_, rfl, t, _, _, _, rfl, rfl, SqT.of ht, atI_nat (j := 1) rfl, by show 1 ≤ sizeLine; decide, k.new⟩
theorem scGives : FnScope ["step"] ["step"] (scOf 6) := ⟨rfl, rfl, rfl, by decide +kernel, rfl, by decide +kernel, by decide +kernel⟩
theorem ok_gives (D : Ds K mg) (T : Txt K mg C CC) : FnOk P w K mg base CX0 1 D.gives.f D.gives.fd ["step"] spGives := by
  refine D.gives.F.ok scGives (fun vs H Q E h => ?_) (fun cdv A outer s H vs Q E hr h => ?_)
  · obtain ⟨t, s, rfl, _⟩ := h
    rfl
  · obtain ⟨t, s, rfl, ht, k⟩ := h
    refine ⟨_, pss_one (ps_ret (pe_cmpR op_ne (pe_ix ix_tup (pv 0) pe_int (fun _ _ => rfl)) (pgl rfl T.gSA) (nomark _))), ?_⟩
    cases s with
    | num n => exact ⟨_, rfl, t, _, _, _, rfl, rfl, SqT.of ht, atI_nat (j := 0) rfl, rfl, k⟩
    | two o a b => exact ⟨_, rfl, t, _, _, _, rfl, rfl, SqT.of ht, atI_nat (j := 0) rfl, rfl, k⟩
    | say a => exact ⟨_, rfl, t, _, _, _, rfl, rfl, SqT.of ht, atI_nat (j := 0) rfl, rfl, k⟩
end
end Pb
/-! rules of one's own: max(xs, default=d); sorted(t) of a tuple; xs.extend(t), t a tuple -/
namespace Pb
open PySem PySem.Spec PyProof.Rows L2
section
variable {X : Cx}
def rMaxD (K : PySem.W.Frag) : List V → List V → Hp → VK → Prop := fun vs zs H Q => ∃ (a : Addr) (ns : List Int) (d : Int), vs = [V.ref a] ∧ zs = [V.int d] ∧ SqL K H a (ns.map V.int) ∧
  (ns = [] → Q (.int d) H) ∧ ∀ m, m ∈ ns → (∀ y, y ∈ ns → y ≤ m) → Q (.int m) H
theorem maxOf_is : ∀ (ys : List Int) (y : Int), PySem.W.maxOf y ys ∈ y :: ys ∧ ∀ z ∈ y :: ys, z ≤ PySem.W.maxOf y ys
  | [], y => ⟨by simp [PySem.W.maxOf], fun z h => by simp at h; subst h; simp [PySem.W.maxOf]⟩
  | x :: ys, y => by
    have e : PySem.W.maxOf y (x :: ys) = PySem.W.maxOf (if y < x then x else y) ys := by
      show List.foldl _ (if decide (y < x) = true then x else y) ys = _
      by_cases c : y < x
      · simp [c, PySem.W.maxOf]
      · simp [c, PySem.W.maxOf]
    obtain ⟨h1, h2⟩ := maxOf_is ys (if y < x then x else y)
    rw [e]
    have h3 := h2 _ (List.mem_cons_self ..)
    generalize PySem.W.maxOf (if y < x then x else y) ys = m at h1 h2 h3
    have h4 : y ≤ m ∧ x ≤ m := by
      by_cases c : y < x
      · rw [if_pos c] at h3
        omega
      · rw [if_neg c] at h3
        omega
    refine ⟨?_, fun z hz => ?_⟩
    · rcases List.mem_cons.mp h1 with h | h
      · rw [h]
        split <;> simp
      · exact List.mem_cons_of_mem _ (List.mem_cons_of_mem _ h)
    · rcases List.mem_cons.mp hz with h | h
      · rw [h]
        exact h4.1
      · rcases List.mem_cons.mp h with h | h
        · rw [h]
          exact h4.2
        · exact h2 z (List.mem_cons_of_mem _ h)
theorem cr_maxD (hc : X.calm = true) (hu : X.A.units + 64 < cLine) : CallRK X (.builtin "max") [Str.ofString "default"] (rMaxD X.K) := by
  intro pins s σ H xs zs us ws Q I r rz h
  obtain ⟨a, ns, d, rfl, rfl, hs, h0, h1⟩ := h
  obtain ⟨its, rv, hl, _⟩ := I.list hs
  rw [Vals.ref1 r]
  obtain ⟨dv, rfl, t, rfl⟩ := vals1 rz
  refine PySem.W.max_list_datum_default (α := Int) (xs := ns) (I.ok.hd hc) hl.isList (by simpa using PySem.W.HoldAll.of_ints rv.ints) (by show X.A.units + 1 + _ < _; have : PySem.W.Datum.depth Int = 0 := rfl; omega) (fun e h' tk hk => ?_) fun y ys i v h' tk e hi hv hk => ?_
  · exact ⟨.int d, H, I.kept hk, ⟨t, rfl⟩, h0 e⟩
  · obtain ⟨as, rd⟩ := hv
    obtain ⟨m1, m2⟩ := maxOf_is ys y
    cases rd with
    | int _ t' => exact ⟨.int _, H, I.kept hk, ⟨t', rfl⟩, h1 _ (by rw [e]; exact m1) (by rw [e]; exact m2)⟩
end
end Pb
namespace Pb
open PySem PySem.Spec PyProof.Rows L2
/-! ### mirrors -/
def given (l : List Cm07.Step) : Nat := (l.filter Cm07.Step.gives).length
def isN : Cm07.Step → Bool
  | .num _ => true
  | _ => false
def numAt (l : List Cm07.Step) (v : Nat) : Bool := match (l.filter Cm07.Step.gives)[v]? with
  | some s => isN s
  | none => false
def numsL (l : List Cm07.Step) : List Nat := (List.range (given l)).filter (numAt l)
def fu (l : List Cm07.Step) (v j : Nat) : Nat := (((List.range l.length).drop j).find? fun i => (l.getD i (.num 0)).uses.contains v).getD l.length
theorem fu_none {l : List Cm07.Step} {v j : Nat} (h : ∀ m, j ≤ m → m < l.length → v ∉ (l.getD m (.num 0)).uses) : fu l v j = l.length := by
  unfold fu
  rw [List.find?_eq_none.mpr]
  · rfl
  · intro m hm
    obtain ⟨k, hk, e⟩ := List.mem_drop_iff_getElem.mp hm
    simp only [List.getElem_range] at e
    simp only [List.length_range] at hk
    have := h m (by omega) (by omega)
    simpa using this
theorem fu_at {l : List Cm07.Step} {v j i : Nat} (hj : j ≤ i) (hi : i < l.length) (hu : v ∈ (l.getD i (.num 0)).uses) (h : ∀ m, j ≤ m → m < i → v ∉ (l.getD m (.num 0)).uses) : fu l v j = i := by
  have e : ((List.range l.length).drop j).find? (fun i => (l.getD i (.num 0)).uses.contains v) = some i := by
    rw [List.find?_eq_some_iff_getElem]
    refine ⟨by simpa using hu, i - j, by simp; omega, by simp; omega, fun k hk => ?_⟩
    have := h (j + k) (by omega) (by omega)
    simpa using this
  unfold fu
  rw [e]
  rfl
theorem fu_le {l : List Cm07.Step} {v j : Nat} : fu l v j ≤ l.length := by
  unfold fu
  cases e : ((List.range l.length).drop j).find? (fun i => (l.getD i (.num 0)).uses.contains v) with
  | none => exact Nat.le_refl _
  | some i =>
    have h := List.mem_of_find?_eq_some e
    have h2 := List.mem_range.mp (List.mem_of_mem_drop h)
    show i ≤ l.length
    omega
theorem wanted_fu {w : Cm07.Work} {v j : Nat} : decide (fu w.steps v j < w.steps.length) = Cm07.wanted w j v := by
  unfold Cm07.wanted Cm07.nextUse fu Cm07.stepAt
  cases e : ((List.range w.steps.length).drop j).find? (fun i => (w.steps.getD i (.num 0)).uses.contains v) with
  | none => simp
  | some i =>
    have h := List.mem_of_find?_eq_some e
    have h2 := List.mem_range.mp (List.mem_of_mem_drop h)
    simp [h2]
theorem next_fu {w : Cm07.Work} {v j : Nat} : fu w.steps v j = (Cm07.nextUse w j v).getD w.steps.length := rfl
/-! ### promises -/
def spVals : Sp := fun vs H Q _ => ∃ (ss : Addr) (ts : List Addr) (l : List Cm07.Step), vs = [.ref ss] ∧ StepsIn H ss ts l ∧ ∀ H', Same H H' → Q (nv (given l)) H'
def spNums : Sp := fun vs H Q _ => ∃ (ss : Addr) (ts : List Addr) (l : List Cm07.Step), vs = [.ref ss] ∧ StepsIn H ss ts l ∧ Nats H (numsL l) Q
def spFirst : Sp := fun vs H Q _ => ∃ (ss : Addr) (ts : List Addr) (l : List Cm07.Step) (v j : Nat), vs = [.ref ss, nv v, nv j] ∧ StepsIn H ss ts l ∧ j ≤ 1000 ∧ ∀ H', Same H H' → Q (nv (fu l v j)) H'
def spWant : Sp := fun vs H Q _ => ∃ (ss : Addr) (ts : List Addr) (l : List Cm07.Step) (v j : Nat), vs = [.ref ss, nv v, nv j] ∧ StepsIn H ss ts l ∧ j ≤ 1000 ∧ ∀ H', Same H H' → Q (.bl (decide (fu l v j < l.length))) H'
theorem tup0 (s : Cm07.Step) : ∃ i : Int, (tupOf s)[0]? = some (.int i) ∧ decide (V.int i = V.int 0) = isN s := by
  cases s <;> exact ⟨_, rfl, rfl⟩
section
variable {P : Program} {w : World} {K : PySem.W.Frag} {mg : Str → Option Value} {base : Heap} {C CC : Addr}
theorem scVals : FnScope ["steps", "step"] ["steps"] (scOf 7) := ⟨rfl, rfl, rfl, by decide +kernel, rfl, by decide +kernel, by decide +kernel⟩
/-- the steps that give, in a new list at D -/
def Giving (H : Hp) (D : Addr) (l : List Cm07.Step) (i : Nat) (H' : Hp) : Prop := ∃ acc : List Addr, Same H H' ∧ H' D = some (.lst (acc.map V.ref)) ∧ acc.length = ((l.take i).filter Cm07.Step.gives).length ∧
  ∀ (j : Nat) (t : Addr) (s : Cm07.Step), acc[j]? = some t → ((l.take i).filter Cm07.Step.gives)[j]? = some s → H t = some (.tup (tupOf s))
theorem Giving.zero {H : Hp} {D : Addr} {l : List Cm07.Step} (hD : H D = none) : Giving H D l 0 (upd H D (.lst [])) := ⟨[], same_new hD, upd_same, rfl, fun j t s h _ => by simp at h⟩
theorem Giving.yes {H H' H2 : Hp} {D t : Addr} {l : List Cm07.Step} {i : Nat} {s : Cm07.Step} (hD : H D = none) (g : Giving H D l i H') (h : l[i]? = some s) (hg : s.gives = true) (ht : H t = some (.tup (tupOf s))) (e : Same H' H2) (few : l.length ≤ 10) :
    ∃ acc, H2 D = some (.lst acc) ∧ acc.length < sizeLine ∧ Giving H D l (i + 1) (upd H2 D (.lst (acc ++ [V.ref t]))) := by
  obtain ⟨acc, e1, h1, h2, h3⟩ := g
  have hm := take_more h
  have h4 : ((l.take i).filter Cm07.Step.gives).length ≤ 10 := by
    have q1 := List.length_filter_le Cm07.Step.gives (l.take i)
    rw [List.length_take] at q1
    omega
  refine ⟨_, e _ _ h1, ?_, acc ++ [t], fun b o q => ?_, ?_, ?_, ?_⟩
  · rw [List.length_map]
    exact small1000 (by omega)
  · rw [upd_ne (ne_of_none q hD)]
    exact e _ _ (e1 _ _ q)
  · rw [upd_same, List.map_append]
    rfl
  · rw [hm, List.filter_append, List.length_append, List.length_append, h2]
    simp [hg]
  · intro j t' s' a b
    rw [hm, List.filter_append] at b
    have e2 : [s].filter Cm07.Step.gives = [s] := by simp [hg]
    rw [e2] at b
    by_cases c : j < acc.length
    · rw [List.getElem?_append_left c] at a
      rw [List.getElem?_append_left (by omega)] at b
      exact h3 j t' s' a b
    · rw [List.getElem?_append_right (by omega)] at a
      rw [List.getElem?_append_right (by omega)] at b
      rw [h2] at a
      have z : j - ((l.take i).filter Cm07.Step.gives).length = 0 := by
        have := (List.getElem?_eq_some_iff.mp b).1
        simp at this
        omega
      rw [z] at a b
      simp at a b
      subst a b
      exact ht
theorem Giving.no {H H' H2 : Hp} {D : Addr} {l : List Cm07.Step} {i : Nat} {s : Cm07.Step} (g : Giving H D l i H') (h : l[i]? = some s) (hg : s.gives = false) (e : Same H' H2) : Giving H D l (i + 1) H2 := by
  obtain ⟨acc, e1, h1, h2, h3⟩ := g
  have hm := take_more h
  have e2 : (l.take (i + 1)).filter Cm07.Step.gives = (l.take i).filter Cm07.Step.gives := by
    rw [hm, List.filter_append]
    simp [hg]
  exact ⟨acc, e1.trans e, e _ _ h1, by rw [e2]; exact h2, by rw [e2]; exact h3⟩
theorem ok_vals (D : Ds K mg) (T : Txt K mg C CC) : FnOk P w K mg base CX0 2 D.vals.f D.vals.fd ["steps"] spVals := by
  refine D.vals.F.ok scVals (fun vs H Q E h => ?_) (fun cdv A outer s H vs Q E hr h => ?_)
  · obtain ⟨ss, ts, l, rfl, _⟩ := h
    rfl
  · obtain ⟨ss, ts, l, rfl, W, k⟩ := h
    refine ⟨_, pss_one (ps_ret (pe_callB call_len_seq (by rfl) T.len PySem.boot_len (pa_cons
      (pe_lc (own := [("step", 1)]) (g := gName 1) (tt := tTest (tCall spGives [] E0 (tCons (tVar 1) tNil))) (te := tVar 1) rfl scVals.nd (pi_list (pv 0)) (blkOk_by (own := [("step", 1)]) (N := ["steps", "step"]) (sc := scOf 7) (by decide +kernel))
        (fun _ _ _ _ _ => pg_name (i := 1) scVals.nd rfl (Or.inl rfl)) (fun _ _ _ _ _ => pts_one (pt_val (pcall D.gives (ok_gives D T) hr rfl (pa_cons (pv 1) pa_nil)))) (fun _ _ _ _ _ => pv 1)) pa_nil))), ?_⟩
    refine ⟨_, rfl, ss, rfl, ⟨_, SqL.of W.st⟩, fun D hD => ?_⟩
    refine lc_list (K := K) (a := ss) (xs := ts.map V.ref) (Giving H D l) (.zero hD) ?_ ?_ ?_
    · rintro i H' _ ⟨acc, e, _⟩
      exact SqL.of (e _ _ W.st)
    · rintro i y H' hi g
      obtain ⟨t, s', h1, h2, rfl, ht⟩ := W.at hi
      have g' := g
      obtain ⟨acc, e, _⟩ := g'
      refine ⟨rfl, _, rfl, t, s', rfl, e _ _ ht, _, rfl, ?_⟩
      cases hg : s'.gives with
      | true => exact if_true_of rfl ⟨_, rfl, g.yes hD h2 hg ht (.refl _) W.few⟩
      | false => exact if_false_of rfl (g.no h2 hg (.refl _))
    · rintro H' ⟨acc, e, hacc, hlen, _⟩
      refine ⟨D, _, rfl, .inl (SqL.of hacc), ?_⟩
      rw [List.length_map, W.len, List.take_length] at hlen
      rw [List.length_map, hlen]
      exact k H' e
/-- a new list in the making at D -/
def Mk (H : Hp) (D : Addr) (xs : List V) (H' : Hp) : Prop := Same H H' ∧ H' D = some (.lst xs)
theorem Mk.zero {H : Hp} {D : Addr} (hD : H D = none) : Mk H D [] (upd H D (.lst [])) := ⟨same_new hD, upd_same⟩
theorem Mk.push {H H' H2 : Hp} {D : Addr} {xs : List V} {y : V} (hD : H D = none) (m : Mk H D xs H') (e : Same H' H2) (few : xs.length ≤ 1000) : ∃ acc, H2 D = some (.lst acc) ∧ acc.length < sizeLine ∧ Mk H D (xs ++ [y]) (upd H2 D (.lst (acc ++ [y]))) :=
  ⟨xs, e _ _ m.2, small1000 few, fun b o q => by rw [upd_ne (ne_of_none q hD)]; exact e _ _ (m.1 _ _ q), upd_same⟩
theorem Mk.skip {H H' H2 : Hp} {D : Addr} {xs : List V} (m : Mk H D xs H') (e : Same H' H2) : Mk H D xs H2 := ⟨m.1.trans e, e _ _ m.2⟩
theorem range_filter_more (p : Nat → Bool) (i : Nat) : (List.range (i + 1)).filter p = (List.range i).filter p ++ (if p i = true then [i] else []) := by
  rw [List.range_succ, List.filter_append]
  by_cases h : p i = true
  · simp [h]
  · simp [h]
theorem scNums : FnScope ["steps", "giving", "step", "value"] ["steps"] (scOf 8) := ⟨rfl, rfl, rfl, by decide +kernel, rfl, by decide +kernel, by decide +kernel⟩
theorem ok_nums (D : Ds K mg) (T : Txt K mg C CC) : FnOk P w K mg base CX0 2 D.nums.f D.nums.fd ["steps"] spNums := by
  refine D.nums.F.ok scNums (fun vs H Q E h => ?_) (fun cdv A outer s H vs Q E hr h => ?_)
  · obtain ⟨ss, ts, l, rfl, _⟩ := h
    rfl
  · obtain ⟨ss, ts, l, rfl, W, k⟩ := h
    refine ⟨_, pss_cons (ps_setLc (i := 1) (own := [("step", 2)]) (g := gName 2) (tt := tTest (tCall spGives [] E0 (tCons (tVar 2) tNil))) (te := tVar 2) rfl scNums.nd rfl rfl (sw_true rfl rfl rfl (by decide +kernel)) (pi_list (pv 0)) (blkOk_by (own := [("step", 2)]) (N := ["steps", "giving", "step", "value"]) (sc := scOf 8) (by decide +kernel))
        (fun _ _ _ _ _ => pg_name (i := 2) scNums.nd rfl (Or.inl rfl)) (fun _ _ _ _ _ => pts_one (pt_val (pcall D.gives (ok_gives D T) hr rfl (pa_cons (pv 2) pa_nil)))) (fun _ _ _ _ _ => pv 2))
      (pss_one (ps_ret (pe_lc (own := [("value", 3), ("step", 2)]) (g := gTup K 2 (gCons (gName 3) (gCons (gName 2) gNil))) (tt := tTest (tOp rEq (tOp (rIxT K) (tVar 2) (tC (.int 0))) (tC (.int 0)))) (te := tVar 3) rfl scNums.nd (pi_enum rfl T.enu (pa_cons (pv 1) pa_nil)) (blkOk_by (own := [("value", 3), ("step", 2)]) (N := ["steps", "giving", "step", "value"]) (sc := scOf 8) (by decide +kernel))
        (fun _ _ _ _ _ => pg_tup rfl (pgs_cons (pg_name (i := 3) scNums.nd rfl (Or.inl rfl)) (pgs_cons (pg_name (i := 2) scNums.nd rfl (Or.inl rfl)) pgs_nil)))
        (fun _ _ _ _ _ => pts_one (pt_cmpR op_eq (pe_ix ix_tup (pv 2) pe_int (fun _ _ => rfl)) (pgl rfl T.gNU) (nomark _))) (fun _ _ _ _ _ => pv 3)))), ?_⟩
    refine ⟨_, rfl, ss, rfl, ⟨_, SqL.of W.st⟩, fun D1 hD1 => ?_⟩
    refine lc_list (K := K) (a := ss) (xs := ts.map V.ref) (Giving H D1 l) (.zero hD1) ?_ ?_ ?_
    · rintro i H' _ ⟨acc, e, _⟩
      exact SqL.of (e _ _ W.st)
    · rintro i y H' hi g
      obtain ⟨t, s', h1, h2, rfl, ht⟩ := W.at hi
      have g' := g
      obtain ⟨acc, e, _⟩ := g'
      refine ⟨rfl, _, rfl, t, s', rfl, e _ _ ht, _, rfl, ?_⟩
      cases hg : s'.gives with
      | true => exact if_true_of rfl ⟨_, rfl, g.yes hD1 h2 hg ht (.refl _) W.few⟩
      | false => exact if_false_of rfl (g.no h2 hg (.refl _))
    · rintro H1 ⟨acc, e1, hacc, hlen, htup⟩
      rw [List.length_map, W.len, List.take_length] at hlen htup
      refine ⟨_, rfl, D1, _, rfl, SqL.of hacc, fun D2 hD2 => ?_⟩
      have few : (l.filter Cm07.Step.gives).length ≤ 10 := Nat.le_trans (List.length_filter_le _ _) W.few
      refine lc_it (walk_enum (K := K) (a := D1) (xs := acc.map V.ref)) (fun i H' => Mk H1 D2 (((List.range i).filter (numAt l)).map nv) H') (.zero hD2) ?_ ?_ ?_
      · intro i H' _ m
        exact SqL.of (m.1 _ _ hacc)
      · intro i x H2 H3 hi m hy
        obtain ⟨t3, x3, y3, rfl, h3, rfl, e3, e4⟩ := hy
        cases e3
        obtain ⟨t, ht, rfl⟩ := at_map e4
        have hlt : i < (l.filter Cm07.Step.gives).length := by
          rw [← hlen]
          rw [List.length_map] at hi
          exact hi
        have hs' : (l.filter Cm07.Step.gives)[i]? = some (l.filter Cm07.Step.gives)[i] := by simp [hlt]
        generalize (l.filter Cm07.Step.gives)[i] = s' at hs'
        have htt := m.1 _ _ (e1 _ _ (htup i t s' ht hs'))
        have hsm := same_new (o := .tup [V.int (i : Nat), V.ref t]) h3
        obtain ⟨z, hz, hd⟩ := tup0 s'
        refine ⟨t3, _, rfl, SqT.of upd_same, rfl, _, _, rfl, _, _, rfl, rfl, ?_⟩
        refine ⟨rfl, _, rfl, t, _, _, _, rfl, rfl, SqT.of (hsm _ _ htt), atI_nat hz, rfl, _, rfl, ?_⟩
        have hn : numAt l i = isN s' := by
          unfold numAt
          rw [hs']
        have few2 : (((List.range i).filter (numAt l)).map nv).length ≤ 1000 := by
          have := List.length_filter_le (numAt l) (List.range i)
          rw [List.length_map]
          rw [List.length_range] at this
          omega
        rw [range_filter_more]
        cases hc : numAt l i with
        | true =>
          refine if_true_of (by rw [← hc, hn]; exact hd) ⟨_, rfl, ?_⟩
          rw [if_pos rfl, List.map_append]
          exact m.push hD2 hsm few2
        | false =>
          refine if_false_of (by rw [← hc, hn]; exact hd) ?_
          rw [if_neg Bool.false_ne_true, List.append_nil]
          exact m.skip hsm
      · intro H' m
        refine k H' D2 (e1.trans m.1) (e1.free hD2) ?_
        rw [m.2, List.length_map, hlen]
        rfl
theorem scFirst : FnScope ["steps", "value", "start", "at"] ["steps", "value", "start"] (scOf 9) := ⟨rfl, rfl, rfl, by decide +kernel, rfl, by decide +kernel, by decide +kernel⟩
theorem ok_first (D : Ds K mg) (T : Txt K mg C CC) : FnOk P w K mg base CX0 2 D.first.f D.first.fd ["steps", "value", "start"] spFirst := by
  refine D.first.F.ok scFirst (fun vs H Q E h => ?_) (fun cdv A outer s H vs Q E hr h => ?_)
  · obtain ⟨ss, ts, l, v, j, rfl, _⟩ := h
    rfl
  · obtain ⟨ss, ts, l, v, j, rfl, W, hj, k⟩ := h
    refine ⟨_, pss_cons (ps_for PassesOwn.never rfl (pi_range2 rfl T.rng (pa_cons (pv 2) (pa_cons (pe_callB call_len_seq (by rfl) T.len PySem.boot_len (pa_cons (pv 0) pa_nil)) pa_nil))) (pg_name (i := 3) scFirst.nd rfl (.inl rfl))
        (pss_one (ps_if (pt_cmpR op_in_seq (pv 1) (pcall D.used (ok_used D T) hr rfl (pa_cons (pe_ix ix_list (pv 0) (pv 3) (fun _ _ => rfl)) pa_nil)) (by rfl)) (pss_one (ps_ret (pv 3))) pss_nil)))
      (pss_one (ps_ret (pe_callB call_len_seq (by rfl) T.len PySem.boot_len (pa_cons (pv 0) pa_nil)))), ?_⟩
    have hf := W.few
    have hl : (ts.map V.ref).length = l.length := by rw [List.length_map, W.len]
    refine ⟨_, rfl, _, rfl, ss, _, rfl, .inl (SqL.of W.st), _, _, rfl, ⟨by omega, by omega, by omega, by omega⟩, ?_⟩
    refine for_range (lo := (j : Int)) (n := (((ts.map V.ref).length : Int) - (j : Int)).toNat) (fun i σ H' => ∃ u : Option V, σ = [some (.ref ss), some (nv v), some (nv j), u] ∧ Same H H' ∧ ∀ m, j ≤ m → m < j + i → v ∉ (l.getD m (.num 0)).uses) ?_ ?_ ?_
    · exact ⟨none, rfl, .refl H, fun m h1 h2 => by omega⟩
    · rintro i σ H' hi ⟨u, rfl, e, hno⟩
      have hlt : j + i < l.length := by omega
      have hs' : l[j + i]? = some l[j + i] := by simp [hlt]
      have hg : l.getD (j + i) (.num 0) = l[j + i] := by simp [List.getD, hlt]
      generalize l[j + i] = s' at hs' hg
      obtain ⟨t, h1, ht⟩ := W.ix hs'
      refine ⟨_, rfl, _, rfl, _, rfl, ss, _, _, _, rfl, rfl, SqL.of (e _ _ W.st), at_of (j := j + i) (by omega) h1, t, s', rfl, e _ _ ht, fun H2 p e2 hp hp' => ?_⟩
      refine ⟨p, _, rfl, .inl (SqL.of hp'), rfl, flat_nats _, _, rfl, ?_⟩
      show if inV (nv v) ((usedL s').map nv) = true then _ else _
      rw [in_nats]
      by_cases c : v ∈ usedL s'
      · refine if_true_of (decide_eq_true c) ⟨_, rfl, ?_⟩
        have q := k H2 (e.trans e2)
        rw [fu_at (i := j + i) (by omega) hlt (by rw [hg]; exact mem_usedL.mp c) hno] at q
        exact q
      · refine if_false_of (decide_eq_false c) ⟨some (.int ((j : Int) + (i : Int))), rfl, e.trans e2, fun m h1 h2 => ?_⟩
        by_cases z : m = j + i
        · rw [z, hg]
          exact fun q => c (mem_usedL.mpr q)
        · exact hno m h1 (by omega)
    · rintro σ H' ⟨u, rfl, e, hno⟩
      refine ⟨_, rfl, ss, _, rfl, .inl (SqL.of (e _ _ W.st)), ?_⟩
      have q := k H' e
      rw [fu_none (fun m h1 h2 => hno m h1 (by omega))] at q
      rw [hl]
      exact q
theorem scWant : FnScope ["steps", "value", "start"] ["steps", "value", "start"] (scOf 10) := ⟨rfl, rfl, rfl, by decide +kernel, rfl, by decide +kernel, by decide +kernel⟩
theorem ok_wantd (D : Ds K mg) (T : Txt K mg C CC) : FnOk P w K mg base CX0 3 D.wantd.f D.wantd.fd ["steps", "value", "start"] spWant := by
  refine D.wantd.F.ok scWant (fun vs H Q E h => ?_) (fun cdv A outer s H vs Q E hr h => ?_)
  · obtain ⟨ss, ts, l, v, j, rfl, _⟩ := h
    rfl
  · obtain ⟨ss, ts, l, v, j, rfl, W, hj, k⟩ := h
    refine ⟨_, pss_one (ps_ret (pe_cmpR op_lt (pcall D.first (ok_first D T) hr rfl (pa_cons (pv 0) (pa_cons (pv 1) (pa_cons (pv 2) pa_nil)))) (pe_callB call_len_seq (by rfl) T.len PySem.boot_len (pa_cons (pv 0) pa_nil)) (nomark _))), ?_⟩
    refine ⟨_, rfl, _, rfl, _, rfl, ss, ts, l, v, j, rfl, W, hj, fun H1 e1 => ⟨_, rfl, ss, _, rfl, .inl (SqL.of (e1 _ _ W.st)), _, _, rfl, rfl, ?_⟩⟩
    have q := k H1 e1
    have hl : (ts.map V.ref).length = l.length := by rw [List.length_map, W.len]
    rw [hl]
    have e : decide (((fu l v j : Nat) : Int) < ((l.length : Nat) : Int)) = decide (fu l v j < l.length) := by
      by_cases c : fu l v j < l.length
      · rw [decide_eq_true c, decide_eq_true (by omega)]
      · rw [decide_eq_false c, decide_eq_false (by omega)]
    rw [← e] at q
    exact q
def thereN (l : List Cm07.Step) (j : Nat) : Nat := ((List.range (given (l.take j))).filter fun v => decide (fu l v (j + 1) < l.length)).length + given ((l.drop j).take 1)
def spThere : Sp := fun vs H Q _ => ∃ (ss : Addr) (ts : List Addr) (l : List Cm07.Step) (j : Nat), vs = [.ref ss, nv j] ∧ StepsIn H ss ts l ∧ j < l.length ∧ ∀ H', Same H H' → Q (nv (thereN l j)) H'
def spMost : Sp := fun vs H Q _ => ∃ (ss : Addr) (ts : List Addr) (w : Cm07.Work), vs = [.ref ss] ∧ StepsIn H ss ts w.steps ∧ ∀ H', Same H H' → Q (nv (Cm07.most w)) H'
theorem cut_take {xs : List V} {j : Nat} : cutV xs none (some (j : Int)) = (xs.drop 0).take j := by
  unfold cutV
  rw [HT.sIx_none, HT.sIx_nat, Nat.sub_zero, List.drop_zero]
  by_cases h : j ≤ xs.length
  · rw [Nat.min_eq_left h]
  · rw [Nat.min_eq_right (by omega), List.take_of_length_le (Nat.le_refl _), List.take_of_length_le (by omega)]
theorem cut_one {xs : List V} {j : Nat} (h : j < xs.length) : cutV xs (some (j : Int)) (some ((j : Int) + 1)) = (xs.drop j).take 1 := by
  unfold cutV
  have e : ((j : Int) + 1) = ((j + 1 : Nat) : Int) := rfl
  rw [e, HT.sIx_nat, HT.sIx_nat, Nat.min_eq_left (by omega), Nat.min_eq_left (by omega)]
  congr 1
  omega
theorem given_le (l : List Cm07.Step) : given l ≤ l.length := List.length_filter_le _ _
theorem scThere : FnScope ["steps", "at", "before", "wanted", "value"] ["steps", "at"] (scOf 11) := ⟨rfl, rfl, rfl, by decide +kernel, rfl, by decide +kernel, by decide +kernel⟩
theorem ok_there (D : Ds K mg) (T : Txt K mg C CC) : FnOk P w K mg base CX0 4 D.there.f D.there.fd ["steps", "at"] spThere := by
  refine D.there.F.ok scThere (fun vs H Q E h => ?_) (fun cdv A outer s H vs Q E hr h => ?_)
  · obtain ⟨ss, ts, l, j, rfl, _⟩ := h
    rfl
  · obtain ⟨ss, ts, l, j, rfl, W, hj, k⟩ := h
    refine ⟨_, pss_cons (ps_set (i := 2) scThere.nd rfl (.inl rfl) (pcall D.vals (ok_vals D T) hr rfl (pa_cons (pe_slice sl_list (pv 0) po_none (po_some (pv 1))) pa_nil)))
      (pss_cons (ps_setLc (i := 3) (own := [("value", 4)]) (g := gName 4) (tt := tTest (tCall spWant [] E0 (tCons (tVar 0) (tCons (tVar 4) (tCons (tOp rAdd (tVar 1) (tC (.int 1))) tNil))))) (te := tVar 4) rfl scThere.nd rfl rfl (sw_true rfl rfl rfl (by decide +kernel)) (pi_range1 rfl T.rng (pa_cons (pv 2) pa_nil)) (blkOk_by (own := [("value", 4)]) (N := ["steps", "at", "before", "wanted", "value"]) (sc := scOf 11) (by decide +kernel))
        (fun _ _ _ _ _ => pg_name (i := 4) scThere.nd rfl (Or.inl rfl)) (fun _ _ _ _ _ => pts_one (pt_val (pcall D.wantd (ok_wantd D T) hr rfl (pa_cons (pv 0) (pa_cons (pv 4) (pa_cons (pe_op op_add (pv 1) pe_int) pa_nil)))))) (fun _ _ _ _ _ => pv 4))
      (pss_one (ps_ret (pe_op op_add (pe_callB call_len_seq (by rfl) T.len PySem.boot_len (pa_cons (pv 3) pa_nil)) (pcall D.vals (ok_vals D T) hr rfl (pa_cons (pe_slice sl_list (pv 0) (po_some (pv 1)) (po_some (pe_op op_add (pv 1) pe_int))) pa_nil)))))), ?_⟩
    have hf := W.few
    have hl : (ts.map V.ref).length = l.length := by rw [List.length_map, W.len]
    refine ⟨_, rfl, _, rfl, _, rfl, ss, _, rfl, SqL.of W.st, fun p hp => ?_⟩
    have s1 := same_new (o := .lst (cutV (ts.map V.ref) none (some (j : Int)))) hp
    refine ⟨p, _, _, rfl, (W.keep s1).sub 0 j (by rw [upd_same, cut_take]), fun H1 e1 => ?_⟩
    have e1' := s1.trans e1
    have gl := given_le ((l.drop 0).take j)
    have gl2 : ((l.drop 0).take j).length ≤ 10 := by
      rw [List.length_take, List.length_drop]
      omega
    refine ⟨_, rfl, _, rfl, by omega, by omega, fun D1 hD1 => ?_⟩
    refine lc_range (lo := 0) (n := ((given ((l.drop 0).take j) : Nat) : Int).toNat) (fun i H' => Mk H1 D1 (((List.range i).filter fun v => decide (fu l v (j + 1) < l.length)).map nv) H') (.zero hD1) ?_ ?_
    · intro i H' hi m
      refine ⟨rfl, _, rfl, _, rfl, _, rfl, _, _, rfl, rfl, ss, ts, l, i, j + 1, ?_, (W.keep e1').keep m.1, by omega, fun H2 e2 => ⟨_, rfl, ?_⟩⟩
      · show [V.ref ss, V.int (0 + (i : Int)), V.int ((j : Int) + 1)] = [V.ref ss, V.int (i : Int), V.int ((j + 1 : Nat) : Int)]
        rw [Int.zero_add]
        rfl
      · have few2 : (((List.range i).filter fun v => decide (fu l v (j + 1) < l.length)).map nv).length ≤ 1000 := by
          have := List.length_filter_le (fun v => decide (fu l v (j + 1) < l.length)) (List.range i)
          rw [List.length_map]
          rw [List.length_range] at this
          omega
        rw [range_filter_more]
        by_cases c : fu l i (j + 1) < l.length
        · refine if_true_of (decide_eq_true c) ⟨_, rfl, ?_⟩
          rw [if_pos (decide_eq_true c), List.map_append]
          show ∃ acc, H2 D1 = some (.lst acc) ∧ acc.length < sizeLine ∧ Mk H1 D1 (_ ++ [nv i]) (upd H2 D1 (.lst (acc ++ [V.int (0 + (i : Int))])))
          rw [Int.zero_add]
          exact m.push hD1 e2 few2
        · refine if_false_of (decide_eq_false c) ?_
          rw [if_neg (by rw [decide_eq_false c]; decide), List.append_nil]
          exact m.skip e2
    · intro H2 m
      refine ⟨_, rfl, D1, _, rfl, .inl (SqL.of m.2), _, rfl, _, rfl, _, rfl, _, rfl, _, _, rfl, rfl, _, rfl, ss, _, rfl, SqL.of (m.1 _ _ (e1' _ _ W.st)), fun p2 hp2 => ?_⟩
      have s2 := same_new (o := .lst (cutV (ts.map V.ref) (some (j : Int)) (some ((j : Int) + 1)))) hp2
      refine ⟨p2, _, _, rfl, (((W.keep e1').keep m.1).keep s2).sub j 1 (by rw [upd_same, cut_one (by omega)]), fun H3 e3 => ⟨_, _, rfl, rfl, ?_⟩⟩
      have q := k H3 (((e1'.trans m.1).trans s2).trans e3)
      unfold thereN at q
      rw [List.length_map, Int.toNat_natCast, List.drop_zero]
      exact q
theorem scMost : FnScope ["steps", "at"] ["steps"] (scOf 12) := ⟨rfl, rfl, rfl, by decide +kernel, rfl, by decide +kernel, by decide +kernel⟩
theorem foldl_max : ∀ (l : List Nat) (f : Nat → Nat) (a : Nat), (l.foldl (fun m j => max m (f j)) a = a ∨ ∃ j ∈ l, l.foldl (fun m j => max m (f j)) a = f j) ∧ a ≤ l.foldl (fun m j => max m (f j)) a ∧ ∀ j ∈ l, f j ≤ l.foldl (fun m j => max m (f j)) a
  | [], f, a => ⟨.inl rfl, Nat.le_refl _, fun x h => by cases h⟩
  | b :: l, f, a => by
    obtain ⟨h1, h2, h3⟩ := foldl_max l f (max a (f b))
    rw [List.foldl_cons]
    refine ⟨?_, by omega, fun x hx => ?_⟩
    · rcases h1 with h1 | ⟨j, hj, h1⟩
      · by_cases c : f b ≤ a
        · exact .inl (by rw [h1]; omega)
        · exact .inr ⟨b, List.mem_cons_self .., by rw [h1]; omega⟩
      · exact .inr ⟨j, List.mem_cons_of_mem _ hj, h1⟩
    · rcases List.mem_cons.mp hx with rfl | hx
      · omega
      · exact h3 x hx
theorem thereN_is {w : Cm07.Work} {j : Nat} (hj : j < w.steps.length) : thereN w.steps j = (((List.range (Cm07.valueOf w (j + 1))).filter fun v => Cm07.wanted w (j + 1) v || ((Cm07.stepAt w j).gives && v == Cm07.valueOf w j)).length) := by
  have e : w.steps.take (j + 1) = w.steps.take j ++ [Cm07.stepAt w j] := by
    rw [List.take_add_one]
    simp [Cm07.stepAt, List.getD, hj]
  have e2 : (w.steps.drop j).take 1 = [Cm07.stepAt w j] := by
    have z : Cm07.stepAt w j = w.steps[j] := by simp [Cm07.stepAt, List.getD, hj]
    rw [z, List.drop_eq_getElem_cons hj]
    rfl
  have ev : Cm07.valueOf w (j + 1) = Cm07.valueOf w j + (if (Cm07.stepAt w j).gives = true then 1 else 0) := by
    unfold Cm07.valueOf
    rw [e, List.filter_append, List.length_append]
    by_cases g : (Cm07.stepAt w j).gives = true
    · simp [g]
    · simp [g]
  have eg : given (w.steps.take j) = Cm07.valueOf w j := rfl
  have key : ∀ n, n ≤ Cm07.valueOf w j → ((List.range n).filter fun v => Cm07.wanted w (j + 1) v || ((Cm07.stepAt w j).gives && v == Cm07.valueOf w j)) = (List.range n).filter fun v => decide (fu w.steps v (j + 1) < w.steps.length) := fun n hn =>
    List.filter_congr fun v hv => by
      have h1 := List.mem_range.mp hv
      have h2 : (v == Cm07.valueOf w j) = false := by
        simp only [beq_eq_false_iff_ne]
        omega
      rw [h2, Bool.and_false, Bool.or_false, wanted_fu]
  unfold thereN
  rw [e2, eg]
  cases g : (Cm07.stepAt w j).gives with
  | false =>
    have ev' : Cm07.valueOf w (j + 1) = Cm07.valueOf w j := by
      rw [ev, g]
      rfl
    have := key _ (Nat.le_refl _)
    rw [g] at this
    rw [ev', this]
    simp [given, g]
  | true =>
    have ev' : Cm07.valueOf w (j + 1) = Cm07.valueOf w j + 1 := by
      rw [ev, g]
      rfl
    have := key _ (Nat.le_refl _)
    rw [g] at this
    rw [ev', range_filter_more, this, List.length_append]
    simp [given, g]
theorem ok_most (D : Ds K mg) (T : Txt K mg C CC) : FnOk P w K mg base CX0 5 D.most.f D.most.fd ["steps"] spMost := by
  refine D.most.F.ok scMost (fun vs H Q E h => ?_) (fun cdv A outer s H vs Q E hr h => ?_)
  · obtain ⟨ss, ts, wk, rfl, _⟩ := h
    rfl
  · obtain ⟨ss, ts, wk, rfl, W, k⟩ := h
    refine ⟨_, pss_one (ps_ret (pe_callBK (cr_maxD rfl hr.units) (by rfl) T.mx (by decide +kernel) (pa_cons
      (pe_lc (own := [("at", 1)]) (g := gName 1) (tt := tYes) (te := tCall spThere [] E0 (tCons (tVar 0) (tCons (tVar 1) tNil))) rfl scMost.nd (pi_range1 rfl T.rng (pa_cons (pe_callB call_len_seq (by rfl) T.len PySem.boot_len (pa_cons (pv 0) pa_nil)) pa_nil)) (blkOk_by (own := [("at", 1)]) (N := ["steps", "at"]) (sc := scOf 12) (by decide +kernel))
        (fun _ _ _ _ _ => pg_name (i := 1) scMost.nd rfl (Or.inl rfl)) (fun _ _ _ _ _ => pts_nil) (fun _ _ _ _ _ => pcall D.there (ok_there D T) hr rfl (pa_cons (pv 0) (pa_cons (pv 1) pa_nil)))) pa_nil) (pk_cons pe_int pk_nil))), ?_⟩
    have hf := W.few
    have hl : (ts.map V.ref).length = wk.steps.length := by rw [List.length_map, W.len]
    refine ⟨_, rfl, ss, _, rfl, .inl (SqL.of W.st), _, rfl, by omega, by omega, fun D1 hD1 => ?_⟩
    refine lc_range (lo := 0) (n := (((ts.map V.ref).length : Nat) : Int).toNat) (fun i H' => Mk H D1 (((List.range i).map (thereN wk.steps)).map nv) H') (.zero hD1) ?_ ?_
    · intro i H' hi m
      refine ⟨rfl, _, rfl, _, rfl, ss, ts, wk.steps, i, ?_, W.keep m.1, by omega, fun H2 e2 => ?_⟩
      · show [V.ref ss, V.int (0 + (i : Int))] = [V.ref ss, V.int (i : Int)]
        rw [Int.zero_add]
      · rw [List.range_succ, List.map_append, List.map_append]
        exact m.push hD1 e2 (by simp; omega)
    · intro H2 m
      have m2 := m.2
      rw [nv_ints] at m2
      rw [Int.toNat_natCast, hl] at m2
      refine ⟨D1, _, 0, rfl, rfl, SqL.of m2, fun e => ?_, fun z hz hmx => ?_⟩
      · have e0 : wk.steps.length = 0 := by
          have := congrArg List.length e
          simpa using this
        have em : Cm07.most wk = 0 := by
          unfold Cm07.most
          rw [e0]
          rfl
        have q := k H2 m.1
        rw [em] at q
        exact q
      · obtain ⟨n, hn, rfl⟩ := List.mem_map.mp hz
        obtain ⟨j, hj, rfl⟩ := List.mem_map.mp hn
        have q := k H2 m.1
        have em : Cm07.most wk = thereN wk.steps j := by
          obtain ⟨h1, h2, h3⟩ := foldl_max (List.range wk.steps.length) (fun j => (((List.range (Cm07.valueOf wk (j + 1))).filter fun v => Cm07.wanted wk (j + 1) v || ((Cm07.stepAt wk j).gives && v == Cm07.valueOf wk j)).length)) 0
          have hj' := List.mem_range.mp hj
          have q1 := h3 j hj
          rw [← thereN_is hj'] at q1
          refine Nat.le_antisymm ?_ q1
          show List.foldl _ 0 _ ≤ _
          rcases h1 with h1 | ⟨i, hi, h1⟩
          · rw [h1]
            exact Nat.zero_le _
          · rw [h1, ← thereN_is (List.mem_range.mp hi)]
            have := hmx ((thereN wk.steps i : Nat) : Int) (List.mem_map.mpr ⟨_, List.mem_map.mpr ⟨i, hi, rfl⟩, rfl⟩)
            omega
        rw [em] at q
        exact q
end
end Pb
namespace Pb
open PySem PySem.Spec PyProof.Rows L2
open CmBase (Op)
/-! ### a work that the calls may have made -/
def okStep : Cm07.Step → Prop
  | .num k => k < 4294967296
  | .two o _ _ => o ≠ .div
  | .say _ => True
structure Sound (w : Cm07.Work) : Prop where
  r2 : 2 ≤ w.regs
  r4 : w.regs ≤ 4
  p9 : w.put ≤ 9
  g9 : w.get ≤ 9
  a9 : w.again ≤ 9
  few : w.steps.length ≤ 10
  val : Lb.Valid w
  ok : ∀ s ∈ w.steps, okStep s
/-! ### the operations -/
theorem and_nn {a b : Nat} : Builtin.bitAnd (a : Int) (b : Int) = ((a &&& b : Nat) : Int) := rfl
theorem or_nn {a b : Nat} : Builtin.bitOr (a : Int) (b : Int) = ((a ||| b : Nat) : Int) := Bits.bitOr_pp (Int.natCast_nonneg _) (Int.natCast_nonneg _)
theorem xor_nn {a b : Nat} : Builtin.bitXor (a : Int) (b : Int) = ((a ^^^ b : Nat) : Int) := Bits.bitXor_pp (Int.natCast_nonneg _) (Int.natCast_nonneg _)
def mk (o : Op) (a b : Nat) : Nat := (o.make a b).getD 0
theorem mk_lt {o : Op} {a b : Nat} (h : o ≠ .div) (ha : a < 4294967296) (hb : b < 4294967296) : mk o a b < 4294967296 := by
  cases o with
  | add => exact Nat.mod_lt _ (by decide)
  | sub => exact Nat.mod_lt _ (by decide)
  | mul => exact Nat.mod_lt _ (by decide)
  | and => exact Nat.lt_of_le_of_lt Nat.and_le_left ha
  | or => exact Nat.or_lt_two_pow (n := 32) ha hb
  | xor => exact Nat.xor_lt_two_pow (n := 32) ha hb
  | shl => exact Nat.mod_lt _ (by decide)
  | shr => exact Nat.lt_of_le_of_lt (Nat.div_le_self _ _) ha
  | below =>
    show (if a < b then 1 else 0) < _
    split <;> decide
  | same =>
    show (if a = b then 1 else 0) < _
    split <;> decide
  | div => exact absurd rfl h
def spMade : Sp := fun vs H Q _ => ∃ (o : Op) (a b : Nat), vs = [nv o.num, nv a, nv b] ∧ o ≠ .div ∧ a < 4294967296 ∧ b < 4294967296 ∧ Q (nv (mk o a b)) H
section
variable {P : Program} {w : World} {K : PySem.W.Frag} {mg : Str → Option Value} {base : Heap} {C CC : Addr}
theorem scMade : FnScope ["operation", "first", "second"] ["operation", "first", "second"] (scOf 25) := ⟨rfl, rfl, rfl, by decide +kernel, rfl, by decide +kernel, by decide +kernel⟩
theorem ok_made (D : Ds K mg) (T : Txt K mg C CC) : FnOk P w K mg base CX0 1 D.made.f D.made.fd ["operation", "first", "second"] spMade := by
  refine D.made.F.ok scMade (fun vs H Q E h => ?_) (fun cdv A outer s H vs Q E hr h => ?_)
  · obtain ⟨o, a, b, rfl, _⟩ := h
    rfl
  · obtain ⟨o, a, b, rfl, hd, ha, hb, k⟩ := h
    refine ⟨_, pss_cons (ps_if (pt_cmpR op_eq (pv 0) (pgl rfl T.o0) (nomark _)) (pss_one (ps_ret (pe_op op_mod (pe_op op_add (pv 1) (pv 2)) (pgl rfl T.gWO)))) pss_nil)
      (pss_cons (ps_if (pt_cmpR op_eq (pv 0) (pgl rfl T.o1) (nomark _)) (pss_one (ps_ret (pe_op op_mod (pe_op op_sub (pv 1) (pv 2)) (pgl rfl T.gWO)))) pss_nil)
      (pss_cons (ps_if (pt_cmpR op_eq (pv 0) (pgl rfl T.o2) (nomark _)) (pss_one (ps_ret (pe_op op_mod (pe_op op_mul (pv 1) (pv 2)) (pgl rfl T.gWO)))) pss_nil)
      (pss_cons (ps_if (pt_cmpR op_eq (pv 0) (pgl rfl T.o3) (nomark _)) (pss_one (ps_ret (pe_op op_and (pv 1) (pv 2)))) pss_nil)
      (pss_cons (ps_if (pt_cmpR op_eq (pv 0) (pgl rfl T.o4) (nomark _)) (pss_one (ps_ret (pe_op op_or (pv 1) (pv 2)))) pss_nil)
      (pss_cons (ps_if (pt_cmpR op_eq (pv 0) (pgl rfl T.o5) (nomark _)) (pss_one (ps_ret (pe_op op_xor (pv 1) (pv 2)))) pss_nil)
      (pss_cons (ps_if (pt_cmpR op_eq (pv 0) (pgl rfl T.o6) (nomark _)) (pss_one (ps_ret (pe_op op_mod (pe_op op_shl (pv 1) (pe_op op_mod (pv 2) (pgl rfl T.gBI))) (pgl rfl T.gWO)))) pss_nil)
      (pss_cons (ps_if (pt_cmpR op_eq (pv 0) (pgl rfl T.o7) (nomark _)) (pss_one (ps_ret (pe_op op_shr (pv 1) (pe_op op_mod (pv 2) (pgl rfl T.gBI))))) pss_nil)
      (pss_cons (ps_if (pt_cmpR op_eq (pv 0) (pgl rfl T.o8) (nomark _)) (pss_one (ps_ret (pe_ifExp (pt_cmpR op_lt (pv 1) (pv 2) (nomark _)) pe_int pe_int))) pss_nil)
      (pss_one (ps_ret (pe_ifExp (pt_cmpR op_eq (pv 1) (pv 2) (nomark _)) pe_int pe_int))))))))))), ?_⟩
    have k : Q (.int ((mk o a b : Nat) : Int)) H := k
    have hbm : ((b : Int) % 32).toNat = b % 32 := by omega
    have hb0 : (0 : Int) ≤ (b : Int) % 32 := by omega
    have hb1 : (b : Int) % 32 ≤ 1000000 := by omega
    cases o with
    | add =>
      refine ⟨_, rfl, rfl, _, rfl, if_true_of (by decide) ?_⟩
      have e : ((a : Int) + (b : Int)) % 4294967296 = ((mk .add a b : Nat) : Int) := by
        show _ = (((a + b) % 4294967296 : Nat) : Int)
        omega
      rw [← e] at k
      exact ⟨_, rfl, _, rfl, _, _, rfl, rfl, _, _, rfl, rfl, (by show (0 : Int) < 4294967296; decide), k⟩
    | sub =>
      refine ⟨_, rfl, rfl, _, rfl, if_false_of (by decide) ?_⟩
      refine ⟨_, rfl, rfl, _, rfl, if_true_of (by decide) ?_⟩
      have e : ((a : Int) - (b : Int)) % 4294967296 = ((mk .sub a b : Nat) : Int) := by
        show _ = (((a + (4294967296 - b % 4294967296)) % 4294967296 : Nat) : Int)
        omega
      rw [← e] at k
      exact ⟨_, rfl, _, rfl, _, _, rfl, rfl, _, _, rfl, rfl, (by show (0 : Int) < 4294967296; decide), k⟩
    | mul =>
      refine ⟨_, rfl, rfl, _, rfl, if_false_of (by decide) ?_⟩
      refine ⟨_, rfl, rfl, _, rfl, if_false_of (by decide) ?_⟩
      refine ⟨_, rfl, rfl, _, rfl, if_true_of (by decide) ?_⟩
      have e : ((a : Int) * (b : Int)) % 4294967296 = ((mk .mul a b : Nat) : Int) := by
        show _ = (((a * b) % 4294967296 : Nat) : Int)
        rw [Int.natCast_emod, Int.natCast_mul]
        rfl
      rw [← e] at k
      exact ⟨_, rfl, _, rfl, _, _, rfl, rfl, .inl ⟨by omega, by omega⟩, _, _, rfl, rfl, (by show (0 : Int) < 4294967296; decide), k⟩
    | and =>
      refine ⟨_, rfl, rfl, _, rfl, if_false_of (by decide) ?_⟩
      refine ⟨_, rfl, rfl, _, rfl, if_false_of (by decide) ?_⟩
      refine ⟨_, rfl, rfl, _, rfl, if_false_of (by decide) ?_⟩
      refine ⟨_, rfl, rfl, _, rfl, if_true_of (by decide) ?_⟩
      exact ⟨_, rfl, _, rfl, _, _, rfl, rfl, k⟩
    | or =>
      refine ⟨_, rfl, rfl, _, rfl, if_false_of (by decide) ?_⟩
      refine ⟨_, rfl, rfl, _, rfl, if_false_of (by decide) ?_⟩
      refine ⟨_, rfl, rfl, _, rfl, if_false_of (by decide) ?_⟩
      refine ⟨_, rfl, rfl, _, rfl, if_false_of (by decide) ?_⟩
      refine ⟨_, rfl, rfl, _, rfl, if_true_of (by decide) ?_⟩
      have e : ((mk .or a b : Nat) : Int) = Builtin.bitOr (a : Int) (b : Int) := or_nn.symm
      rw [e] at k
      exact ⟨_, rfl, _, rfl, _, _, rfl, rfl, k⟩
    | xor =>
      refine ⟨_, rfl, rfl, _, rfl, if_false_of (by decide) ?_⟩
      refine ⟨_, rfl, rfl, _, rfl, if_false_of (by decide) ?_⟩
      refine ⟨_, rfl, rfl, _, rfl, if_false_of (by decide) ?_⟩
      refine ⟨_, rfl, rfl, _, rfl, if_false_of (by decide) ?_⟩
      refine ⟨_, rfl, rfl, _, rfl, if_false_of (by decide) ?_⟩
      refine ⟨_, rfl, rfl, _, rfl, if_true_of (by decide) ?_⟩
      have e : ((mk .xor a b : Nat) : Int) = Builtin.bitXor (a : Int) (b : Int) := xor_nn.symm
      rw [e] at k
      exact ⟨_, rfl, _, rfl, _, _, rfl, rfl, k⟩
    | shl =>
      refine ⟨_, rfl, rfl, _, rfl, if_false_of (by decide) ?_⟩
      refine ⟨_, rfl, rfl, _, rfl, if_false_of (by decide) ?_⟩
      refine ⟨_, rfl, rfl, _, rfl, if_false_of (by decide) ?_⟩
      refine ⟨_, rfl, rfl, _, rfl, if_false_of (by decide) ?_⟩
      refine ⟨_, rfl, rfl, _, rfl, if_false_of (by decide) ?_⟩
      refine ⟨_, rfl, rfl, _, rfl, if_false_of (by decide) ?_⟩
      refine ⟨_, rfl, rfl, _, rfl, if_true_of (by decide) ?_⟩
      have e : ((a : Int) * 2 ^ ((b : Int) % 32).toNat) % 4294967296 = ((mk .shl a b : Nat) : Int) := by
        show _ = (((a * 2 ^ (b % 32)) % 4294967296 : Nat) : Int)
        rw [hbm, Int.natCast_emod, Int.natCast_mul, Int.natCast_pow]
        rfl
      rw [← e] at k
      exact ⟨_, rfl, _, rfl, _, _, rfl, rfl, (by show (0 : Int) < 32; decide), _, _, rfl, rfl, ⟨hb0, hb1, by omega⟩, _, _, rfl, rfl, (by show (0 : Int) < 4294967296; decide), k⟩
    | shr =>
      refine ⟨_, rfl, rfl, _, rfl, if_false_of (by decide) ?_⟩
      refine ⟨_, rfl, rfl, _, rfl, if_false_of (by decide) ?_⟩
      refine ⟨_, rfl, rfl, _, rfl, if_false_of (by decide) ?_⟩
      refine ⟨_, rfl, rfl, _, rfl, if_false_of (by decide) ?_⟩
      refine ⟨_, rfl, rfl, _, rfl, if_false_of (by decide) ?_⟩
      refine ⟨_, rfl, rfl, _, rfl, if_false_of (by decide) ?_⟩
      refine ⟨_, rfl, rfl, _, rfl, if_false_of (by decide) ?_⟩
      refine ⟨_, rfl, rfl, _, rfl, if_true_of (by decide) ?_⟩
      have e : (a : Int) / 2 ^ ((b : Int) % 32).toNat = ((mk .shr a b : Nat) : Int) := by
        show _ = ((a / 2 ^ (b % 32) : Nat) : Int)
        rw [hbm, Int.natCast_ediv, Int.natCast_pow]
        rfl
      rw [← e] at k
      exact ⟨_, rfl, _, rfl, _, _, rfl, rfl, (by show (0 : Int) < 32; decide), _, _, rfl, rfl, hb0, k⟩
    | below =>
      refine ⟨_, rfl, rfl, _, rfl, if_false_of (by decide) ?_⟩
      refine ⟨_, rfl, rfl, _, rfl, if_false_of (by decide) ?_⟩
      refine ⟨_, rfl, rfl, _, rfl, if_false_of (by decide) ?_⟩
      refine ⟨_, rfl, rfl, _, rfl, if_false_of (by decide) ?_⟩
      refine ⟨_, rfl, rfl, _, rfl, if_false_of (by decide) ?_⟩
      refine ⟨_, rfl, rfl, _, rfl, if_false_of (by decide) ?_⟩
      refine ⟨_, rfl, rfl, _, rfl, if_false_of (by decide) ?_⟩
      refine ⟨_, rfl, rfl, _, rfl, if_false_of (by decide) ?_⟩
      refine ⟨_, rfl, rfl, _, rfl, if_true_of (by decide) ?_⟩
      refine ⟨_, rfl, _, rfl, _, _, rfl, rfl, _, rfl, ?_⟩
      by_cases c : a < b
      · have e : mk .below a b = 1 := if_pos c
        rw [e] at k
        exact if_true_of (decide_eq_true (by omega)) k
      · have e : mk .below a b = 0 := if_neg c
        rw [e] at k
        exact if_false_of (decide_eq_false (by omega)) k
    | same =>
      refine ⟨_, rfl, rfl, _, rfl, if_false_of (by decide) ?_⟩
      refine ⟨_, rfl, rfl, _, rfl, if_false_of (by decide) ?_⟩
      refine ⟨_, rfl, rfl, _, rfl, if_false_of (by decide) ?_⟩
      refine ⟨_, rfl, rfl, _, rfl, if_false_of (by decide) ?_⟩
      refine ⟨_, rfl, rfl, _, rfl, if_false_of (by decide) ?_⟩
      refine ⟨_, rfl, rfl, _, rfl, if_false_of (by decide) ?_⟩
      refine ⟨_, rfl, rfl, _, rfl, if_false_of (by decide) ?_⟩
      refine ⟨_, rfl, rfl, _, rfl, if_false_of (by decide) ?_⟩
      refine ⟨_, rfl, rfl, _, rfl, if_false_of (by decide) ?_⟩
      refine ⟨_, rfl, _, rfl, rfl, _, rfl, ?_⟩
      by_cases c : a = b
      · have e : mk .same a b = 1 := if_pos c
        rw [e] at k
        exact if_true_of (decide_eq_true (by rw [c])) k
      · have e : mk .same a b = 0 := if_neg c
        rw [e] at k
        refine if_false_of (decide_eq_false fun z => c ?_) k
        have z' : (a : Int) = (b : Int) := V.int.inj z
        omega
    | div => exact absurd rfl hd
/-! ### what is said -/
theorem env_lt : ∀ (l : List Cm07.Step) (e : List Nat), (∀ x ∈ e, x < 4294967296) → (∀ s ∈ l, okStep s) → ∀ x ∈ Lb.env l e, x < 4294967296
  | [], e, h, _, x, hx => h x hx
  | .num k :: l, e, h, ho, x, hx => env_lt l (e ++ [k]) (fun y hy => by
      rcases List.mem_append.mp hy with hy | hy
      · exact h y hy
      · rw [List.mem_singleton.mp hy]
        exact ho (.num k) (List.mem_cons_self ..)) (fun s hs => ho s (List.mem_cons_of_mem _ hs)) x hx
  | .two o a b :: l, e, h, ho, x, hx => env_lt l (e ++ [mk o (e.getD a 0) (e.getD b 0)]) (fun y hy => by
      have g : ∀ i, e.getD i 0 < 4294967296 := fun i => by
        rw [List.getD_eq_getElem?_getD]
        cases q : e[i]? with
        | none => exact (by decide : (0 : Nat) < 4294967296)
        | some z => exact h z (List.mem_of_getElem? q)
      rcases List.mem_append.mp hy with hy | hy
      · exact h y hy
      · rw [List.mem_singleton.mp hy]
        exact mk_lt (ho (.two o a b) (List.mem_cons_self ..)) (g a) (g b)) (fun s hs => ho s (List.mem_cons_of_mem _ hs)) x hx
  | .say _ :: l, e, h, ho, x, hx => env_lt l e h (fun s hs => ho s (List.mem_cons_of_mem _ hs)) x hx
theorem Sound.word {w : Cm07.Work} (h : Sound w) {j a : Nat} : (Lb.envAt w j).getD a 0 < 4294967296 := by
  rw [List.getD_eq_getElem?_getD]
  cases q : (Lb.envAt w j)[a]? with
  | none => exact (by decide : (0 : Nat) < 4294967296)
  | some z => exact env_lt (w.steps.take j) [] (fun x hx => by cases hx) (fun s hs => h.ok s (List.mem_of_mem_take hs)) z (List.mem_of_getElem? q)
theorem nat_at {l : List Nat} {a : Nat} (h : a < l.length) : (l.map nv)[a]? = some (nv (l.getD a 0)) := by
  rw [List.getElem?_map, List.getD_eq_getElem?_getD, List.getElem?_eq_getElem h]
  rfl
theorem stepAt_of {w : Cm07.Work} {i : Nat} {s : Cm07.Step} (h : w.steps[i]? = some s) : Cm07.stepAt w i = s := by
  unfold Cm07.stepAt
  rw [List.getD_eq_getElem?_getD, h]
  rfl
theorem says_len : ∀ (l : List Cm07.Step) (e : List Nat), (Cm07.saysFrom l e).length ≤ l.length
  | [], _ => Nat.le_refl _
  | .num k :: l, e => Nat.le_succ_of_le (says_len l _)
  | .two o a b :: l, e => Nat.le_succ_of_le (says_len l _)
  | .say a :: l, e => Nat.succ_le_succ (says_len l e)
def spSaid : Sp := fun vs H Q _ => ∃ (ss : Addr) (ts : List Addr) (w : Cm07.Work), vs = [.ref ss] ∧ StepsIn H ss ts w.steps ∧ Sound w ∧ Nats H (Cm07.says w) Q
theorem scSaid : FnScope ["steps", "words", "said", "step"] ["steps"] (scOf 26) := ⟨rfl, rfl, rfl, by decide +kernel, rfl, by decide +kernel, by decide +kernel⟩
theorem ok_said (D : Ds K mg) (T : Txt K mg C CC) : FnOk P w K mg base CX0 2 D.said.f D.said.fd ["steps"] spSaid := by
  refine D.said.F.ok scSaid (fun vs H Q E h => ?_) (fun cdv A outer s H vs Q E hr h => ?_)
  · obtain ⟨ss, ts, wk, rfl, _⟩ := h
    rfl
  · obtain ⟨ss, ts, wk, rfl, W, S, k⟩ := h
    refine ⟨_, pss_cons (ps_set (i := 1) scSaid.nd rfl (.inl rfl) (pe_lst pa_nil)) (pss_cons (ps_set (i := 2) scSaid.nd rfl (.inl rfl) (pe_lst pa_nil))
      (pss_cons (ps_for PassesOwn.never rfl (pi_list (pv 0)) (pg_name (i := 3) scSaid.nd rfl (.inl rfl))
        (pss_one (ps_if (pt_cmpR op_eq (pe_ix ix_tup (pv 3) pe_int (fun _ _ => rfl)) (pgl rfl T.gNU) (nomark _))
          (pss_one (ps_expr (pe_bm PySem.F.plainAttrs_list PySem.F.slot_list_append PySem.F.type_list_append mt_append (pv 1) (pa_cons (pe_ix ix_tup (pv 3) pe_int (fun _ _ => rfl)) pa_nil))))
          (pss_one (ps_if (pt_cmpR op_eq (pe_ix ix_tup (pv 3) pe_int (fun _ _ => rfl)) (pgl rfl T.gTW) (nomark _))
            (pss_one (ps_expr (pe_bm PySem.F.plainAttrs_list PySem.F.slot_list_append PySem.F.type_list_append mt_append (pv 1) (pa_cons (pcall D.made (ok_made D T) hr rfl (pa_cons (pe_ix ix_tup (pv 3) pe_int (fun _ _ => rfl)) (pa_cons (pe_ix ix_list (pv 1) (pe_ix ix_tup (pv 3) pe_int (fun _ _ => rfl)) (fun _ _ => rfl)) (pa_cons (pe_ix ix_list (pv 1) (pe_ix ix_tup (pv 3) pe_int (fun _ _ => rfl)) (fun _ _ => rfl)) pa_nil)))) pa_nil))))
            (pss_one (ps_expr (pe_bm PySem.F.plainAttrs_list PySem.F.slot_list_append PySem.F.type_list_append mt_append (pv 2) (pa_cons (pe_ix ix_list (pv 1) (pe_ix ix_tup (pv 3) pe_int (fun _ _ => rfl)) (fun _ _ => rfl)) pa_nil)))))))))
      (pss_one (ps_ret (pv 2))))), ?_⟩
    have hf := W.few
    refine ⟨by show 0 ≤ sizeLine; decide, fun a ha => ⟨by show 0 ≤ sizeLine; decide, fun b hb => ?_⟩⟩
    have s1 := same_new (o := .lst []) ha
    have s2 := same_new (o := .lst []) hb
    have hb0 := s1.free hb
    have hab : a ≠ b := fun z => by
      rw [← z, upd_same] at hb
      cases hb
    refine ⟨_, rfl, ss, rfl, ⟨_, SqL.of (s2 _ _ (s1 _ _ W.st))⟩, ?_⟩
    refine for_list (K := K) (a := ss) (xs := ts.map V.ref) (fun i σ H' => ∃ v : Option V, σ = [some (.ref ss), some (.ref a), some (.ref b), v] ∧ Same H H' ∧
      H' a = some (.lst ((Lb.envAt wk i).map nv)) ∧ H' b = some (.lst ((Cm07.saysFrom (wk.steps.take i) []).map nv))) ?_ ?_ ?_ ?_
    · refine ⟨none, rfl, s1.trans s2, ?_, upd_same⟩
      rw [upd_ne hab, upd_same]
      rfl
    · rintro i σ H' _ ⟨v, _, e, _⟩
      exact SqL.of (e _ _ W.st)
    · rintro i y σ H' hi ⟨v, rfl, e, h1, h2⟩
      obtain ⟨t, s', q1, q2, rfl, ht⟩ := W.at hi
      have hlt : i < wk.steps.length := (List.getElem?_eq_some_iff.mp q2).1
      have est := stepAt_of q2
      have et := Lb.take_step hlt
      have es := Lb.envAt_succ hlt
      have el := Lb.envAt_length wk i
      have hvl : Cm07.valueOf wk i ≤ 10 := Nat.le_trans Lb.valueOf_le (Nat.le_trans (List.length_filter_le _ _) hf)
      have hsl : (Cm07.saysFrom (wk.steps.take i) []).length ≤ 10 := by
        have z := says_len (wk.steps.take i) []
        rw [List.length_take] at z
        omega
      have sa : Cm07.saysFrom (wk.steps.take (i + 1)) [] = Cm07.saysFrom (wk.steps.take i) [] ++ Cm07.saysFrom [Cm07.stepAt wk i] (Lb.envAt wk i) := by
        rw [et, Lb.says_append]
        rfl
      have hu := S.val i hlt
      rw [est] at es sa hu
      have hok := S.ok s' (List.mem_of_getElem? q2)
      have hup : ∀ x : V, Same H (upd H' a (.lst ((Lb.envAt wk i).map nv ++ [x]))) := fun x c o q => by
        rw [upd_ne (ne_of_none q ha)]
        exact e c o q
      have htt := e _ _ ht
      cases s' with
      | num n =>
        refine ⟨_, rfl, t, _, _, _, rfl, rfl, SqT.of htt, atI_nat (j := 0) rfl, rfl, _, rfl, if_true_of rfl ?_⟩
        refine ⟨_, rfl, .inl ⟨rfl, _, SqL.of h1⟩, _, rfl, t, _, _, _, rfl, rfl, SqT.of htt, atI_nat (j := 1) rfl, a, _, _, rfl, rfl, h1, ?_, some (.ref t), rfl, hup _, ?_, ?_⟩
        · rw [List.length_map]
          exact small1000 (by omega)
        · rw [upd_same, es, Lb.env, Lb.env, List.map_append]
          rfl
        · rw [upd_ne (Ne.symm hab), sa]
          simpa [Cm07.saysFrom] using h2
      | two o x y =>
        have hx : x < (Lb.envAt wk i).length := by
          rw [el]
          exact hu x (mem_usedL.mp (by simp [usedL]))
        have hy : y < (Lb.envAt wk i).length := by
          rw [el]
          exact hu y (mem_usedL.mp (by simp [usedL]))
        refine ⟨_, rfl, t, _, _, _, rfl, rfl, SqT.of htt, atI_nat (j := 0) rfl, rfl, _, rfl, if_false_of rfl ?_⟩
        refine ⟨_, rfl, t, _, _, _, rfl, rfl, SqT.of htt, atI_nat (j := 0) rfl, rfl, _, rfl, if_true_of rfl ?_⟩
        refine ⟨_, rfl, .inl ⟨rfl, _, SqL.of h1⟩, _, rfl, t, _, _, _, rfl, rfl, SqT.of htt, atI_nat (j := 1) rfl, _, rfl, _, rfl, t, _, _, _, rfl, rfl, SqT.of htt, atI_nat (j := 2) rfl, a, _, _, _, rfl, rfl, SqL.of h1, atI_nat (nat_at hx),
          _, rfl, _, rfl, t, _, _, _, rfl, rfl, SqT.of htt, atI_nat (j := 3) rfl, a, _, _, _, rfl, rfl, SqL.of h1, atI_nat (nat_at hy), o, _, _, rfl, hok, S.word, S.word, ?_⟩
        refine ⟨a, _, _, rfl, rfl, h1, ?_, some (.ref t), rfl, hup _, ?_, ?_⟩
        · rw [List.length_map]
          exact small1000 (by omega)
        · rw [upd_same, es, Lb.env, Lb.env, List.map_append]
          rfl
        · rw [upd_ne (Ne.symm hab), sa]
          simpa [Cm07.saysFrom] using h2
      | say x =>
        have hx : x < (Lb.envAt wk i).length := by
          rw [el]
          exact hu x (by simp [Cm07.Step.uses])
        refine ⟨_, rfl, t, _, _, _, rfl, rfl, SqT.of htt, atI_nat (j := 0) rfl, rfl, _, rfl, if_false_of rfl ?_⟩
        refine ⟨_, rfl, t, _, _, _, rfl, rfl, SqT.of htt, atI_nat (j := 0) rfl, rfl, _, rfl, if_false_of rfl ?_⟩
        refine ⟨_, rfl, .inl ⟨rfl, _, SqL.of h2⟩, _, rfl, _, rfl, t, _, _, _, rfl, rfl, SqT.of htt, atI_nat (j := 1) rfl, a, _, _, _, rfl, rfl, SqL.of h1, atI_nat (nat_at hx), b, _, _, rfl, rfl, h2, ?_, some (.ref t), rfl, fun c o q => ?_, ?_, ?_⟩
        · rw [List.length_map]
          exact small1000 (by omega)
        · rw [upd_ne (ne_of_none q hb0)]
          exact e c o q
        · rw [upd_ne hab, es]
          exact h1
        · rw [upd_same, sa, List.map_append]
          rfl
    · rintro σ H' ⟨v, rfl, e, h1, h2⟩
      rw [List.length_map, W.len, List.take_length] at h2
      exact ⟨_, rfl, k H' b e hb0 h2⟩
end
end Pb
namespace Pb
open PySem PySem.Spec PyProof.Rows L2
section
open PySem.SeqAt
open PySem.AutoSeq1 (wpAny_loadPart')
theorem list_extend_tup (l : Addr) (items : Array Value) (n : Nat) (b : Addr) (d2 : Option Addr) (sl2 : Array (Option Value)) (items2 : Array Value) (n2 : Nat) (hs0 : ¬(!items.isEmpty && Builtin.List.listTooLong (items.size + items2.size)) = true) (hs1 : items.size ≤ sizeLine) (hs2 : items.size + items2.size ≤ sizeLine + 1) :
    Meets (Builtin.«list.extend» ⟨[.ref l, .ref b], []⟩) (fun _ R s => s.heap.get? l = some { cls := .type "list", dict := none, data := .seq items n, slots := #[] } ∧ s.heap.get? b = some { cls := .type "tuple", dict := d2, data := .seq items2 n2, slots := sl2 } ∧ R (.ok (.ret Value.none)) { s with heap := s.heap.update l (Obj.mapSeq fun x => x ++ items2), toks := s.toks }) :=
  .of_wp fun _ _ _ R s h => by
    obtain ⟨hp, g, d, tk, os⟩ := s
    obtain ⟨h1, h2, h3⟩ := h
    have g1 := AutoSeq1.idx_int
    have g2 := AutoSeq1.sub_tuple_tuple
    have g3 := AutoSeq1.sub_list_list
    have g4 := AutoSeq1.sub_tuple_list
    have g5 := AutoSeq1.sub_list_tuple
    have room : (items ++ items2).size ≤ sizeLine + 1 := by
      rw [Array.size_append]
      exact hs2
    wp_walk using (wpAny_updateSeq h1 rfl (hz := hs1) (_hz' := room)), wpAny_loadPart' h1, wpAny_loadPart' h2
    exact ⟨_, rfl, h3⟩
end
def rExtendT : V → List V → Hp → VK → Prop := fun x vs H Q => ∃ l b xs zs, x = .ref l ∧ vs = [.ref b] ∧ H l = some (.lst xs) ∧ H b = some (.tup zs) ∧ xs.length + zs.length ≤ sizeLine ∧ Q .non (upd H l (.lst (xs ++ zs)))
theorem mt_extendT {X : Cx} : MtM X "list.extend" rExtendT := by
  intro pins s σ H x vs v us Q I rx rv h
  obtain ⟨l, b, xs, zs, rfl, rfl, hH, hB, hz, q⟩ := h
  cases rx
  obtain ⟨u, rfl, ru⟩ := rv.one
  cases ru
  obtain ⟨z, its, n, r, hl, e⟩ := I.lstM hH
  obtain ⟨z2, its2, r2, o, e2, hc, n2, hd⟩ := I.hok b _ hB
  have hl2 := r2.length
  obtain ⟨oc, od, odt, osl⟩ := o
  cases hc
  cases hd
  have hsz : its.toArray.size + its2.toArray.size ≤ sizeLine := by rw [List.size_toArray, List.size_toArray]; omega
  have hlong : ¬ (!its.toArray.isEmpty && Builtin.List.listTooLong (its.toArray.size + its2.toArray.size)) = true := by
    rw [notLongL hsz, Bool.and_false]
    exact Bool.false_ne_true
  refine call_meets F.slot_list_extend ⟨_, e, rfl⟩ F.entry_list_extend (F.args_list_extend_2 _ _)
    (list_extend_tup l its.toArray n b od osl its2.toArray n2 hlong (by rw [List.size_toArray]; omega) (by omega)) ⟨e, e2, ?_⟩
  refine ⟨.non, _, I.lset (its' := its ++ its2) hH e (by simp) (r.append r2) ?_, rfl, q⟩
  rw [List.length_append]
  omega
end Pb
namespace Pb
open PySem PySem.Spec PyProof.Rows L2
/-- behind a call: the work is w', a new list of out is answered -/
def After (C : Addr) (H : Hp) (x ss : Addr) (r : Cm07.Work × List Int) (Q : VK) : Prop :=
  ∀ (H' : Hp) (p dx ss' : Addr) (ts' : List Addr), WorkIn C H' x dx ss' ts' r.1 → (∀ b o, H b = some o → b ≠ x → b ≠ ss → H' b = some o) → (ss' = ss ∨ H ss' = none) →
    H p = none → H' p = some (.lst (r.2.map V.int)) → Q (.ref p) H'
theorem After.same {C : Addr} {H H' : Hp} {x dx ss p : Addr} {ts : List Addr} {w : Cm07.Work} {out : List Int} {Q : VK} (k : After C H x ss (w, out) Q) (W : WorkIn C H x dx ss ts w) (e : Same H H') (n : H p = none) (hp : H' p = some (.lst (out.map V.int))) : Q (.ref p) H' :=
  k H' p dx ss ts (W.keep e) (fun b o h _ _ => e b o h) (.inl rfl) n hp
theorem After.mono {C : Addr} {H H1 : Hp} {x ss : Addr} {r : Cm07.Work × List Int} {Q : VK} (k : After C H x ss r Q) (e : Same H H1) : After C H1 x ss r Q := by
  intro H' p dx' ss' ts' W' kp hs hp hp'
  exact k H' p dx' ss' ts' W' (fun b u q h1 h2 => kp b u (e b u q) h1 h2) (hs.imp id e.free) (e.free hp) hp'
def push (w : Cm07.Work) (s : Cm07.Step) : Cm07.Work × List Int := if Cm07.LONG ≤ w.steps.length then (w, [-1]) else ({ w with steps := w.steps ++ [s] }, Cm07.ints [w.steps.length + 1])
def spPut (C : Addr) : Sp := fun vs H Q _ => ∃ (x t dx ss : Addr) (ts : List Addr) (w : Cm07.Work) (s : Cm07.Step), vs = [.ref x, .ref t] ∧ WorkIn C H x dx ss ts w ∧ H t = some (.tup (tupOf s)) ∧ After C H x ss (push w s) Q
def spNum (C : Addr) : Sp := fun vs H Q _ => ∃ (x dx ss : Addr) (ts : List Addr) (w : Cm07.Work) (k : Nat), vs = [.ref x, nv k] ∧ WorkIn C H x dx ss ts w ∧ After C H x ss (Cm07.step w (.num k)) Q
def spTwo (C : Addr) : Sp := fun vs H Q _ => ∃ (x dx ss : Addr) (ts : List Addr) (w : Cm07.Work) (o a b : Nat), vs = [.ref x, nv o, nv a, nv b] ∧ WorkIn C H x dx ss ts w ∧ After C H x ss (Cm07.step w (.two o a b)) Q
def spSay (C : Addr) : Sp := fun vs H Q _ => ∃ (x dx ss : Addr) (ts : List Addr) (w : Cm07.Work) (a : Nat), vs = [.ref x, nv a] ∧ WorkIn C H x dx ss ts w ∧ After C H x ss (Cm07.step w (.say a)) Q
def spShows (C : Addr) : Sp := fun vs H Q _ => ∃ (x dx ss : Addr) (ts : List Addr) (w : Cm07.Work), vs = [.ref x] ∧ WorkIn C H x dx ss ts w ∧ After C H x ss (Cm07.step w .shows) Q
def spSays (C : Addr) : Sp := fun vs H Q _ => ∃ (x dx ss : Addr) (ts : List Addr) (w : Cm07.Work), vs = [.ref x] ∧ WorkIn C H x dx ss ts w ∧ Sound w ∧ After C H x ss (Cm07.step w .says) Q
def spBegin (C : Addr) : Sp := fun vs H Q _ => ∃ (x q dx ss : Addr) (ts : List Addr) (w : Cm07.Work) (k p g a : Nat), vs = [.ref x, nv k, .ref q] ∧ WorkIn C H x dx ss ts w ∧ H q = some (.lst [nv p, nv g, nv a]) ∧ After C H x ss (Cm07.step w (.work k p g a)) Q
theorem put_push {w : Cm07.Work} {s : Cm07.Step} (h : ∀ v ∈ s.uses, v < Cm07.values w) : Cm07.put w s = push w s := by
  have e : (s.uses.any (fun v => decide (Cm07.values w ≤ v)) = true) = False := by
    simp only [List.any_eq_true, decide_eq_true_eq, eq_iff_iff, iff_false, not_exists, not_and]
    intro v hv
    have := h v hv
    omega
  unfold Cm07.put push
  rw [if_neg (by rw [e]; exact id)]
theorem put_no {w : Cm07.Work} {s : Cm07.Step} (h : ∃ v ∈ s.uses, Cm07.values w ≤ v) : Cm07.put w s = (w, [-2]) := by
  unfold Cm07.put
  rw [if_pos]
  simpa using h
theorem op_small {o : Nat} (h : o < 10) : ∃ p, CmBase.opOf o = some p ∧ p ≠ .div ∧ p.num = o := by
  match o, h with
  | 0, _ => exact ⟨.add, rfl, by decide, rfl⟩
  | 1, _ => exact ⟨.sub, rfl, by decide, rfl⟩
  | 2, _ => exact ⟨.mul, rfl, by decide, rfl⟩
  | 3, _ => exact ⟨.and, rfl, by decide, rfl⟩
  | 4, _ => exact ⟨.or, rfl, by decide, rfl⟩
  | 5, _ => exact ⟨.xor, rfl, by decide, rfl⟩
  | 6, _ => exact ⟨.shl, rfl, by decide, rfl⟩
  | 7, _ => exact ⟨.shr, rfl, by decide, rfl⟩
  | 8, _ => exact ⟨.below, rfl, by decide, rfl⟩
  | 9, _ => exact ⟨.same, rfl, by decide, rfl⟩
theorem two_small {w : Cm07.Work} {o a b : Nat} (h : o < 10) : ∃ p, p.num = o ∧ p ≠ .div ∧ Cm07.step w (.two o a b) = Cm07.put w (.two p a b) := by
  obtain ⟨p, e, hd, hn⟩ := op_small h
  refine ⟨p, hn, hd, ?_⟩
  show (match CmBase.opOf o with
    | some .div => (w, [-4])
    | none => (w, [-4])
    | some p => Cm07.put w (.two p a b)) = _
  rw [e]
  cases p <;> first | rfl | exact absurd rfl hd
theorem two_big {w : Cm07.Work} {o a b : Nat} (h : 10 ≤ o) : Cm07.step w (.two o a b) = (w, [-4]) := by
  show (match CmBase.opOf o with
    | some .div => (w, [-4])
    | none => (w, [-4])
    | some p => Cm07.put w (.two p a b)) = _
  match o, h with
  | 10, _ => rfl
  | n + 11, _ => rfl
theorem nums_few (s : Cm07.Step) : s.nums.length ≤ 4 := by
  cases s <;> simp [Cm07.Step.nums]
theorem flat_few : ∀ l : List Cm07.Step, (l.flatMap Cm07.Step.nums).length ≤ 4 * l.length
  | [] => by simp
  | s :: r => by
    have h1 := nums_few s
    have h2 := flat_few r
    rw [List.flatMap_cons, List.length_append, List.length_cons]
    omega
section
variable {P : Program} {w : World} {K : PySem.W.Frag} {mg : Str → Option Value} {base : Heap} {C CC : Addr}
theorem scPut : FnScope ["work", "step"] ["work", "step"] (scOf 90) := ⟨rfl, rfl, rfl, by decide +kernel, rfl, by decide +kernel, by decide +kernel⟩
theorem ok_behind (D : Ds K mg) (T : Txt K mg C CC) : FnOk P w K mg base CX0 1 D.behind.f D.behind.fd ["work", "step"] (spPut C) := by
  refine D.behind.F.ok scPut (fun vs H Q E h => ?_) (fun cdv A outer s H vs Q E hr h => ?_)
  · obtain ⟨x, t, dx, ss, ts, w, s, rfl, _⟩ := h
    rfl
  · obtain ⟨x, t, dx, ss, ts, wk, st, rfl, W, ht, k⟩ := h
    refine ⟨_, pss_cons (ps_if (pt_cmpR op_ge (pe_callB call_len_seq (by rfl) T.len PySem.boot_len (pa_cons (pe_fld (pv 0) rfl) pa_nil)) (pgl rfl T.gMS) (nomark _))
          (pss_one (ps_ret (pe_lst (pa_cons (pe_un un_neg pe_int) pa_nil)))) pss_nil)
        (pss_cons (ps_expr (pe_bm PySem.F.plainAttrs_list PySem.F.slot_list_append PySem.F.type_list_append mt_append (pe_fld (pv 0) rfl) (pa_cons (pv 1) pa_nil)))
        (pss_one (ps_ret (pe_lst (pa_cons (pe_callB call_len_seq (by rfl) T.len PySem.boot_len (pa_cons (pe_fld (pv 0) rfl) pa_nil)) pa_nil))))), ?_⟩
    refine ⟨_, rfl, x, C, dx, _, _, rfl, W.obj, T.cl, T.nS, wF_ste, ss, _, rfl, .inl (SqL.of W.st.st), _, _, rfl, rfl, _, rfl, ?_⟩
    have hl : ts.length = wk.steps.length := W.st.len
    have hf := W.st.few
    by_cases c : (10 : Nat) ≤ wk.steps.length
    · have e : push wk st = (wk, [-1]) := if_pos c
      rw [e] at k
      refine if_true_of ?_ ?_
      · simp only [List.length_map]
        refine decide_eq_true ?_
        omega
      · refine ⟨_, rfl, (by show 1 ≤ sizeLine; decide), fun p hp => ?_⟩
        exact k.same W (same_new hp) hp upd_same
    · have e : push wk st = ({ wk with steps := wk.steps ++ [st] }, Cm07.ints [wk.steps.length + 1]) := if_neg c
      rw [e] at k
      refine if_false_of ?_ ?_
      · simp only [List.length_map]
        refine decide_eq_false ?_
        omega
      · have hx : x ≠ ss := ne_of W.obj W.st.st (by intro z; cases z)
        refine ⟨_, rfl, x, C, dx, _, _, rfl, W.obj, T.cl, T.nS, wF_ste, .inl ⟨rfl, _, SqL.of W.st.st⟩, _, rfl, ss, _, _, rfl, rfl, W.st.st, ?_, ?_⟩
        · rw [List.length_map]
          exact small1000 (by omega)
        have hobj : upd H ss (.lst (ts.map V.ref ++ [V.ref t])) x = some (.ins C dx (wF (nv wk.regs) (nv wk.put) (nv wk.get) (nv wk.again) ss)) := by
          rw [upd_ne hx]
          exact W.obj
        refine ⟨_, rfl, x, C, dx, _, _, rfl, hobj, T.cl, T.nS, wF_ste, ss, _, rfl, .inl (SqL.of upd_same), (by show 1 ≤ sizeLine; decide), fun p hp => ?_⟩
        have hps : p ≠ ss := fun z => by
          rw [z, upd_same] at hp
          cases hp
        have hp0 : H p = none := by
          rw [upd_ne hps] at hp
          exact hp
        have hts : t ≠ ss := ne_of ht W.st.st (by intro z; cases z)
        have kp : ∀ b o, H b = some o → b ≠ ss → (upd (upd H ss (.lst (ts.map V.ref ++ [V.ref t]))) p (.lst [V.int ((ts.map V.ref ++ [V.ref t]).length : Nat)])) b = some o := fun b o e hb => by
          rw [upd_ne (ne_of_none e hp0), upd_ne hb]
          exact e
        refine k _ p dx ss (ts ++ [t]) ⟨kp _ _ W.obj hx, ?_, ?_, ?_, ?_⟩ (fun b o e _ hb => kp b o e hb) (.inl rfl) hp0 ?_
        · rw [upd_ne (Ne.symm hps), upd_same, List.map_append]
          rfl
        · simp [hl]
        · intro i t' s' h1 h2
          have h2' : (wk.steps ++ [st])[i]? = some s' := h2
          by_cases ci : i < wk.steps.length
          · rw [List.getElem?_append_left (by omega)] at h1
            rw [List.getElem?_append_left ci] at h2'
            have q := W.st.tup i t' s' h1 h2'
            exact kp _ _ q (ne_of q W.st.st (by intro z; cases z))
          · have ei : i = wk.steps.length := by
              have := (List.getElem?_eq_some_iff.mp h2').1
              simp at this
              omega
            subst ei
            rw [List.getElem?_append_right (by omega)] at h1
            rw [List.getElem?_append_right (by omega)] at h2'
            simp [hl] at h1 h2'
            subst h1 h2'
            exact kp _ _ ht hts
        · simp
          omega
        · rw [upd_same]
          simp [Cm07.ints, hl]
theorem scNum : FnScope ["work", "word"] ["work", "word"] (scOf 91) := ⟨rfl, rfl, rfl, by decide +kernel, rfl, by decide +kernel, by decide +kernel⟩
theorem ok_num (D : Ds K mg) (T : Txt K mg C CC) : FnOk P w K mg base CX0 2 D.num.f D.num.fd ["work", "word"] (spNum C) := by
  refine D.num.F.ok scNum (fun vs H Q E h => ?_) (fun cdv A outer s H vs Q E hr h => ?_)
  · obtain ⟨x, dx, ss, ts, w, k, rfl, _⟩ := h
    rfl
  · obtain ⟨x, dx, ss, ts, wk, n, rfl, W, k⟩ := h
    refine ⟨_, pss_one (ps_ret (pcall D.behind (ok_behind D T) hr rfl (pa_cons (pv 0) (pa_cons (pe_tup (pa_cons (pgl rfl T.gNU) (pa_cons (pv 1) pa_nil))) pa_nil)))), ?_⟩
    refine ⟨_, rfl, _, rfl, (by show 2 ≤ sizeLine; decide), fun t ht => ?_⟩
    have e : Cm07.step wk (.num n) = push wk (.num n) := put_push (s := .num n) (fun v hv => by cases hv)
    rw [e] at k
    exact ⟨x, t, dx, ss, ts, wk, .num n, rfl, W.keep (same_new ht), upd_same, k.mono (same_new ht)⟩
theorem scSay : FnScope ["work", "value"] ["work", "value"] (scOf 93) := ⟨rfl, rfl, rfl, by decide +kernel, rfl, by decide +kernel, by decide +kernel⟩
theorem ok_say (D : Ds K mg) (T : Txt K mg C CC) : FnOk P w K mg base CX0 3 D.say.f D.say.fd ["work", "value"] (spSay C) := by
  refine D.say.F.ok scSay (fun vs H Q E h => ?_) (fun cdv A outer s H vs Q E hr h => ?_)
  · obtain ⟨x, dx, ss, ts, w, k, rfl, _⟩ := h
    rfl
  · obtain ⟨x, dx, ss, ts, wk, n, rfl, W, k⟩ := h
    refine ⟨_, pss_cons (ps_if (pt_cmpR op_ge (pv 1) (pcall D.vals (ok_vals D T) hr rfl (pa_cons (pe_fld (pv 0) rfl) pa_nil)) (nomark _)) (pss_one (ps_ret (pe_lst (pa_cons (pe_un un_neg pe_int) pa_nil)))) pss_nil)
      (pss_one (ps_ret (pcall D.behind (ok_behind D T) hr rfl (pa_cons (pv 0) (pa_cons (pe_tup (pa_cons (pgl rfl T.gSA) (pa_cons (pv 1) pa_nil))) pa_nil))))), ?_⟩
    refine ⟨_, rfl, _, rfl, x, C, dx, _, _, rfl, W.obj, T.cl, T.nS, wF_ste, ss, ts, _, rfl, W.st, fun H1 e1 => ⟨_, _, rfl, rfl, _, rfl, ?_⟩⟩
    have hv : given wk.steps = Cm07.values wk := rfl
    by_cases c : Cm07.values wk ≤ n
    · have e : Cm07.step wk (.say n) = (wk, [-2]) := put_no (s := .say n) ⟨n, by simp [Cm07.Step.uses], c⟩
      rw [e] at k
      refine if_true_of (decide_eq_true (by omega)) ⟨_, rfl, (by show 1 ≤ sizeLine; decide), fun p hp => ?_⟩
      exact k.same W (e1.trans (same_new hp)) (e1.free hp) upd_same
    · have e : Cm07.step wk (.say n) = push wk (.say n) := put_push (s := .say n) (fun v hv => by simp [Cm07.Step.uses] at hv; omega)
      rw [e] at k
      refine if_false_of (decide_eq_false (by omega)) ?_
      refine ⟨_, rfl, _, rfl, (by show 2 ≤ sizeLine; decide), fun t ht => ?_⟩
      exact ⟨x, t, dx, ss, ts, wk, .say n, rfl, (W.keep e1).keep (same_new ht), upd_same, k.mono (e1.trans (same_new ht))⟩
theorem scTwo : FnScope ["work", "operation", "first", "second"] ["work", "operation", "first", "second"] (scOf 92) := ⟨rfl, rfl, rfl, by decide +kernel, rfl, by decide +kernel, by decide +kernel⟩
theorem ok_two (D : Ds K mg) (T : Txt K mg C CC) : FnOk P w K mg base CX0 3 D.two.f D.two.fd ["work", "operation", "first", "second"] (spTwo C) := by
  refine D.two.F.ok scTwo (fun vs H Q E h => ?_) (fun cdv A outer s H vs Q E hr h => ?_)
  · obtain ⟨x, dx, ss, ts, w, o, a, b, rfl, _⟩ := h
    rfl
  · obtain ⟨x, dx, ss, ts, wk, o, a, b, rfl, W, k⟩ := h
    refine ⟨_, pss_cons (ps_if (pt_cmpR op_ge (pv 1) (pgl rfl T.gOP) (nomark _)) (pss_one (ps_ret (pe_lst (pa_cons (pe_un un_neg pe_int) pa_nil)))) pss_nil)
      (pss_cons (ps_if (pt_cmpR op_ge (pe_callB (call_max2 rfl) (by rfl) T.mx (by decide +kernel) (pa_cons (pv 2) (pa_cons (pv 3) pa_nil))) (pcall D.vals (ok_vals D T) hr rfl (pa_cons (pe_fld (pv 0) rfl) pa_nil)) (nomark _)) (pss_one (ps_ret (pe_lst (pa_cons (pe_un un_neg pe_int) pa_nil)))) pss_nil)
      (pss_one (ps_ret (pcall D.behind (ok_behind D T) hr rfl (pa_cons (pv 0) (pa_cons (pe_tup (pa_cons (pgl rfl T.gTW) (pa_cons (pv 1) (pa_cons (pv 2) (pa_cons (pv 3) pa_nil))))) pa_nil)))))), ?_⟩
    refine ⟨_, rfl, _, _, rfl, rfl, _, rfl, ?_⟩
    have hv : given wk.steps = Cm07.values wk := rfl
    by_cases c : 10 ≤ o
    · rw [two_big c] at k
      refine if_true_of (decide_eq_true (by omega)) ⟨_, rfl, (by show 1 ≤ sizeLine; decide), fun p hp => ?_⟩
      exact k.same W (same_new hp) hp upd_same
    · obtain ⟨p, hp, _, ep⟩ := two_small (w := wk) (a := a) (b := b) (show o < 10 by omega)
      rw [ep] at k
      refine if_false_of (decide_eq_false (by omega)) ?_
      refine ⟨_, rfl, _, rfl, _, _, rfl, _, rfl, x, C, dx, _, _, rfl, W.obj, T.cl, T.nS, wF_ste, ss, ts, _, rfl, W.st, fun H1 e1 => ⟨_, _, rfl, rfl, _, rfl, ?_⟩⟩
      have hu : ∀ v, v ∈ (Cm07.Step.two p a b).uses ↔ v = a ∨ v = b := by
        intro v
        by_cases q : a = b
        · subst q
          simp [Cm07.Step.uses]
        · simp [Cm07.Step.uses, q]
      by_cases c2 : Cm07.values wk ≤ a ∨ Cm07.values wk ≤ b
      · have e : Cm07.put wk (.two p a b) = (wk, [-2]) := put_no (by
          rcases c2 with z | z
          · exact ⟨a, (hu a).mpr (.inl rfl), z⟩
          · exact ⟨b, (hu b).mpr (.inr rfl), z⟩)
        rw [e] at k
        refine if_true_of (decide_eq_true ?_) ⟨_, rfl, (by show 1 ≤ sizeLine; decide), fun p hp => ?_⟩
        · split <;> omega
        · exact k.same W (e1.trans (same_new hp)) (e1.free hp) upd_same
      · have e : Cm07.put wk (.two p a b) = push wk (.two p a b) := put_push (fun v hv => by
          rcases (hu v).mp hv with z | z <;> omega)
        rw [e] at k
        refine if_false_of (decide_eq_false ?_) ?_
        · split <;> omega
        · refine ⟨_, rfl, _, rfl, _, rfl, _, rfl, (by show 4 ≤ sizeLine; decide), fun t ht => ?_⟩
          refine ⟨x, t, dx, ss, ts, wk, .two p a b, rfl, (W.keep e1).keep (same_new ht), ?_, k.mono (e1.trans (same_new ht))⟩
          rw [upd_same]
          simp [tupOf, Cm07.Step.nums, hp]
theorem scBegin : FnScope ["work", "registers", "prices"] ["work", "registers", "prices"] (scOf 89) := ⟨rfl, rfl, rfl, by decide +kernel, rfl, by decide +kernel, by decide +kernel⟩
theorem wF_1 {k p g a x : V} {ss : Addr} : putF "registers" x (wF k p g a ss) = wF x p g a ss := put_here
theorem wF_2 {k p g a x : V} {ss : Addr} : putF "put_price" x (wF k p g a ss) = wF k x g a ss := (put_past (by decide +kernel)).trans (congrArg _ put_here)
theorem wF_3 {k p g a x : V} {ss : Addr} : putF "get_price" x (wF k p g a ss) = wF k p x a ss := (put_past (by decide +kernel)).trans (congrArg _ ((put_past (by decide +kernel)).trans (congrArg _ put_here)))
theorem wF_4 {k p g a x : V} {ss : Addr} : putF "again_price" x (wF k p g a ss) = wF k p g x ss := (put_past (by decide +kernel)).trans (congrArg _ ((put_past (by decide +kernel)).trans (congrArg _ ((put_past (by decide +kernel)).trans (congrArg _ put_here)))))
theorem wF_5 {k p g a : V} {ss ss' : Addr} : putF "steps" (.ref ss') (wF k p g a ss) = wF k p g a ss' := (put_past (by decide +kernel)).trans (congrArg _ ((put_past (by decide +kernel)).trans (congrArg _ ((put_past (by decide +kernel)).trans (congrArg _ ((put_past (by decide +kernel)).trans (congrArg _ put_here)))))))
theorem ok_begin (D : Ds K mg) (T : Txt K mg C CC) : FnOk P w K mg base CX0 1 D.begin.f D.begin.fd ["work", "registers", "prices"] (spBegin C) := by
  refine D.begin.F.ok scBegin (fun vs H Q E h => ?_) (fun cdv A outer s H vs Q E hr h => ?_)
  · obtain ⟨x, q, dx, ss, ts, w, k', p, g, a, rfl, _⟩ := h
    rfl
  · obtain ⟨x, q, dx, ss, ts, wk, n, p, g, a, rfl, W, hq, k⟩ := h
    refine ⟨_, pss_cons (ps_if (PW.pt (pw_or (pt_cmpR op_lt (pv 1) (pgl rfl T.gFR) (nomark _)) (pw_or (pt_cmpR op_gt (pv 1) (pgl rfl T.gMR) (nomark _)) (pw_or1 (pt_cmpR op_gt (pe_callB (cr_max rfl) (by rfl) T.mx (by decide +kernel) (pa_cons (pv 2) pa_nil)) (pgl rfl T.gHP) (nomark _))))))
        (pss_one (ps_ret (pe_lst (pa_cons (pe_un un_neg pe_int) pa_nil)))) pss_nil)
      (pss_cons (ps_fld (pv 0) (pv 1) rfl) (pss_cons (ps_fld (pv 0) (pe_ix ix_list (pv 2) pe_int (fun _ _ => rfl)) rfl) (pss_cons (ps_fld (pv 0) (pe_ix ix_list (pv 2) pe_int (fun _ _ => rfl)) rfl) (pss_cons (ps_fld (pv 0) (pe_ix ix_list (pv 2) pe_int (fun _ _ => rfl)) rfl) (pss_cons (ps_fld (pv 0) (pe_lst pa_nil) rfl) (pss_one (ps_ret (pe_lst (pa_cons (pv 1) pa_nil))))))))), ?_⟩
    have hno : (n < 2 ∨ 4 < n ∨ 9 < p ∨ 9 < g ∨ 9 < a) → (∀ p' : Addr, H p' = none → Q (.ref p') (upd H p' (.lst [.int (-1)]))) := fun c p' hp => by
      have e : Cm07.step wk (.work n p g a) = (wk, [-1]) := if_pos c
      rw [e] at k
      exact k.same W (same_new hp) hp upd_same
    refine ⟨_, rfl, _, _, rfl, rfl, _, rfl, ?_⟩
    by_cases c1 : n < 2
    · exact if_true_of (decide_eq_true (by omega)) (if_true_of rfl ⟨_, rfl, (by show 1 ≤ sizeLine; decide), fun p' hp => hno (.inl c1) p' hp⟩)
    refine if_false_of (decide_eq_false (by omega)) ?_
    refine ⟨_, rfl, _, _, rfl, rfl, _, rfl, ?_⟩
    by_cases c2 : 4 < n
    · exact if_true_of (decide_eq_true (by omega)) (if_true_of rfl ⟨_, rfl, (by show 1 ≤ sizeLine; decide), fun p' hp => hno (.inr (.inl c2)) p' hp⟩)
    refine if_false_of (decide_eq_false (by omega)) ?_
    refine ⟨_, rfl, q, [(p : Int), g, a], rfl, SqL.of hq, Nat.succ_pos _, fun m hm hmx => ⟨_, _, rfl, rfl, _, rfl, ?_⟩⟩
    have m1 := hmx p (by simp)
    have m2 := hmx g (by simp)
    have m3 := hmx a (by simp)
    have m4 : m = p ∨ m = g ∨ m = a := by simpa using hm
    by_cases c3 : 9 < p ∨ 9 < g ∨ 9 < a
    · exact if_true_of (decide_eq_true (by omega)) ⟨_, rfl, (by show 1 ≤ sizeLine; decide), fun p' hp => hno (.inr (.inr c3)) p' hp⟩
    refine if_false_of (decide_eq_false (by omega)) ?_
    have e : Cm07.step wk (.work n p g a) = (⟨n, p, g, a, []⟩, Cm07.ints [n]) := if_neg (by omega)
    rw [e] at k
    have hqx : q ≠ x := ne_of hq W.obj (by intro z; cases z)
    have hq' : ∀ o, upd H x o q = some (.lst [nv p, nv g, nv a]) := fun o => (upd_ne hqx).trans hq
    refine ⟨_, rfl, _, rfl, x, C, dx, _, rfl, W.obj, T.cl, T.nR, (by show 5 < 1000; decide), ?_⟩
    rw [wF_1]
    refine ⟨_, rfl, q, _, _, _, rfl, rfl, SqL.of (hq' _), atI_nat (j := 0) rfl, _, rfl, x, C, dx, _, rfl, upd_same, T.cl, T.nP, (by show 5 < 1000; decide), ?_⟩
    rw [upd_upd, wF_2]
    refine ⟨_, rfl, q, _, _, _, rfl, rfl, SqL.of (hq' _), atI_nat (j := 1) rfl, _, rfl, x, C, dx, _, rfl, upd_same, T.cl, T.nG, (by show 5 < 1000; decide), ?_⟩
    rw [upd_upd, wF_3]
    refine ⟨_, rfl, q, _, _, _, rfl, rfl, SqL.of (hq' _), atI_nat (j := 2) rfl, _, rfl, x, C, dx, _, rfl, upd_same, T.cl, T.nA, (by show 5 < 1000; decide), ?_⟩
    rw [upd_upd, wF_4]
    refine ⟨(by show 0 ≤ sizeLine; decide), fun s' hs' => ?_⟩
    have hsx : s' ≠ x := fun z => by
      rw [z, upd_same] at hs'
      cases hs'
    have hs0 : H s' = none := by
      rw [upd_ne hsx] at hs'
      exact hs'
    refine ⟨_, rfl, x, C, dx, _, rfl, (upd_ne (Ne.symm hsx)).trans upd_same, T.cl, T.nS, (by show 5 < 1000; decide), ?_⟩
    rw [wF_5]
    refine ⟨_, rfl, (by show 1 ≤ sizeLine; decide), fun p' hp' => ?_⟩
    have hpx : p' ≠ x := fun z => by
      rw [z, upd_same] at hp'
      cases hp'
    rw [upd_ne hpx] at hp'
    have hps : p' ≠ s' := fun z => by
      rw [z, upd_same] at hp'
      cases hp'
    rw [upd_ne hps, upd_ne hpx] at hp'
    refine k _ p' dx s' [] ⟨?_, ?_, rfl, ?_, by show 0 ≤ 10; decide⟩ ?_ (.inr hs0) hp' upd_same
    · rw [upd_ne (Ne.symm hpx), upd_same]
    · rw [upd_ne (Ne.symm hps), upd_ne hsx, upd_same]
      rfl
    · intro i t s h1 _
      simp at h1
    · intro b o h1 h2 h3
      rw [upd_ne (ne_of_none h1 hp'), upd_ne h2, upd_ne (ne_of_none h1 hs0), upd_ne h2]
      exact h1
theorem scShows : FnScope ["work", "shown", "step"] ["work"] (scOf 94) := ⟨rfl, rfl, rfl, by decide +kernel, rfl, by decide +kernel, by decide +kernel⟩
theorem ok_shows (D : Ds K mg) (T : Txt K mg C CC) : FnOk P w K mg base CX0 1 D.shows.f D.shows.fd ["work"] (spShows C) := by
  refine D.shows.F.ok scShows (fun vs H Q E h => ?_) (fun cdv A outer s H vs Q E hr h => ?_)
  · obtain ⟨x, dx, ss, ts, w, rfl, _⟩ := h
    rfl
  · obtain ⟨x, dx, ss, ts, wk, rfl, W, k⟩ := h
    refine ⟨_, pss_cons (ps_set (i := 1) scShows.nd rfl (.inl rfl) (pe_lst (pa_cons (pe_fld (pv 0) rfl) (pa_cons (pe_fld (pv 0) rfl) (pa_cons (pe_fld (pv 0) rfl) (pa_cons (pe_fld (pv 0) rfl) (pa_cons (pe_callB call_len_seq (by rfl) T.len PySem.boot_len (pa_cons (pe_fld (pv 0) rfl) pa_nil)) pa_nil)))))))
      (pss_cons (ps_for PassesOwn.never rfl (pi_list (pe_fld (pv 0) rfl)) (pg_name (i := 2) scShows.nd rfl (.inl rfl))
        (pss_one (ps_expr (pe_bm PySem.F.plainAttrs_list PySem.F.slot_list_extend PySem.F.type_list_extend mt_extendT (pv 1) (pa_cons (pv 2) pa_nil)))))
      (pss_one (ps_ret (pv 1)))), ?_⟩
    refine ⟨_, rfl, x, C, dx, _, _, rfl, W.obj, T.cl, T.nR, wF_reg, _, rfl, x, C, dx, _, _, rfl, W.obj, T.cl, T.nP, wF_put, _, rfl, x, C, dx, _, _, rfl, W.obj, T.cl, T.nG, wF_get, _, rfl, x, C, dx, _, _, rfl, W.obj, T.cl, T.nA, wF_aga,
      _, rfl, x, C, dx, _, _, rfl, W.obj, T.cl, T.nS, wF_ste, ss, _, rfl, .inl (SqL.of W.st.st), (by show 5 ≤ sizeLine; decide), fun p h => ?_⟩
    have hp0 : H p = none := h
    have s4 := same_new (o := .lst [nv wk.regs, nv wk.put, nv wk.get, nv wk.again, .int ((ts.map V.ref).length : Nat)]) h
    refine ⟨_, rfl, x, C, dx, _, _, rfl, s4 _ _ W.obj, T.cl, T.nS, wF_ste, ss, rfl, ⟨_, SqL.of (s4 _ _ W.st.st)⟩, ?_⟩
    refine for_list (K := K) (a := ss) (xs := ts.map V.ref) (fun i σ H' => ∃ v : Option V, σ = [some (.ref x), some (.ref p), v] ∧ Same H H' ∧
      H' p = some (.lst (([wk.regs, wk.put, wk.get, wk.again, wk.steps.length] ++ (wk.steps.take i).flatMap Cm07.Step.nums).map nv))) ?_ ?_ ?_ ?_
    · refine ⟨none, rfl, s4, ?_⟩
      rw [upd_same, List.length_map, W.st.len]
      rfl
    · rintro i σ H' _ ⟨v, _, e, _⟩
      exact SqL.of (e _ _ W.st.st)
    · rintro i y σ H' hi ⟨v, rfl, e, hp⟩
      obtain ⟨t, s', h1', h2', rfl, ht⟩ := W.st.at hi
      have hm := take_more h2'
      have few : ((wk.steps.take i).flatMap Cm07.Step.nums).length ≤ 40 := by
        have q1 := flat_few (wk.steps.take i)
        have q2 : (wk.steps.take i).length ≤ wk.steps.length := by
          rw [List.length_take]
          omega
        have q3 := W.st.few
        omega
      have f2 := nums_few s'
      refine ⟨_, rfl, .inl ⟨rfl, _, SqL.of hp⟩, _, rfl, p, t, _, _, rfl, rfl, hp, e _ _ ht, ?_, ?_⟩
      · refine Nat.le_of_lt (small1000 ?_)
        simp only [List.length_map, List.length_append, tupOf, List.length_cons, List.length_nil]
        omega
      · refine ⟨some (.ref t), rfl, fun b o q => ?_, ?_⟩
        · rw [upd_ne (ne_of_none q hp0)]
          exact e b o q
        · rw [upd_same, hm, List.flatMap_append]
          simp [tupOf]
    · rintro σ H' ⟨v, rfl, e, hp⟩
      refine ⟨_, rfl, ?_⟩
      refine k.same W e hp0 ?_
      rw [hp, List.length_map, W.st.len, List.take_length]
      show some (HO.lst (List.map nv _)) = some (HO.lst (List.map V.int (Cm07.ints _)))
      rw [Cm07.ints, List.map_map]
      rfl
theorem scSays : FnScope ["work", "words"] ["work"] (scOf 95) := ⟨rfl, rfl, rfl, by decide +kernel, rfl, by decide +kernel, by decide +kernel⟩
theorem says_few {wk : Cm07.Work} (h : wk.steps.length ≤ 10) : (Cm07.says wk).length ≤ 10 := Nat.le_trans (says_len _ _) h
theorem ok_says (D : Ds K mg) (T : Txt K mg C CC) : FnOk P w K mg base CX0 3 D.says.f D.says.fd ["work"] (spSays C) := by
  refine D.says.F.ok scSays (fun vs H Q E h => ?_) (fun cdv A outer s H vs Q E hr h => ?_)
  · obtain ⟨x, dx, ss, ts, w, rfl, _⟩ := h
    rfl
  · obtain ⟨x, dx, ss, ts, wk, rfl, W, S, k⟩ := h
    refine ⟨_, pss_cons (ps_set (i := 1) scSays.nd rfl (.inl rfl) (pcall D.said (ok_said D T) hr rfl (pa_cons (pe_fld (pv 0) rfl) pa_nil)))
      (pss_one (ps_ret (pe_op op_cat (pe_lst (pa_cons (pe_callB call_len_seq (by rfl) T.len PySem.boot_len (pa_cons (pv 1) pa_nil)) pa_nil)) (pv 1)))), ?_⟩
    refine ⟨_, rfl, x, C, dx, _, _, rfl, W.obj, T.cl, T.nS, wF_ste, ss, ts, wk, rfl, W.st, S, fun H1 p e1 hp hp1 => ?_⟩
    have hf := says_few W.st.few
    refine ⟨_, rfl, p, _, rfl, .inl (SqL.of hp1), (by show 1 ≤ sizeLine; decide), fun p2 h2 => ?_⟩
    have s2 := same_new (o := .lst [V.int (((Cm07.says wk).map nv).length : Nat)]) h2
    refine ⟨_, rfl, p2, p, _, _, rfl, rfl, upd_same, s2 _ _ hp1, ?_, fun p3 h3 => ?_⟩
    · refine Nat.le_of_lt (small1000 ?_)
      rw [List.length_map]
      show 1 + _ ≤ 1000
      omega
    · refine k.same W ((e1.trans s2).trans (same_new h3)) (e1.free (s2.free h3)) ?_
      rw [upd_same, List.length_map]
      show some (HO.lst (nv (Cm07.says wk).length :: (Cm07.says wk).map nv)) = some (HO.lst (List.map V.int (Cm07.ints ((Cm07.says wk).length :: Cm07.says wk))))
      rw [Cm07.ints, List.map_map]
      rfl
end
end Pb
namespace Pb
open PySem PySem.Spec PyProof.Rows L2
/-! ### a course: the mirror -/
structure Cs where
  done : Nat
  held : List Nat
  away : List Nat
  price : Nat
def Small (c : Cs) : Prop := c.held.length ≤ 100 ∧ c.away.length ≤ 100
def cRoom (w : Cm07.Work) (c : Cs) : Bool := decide (c.held.length < w.regs)
def cPut (w : Cm07.Work) (c : Cs) (v : Nat) : Option Cs := if v ∈ c.held then some { c with away := if v ∈ c.away then c.away else c.away ++ [v], price := c.price + w.put } else none
def cBring (w : Cm07.Work) (c : Cs) (v p : Nat) : Option Cs := if v ∈ c.held ∨ cRoom w c = false then none else some { c with held := c.held ++ [v], price := c.price + p }
def cGet (w : Cm07.Work) (c : Cs) (v : Nat) : Option Cs := if v ∈ c.away then cBring w c v w.get else none
def cDrop (c : Cs) (v : Nat) : Option Cs := if v ∈ c.held then some { c with held := c.held.eraseIdx (c.held.idxOf v) } else none
def cAgain (w : Cm07.Work) (c : Cs) (v : Nat) : Option Cs := if v ∈ numsL (w.steps.take c.done) then cBring w c v w.again else none
def cReady (w : Cm07.Work) (c : Cs) : Bool := decide (c.done < w.steps.length) && (usedL (Cm07.stepAt w c.done)).all fun v => decide (v ∈ c.held)
def cFin (w : Cm07.Work) (c : Cs) : Cs := { c with held := if (Cm07.stepAt w c.done).gives = true then c.held ++ [Cm07.valueOf w c.done] else c.held, done := c.done + 1 }
def cNext (w : Cm07.Work) (c : Cs) : Option Cs := if cReady w c = true then (if (Cm07.stepAt w c.done).gives = true ∧ cRoom w c = false then none else some (cFin w c)) else none
def cPlace (w : Cm07.Work) (c : Cs) (v : Nat) : Option Cs := if cReady w c = true ∧ (Cm07.stepAt w c.done).gives = true then (cDrop c v).map (cFin w) else none
def cAct (w : Cm07.Work) (c : Cs) (k v : Nat) : Option Cs := match k with
  | 0 => cPut w c v
  | 1 => cGet w c v
  | 2 => cDrop c v
  | 3 => cAgain w c v
  | 4 => cNext w c
  | _ => cPlace w c v
/-! ### where it lies -/
structure Ad where
  c : Addr
  dc : Addr
  x : Addr
  ha : Addr
  aa : Addr
  dx : Addr
  ss : Addr
  ts : List Addr
structure CourseIn (CC : Addr) (H : Hp) (A : Ad) (c : Cs) : Prop where
  obj : H A.c = some (.ins CC A.dc (cF (.ref A.x) (nv c.done) (.ref A.ha) (.ref A.aa) (nv c.price)))
  hel : H A.ha = some (.lst (c.held.map nv))
  awa : H A.aa = some (.lst (c.away.map nv))
def Kept (H H' : Hp) (A : Ad) : Prop := ∀ b o, H b = some o → b ≠ A.c → b ≠ A.ha → b ≠ A.aa → H' b = some o
theorem Kept.trans {H H1 H2 : Hp} {A : Ad} (a : Kept H H1 A) (b : Kept H1 H2 A) : Kept H H2 A := fun c o h h1 h2 h3 => b c o (a c o h h1 h2 h3) h1 h2 h3
theorem Kept.of {H H' : Hp} {A : Ad} (e : Same H H') : Kept H H' A := fun b o h _ _ _ => e b o h
structure PlanIn (C CC : Addr) (H : Hp) (A : Ad) (w : Cm07.Work) (c : Cs) : Prop where
  co : CourseIn CC H A c
  wk : WorkIn C H A.x A.dx A.ss A.ts w
  ne : A.ha ≠ A.aa
  hs : A.ha ≠ A.ss
  as : A.aa ≠ A.ss
theorem wF_ne_cF {C CC dx dc ss : Addr} {k p g a w d h e q : V} : HO.ins C dx (wF k p g a ss) ≠ HO.ins CC dc (cF w d h e q) := fun z => by
  injection z with _ _ z
  injection z with z _
  have z1 : ("registers" : Str) = "work" := congrArg Prod.fst z
  exact absurd z1 (by decide +kernel)
theorem CourseIn.same {CC : Addr} {H H' : Hp} {A : Ad} {c : Cs} (h : CourseIn CC H A c) (e : Same H H') : CourseIn CC H' A c := ⟨e _ _ h.obj, e _ _ h.hel, e _ _ h.awa⟩
theorem PlanIn.same {C CC : Addr} {H H' : Hp} {A : Ad} {w : Cm07.Work} {c : Cs} (h : PlanIn C CC H A w c) (e : Same H H') : PlanIn C CC H' A w c := ⟨h.co.same e, h.wk.keep e, h.ne, h.hs, h.as⟩
theorem PlanIn.upd {C CC : Addr} {H H' : Hp} {A : Ad} {w : Cm07.Work} {c c' : Cs} (h : PlanIn C CC H A w c) (k : Kept H H' A) (e : CourseIn CC H' A c') : PlanIn C CC H' A w c' := by
  have q1 : ∀ b xs, H b = some (.tup xs) → H' b = some (.tup xs) := fun b xs z => k b _ z (ne_of z h.co.obj (by intro z; cases z)) (ne_of z h.co.hel (by intro z; cases z)) (ne_of z h.co.awa (by intro z; cases z))
  refine ⟨e, ⟨k _ _ h.wk.obj (ne_of h.wk.obj h.co.obj wF_ne_cF) (ne_of h.wk.obj h.co.hel (by intro z; cases z)) (ne_of h.wk.obj h.co.awa (by intro z; cases z)), ⟨k _ _ h.wk.st.st (ne_of h.wk.st.st h.co.obj (by intro z; cases z)) (Ne.symm h.hs) (Ne.symm h.as), h.wk.st.len, fun i t s a b => q1 _ _ (h.wk.st.tup i t s a b), h.wk.st.few⟩⟩, h.ne, h.hs, h.as⟩
/-- the object's other parts -/
theorem PlanIn.ch {C CC : Addr} {H : Hp} {A : Ad} {w : Cm07.Work} {c : Cs} (h : PlanIn C CC H A w c) : A.c ≠ A.ha := ne_of h.co.obj h.co.hel (by intro z; cases z)
theorem PlanIn.ca {C CC : Addr} {H : Hp} {A : Ad} {w : Cm07.Work} {c : Cs} (h : PlanIn C CC H A w c) : A.c ≠ A.aa := ne_of h.co.obj h.co.awa (by intro z; cases z)
/-! ### promises -/
def Turns (CC : Addr) (H : Hp) (A : Ad) (r : Option Cs) (Q : VK) : Prop := (r = none → ∀ H', Same H H' → Q (.bl false) H') ∧ ∀ c', r = some c' → ∀ H', CourseIn CC H' A c' → Kept H H' A → Q (.bl true) H'
theorem Turns.mono {CC : Addr} {H H1 : Hp} {A : Ad} {r : Option Cs} {Q : VK} (t : Turns CC H A r Q) (e : Same H H1) : Turns CC H1 A r Q :=
  ⟨fun h H' e' => t.1 h H' (e.trans e'), fun c' h H' ci kp => t.2 c' h H' ci ((Kept.of e).trans kp)⟩
def spRoom (C CC : Addr) : Sp := fun vs H Q _ => ∃ (A : Ad) (w : Cm07.Work) (c : Cs), vs = [.ref A.c] ∧ PlanIn C CC H A w c ∧ Q (.bl (cRoom w c)) H
def spOne (C CC : Addr) (f : Cm07.Work → Cs → Nat → Option Cs) : Sp := fun vs H Q _ => ∃ (A : Ad) (w : Cm07.Work) (c : Cs) (v : Nat), vs = [.ref A.c, nv v] ∧ PlanIn C CC H A w c ∧ Small c ∧ Turns CC H A (f w c v) Q
def spBrin (C CC : Addr) : Sp := fun vs H Q _ => ∃ (A : Ad) (w : Cm07.Work) (c : Cs) (v p : Nat), vs = [.ref A.c, nv v, nv p] ∧ PlanIn C CC H A w c ∧ Small c ∧ Turns CC H A (cBring w c v p) Q
def spReady (C CC : Addr) : Sp := fun vs H Q _ => ∃ (A : Ad) (w : Cm07.Work) (c : Cs), vs = [.ref A.c] ∧ PlanIn C CC H A w c ∧ ∀ H', Same H H' → Q (.bl (cReady w c)) H'
def spFin (C CC : Addr) : Sp := fun vs H Q _ => ∃ (A : Ad) (w : Cm07.Work) (c : Cs), vs = [.ref A.c] ∧ PlanIn C CC H A w c ∧ Small c ∧ c.done < w.steps.length ∧ ∀ H', CourseIn CC H' A (cFin w c) → Kept H H' A → Q .non H'
def spNext (C CC : Addr) : Sp := fun vs H Q _ => ∃ (A : Ad) (w : Cm07.Work) (c : Cs), vs = [.ref A.c] ∧ PlanIn C CC H A w c ∧ Small c ∧ Turns CC H A (cNext w c) Q
def spAct (C CC : Addr) : Sp := fun vs H Q _ => ∃ (A : Ad) (w : Cm07.Work) (c : Cs) (k v : Nat), vs = [.ref A.c, nv k, nv v] ∧ PlanIn C CC H A w c ∧ Small c ∧ Turns CC H A (cAct w c k v) Q
section
variable {P : Program} {w : World} {K : PySem.W.Frag} {mg : Str → Option Value} {base : Heap} {C CC : Addr}
theorem scRoom : FnScope ["course"] ["course"] (scOf 36) := ⟨rfl, rfl, rfl, by decide +kernel, rfl, by decide +kernel, by decide +kernel⟩
theorem ok_room (D : Ds K mg) (T : Txt K mg C CC) : FnOk P w K mg base CX0 1 D.room.f D.room.fd ["course"] (spRoom C CC) := by
  refine D.room.F.ok scRoom (fun vs H Q E h => ?_) (fun cdv A outer s H vs Q E hr h => ?_)
  · obtain ⟨A, w, c, rfl, _⟩ := h
    rfl
  · obtain ⟨A, wk, c, rfl, I, k⟩ := h
    refine ⟨_, pss_one (ps_ret (pe_cmpR op_lt (pe_callB call_len_seq (by rfl) T.len PySem.boot_len (pa_cons (pe_fld (pv 0) rfl) pa_nil)) (pe_fld (pe_fld (pv 0) rfl) rfl) (nomark _))), ?_⟩
    refine ⟨_, rfl, A.c, CC, A.dc, _, _, rfl, I.co.obj, T.cc, T.cH, cF_hel, A.ha, _, rfl, .inl (SqL.of I.co.hel), _, rfl, A.c, CC, A.dc, _, _, rfl, I.co.obj, T.cc, T.cW, cF_wor, A.x, C, A.dx, _, _, rfl, I.wk.obj, T.cl, T.nR, wF_reg, _, _, rfl, rfl, ?_⟩
    have e : decide ((((c.held.map nv).length : Nat) : Int) < (wk.regs : Int)) = cRoom wk c := by
      unfold cRoom
      rw [List.length_map]
      by_cases z : c.held.length < wk.regs
      · rw [decide_eq_true z, decide_eq_true (by omega)]
      · rw [decide_eq_false z, decide_eq_false (by omega)]
    rw [← e] at k
    exact k
theorem scPutP : FnScope ["course", "value"] ["course", "value"] (scOf 37) := ⟨rfl, rfl, rfl, by decide +kernel, rfl, by decide +kernel, by decide +kernel⟩
theorem ok_put (D : Ds K mg) (T : Txt K mg C CC) : FnOk P w K mg base CX0 1 D.put.f D.put.fd ["course", "value"] (spOne C CC cPut) := by
  refine D.put.F.ok scPutP (fun vs H Q E h => ?_) (fun cdv A outer s H vs Q E hr h => ?_)
  · obtain ⟨A, w, c, v, rfl, _⟩ := h
    rfl
  · obtain ⟨A, wk, c, v, rfl, I, S, k⟩ := h
    refine ⟨_, pss_cons (ps_if (pt_cmpR op_notIn_seq (pv 1) (pe_fld (pv 0) rfl) (by rfl)) (pss_one (ps_ret pe_bl)) pss_nil)
      (pss_cons (ps_if (pt_cmpR op_notIn_seq (pv 1) (pe_fld (pv 0) rfl) (by rfl)) (pss_one (ps_expr (pe_bm PySem.F.plainAttrs_list PySem.F.slot_list_append PySem.F.type_list_append mt_append (pe_fld (pv 0) rfl) (pa_cons (pv 1) pa_nil)))) pss_nil)
      (pss_cons (ps_fldaug (pv 0) (pe_fld (pe_fld (pv 0) rfl) rfl) in_add) (pss_one (ps_ret pe_bl)))), ?_⟩
    refine ⟨_, rfl, _, rfl, A.c, CC, A.dc, _, _, rfl, I.co.obj, T.cc, T.cH, cF_hel, A.ha, _, rfl, .inl (SqL.of I.co.hel), rfl, flat_nats _, _, rfl, ?_⟩
    show if (!inV (nv v) (c.held.map nv)) = true then _ else _
    rw [in_nats]
    by_cases c1 : v ∈ c.held
    · rw [decide_eq_true c1]
      refine if_false_of rfl ?_
      refine ⟨_, rfl, _, rfl, A.c, CC, A.dc, _, _, rfl, I.co.obj, T.cc, T.cA, cF_awa, A.aa, _, rfl, .inl (SqL.of I.co.awa), rfl, flat_nats _, _, rfl, ?_⟩
      show if (!inV (nv v) (c.away.map nv)) = true then _ else _
      rw [in_nats]
      by_cases c2 : v ∈ c.away
      · rw [decide_eq_true c2]
        refine if_false_of rfl ?_
        refine ⟨_, rfl, A.c, CC, A.dc, _, _, rfl, I.co.obj, T.cc, T.cP, cF_pri, _, rfl, A.c, CC, A.dc, _, _, rfl, I.co.obj, T.cc, T.cW, cF_wor, A.x, C, A.dx, _, _, rfl, I.wk.obj, T.cl, T.nP, wF_put, _, _, rfl, rfl, _, _, I.co.obj, (by show 5 < 1000; decide), ?_⟩
        rw [cF_pri']
        refine k.2 { c with away := c.away, price := c.price + wk.put } (by unfold cPut; rw [if_pos c1, if_pos c2]) _ ⟨upd_same, ?_, ?_⟩ fun b o e h1 h2 h3 => ?_
        · rw [upd_ne (Ne.symm I.ch)]
          exact I.co.hel
        · rw [upd_ne (Ne.symm I.ca)]
          exact I.co.awa
        · rw [upd_ne h1]
          exact e
      · rw [decide_eq_false c2]
        refine if_true_of rfl ?_
        refine ⟨_, rfl, A.c, CC, A.dc, _, _, rfl, I.co.obj, T.cc, T.cA, cF_awa, .inl ⟨rfl, _, SqL.of I.co.awa⟩, _, rfl, A.aa, _, _, rfl, rfl, I.co.awa, ?_, ?_⟩
        · rw [List.length_map]
          have := S.2
          exact small1000 (by omega)
        have hc : upd H A.aa (.lst (c.away.map nv ++ [nv v])) A.c = some (.ins CC A.dc (cF (.ref A.x) (nv c.done) (.ref A.ha) (.ref A.aa) (nv c.price))) := by
          rw [upd_ne I.ca]
          exact I.co.obj
        have hw : upd H A.aa (.lst (c.away.map nv ++ [nv v])) A.x = some (.ins C A.dx (wF (nv wk.regs) (nv wk.put) (nv wk.get) (nv wk.again) A.ss)) := by
          rw [upd_ne (ne_of I.wk.obj I.co.awa (by intro z; cases z))]
          exact I.wk.obj
        refine ⟨_, rfl, A.c, CC, A.dc, _, _, rfl, hc, T.cc, T.cP, cF_pri, _, rfl, A.c, CC, A.dc, _, _, rfl, hc, T.cc, T.cW, cF_wor, A.x, C, A.dx, _, _, rfl, hw, T.cl, T.nP, wF_put, _, _, rfl, rfl, _, _, hc, (by show 5 < 1000; decide), ?_⟩
        rw [cF_pri']
        refine k.2 { c with away := c.away ++ [v], price := c.price + wk.put } (by unfold cPut; rw [if_pos c1, if_neg c2]) _ ⟨upd_same, ?_, ?_⟩ fun b o e h1 h2 h3 => ?_
        · rw [upd_ne (Ne.symm I.ch), upd_ne I.ne]
          exact I.co.hel
        · rw [upd_ne (Ne.symm I.ca), upd_same, List.map_append]
          rfl
        · rw [upd_ne h1, upd_ne h3]
          exact e
    · rw [decide_eq_false c1]
      exact if_true_of rfl (k.1 (by unfold cPut; rw [if_neg c1]) H (.refl H))
theorem scBrin : FnScope ["course", "value", "price"] ["course", "value", "price"] (scOf 38) := ⟨rfl, rfl, rfl, by decide +kernel, rfl, by decide +kernel, by decide +kernel⟩
theorem ok_bringP (D : Ds K mg) (T : Txt K mg C CC) : FnOk P w K mg base CX0 2 D.bringP.f D.bringP.fd ["course", "value", "price"] (spBrin C CC) := by
  refine D.bringP.F.ok scBrin (fun vs H Q E h => ?_) (fun cdv A outer s H vs Q E hr h => ?_)
  · obtain ⟨A, w, c, v, p, rfl, _⟩ := h
    rfl
  · obtain ⟨A, wk, c, v, p, rfl, I, S, k⟩ := h
    refine ⟨_, pss_cons (ps_if (PW.pt (pw_or (pt_cmpR op_in_seq (pv 1) (pe_fld (pv 0) rfl) (by rfl)) (pw_or1 (pt_not (pt_val (pcall D.room (ok_room D T) hr rfl (pa_cons (pv 0) pa_nil))))))) (pss_one (ps_ret pe_bl)) pss_nil)
      (pss_cons (ps_expr (pe_bm PySem.F.plainAttrs_list PySem.F.slot_list_append PySem.F.type_list_append mt_append (pe_fld (pv 0) rfl) (pa_cons (pv 1) pa_nil)))
      (pss_cons (ps_fldaug (pv 0) (pv 2) in_add) (pss_one (ps_ret pe_bl)))), ?_⟩
    refine ⟨_, rfl, _, rfl, A.c, CC, A.dc, _, _, rfl, I.co.obj, T.cc, T.cH, cF_hel, A.ha, _, rfl, .inl (SqL.of I.co.hel), rfl, flat_nats _, _, rfl, ?_⟩
    show if inV (nv v) (c.held.map nv) = true then _ else _
    rw [in_nats]
    by_cases c1 : v ∈ c.held
    · exact if_true_of (decide_eq_true c1) (if_true_of rfl (k.1 (by unfold cBring; rw [if_pos (.inl c1)]) H (.refl H)))
    refine if_false_of (decide_eq_false c1) ?_
    refine ⟨_, rfl, A, wk, c, rfl, I, _, rfl, ?_⟩
    cases c2 : cRoom wk c with
    | false => exact if_true_of rfl (k.1 (by unfold cBring; rw [if_pos (.inr c2)]) H (.refl H))
    | true =>
      refine if_false_of rfl ?_
      refine ⟨_, rfl, A.c, CC, A.dc, _, _, rfl, I.co.obj, T.cc, T.cH, cF_hel, .inl ⟨rfl, _, SqL.of I.co.hel⟩, _, rfl, A.ha, _, _, rfl, rfl, I.co.hel, ?_, ?_⟩
      · rw [List.length_map]
        have := S.1
        exact small1000 (by omega)
      have hc : upd H A.ha (.lst (c.held.map nv ++ [nv v])) A.c = some (.ins CC A.dc (cF (.ref A.x) (nv c.done) (.ref A.ha) (.ref A.aa) (nv c.price))) := by
        rw [upd_ne I.ch]
        exact I.co.obj
      refine ⟨_, rfl, A.c, CC, A.dc, _, _, rfl, hc, T.cc, T.cP, cF_pri, _, rfl, _, _, rfl, rfl, _, _, hc, (by show 5 < 1000; decide), ?_⟩
      rw [cF_pri']
      refine k.2 { c with held := c.held ++ [v], price := c.price + p } (by unfold cBring; rw [if_neg (fun z => z.elim c1 (fun z => by rw [c2] at z; cases z))]) _ ⟨upd_same, ?_, ?_⟩ fun b o e h1 h2 h3 => ?_
      · rw [upd_ne (Ne.symm I.ch), upd_same, List.map_append]
        rfl
      · rw [upd_ne (Ne.symm I.ca), upd_ne (Ne.symm I.ne)]
        exact I.co.awa
      · rw [upd_ne h1, upd_ne h2]
        exact e
theorem scFetch : FnScope ["course", "value"] ["course", "value"] (scOf 40) := ⟨rfl, rfl, rfl, by decide +kernel, rfl, by decide +kernel, by decide +kernel⟩
theorem ok_fetch (D : Ds K mg) (T : Txt K mg C CC) : FnOk P w K mg base CX0 3 D.fetch.f D.fetch.fd ["course", "value"] (spOne C CC cGet) := by
  refine D.fetch.F.ok scFetch (fun vs H Q E h => ?_) (fun cdv A outer s H vs Q E hr h => ?_)
  · obtain ⟨A, w, c, v, rfl, _⟩ := h
    rfl
  · obtain ⟨A, wk, c, v, rfl, I, S, k⟩ := h
    refine ⟨_, pss_one (ps_ret (pe_and (pe_cmpR op_in_seq (pv 1) (pe_fld (pv 0) rfl) (by rfl)) (pe_one (pcall D.bringP (ok_bringP D T) hr rfl (pa_cons (pv 0) (pa_cons (pv 1) (pa_cons (pe_fld (pe_fld (pv 0) rfl) rfl) pa_nil))))))), ?_⟩
    refine ⟨_, rfl, _, rfl, A.c, CC, A.dc, _, _, rfl, I.co.obj, T.cc, T.cA, cF_awa, A.aa, _, rfl, .inl (SqL.of I.co.awa), rfl, flat_nats _, _, rfl, ?_⟩
    show if inV (nv v) (c.away.map nv) = true then _ else _
    rw [in_nats]
    by_cases c1 : v ∈ c.away
    · refine if_true_of (decide_eq_true c1) ?_
      have e : cGet wk c v = cBring wk c v wk.get := if_pos c1
      rw [e] at k
      exact ⟨_, rfl, _, rfl, _, rfl, A.c, CC, A.dc, _, _, rfl, I.co.obj, T.cc, T.cW, cF_wor, A.x, C, A.dx, _, _, rfl, I.wk.obj, T.cl, T.nG, wF_get, A, wk, c, v, wk.get, rfl, I, S, k⟩
    · exact if_false_of (decide_eq_false c1) (k.1 (if_neg c1) H (.refl H))
theorem scDrop : FnScope ["course", "value"] ["course", "value"] (scOf 41) := ⟨rfl, rfl, rfl, by decide +kernel, rfl, by decide +kernel, by decide +kernel⟩
theorem ok_drop (D : Ds K mg) (T : Txt K mg C CC) : FnOk P w K mg base CX0 1 D.drop.f D.drop.fd ["course", "value"] (spOne C CC fun _ => cDrop) := by
  refine D.drop.F.ok scDrop (fun vs H Q E h => ?_) (fun cdv A outer s H vs Q E hr h => ?_)
  · obtain ⟨A, w, c, v, rfl, _⟩ := h
    rfl
  · obtain ⟨A, wk, c, v, rfl, I, S, k⟩ := h
    refine ⟨_, pss_cons (ps_if (pt_cmpR op_notIn_seq (pv 1) (pe_fld (pv 0) rfl) (by rfl)) (pss_one (ps_ret pe_bl)) pss_nil)
      (pss_cons (ps_expr (pe_bm PySem.F.plainAttrs_list PySem.F.slot_list_remove PySem.F.type_list_remove mt_remove (pe_fld (pv 0) rfl) (pa_cons (pv 1) pa_nil))) (pss_one (ps_ret pe_bl))), ?_⟩
    refine ⟨_, rfl, _, rfl, A.c, CC, A.dc, _, _, rfl, I.co.obj, T.cc, T.cH, cF_hel, A.ha, _, rfl, .inl (SqL.of I.co.hel), rfl, flat_nats _, _, rfl, ?_⟩
    show if (!inV (nv v) (c.held.map nv)) = true then _ else _
    rw [in_nats]
    by_cases c1 : v ∈ c.held
    · rw [decide_eq_true c1]
      refine if_false_of rfl ?_
      have hel := I.co.hel
      rw [nv_ints] at hel
      have hlt := List.idxOf_lt_length_iff.mpr c1
      refine ⟨_, rfl, A.c, CC, A.dc, _, _, rfl, I.co.obj, T.cc, T.cH, cF_hel, .inl ⟨rfl, _, SqL.of hel⟩, _, rfl, A.ha, c.held.map fun (n : Nat) => (n : Int), (v : Int), c.held.idxOf v, rfl, rfl, hel, ?_, fun m hm z => ?_, ?_⟩
      · rw [List.getElem?_map, List.getElem?_eq_getElem hlt, List.getElem_idxOf]
        rfl
      · obtain ⟨n, hn, e⟩ := at_map z
        have e' : n = v := by omega
        subst e'
        obtain ⟨h1, h2⟩ := List.getElem?_eq_some_iff.mp hn
        have q := List.not_of_lt_findIdx hm
        rw [h2] at q
        simp at q
      · refine k.2 { c with held := c.held.eraseIdx (c.held.idxOf v) } (if_pos c1) _ ⟨?_, ?_, ?_⟩ fun b o e h1 h2 h3 => ?_
        · rw [upd_ne I.ch]
          exact I.co.obj
        · rw [upd_same, nv_ints, ← DT.map_erase]
        · rw [upd_ne (Ne.symm I.ne)]
          exact I.co.awa
        · rw [upd_ne h2]
          exact e
    · rw [decide_eq_false c1]
      exact if_true_of rfl (k.1 (if_neg c1) H (.refl H))
theorem scAgain : FnScope ["course", "value", "numbers"] ["course", "value"] (scOf 42) := ⟨rfl, rfl, rfl, by decide +kernel, rfl, by decide +kernel, by decide +kernel⟩
theorem ok_again (D : Ds K mg) (T : Txt K mg C CC) : FnOk P w K mg base CX0 3 D.again.f D.again.fd ["course", "value"] (spOne C CC cAgain) := by
  refine D.again.F.ok scAgain (fun vs H Q E h => ?_) (fun cdv A outer s H vs Q E hr h => ?_)
  · obtain ⟨A, w, c, v, rfl, _⟩ := h
    rfl
  · obtain ⟨A, wk, c, v, rfl, I, S, k⟩ := h
    refine ⟨_, pss_cons (ps_set (i := 2) scAgain.nd rfl (.inl rfl) (pcall D.nums (ok_nums D T) hr rfl (pa_cons (pe_slice sl_list (pe_fld (pe_fld (pv 0) rfl) rfl) po_none (po_some (pe_fld (pv 0) rfl))) pa_nil)))
      (pss_one (ps_ret (pe_and (pe_cmpR op_in_seq (pv 1) (pv 2) (by rfl)) (pe_one (pcall D.bringP (ok_bringP D T) hr rfl (pa_cons (pv 0) (pa_cons (pv 1) (pa_cons (pe_fld (pe_fld (pv 0) rfl) rfl) pa_nil)))))))), ?_⟩
    refine ⟨_, rfl, A.c, CC, A.dc, _, _, rfl, I.co.obj, T.cc, T.cW, cF_wor, A.x, C, A.dx, _, _, rfl, I.wk.obj, T.cl, T.nS, wF_ste, _, rfl, A.c, CC, A.dc, _, _, rfl, I.co.obj, T.cc, T.cD, cF_don, _, rfl, A.ss, _, rfl, SqL.of I.wk.st.st, fun p hp => ?_⟩
    have s1 := same_new (o := .lst (cutV (A.ts.map V.ref) none (some (c.done : Int)))) hp
    refine ⟨p, _, _, rfl, (I.wk.st.keep s1).sub 0 c.done (by rw [upd_same, cut_take]), fun H1 p1 e1 hp1 hp1' => ?_⟩
    rw [List.drop_zero] at hp1'
    have e1' := s1.trans e1
    have I1 := I.same e1'
    refine ⟨_, rfl, _, rfl, p1, _, rfl, .inl (SqL.of hp1'), rfl, flat_nats _, _, rfl, ?_⟩
    show if inV (nv v) ((numsL (wk.steps.take c.done)).map nv) = true then _ else _
    rw [in_nats]
    by_cases c1 : v ∈ numsL (wk.steps.take c.done)
    · refine if_true_of (decide_eq_true c1) ?_
      have e : cAgain wk c v = cBring wk c v wk.again := if_pos c1
      rw [e] at k
      exact ⟨_, rfl, _, rfl, _, rfl, A.c, CC, A.dc, _, _, rfl, I1.co.obj, T.cc, T.cW, cF_wor, A.x, C, A.dx, _, _, rfl, I1.wk.obj, T.cl, T.nA, wF_aga, A, wk, c, v, wk.again, rfl, I1, S, k.mono e1'⟩
    · exact if_false_of (decide_eq_false c1) (k.1 (if_neg c1) H1 e1')
theorem scReady : FnScope ["course", "value"] ["course"] (scOf 43) := ⟨rfl, rfl, rfl, by decide +kernel, rfl, by decide +kernel, by decide +kernel⟩
theorem step_ix {wk : Cm07.Work} {j : Nat} (h : j < wk.steps.length) : wk.steps[j]? = some (Cm07.stepAt wk j) := by
  unfold Cm07.stepAt
  rw [List.getD_eq_getElem?_getD, List.getElem?_eq_getElem h]
  rfl
theorem ok_ready (D : Ds K mg) (T : Txt K mg C CC) : FnOk P w K mg base CX0 2 D.ready.f D.ready.fd ["course"] (spReady C CC) := by
  refine D.ready.F.ok scReady (fun vs H Q E h => ?_) (fun cdv A outer s H vs Q E hr h => ?_)
  · obtain ⟨A, w, c, rfl, _⟩ := h
    rfl
  · obtain ⟨A, wk, c, rfl, I, k⟩ := h
    refine ⟨_, pss_cons (ps_if (pt_cmpR op_ge (pe_fld (pv 0) rfl) (pe_callB call_len_seq (by rfl) T.len PySem.boot_len (pa_cons (pe_fld (pe_fld (pv 0) rfl) rfl) pa_nil)) (nomark _)) (pss_one (ps_ret pe_bl)) pss_nil)
      (pss_one (ps_ret (pe_callB (cr_all rfl) (by rfl) T.all (by decide +kernel) (pa_cons
        (pe_lc (own := [("value", 1)]) (g := gName 1) (tt := tYes) (te := tOp (rIn K false) (tVar 1) (tFld K (tVar 0) "held")) rfl scReady.nd (pi_list (pcall D.used (ok_used D T) hr rfl (pa_cons (pe_ix ix_list (pe_fld (pe_fld (pv 0) rfl) rfl) (pe_fld (pv 0) rfl) (fun _ _ => rfl)) pa_nil))) (blkOk_by (own := [("value", 1)]) (N := ["course", "value"]) (sc := scOf 43) (by decide +kernel))
          (fun _ _ _ _ _ => pg_name (i := 1) scReady.nd rfl (Or.inl rfl)) (fun _ _ _ _ _ => pts_nil) (fun _ _ _ _ _ => pe_cmpR op_in_seq (pv 1) (pe_fld (pv 0) rfl) (by rfl))) pa_nil)))), ?_⟩
    have hl : (A.ts.map V.ref).length = wk.steps.length := by rw [List.length_map, I.wk.st.len]
    refine ⟨_, rfl, A.c, CC, A.dc, _, _, rfl, I.co.obj, T.cc, T.cD, cF_don, _, rfl, A.c, CC, A.dc, _, _, rfl, I.co.obj, T.cc, T.cW, cF_wor, A.x, C, A.dx, _, _, rfl, I.wk.obj, T.cl, T.nS, wF_ste, A.ss, _, rfl, .inl (SqL.of I.wk.st.st), _, _, rfl, rfl, _, rfl, ?_⟩
    by_cases c1 : c.done < wk.steps.length
    · refine if_false_of (decide_eq_false (by omega)) ?_
      obtain ⟨t, h1, ht⟩ := I.wk.st.ix (step_ix c1)
      refine ⟨_, rfl, A.c, CC, A.dc, _, _, rfl, I.co.obj, T.cc, T.cW, cF_wor, A.x, C, A.dx, _, _, rfl, I.wk.obj, T.cl, T.nS, wF_ste, _, rfl, A.c, CC, A.dc, _, _, rfl, I.co.obj, T.cc, T.cD, cF_don, A.ss, _, _, _, rfl, rfl, SqL.of I.wk.st.st, atI_nat h1, t, _, rfl, ht, fun H1 p e1 hp hp' => ?_⟩
      refine ⟨p, rfl, ⟨_, SqL.of hp'⟩, fun D1 hD1 => ?_⟩
      refine lc_list (K := K) (a := p) (xs := (usedL (Cm07.stepAt wk c.done)).map nv) (fun i H' => Mk H1 D1 (((usedL (Cm07.stepAt wk c.done)).take i).map fun v => V.bl (decide (v ∈ c.held))) H') (.zero hD1) ?_ ?_ ?_
      · intro i H' _ m
        exact SqL.of (m.1 _ _ hp')
      · intro i y H' hi m
        obtain ⟨u, hu, rfl⟩ := at_map hi
        refine ⟨rfl, _, rfl, _, rfl, A.c, CC, A.dc, _, _, rfl, m.1 _ _ (e1 _ _ I.co.obj), T.cc, T.cH, cF_hel, A.ha, _, rfl, .inl (SqL.of (m.1 _ _ (e1 _ _ I.co.hel))), rfl, flat_nats _, ?_⟩
        show ∃ acc, H' D1 = some (.lst acc) ∧ acc.length < sizeLine ∧ Mk H1 D1 (List.map (fun v => V.bl (decide (v ∈ c.held))) ((usedL (Cm07.stepAt wk c.done)).take (i + 1))) (upd H' D1 (.lst (acc ++ [V.bl (inV (nv u) (c.held.map nv))])))
        rw [in_nats, take_more hu, List.map_append]
        refine m.push hD1 (.refl _) ?_
        rw [List.length_map, List.length_take]
        have : (usedL (Cm07.stepAt wk c.done)).length ≤ 2 := by
          cases Cm07.stepAt wk c.done <;> simp [usedL]
        omega
      · intro H' m
        have m2 := m.2
        have e : List.map (fun v => V.bl (decide (v ∈ c.held))) ((usedL (Cm07.stepAt wk c.done)).take ((usedL (Cm07.stepAt wk c.done)).map nv).length) = ((usedL (Cm07.stepAt wk c.done)).map fun v => decide (v ∈ c.held)).map V.bl := by
          rw [List.length_map, List.take_length, List.map_map]
          rfl
        rw [e] at m2
        refine ⟨D1, _, rfl, SqL.of m2, ?_⟩
        have q := k H' (e1.trans m.1)
        unfold cReady at q
        rw [decide_eq_true c1, Bool.true_and] at q
        rw [List.all_map]
        exact q
    · refine if_true_of (decide_eq_true (by omega)) ?_
      have q := k H (.refl H)
      unfold cReady at q
      rw [decide_eq_false c1, Bool.false_and] at q
      exact q
theorem scFin : FnScope ["course"] ["course"] (scOf 44) := ⟨rfl, rfl, rfl, by decide +kernel, rfl, by decide +kernel, by decide +kernel⟩
theorem ok_finish (D : Ds K mg) (T : Txt K mg C CC) : FnOk P w K mg base CX0 3 D.finish.f D.finish.fd ["course"] (spFin C CC) := by
  refine D.finish.F.ok scFin (fun vs H Q E h => ?_) (fun cdv A outer s H vs Q E hr h => ?_)
  · obtain ⟨A, w, c, rfl, _⟩ := h
    rfl
  · obtain ⟨A, wk, c, rfl, I, S, hd, k⟩ := h
    refine ⟨_, pss_cons (ps_if (pt_val (pcall D.gives (ok_gives D T) hr rfl (pa_cons (pe_ix ix_list (pe_fld (pe_fld (pv 0) rfl) rfl) (pe_fld (pv 0) rfl) (fun _ _ => rfl)) pa_nil)))
        (pss_one (ps_expr (pe_bm PySem.F.plainAttrs_list PySem.F.slot_list_append PySem.F.type_list_append mt_append (pe_fld (pv 0) rfl) (pa_cons (pcall D.vals (ok_vals D T) hr rfl (pa_cons (pe_slice sl_list (pe_fld (pe_fld (pv 0) rfl) rfl) po_none (po_some (pe_fld (pv 0) rfl))) pa_nil)) pa_nil)))) pss_nil)
      (pss_one (ps_fldaug (pv 0) pe_int in_add)), ?_⟩
    obtain ⟨t, h1, ht⟩ := I.wk.st.ix (step_ix hd)
    refine ⟨_, rfl, A.c, CC, A.dc, _, _, rfl, I.co.obj, T.cc, T.cW, cF_wor, A.x, C, A.dx, _, _, rfl, I.wk.obj, T.cl, T.nS, wF_ste, _, rfl, A.c, CC, A.dc, _, _, rfl, I.co.obj, T.cc, T.cD, cF_don, A.ss, _, _, _, rfl, rfl, SqL.of I.wk.st.st, atI_nat h1, t, _, rfl, ht, _, rfl, ?_⟩
    cases g : (Cm07.stepAt wk c.done).gives with
    | false =>
      refine if_false_of rfl ?_
      refine ⟨_, rfl, A.c, CC, A.dc, _, _, rfl, I.co.obj, T.cc, T.cD, cF_don, _, _, rfl, rfl, _, _, I.co.obj, (by show 5 < 1000; decide), ?_⟩
      rw [cF_don']
      refine k _ ⟨upd_same, ?_, ?_⟩ fun b o e h1 h2 h3 => ?_
      · rw [upd_ne (Ne.symm I.ch)]
        show _ = some (HO.lst (List.map nv (if (Cm07.stepAt wk c.done).gives = true then _ else c.held)))
        rw [g, if_neg Bool.false_ne_true]
        exact I.co.hel
      · rw [upd_ne (Ne.symm I.ca)]
        exact I.co.awa
      · rw [upd_ne h1]
        exact e
    | true =>
      refine if_true_of rfl ?_
      refine ⟨_, rfl, A.c, CC, A.dc, _, _, rfl, I.co.obj, T.cc, T.cH, cF_hel, .inl ⟨rfl, _, SqL.of I.co.hel⟩, _, rfl, A.c, CC, A.dc, _, _, rfl, I.co.obj, T.cc, T.cW, cF_wor, A.x, C, A.dx, _, _, rfl, I.wk.obj, T.cl, T.nS, wF_ste, _, rfl, A.c, CC, A.dc, _, _, rfl, I.co.obj, T.cc, T.cD, cF_don, _, rfl, A.ss, _, rfl, SqL.of I.wk.st.st, fun p hp => ?_⟩
      have s1 := same_new (o := .lst (cutV (A.ts.map V.ref) none (some (c.done : Int)))) hp
      refine ⟨p, _, _, rfl, (I.wk.st.keep s1).sub 0 c.done (by rw [upd_same, cut_take]), fun H1 e1 => ?_⟩
      have e1' := s1.trans e1
      have I1 := I.same e1'
      refine ⟨A.ha, _, _, rfl, rfl, I1.co.hel, ?_, ?_⟩
      · rw [List.length_map]
        have := S.1
        exact small1000 (by omega)
      have hv : given ((wk.steps.drop 0).take c.done) = Cm07.valueOf wk c.done := rfl
      rw [hv]
      have hc : upd H1 A.ha (.lst (c.held.map nv ++ [nv (Cm07.valueOf wk c.done)])) A.c = some (.ins CC A.dc (cF (.ref A.x) (nv c.done) (.ref A.ha) (.ref A.aa) (nv c.price))) := by
        rw [upd_ne I.ch]
        exact I1.co.obj
      refine ⟨_, rfl, A.c, CC, A.dc, _, _, rfl, hc, T.cc, T.cD, cF_don, _, _, rfl, rfl, _, _, hc, (by show 5 < 1000; decide), ?_⟩
      rw [cF_don']
      refine k _ ⟨upd_same, ?_, ?_⟩ fun b o e h1 h2 h3 => ?_
      · rw [upd_ne (Ne.symm I.ch), upd_same]
        show _ = some (HO.lst (List.map nv (if (Cm07.stepAt wk c.done).gives = true then _ else c.held)))
        rw [g, if_pos rfl, List.map_append]
        rfl
      · rw [upd_ne (Ne.symm I.ca), upd_ne (Ne.symm I.ne)]
        exact I1.co.awa
      · rw [upd_ne h1, upd_ne h2]
        exact e1' _ _ e
theorem scNext : FnScope ["course"] ["course"] (scOf 45) := ⟨rfl, rfl, rfl, by decide +kernel, rfl, by decide +kernel, by decide +kernel⟩
theorem cReady_lt {wk : Cm07.Work} {c : Cs} (h : cReady wk c = true) : c.done < wk.steps.length := by
  unfold cReady at h
  rw [Bool.and_eq_true] at h
  exact of_decide_eq_true h.1
theorem ok_next (D : Ds K mg) (T : Txt K mg C CC) : FnOk P w K mg base CX0 4 D.next.f D.next.fd ["course"] (spNext C CC) := by
  refine D.next.F.ok scNext (fun vs H Q E h => ?_) (fun cdv A outer s H vs Q E hr h => ?_)
  · obtain ⟨A, w, c, rfl, _⟩ := h
    rfl
  · obtain ⟨A, wk, c, rfl, I, S, k⟩ := h
    refine ⟨_, pss_cons (ps_if (pt_not (pt_val (pcall D.ready (ok_ready D T) hr rfl (pa_cons (pv 0) pa_nil)))) (pss_one (ps_ret pe_bl)) pss_nil)
      (pss_cons (ps_if (PW.pt (pw_and (pt_val (pcall D.gives (ok_gives D T) hr rfl (pa_cons (pe_ix ix_list (pe_fld (pe_fld (pv 0) rfl) rfl) (pe_fld (pv 0) rfl) (fun _ _ => rfl)) pa_nil))) (pw_and1 (pt_not (pt_val (pcall D.room (ok_room D T) hr rfl (pa_cons (pv 0) pa_nil))))))) (pss_one (ps_ret pe_bl)) pss_nil)
      (pss_cons (ps_expr (pcall D.finish (ok_finish D T) hr rfl (pa_cons (pv 0) pa_nil))) (pss_one (ps_ret pe_bl)))), ?_⟩
    refine ⟨_, rfl, A, wk, c, rfl, I, fun H1 e1 => ⟨_, rfl, ?_⟩⟩
    cases c1 : cReady wk c with
    | false => exact if_true_of rfl (k.1 (by unfold cNext; rw [c1, if_neg Bool.false_ne_true]) H1 e1)
    | true =>
      refine if_false_of rfl ?_
      have hd := cReady_lt c1
      have I1 := I.same e1
      obtain ⟨t, h1, ht⟩ := I1.wk.st.ix (step_ix hd)
      refine ⟨_, rfl, A.c, CC, A.dc, _, _, rfl, I1.co.obj, T.cc, T.cW, cF_wor, A.x, C, A.dx, _, _, rfl, I1.wk.obj, T.cl, T.nS, wF_ste, _, rfl, A.c, CC, A.dc, _, _, rfl, I1.co.obj, T.cc, T.cD, cF_don, A.ss, _, _, _, rfl, rfl, SqL.of I1.wk.st.st, atI_nat h1, t, _, rfl, ht, _, rfl, ?_⟩
      have fin : ¬ ((Cm07.stepAt wk c.done).gives = true ∧ cRoom wk c = false) → tSeq (tDrop (tCall (spFin C CC) [] E0 (tCons (tVar 0) tNil))) (tRet (tC (.bl true))) { nx := fun _ H' => Q .non H', rt := Q } (L2.start ["course"] [.ref A.c]) H1 := fun z => by
        refine ⟨_, rfl, A, wk, c, rfl, I1, S, hd, fun H2 ci kp => ?_⟩
        exact k.2 (cFin wk c) (by unfold cNext; rw [c1, if_pos rfl, if_neg z]) H2 ci ((Kept.of e1).trans kp)
      cases g : (Cm07.stepAt wk c.done).gives with
      | false =>
        refine if_false_of rfl (if_false_of rfl (fin fun z => ?_))
        rw [g] at z
        cases z.1
      | true =>
        refine if_true_of rfl ⟨_, rfl, A, wk, c, rfl, I1, _, rfl, ?_⟩
        cases c2 : cRoom wk c with
        | false => exact if_true_of rfl (k.1 (by unfold cNext; rw [c1, if_pos rfl, if_pos ⟨g, c2⟩]) H1 e1)
        | true =>
          refine if_false_of rfl (fin fun z => ?_)
          rw [c2] at z
          cases z.2
theorem scPlace : FnScope ["course", "value"] ["course", "value"] (scOf 46) := ⟨rfl, rfl, rfl, by decide +kernel, rfl, by decide +kernel, by decide +kernel⟩
theorem ok_place (D : Ds K mg) (T : Txt K mg C CC) : FnOk P w K mg base CX0 4 D.place.f D.place.fd ["course", "value"] (spOne C CC cPlace) := by
  refine D.place.F.ok scPlace (fun vs H Q E h => ?_) (fun cdv A outer s H vs Q E hr h => ?_)
  · obtain ⟨A, w, c, v, rfl, _⟩ := h
    rfl
  · obtain ⟨A, wk, c, v, rfl, I, S, k⟩ := h
    refine ⟨_, pss_cons (ps_if (PW.pt (pw_or (pt_not (pt_val (pcall D.ready (ok_ready D T) hr rfl (pa_cons (pv 0) pa_nil)))) (pw_or1 (pt_not (pt_val (pcall D.gives (ok_gives D T) hr rfl (pa_cons (pe_ix ix_list (pe_fld (pe_fld (pv 0) rfl) rfl) (pe_fld (pv 0) rfl) (fun _ _ => rfl)) pa_nil))))))) (pss_one (ps_ret pe_bl)) pss_nil)
      (pss_cons (ps_if (pt_not (pt_val (pcall D.drop (ok_drop D T) hr rfl (pa_cons (pv 0) (pa_cons (pv 1) pa_nil))))) (pss_one (ps_ret pe_bl)) pss_nil)
      (pss_cons (ps_expr (pcall D.finish (ok_finish D T) hr rfl (pa_cons (pv 0) pa_nil))) (pss_one (ps_ret pe_bl)))), ?_⟩
    refine ⟨_, rfl, A, wk, c, rfl, I, fun H1 e1 => ⟨_, rfl, ?_⟩⟩
    cases c1 : cReady wk c with
    | false => exact if_true_of rfl (if_true_of rfl (k.1 (by unfold cPlace; rw [c1, if_neg (fun z => by cases z.1)]) H1 e1))
    | true =>
      refine if_false_of rfl ?_
      have hd := cReady_lt c1
      have I1 := I.same e1
      obtain ⟨t, h1, ht⟩ := I1.wk.st.ix (step_ix hd)
      refine ⟨_, rfl, A.c, CC, A.dc, _, _, rfl, I1.co.obj, T.cc, T.cW, cF_wor, A.x, C, A.dx, _, _, rfl, I1.wk.obj, T.cl, T.nS, wF_ste, _, rfl, A.c, CC, A.dc, _, _, rfl, I1.co.obj, T.cc, T.cD, cF_don, A.ss, _, _, _, rfl, rfl, SqL.of I1.wk.st.st, atI_nat h1, t, _, rfl, ht, _, rfl, ?_⟩
      cases g : (Cm07.stepAt wk c.done).gives with
      | false => exact if_true_of rfl (k.1 (by unfold cPlace; rw [g, if_neg (fun z => by cases z.2)]) H1 e1)
      | true =>
        refine if_false_of rfl ?_
        have ep : cPlace wk c v = (cDrop c v).map (cFin wk) := if_pos ⟨c1, g⟩
        rw [ep] at k
        refine ⟨_, rfl, _, rfl, A, wk, c, v, rfl, I1, S, fun z H2 e2 => ⟨_, rfl, if_true_of rfl ?_⟩, fun c' z H2 ci kp => ⟨_, rfl, if_false_of rfl ?_⟩⟩
        · have z : cDrop c v = none := z
          rw [z] at k
          exact k.1 rfl H2 (e1.trans e2)
        · have z : cDrop c v = some c' := z
          rw [z] at k
          have hc' : c'.done = c.done ∧ c'.held.length ≤ c.held.length ∧ c'.away = c.away := by
            unfold cDrop at z
            split at z
            · cases z
              exact ⟨rfl, List.length_eraseIdx_le .., rfl⟩
            · cases z
          have I2 := I1.upd kp ci
          refine ⟨_, rfl, A, wk, c', rfl, I2, ⟨by have := S.1; omega, by rw [hc'.2.2]; exact S.2⟩, by rw [hc'.1]; exact hd, fun H3 ci3 kp3 => ?_⟩
          exact k.2 (cFin wk c') rfl H3 ci3 (((Kept.of e1).trans kp).trans kp3)
theorem scAct : FnScope ["course", "act", "value"] ["course", "act", "value"] (scOf 47) := ⟨rfl, rfl, rfl, by decide +kernel, rfl, by decide +kernel, by decide +kernel⟩
theorem ok_act (D : Ds K mg) (T : Txt K mg C CC) : FnOk P w K mg base CX0 5 D.act.f D.act.fd ["course", "act", "value"] (spAct C CC) := by
  refine D.act.F.ok scAct (fun vs H Q E h => ?_) (fun cdv A outer s H vs Q E hr h => ?_)
  · obtain ⟨A, w, c, a, v, rfl, _⟩ := h
    rfl
  · obtain ⟨A, wk, c, a, v, rfl, I, S, k⟩ := h
    refine ⟨_, pss_cons (ps_if (pt_cmpR op_eq (pv 1) (pgl rfl T.a0) (nomark _)) (pss_one (ps_ret (pcall D.put (ok_put D T) hr rfl (pa_cons (pv 0) (pa_cons (pv 2) pa_nil))))) pss_nil)
      (pss_cons (ps_if (pt_cmpR op_eq (pv 1) (pgl rfl T.a1) (nomark _)) (pss_one (ps_ret (pcall D.fetch (ok_fetch D T) hr rfl (pa_cons (pv 0) (pa_cons (pv 2) pa_nil))))) pss_nil)
      (pss_cons (ps_if (pt_cmpR op_eq (pv 1) (pgl rfl T.a2) (nomark _)) (pss_one (ps_ret (pcall D.drop (ok_drop D T) hr rfl (pa_cons (pv 0) (pa_cons (pv 2) pa_nil))))) pss_nil)
      (pss_cons (ps_if (pt_cmpR op_eq (pv 1) (pgl rfl T.a3) (nomark _)) (pss_one (ps_ret (pcall D.again (ok_again D T) hr rfl (pa_cons (pv 0) (pa_cons (pv 2) pa_nil))))) pss_nil)
      (pss_cons (ps_if (pt_cmpR op_eq (pv 1) (pgl rfl T.a4) (nomark _)) (pss_one (ps_ret (pcall D.next (ok_next D T) hr rfl (pa_cons (pv 0) pa_nil)))) pss_nil)
      (pss_one (ps_ret (pcall D.place (ok_place D T) hr rfl (pa_cons (pv 0) (pa_cons (pv 2) pa_nil))))))))), ?_⟩
    match a, k with
    | 0, k => exact ⟨_, rfl, rfl, _, rfl, if_true_of rfl ⟨_, rfl, _, rfl, A, wk, c, v, rfl, I, S, k⟩⟩
    | 1, k => exact ⟨_, rfl, rfl, _, rfl, if_false_of rfl ⟨_, rfl, rfl, _, rfl, if_true_of rfl ⟨_, rfl, _, rfl, A, wk, c, v, rfl, I, S, k⟩⟩⟩
    | 2, k => exact ⟨_, rfl, rfl, _, rfl, if_false_of rfl ⟨_, rfl, rfl, _, rfl, if_false_of rfl ⟨_, rfl, rfl, _, rfl, if_true_of rfl ⟨_, rfl, _, rfl, A, wk, c, v, rfl, I, S, k⟩⟩⟩⟩
    | 3, k => exact ⟨_, rfl, rfl, _, rfl, if_false_of rfl ⟨_, rfl, rfl, _, rfl, if_false_of rfl ⟨_, rfl, rfl, _, rfl, if_false_of rfl ⟨_, rfl, rfl, _, rfl, if_true_of rfl ⟨_, rfl, _, rfl, A, wk, c, v, rfl, I, S, k⟩⟩⟩⟩⟩
    | 4, k => exact ⟨_, rfl, rfl, _, rfl, if_false_of rfl ⟨_, rfl, rfl, _, rfl, if_false_of rfl ⟨_, rfl, rfl, _, rfl, if_false_of rfl ⟨_, rfl, rfl, _, rfl, if_false_of rfl ⟨_, rfl, rfl, _, rfl, if_true_of rfl ⟨_, rfl, A, wk, c, rfl, I, S, k⟩⟩⟩⟩⟩⟩
    | n + 5, k =>
      have ne : ∀ i : Nat, i < 5 → decide (nv (n + 5) = V.int (i : Int)) = false := fun i hi => decide_eq_false fun z => by
        have z' : ((n + 5 : Nat) : Int) = (i : Int) := V.int.inj z
        omega
      exact ⟨_, rfl, rfl, _, rfl, if_false_of (ne 0 (by decide)) ⟨_, rfl, rfl, _, rfl, if_false_of (ne 1 (by decide)) ⟨_, rfl, rfl, _, rfl, if_false_of (ne 2 (by decide)) ⟨_, rfl, rfl, _, rfl, if_false_of (ne 3 (by decide)) ⟨_, rfl, rfl, _, rfl, if_false_of (ne 4 (by decide)) ⟨_, rfl, _, rfl, A, wk, c, v, rfl, I, S, k⟩⟩⟩⟩⟩⟩
end
end Pb
/-! the course is the specification's desk; plain Lean -/
namespace Pb
open Cm07 Lb
structure Sim (w : Work) (c : Cs) (d : Desk) : Prop where
  done : c.done = d.done
  held : c.held = (d.regs.map (·.1)).reverse
  away : ∀ v, v ∈ c.away ↔ v ∈ d.away.map (·.1)
  price : c.price = d.price
  nd : c.held.Nodup
  an : c.away.Nodup
  at_ : DeskAt w d
  len : c.held.length ≤ w.regs
theorem Sim.mem {w : Work} {c : Cs} {d : Desk} (S : Sim w c d) {v : Nat} : v ∈ c.held ↔ (wordIn d.regs v).isSome = true := by
  rw [S.held, List.mem_reverse, wordIn_isSome]
theorem Sim.memA {w : Work} {c : Cs} {d : Desk} (S : Sim w c d) {v : Nat} : v ∈ c.away ↔ (wordIn d.away v).isSome = true := by
  rw [S.away, wordIn_isSome]
theorem Sim.hlen {w : Work} {c : Cs} {d : Desk} (S : Sim w c d) : c.held.length = d.regs.length := by
  rw [S.held, List.length_reverse, List.length_map]
theorem Sim.room {w : Work} {c : Cs} {d : Desk} (S : Sim w c d) : cRoom w c = hasRoom w d := by
  unfold cRoom hasRoom
  rw [S.hlen]
theorem Sim.lt {w : Work} {c : Cs} {d : Desk} (S : Sim w c d) {v : Nat} (h : v ∈ c.held) : v < valueOf w c.done := by
  rw [S.held, List.mem_reverse] at h
  obtain ⟨q, hq, rfl⟩ := List.mem_map.mp h
  rw [S.done]
  exact (S.at_.regs q hq).1
theorem Sim.ltA {w : Work} {c : Cs} {d : Desk} (S : Sim w c d) {v : Nat} (h : v ∈ c.away) : v < valueOf w c.done := by
  obtain ⟨q, hq, rfl⟩ := List.mem_map.mp ((S.away v).mp h)
  rw [S.done]
  exact (S.at_.away q hq).1
theorem few_of {l : List Nat} {n : Nat} (h : l.Nodup) (k : ∀ v ∈ l, v < n) : l.length ≤ n := by
  have := h.length_le_of_subset (l₂ := List.range n) fun v hv => List.mem_range.mpr (k v hv)
  rw [List.length_range] at this
  exact this
theorem valueOf_few {w : Work} {j : Nat} (h : w.steps.length ≤ 10) : valueOf w j ≤ 10 := Nat.le_trans valueOf_le (Nat.le_trans (List.length_filter_le _ _) h)
theorem Sim.small {w : Work} {c : Cs} {d : Desk} (S : Sim w c d) (h : w.steps.length ≤ 10) : Small c := by
  have h1 := few_of S.nd fun v hv => S.lt hv
  have h2 := few_of S.an fun v hv => S.ltA hv
  have h3 := valueOf_few (j := c.done) h
  exact ⟨by omega, by omega⟩
theorem sim0 (w : Work) : Sim w ⟨0, [], [], 0⟩ desk0 := ⟨rfl, rfl, fun v => by simp [desk0], rfl, List.nodup_nil, List.nodup_nil, desk0_at w, Nat.zero_le _⟩
theorem erase_is {l : List Nat} {v : Nat} (h : l.Nodup) (hv : v ∈ l) : l.eraseIdx (l.idxOf v) = l.filter fun x => !(x == v) := by
  rw [← List.erase_eq_eraseIdx_of_idxOf rfl, h.erase_eq_filter]
  rfl
theorem filter_rev (l : List Nat) (p : Nat → Bool) : l.reverse.filter p = (l.filter p).reverse := by
  rw [List.filter_reverse]
theorem numsL_is {w : Work} {j v : Nat} : v ∈ numsL (w.steps.take j) ↔ v < valueOf w j ∧ isNumber w v = true := by
  have key : v < valueOf w j → (numAt (w.steps.take j) v = isNumber w v) := fun hv => by
    have e : w.steps.filter Step.gives = (w.steps.take j).filter Step.gives ++ (w.steps.drop j).filter Step.gives := by
      rw [← List.filter_append, List.take_append_drop]
    unfold numAt isNumber numberOf
    rw [e, List.getElem?_append_left (show v < ((w.steps.take j).filter Step.gives).length from hv)]
    cases ((w.steps.take j).filter Step.gives)[v]? with
    | none => rfl
    | some s => cases s <;> rfl
  unfold numsL
  rw [List.mem_filter, List.mem_range]
  constructor
  · rintro ⟨h1, h2⟩
    exact ⟨h1, by rw [← key h1]; exact h2⟩
  · rintro ⟨h1, h2⟩
    exact ⟨h1, by rw [key h1]; exact h2⟩
theorem does_none {w : Work} {d : Desk} {r : List (Nat × Nat)} (h : w.steps.length ≤ d.done ∨ ∃ u ∈ (stepAt w d.done).uses, wordIn d.regs u = none) : does w d r = none := by
  unfold does
  by_cases c : w.steps.length ≤ d.done
  · rw [if_pos c]
  · rw [if_neg c]
    obtain ⟨u, hu, hn⟩ := h.resolve_left c
    cases s : stepAt w d.done with
    | num k =>
      rw [s] at hu
      cases hu
    | say a =>
      rw [s] at hu
      simp only [Step.uses, List.mem_singleton] at hu
      subst hu
      simp [hn]
    | two o a b =>
      rw [s] at hu
      have hu' : u = a ∨ u = b := by
        have := mem_usedL.mpr hu
        simpa [usedL] using this
      simp only
      rcases hu' with rfl | rfl
      · rw [hn]
        rfl
      · rw [hn]
        cases wordIn d.regs a <;> rfl
theorem ready_iff {w : Work} {c : Cs} {d : Desk} (S : Sim w c d) : cReady w c = true ↔ d.done < w.steps.length ∧ ∀ u ∈ (stepAt w d.done).uses, u ∈ d.regs.map (·.1) := by
  unfold cReady
  rw [Bool.and_eq_true, List.all_eq_true, S.done]
  constructor
  · rintro ⟨h1, h2⟩
    refine ⟨of_decide_eq_true h1, fun u hu => ?_⟩
    have := of_decide_eq_true (h2 u (mem_usedL.mpr hu))
    rw [S.held, List.mem_reverse] at this
    exact this
  · rintro ⟨h1, h2⟩
    refine ⟨decide_eq_true h1, fun u hu => decide_eq_true ?_⟩
    rw [S.held, List.mem_reverse]
    exact h2 u (mem_usedL.mp hu)
theorem not_ready {w : Work} {c : Cs} {d : Desk} {r : List (Nat × Nat)} (S : Sim w c d) (h : cReady w c = false) : does w d r = none := by
  refine does_none ?_
  by_cases c1 : w.steps.length ≤ d.done
  · exact .inl c1
  · refine .inr (Classical.byContradiction fun z => ?_)
    have : cReady w c = true := (ready_iff S).mpr ⟨by omega, fun u hu => by
      refine Classical.byContradiction fun q => z ⟨u, hu, wordIn_none.mpr q⟩⟩
    rw [h] at this
    cases this
/-- a step done, the registers r ahead of the new value -/
theorem sim_does {w : Work} {c c1 : Cs} {d : Desk} {r : List (Nat × Nat)} (S : Sim w c d) (h : cReady w c = true) (hr : ∀ q ∈ r, q ∈ d.regs) (hd : c1.done = c.done) (ha : c1.away = c.away) (hp : c1.price = c.price) (hh : c1.held = (r.map (·.1)).reverse) (hn : c1.held.Nodup)
    (hg : (stepAt w d.done).gives = false → r = d.regs) (hl : (stepAt w d.done).gives = true → c1.held.length < w.regs) : ∃ e, does w d r = some e ∧ Sim w (cFin w c1) e := by
  obtain ⟨h1, h2⟩ := (ready_iff S).mp h
  obtain ⟨e, e1, e2, e3, e4⟩ := does_ok (r := r) h1 h2
  have ep : e.price = d.price := Lb.does_price e1
  have hat := S.at_.does hr e1
  refine ⟨e, e1, ?_⟩
  have hdd : c1.done = d.done := hd.trans S.done
  rcases e4 with ⟨g, x, er⟩ | ⟨g, er⟩
  · have hh' : (cFin w c1).held = c1.held ++ [valueOf w d.done] := by
      show (if (stepAt w c1.done).gives = true then _ else _) = _
      rw [hdd, if_pos g]
    have hnew : valueOf w d.done ∉ c1.held := fun z => by
      rw [hh, List.mem_reverse] at z
      obtain ⟨q, hq, e⟩ := List.mem_map.mp z
      have := (S.at_.regs q (hr q hq)).1
      omega
    refine ⟨?_, ?_, fun v => ?_, ?_, ?_, ?_, hat, ?_⟩
    · show c1.done + 1 = e.done
      omega
    · rw [hh', er, hh, List.map_cons, List.reverse_cons]
    · show v ∈ c1.away ↔ _
      rw [ha, e3]
      exact S.away v
    · show c1.price = e.price
      rw [hp, ep]
      exact S.price
    · rw [hh']
      refine List.nodup_append.mpr ⟨hn, (by simp), fun a h1 b h2 z => ?_⟩
      rw [List.mem_singleton.mp h2] at z
      exact hnew (z ▸ h1)
    · show c1.away.Nodup
      rw [ha]
      exact S.an
    · rw [hh', List.length_append]
      have := hl g
      simp only [List.length_singleton]
      omega
  · have hh' : (cFin w c1).held = c1.held := by
      show (if (stepAt w c1.done).gives = true then _ else _) = _
      rw [hdd, g, if_neg Bool.false_ne_true]
    refine ⟨?_, ?_, fun v => ?_, ?_, ?_, ?_, hat, ?_⟩
    · show c1.done + 1 = e.done
      omega
    · rw [hh', er, hh, hg g]
    · show v ∈ c1.away ↔ _
      rw [ha, e3]
      exact S.away v
    · show c1.price = e.price
      rw [hp, ep]
      exact S.price
    · rw [hh']
      exact hn
    · show c1.away.Nodup
      rw [ha]
      exact S.an
    · rw [hh', hh, hg g, ← S.held]
      exact S.len
theorem snoc_nodup {l : List Nat} {v : Nat} (h : l.Nodup) (hv : v ∉ l) : (l ++ [v]).Nodup := List.nodup_append.mpr ⟨h, (by simp), fun a h1 b h2 z => by
  rw [List.mem_singleton.mp h2] at z
  exact hv (z ▸ h1)⟩
/-- a value brought -/
theorem sim_bring {w : Work} {c : Cs} {d : Desk} {v x p : Nat} (S : Sim w c d) (hx : v < valueOf w d.done ∧ x = (envAt w d.done).getD v 0) (hv : v ∉ c.held) (hr : cRoom w c = true) : Sim w { c with held := c.held ++ [v], price := c.price + p } { d with regs := (v, x) :: d.regs, price := d.price + p } := by
  refine ⟨S.done, ?_, S.away, ?_, snoc_nodup S.nd hv, S.an, ⟨S.at_.le, S.at_.said, fun q hq => ?_, S.at_.away⟩, ?_⟩
  · show c.held ++ [v] = _
    rw [S.held, List.map_cons, List.reverse_cons]
  · show c.price + p = d.price + p
    rw [S.price]
  · rcases List.mem_cons.mp hq with rfl | hq
    · exact hx
    · exact S.at_.regs q hq
  · have := of_decide_eq_true hr
    show (c.held ++ [v]).length ≤ _
    rw [List.length_append, List.length_singleton]
    omega
/-- **Each act is the desk's.** -/
theorem sim_act {w : Work} {c : Cs} {d : Desk} (S : Sim w c d) (a : Act) {k v : Nat} (hk : a.nums = [k, v]) : (cAct w c k v = none ∧ act w d a = none) ∨ ∃ c' e, cAct w c k v = some c' ∧ act w d a = some e ∧ Sim w c' e := by
  cases a with
  | put u =>
    cases hk
    have eA : cAct w c 0 v = cPut w c v := rfl
    rw [eA]
    by_cases h : v ∈ c.held
    · obtain ⟨x, hx⟩ := Option.isSome_iff_exists.mp (S.mem.mp h)
      refine .inr ⟨{ c with away := if v ∈ c.away then c.away else c.away ++ [v], price := c.price + w.put }, { d with away := (v, x) :: without d.away v, price := d.price + w.put }, if_pos h, by simp [act, hx], S.done, S.held, fun u => ?_, ?_, S.nd, ?_, S.at_.act (a := .put v) (by simp [act, hx]), S.len⟩
      · show u ∈ (if v ∈ c.away then c.away else c.away ++ [v]) ↔ u ∈ v :: (without d.away v).map (·.1)
        rw [without_map, List.mem_cons, List.mem_filter]
        have q := S.away u
        by_cases z : u = v
        · subst z
          by_cases h2 : u ∈ c.away
          · simp [h2]
          · simp [h2]
        · by_cases h2 : v ∈ c.away
          · simp [h2, z, q]
          · simp [h2, z, q]
      · show c.price + w.put = d.price + w.put
        rw [S.price]
      · show (if v ∈ c.away then c.away else c.away ++ [v]).Nodup
        by_cases h2 : v ∈ c.away
        · rw [if_pos h2]
          exact S.an
        · rw [if_neg h2]
          exact snoc_nodup S.an h2
    · have hn : wordIn d.regs v = none := by
        cases q : wordIn d.regs v with
        | none => rfl
        | some x => exact absurd (S.mem.mpr (by rw [q]; rfl)) h
      exact .inl ⟨if_neg h, by simp [act, hn]⟩
  | get u =>
    cases hk
    have eA : cAct w c 1 v = cGet w c v := rfl
    rw [eA]
    by_cases h : v ∈ c.away
    · obtain ⟨x, hx⟩ := Option.isSome_iff_exists.mp (S.memA.mp h)
      have eg : cGet w c v = cBring w c v w.get := if_pos h
      rw [eg]
      by_cases h2 : v ∈ c.held ∨ cRoom w c = false
      · refine .inl ⟨if_pos h2, ?_⟩
        have : hasRoom w d = false ∨ (wordIn d.regs v).isSome = true := by
          rcases h2 with z | z
          · exact .inr (S.mem.mp z)
          · exact .inl (S.room ▸ z)
        simp only [act]
        rw [if_pos this]
      · have h3 : ¬ (hasRoom w d = false ∨ (wordIn d.regs v).isSome = true) := fun z => h2 (by
          rcases z with z | z
          · exact .inr (S.room.trans z)
          · exact .inl (S.mem.mpr z))
        have hv : v ∉ c.held := fun z => h2 (.inl z)
        have hr : cRoom w c = true := by
          cases q : cRoom w c with
          | true => rfl
          | false => exact absurd (.inr q) h2
        exact .inr ⟨_, { d with regs := (v, x) :: d.regs, price := d.price + w.get }, if_neg h2, by simp only [act]; rw [if_neg h3, hx]; rfl, sim_bring S (S.at_.away (v, x) (wordIn_mem hx)) hv hr⟩
    · have hn : wordIn d.away v = none := by
        cases q : wordIn d.away v with
        | none => rfl
        | some x => exact absurd (S.memA.mpr (by rw [q]; rfl)) h
      exact .inl ⟨if_neg h, by simp [act, hn]⟩
  | drop u =>
    cases hk
    have eA : cAct w c 2 v = cDrop c v := rfl
    rw [eA]
    by_cases h : v ∈ c.held
    · obtain ⟨x, hx⟩ := Option.isSome_iff_exists.mp (S.mem.mp h)
      have ee := erase_is S.nd h
      refine .inr ⟨{ c with held := c.held.eraseIdx (c.held.idxOf v) }, { d with regs := without d.regs v }, if_pos h, by simp [act, hx], S.done, ?_, S.away, S.price, ?_, S.an, S.at_.act (a := .drop v) (by simp [act, hx]), ?_⟩
      · show c.held.eraseIdx (c.held.idxOf v) = ((without d.regs v).map (·.1)).reverse
        rw [ee, without_map, ← filter_rev, ← S.held]
      · show (c.held.eraseIdx (c.held.idxOf v)).Nodup
        rw [ee]
        exact S.nd.sublist List.filter_sublist
      · show (c.held.eraseIdx (c.held.idxOf v)).length ≤ w.regs
        rw [ee]
        exact Nat.le_trans List.filter_sublist.length_le S.len
    · have hn : wordIn d.regs v = none := by
        cases q : wordIn d.regs v with
        | none => rfl
        | some x => exact absurd (S.mem.mpr (by rw [q]; rfl)) h
      exact .inl ⟨if_neg h, by simp [act, hn]⟩
  | again u =>
    cases hk
    have eA : cAct w c 3 v = cAgain w c v := rfl
    rw [eA]
    have hnum := numsL_is (w := w) (j := c.done) (v := v)
    by_cases h : v ∈ numsL (w.steps.take c.done)
    · obtain ⟨hlt, his⟩ := hnum.mp h
      obtain ⟨x, hx⟩ := Option.isSome_iff_exists.mp (show (numberOf w v).isSome = true from his)
      have eg : cAgain w c v = cBring w c v w.again := if_pos h
      rw [eg]
      rw [S.done] at hlt
      by_cases h2 : v ∈ c.held ∨ cRoom w c = false
      · refine .inl ⟨if_pos h2, ?_⟩
        have : hasRoom w d = false ∨ (wordIn d.regs v).isSome = true ∨ valueOf w d.done ≤ v := by
          rcases h2 with z | z
          · exact .inr (.inl (S.mem.mp z))
          · exact .inl (S.room ▸ z)
        simp only [act]
        rw [if_pos this]
      · have h3 : ¬ (hasRoom w d = false ∨ (wordIn d.regs v).isSome = true ∨ valueOf w d.done ≤ v) := fun z => h2 (by
          rcases z with z | z | z
          · exact .inr (S.room.trans z)
          · exact .inl (S.mem.mpr z)
          · omega)
        have hv : v ∉ c.held := fun z => h2 (.inl z)
        have hr : cRoom w c = true := by
          cases q : cRoom w c with
          | true => rfl
          | false => exact absurd (.inr q) h2
        exact .inr ⟨_, { d with regs := (v, x) :: d.regs, price := d.price + w.again }, if_neg h2, by simp only [act]; rw [if_neg h3, hx]; rfl, sim_bring S ⟨hlt, (numberOf_word hx hlt).symm⟩ hv hr⟩
    · refine .inl ⟨if_neg h, ?_⟩
      simp only [act]
      split
      · rfl
      · rename_i h3
        have hlt : v < valueOf w d.done := Nat.lt_of_not_le fun z => h3 (.inr (.inr z))
        cases q : numberOf w v with
        | none => rfl
        | some x => exact absurd (hnum.mpr ⟨by rw [S.done]; exact hlt, by unfold isNumber; rw [q]; rfl⟩) h
  | next =>
    cases hk
    have eA : cAct w c 4 0 = cNext w c := rfl
    rw [eA]
    cases h : cReady w c with
    | false =>
      refine .inl ⟨by unfold cNext; rw [h, if_neg Bool.false_ne_true], ?_⟩
      simp only [act]
      split
      · rfl
      · exact not_ready S h
    | true =>
      have e1 : cNext w c = if (stepAt w c.done).gives = true ∧ cRoom w c = false then none else some (cFin w c) := by
        unfold cNext
        rw [h, if_pos rfl]
      rw [e1]
      simp only [act]
      rw [S.done, S.room]
      by_cases h2 : (stepAt w d.done).gives = true ∧ hasRoom w d = false
      · rw [if_pos h2, if_pos h2]
        exact .inl ⟨rfl, rfl⟩
      · rw [if_neg h2, if_neg h2]
        obtain ⟨e, e2, e3⟩ := sim_does (c1 := c) (r := d.regs) S h (fun q hq => hq) rfl rfl rfl S.held S.nd (fun _ => rfl) fun g => by
          have hr : hasRoom w d = true := by
            cases q : hasRoom w d with
            | true => rfl
            | false => exact absurd ⟨g, q⟩ h2
          rw [← S.room] at hr
          exact of_decide_eq_true hr
        exact .inr ⟨_, e, rfl, e2, e3⟩
  | nextIn u =>
    cases hk
    have eA : cAct w c 5 v = cPlace w c v := rfl
    rw [eA]
    simp only [act]
    cases h : cReady w c with
    | false =>
      refine .inl ⟨by unfold cPlace; rw [h, if_neg (fun z => by cases z.1)], ?_⟩
      split
      · rfl
      · exact not_ready S h
    | true =>
      cases g : (stepAt w d.done).gives with
      | false =>
        refine .inl ⟨by unfold cPlace; rw [S.done, g, if_neg (fun z => by cases z.2)], ?_⟩
        rw [if_pos (.inl rfl)]
      | true =>
        have ep : cPlace w c v = (cDrop c v).map (cFin w) := if_pos ⟨h, by rw [S.done]; exact g⟩
        rw [ep]
        by_cases hv : v ∈ c.held
        · have hs := S.mem.mp hv
          have h3 : ¬ (true = false ∨ (wordIn d.regs v).isNone = true) := fun z => by
            rcases z with z | z
            · cases z
            · rw [Option.isNone_iff_eq_none] at z
              rw [z] at hs
              cases hs
          rw [if_neg h3]
          have ee := erase_is S.nd hv
          have eD : cDrop c v = some { c with held := c.held.eraseIdx (c.held.idxOf v) } := if_pos hv
          rw [eD]
          have hlen : (c.held.eraseIdx (c.held.idxOf v)).length < w.regs := by
            have := length_without S.nd hv
            have := S.len
            rw [ee]
            omega
          obtain ⟨e, e2, e3⟩ := sim_does (c1 := { c with held := c.held.eraseIdx (c.held.idxOf v) }) (r := without d.regs v) S h (fun q hq => (List.mem_filter.mp hq).1) rfl rfl rfl (by
            show c.held.eraseIdx (c.held.idxOf v) = ((without d.regs v).map (·.1)).reverse
            rw [ee, without_map, ← filter_rev, ← S.held]) (by
            show (c.held.eraseIdx (c.held.idxOf v)).Nodup
            rw [ee]
            exact S.nd.sublist List.filter_sublist) (fun z => by rw [g] at z; cases z) (fun _ => hlen)
          exact .inr ⟨_, e, rfl, e2, e3⟩
        · refine .inl ⟨by unfold cDrop; rw [if_neg hv]; rfl, ?_⟩
          have hn : wordIn d.regs v = none := by
            cases q : wordIn d.regs v with
            | none => rfl
            | some x => exact absurd (S.mem.mpr (by rw [q]; rfl)) hv
          rw [hn, if_pos (.inr rfl)]
/-! ### judge -/
theorem actsOf_get : ∀ {l : List Nat} {p : List Act}, actsOf l = some p → l.length = 2 * p.length ∧ ∀ (i : Nat) (a : Act), p[i]? = some a → ∃ k v, l[2 * i]? = some k ∧ l[2 * i + 1]? = some v ∧ a.nums = [k, v]
  | [], p, h => by
    cases h
    exact ⟨rfl, fun i a h => by simp at h⟩
  | [_], p, h => by cases h
  | k :: v :: l, p, h => by
    simp only [actsOf, Option.bind_eq_some_iff, Option.map_eq_some_iff] at h
    obtain ⟨a, ha, r, hr, rfl⟩ := h
    obtain ⟨h1, h2⟩ := actsOf_get hr
    refine ⟨by simp [h1]; omega, fun i b hb => ?_⟩
    cases i with
    | zero =>
      simp at hb
      subst hb
      refine ⟨k, v, rfl, rfl, ?_⟩
      unfold actOf at ha
      split at ha
      · cases ha
        rfl
      · cases ha
        rfl
      · cases ha
        rfl
      · cases ha
        rfl
      · split at ha
        · rename_i z
          cases ha
          rw [z]
          rfl
        · cases ha
      · cases ha
        rfl
      · cases ha
    | succ i =>
      simp at hb
      obtain ⟨k', v', q1, q2, q3⟩ := h2 i b hb
      refine ⟨k', v', ?_, ?_, q3⟩
      · rw [show 2 * (i + 1) = 2 * i + 1 + 1 by omega]
        simpa using q1
      · rw [show 2 * (i + 1) + 1 = 2 * i + 1 + 1 + 1 by omega]
        simpa using q2
def badAct (k v : Nat) : Bool := decide (5 < k) || (decide (k = 4) && decide (v ≠ 0))
theorem actOf_bad {k v : Nat} : (actOf k v).isSome = !badAct k v := by
  unfold badAct
  match k with
  | 0 => rfl
  | 1 => rfl
  | 2 => rfl
  | 3 => rfl
  | 4 =>
    by_cases h : v = 0
    · subst h
      rfl
    · simp [actOf, h]
  | 5 => rfl
  | n + 6 => simp [actOf]
theorem actsOf_odd : ∀ {l : List Nat}, l.length % 2 = 1 → actsOf l = none
  | [], h => by simp at h
  | [_], _ => rfl
  | k :: v :: l, h => by
    have := actsOf_odd (l := l) (by simp at h; omega)
    simp [actsOf, this]
theorem actsOf_bad : ∀ {l : List Nat} {i k v : Nat}, l[2 * i]? = some k → l[2 * i + 1]? = some v → badAct k v = true → actsOf l = none
  | [], i, k, v, h, _, _ => by simp at h
  | [_], i, k, v, _, h, _ => by simp at h
  | k' :: v' :: l, 0, k, v, h1, h2, h3 => by
    simp at h1 h2
    subst h1 h2
    have : (actOf k' v').isSome = false := by
      rw [actOf_bad, h3]
      rfl
    have e : actOf k' v' = none := by
      cases q : actOf k' v' with
      | none => rfl
      | some a =>
        rw [q] at this
        cases this
    simp [actsOf, e]
  | k' :: v' :: l, i + 1, k, v, h1, h2, h3 => by
    rw [show 2 * (i + 1) = 2 * i + 1 + 1 by omega] at h1
    rw [show 2 * (i + 1) + 1 = 2 * i + 1 + 1 + 1 by omega] at h2
    have := actsOf_bad (l := l) (i := i) (by simpa using h1) (by simpa using h2) h3
    simp [actsOf, this]
theorem actsOf_good : ∀ {l : List Nat}, l.length % 2 = 0 → (∀ i k v, l[2 * i]? = some k → l[2 * i + 1]? = some v → badAct k v = false) → (actsOf l).isSome = true
  | [], _, _ => rfl
  | [_], h, _ => by simp at h
  | k :: v :: l, h, g => by
    have ih := actsOf_good (l := l) (by simp at h; omega) fun i k' v' h1 h2 => g (i + 1) k' v' (by
      rw [show 2 * (i + 1) = 2 * i + 1 + 1 by omega]
      simpa using h1) (by
      rw [show 2 * (i + 1) + 1 = 2 * i + 1 + 1 + 1 by omega]
      simpa using h2)
    have h0 := g 0 k v rfl rfl
    have : (actOf k v).isSome = true := by
      rw [actOf_bad, h0]
      rfl
    obtain ⟨a, ha⟩ := Option.isSome_iff_exists.mp this
    obtain ⟨r, hr⟩ := Option.isSome_iff_exists.mp ih
    simp [actsOf, ha, hr]
theorem fault_app {w : Work} : ∀ (l m : List Act) (d e : Desk) (n : Nat), acts w l d = some e → faultFrom w (l ++ m) d n = faultFrom w m e (n + l.length)
  | [], m, d, e, n, h => by
    cases h
    rfl
  | a :: l, m, d, e, n, h => by
    simp only [acts, Option.bind_eq_some_iff] at h
    obtain ⟨f, h1, h2⟩ := h
    show (match act w d a with
      | none => some n
      | some e => faultFrom w (l ++ m) e (n + 1)) = _
    rw [h1]
    simp only
    rw [fault_app l m f e (n + 1) h2, List.length_cons]
    congr 1
    omega
theorem acts_none {w : Work} : ∀ (l m : List Act) (a : Act) (d e : Desk), acts w l d = some e → act w e a = none → acts w (l ++ a :: m) d = none := fun l m a d e h k => by
  rw [acts_append, h]
  show (act w e a).bind _ = none
  rw [k]
  rfl
theorem split_at {A : Type} {l : List A} {i : Nat} {x : A} (h : l[i]? = some x) : l = l.take i ++ x :: l.drop (i + 1) := by
  obtain ⟨h1, h2⟩ := List.getElem?_eq_some_iff.mp h
  rw [← h2, List.getElem_cons_drop, List.take_append_drop]
/-- it stops at the i-th act -/
theorem judge_stop {w : Work} {p : List Act} {i : Nat} {a : Act} {d : Desk} (hi : p[i]? = some a) (h : acts w (p.take i) desk0 = some d) (k : act w d a = none) : rightPlan w p = none ∧ faultFrom w p desk0 0 = some i := by
  have e := split_at hi
  have hl : (p.take i).length = i := by
    have := (List.getElem?_eq_some_iff.mp hi).1
    rw [List.length_take]
    omega
  constructor
  · unfold rightPlan
    rw [e, acts_none _ _ _ _ _ h k]
    rfl
  · rw [e, fault_app _ _ _ _ _ h, hl]
    show (match act w d a with
      | none => some (0 + i)
      | some e => _) = _
    rw [k]
    simp
theorem judge_left {w : Work} {p : List Act} {d : Desk} (h : acts w p desk0 = some d) (k : d.done ≠ w.steps.length) : rightPlan w p = none ∧ faultFrom w p desk0 0 = some p.length := by
  constructor
  · unfold rightPlan
    rw [h]
    show (if d.done = w.steps.length then some d else none) = none
    rw [if_neg k]
  · have := fault_app p [] desk0 d 0 h
    rw [List.append_nil] at this
    rw [this]
    show (if d.done = w.steps.length then none else some (0 + p.length)) = _
    rw [if_neg k, Nat.zero_add]
theorem judge_right {w : Work} {p : List Act} {d : Desk} (h : acts w p desk0 = some d) (k : d.done = w.steps.length) : rightPlan w p = some d := by
  unfold rightPlan
  rw [h]
  show (if d.done = w.steps.length then some d else none) = some d
  rw [if_pos k]
end Pb
namespace Pb
open PySem PySem.Spec PyProof.Rows L2
/-! ### making a work, a course -/
structure Ms (K : PySem.W.Frag) (C CC : Addr) where
  fW : Addr
  fdW : FuncData
  FW : Fun K "__init__" "Work.__init__" (inClass (top 4) 0) fW fdW
  bW : Binds K fdW ["self"] []
  mW : L2.Mk K C fW
  fC : Addr
  fdC : FuncData
  FC : Fun K "__init__" "Course.__init__" (inClass (top 35) 0) fC fdC
  bC : Binds K fdC ["self", "work"] []
  mC : L2.Mk K CC fC
def spWI (C : Addr) : Sp := fun vs H Q _ => ∃ (p dp : Addr), vs = [.ref p] ∧ H p = some (.ins C dp []) ∧
  ∀ (H' : Hp) (ss : Addr), H' p = some (.ins C dp (wF (nv 2) (nv 1) (nv 1) (nv 1) ss)) → H' ss = some (.lst []) → H ss = none → (∀ b o, H b = some o → b ≠ p → H' b = some o) → Q .non H'
def spCI (CC : Addr) : Sp := fun vs H Q _ => ∃ (p dp x : Addr), vs = [.ref p, .ref x] ∧ H p = some (.ins CC dp []) ∧
  ∀ (H' : Hp) (ha aa : Addr), H' p = some (.ins CC dp (cF (.ref x) (nv 0) (.ref ha) (.ref aa) (nv 0))) → H' ha = some (.lst []) → H' aa = some (.lst []) → ha ≠ aa → H ha = none → H aa = none → (∀ b o, H b = some o → b ≠ p → H' b = some o) → Q .non H'
theorem fs1 {f : Str} {v : V} : putF f v [] = [(f, v)] := rfl
theorem cF_new {a b c d e : V} : putF "price" e (putF "away" d (putF "held" c (putF "done" b (putF "work" a [])))) = cF a b c d e := by
  have e0 : putF "work" a ([] : List (Str × V)) = ([("work", a)] : List (Str × V)) := rfl
  have e1 : putF "done" b ([("work", a)] : List (Str × V)) = ([("work", a), ("done", b)] : List (Str × V)) := (put_past (by decide +kernel)).trans (congrArg _ (rfl))
  have e2 : putF "held" c ([("work", a), ("done", b)] : List (Str × V)) = ([("work", a), ("done", b), ("held", c)] : List (Str × V)) := (put_past (by decide +kernel)).trans (congrArg _ ((put_past (by decide +kernel)).trans (congrArg _ (rfl))))
  have e3 : putF "away" d ([("work", a), ("done", b), ("held", c)] : List (Str × V)) = ([("work", a), ("done", b), ("held", c), ("away", d)] : List (Str × V)) := (put_past (by decide +kernel)).trans (congrArg _ ((put_past (by decide +kernel)).trans (congrArg _ ((put_past (by decide +kernel)).trans (congrArg _ (rfl))))))
  have e4 : putF "price" e ([("work", a), ("done", b), ("held", c), ("away", d)] : List (Str × V)) = ([("work", a), ("done", b), ("held", c), ("away", d), ("price", e)] : List (Str × V)) := (put_past (by decide +kernel)).trans (congrArg _ ((put_past (by decide +kernel)).trans (congrArg _ ((put_past (by decide +kernel)).trans (congrArg _ ((put_past (by decide +kernel)).trans (congrArg _ (rfl))))))))
  rw [e0, e1, e2, e3, e4]
  rfl
theorem wF_new {a b c d : V} {ss : Addr} : putF "steps" (.ref ss) (putF "again_price" d (putF "get_price" c (putF "put_price" b (putF "registers" a [])))) = wF a b c d ss := by
  have e0 : putF "registers" a ([] : List (Str × V)) = ([("registers", a)] : List (Str × V)) := rfl
  have e1 : putF "put_price" b ([("registers", a)] : List (Str × V)) = ([("registers", a), ("put_price", b)] : List (Str × V)) := (put_past (by decide +kernel)).trans (congrArg _ (rfl))
  have e2 : putF "get_price" c ([("registers", a), ("put_price", b)] : List (Str × V)) = ([("registers", a), ("put_price", b), ("get_price", c)] : List (Str × V)) := (put_past (by decide +kernel)).trans (congrArg _ ((put_past (by decide +kernel)).trans (congrArg _ (rfl))))
  have e3 : putF "again_price" d ([("registers", a), ("put_price", b), ("get_price", c)] : List (Str × V)) = ([("registers", a), ("put_price", b), ("get_price", c), ("again_price", d)] : List (Str × V)) := (put_past (by decide +kernel)).trans (congrArg _ ((put_past (by decide +kernel)).trans (congrArg _ ((put_past (by decide +kernel)).trans (congrArg _ (rfl))))))
  have e4 : putF "steps" (.ref ss) ([("registers", a), ("put_price", b), ("get_price", c), ("again_price", d)] : List (Str × V)) = ([("registers", a), ("put_price", b), ("get_price", c), ("again_price", d), ("steps", (.ref ss))] : List (Str × V)) := (put_past (by decide +kernel)).trans (congrArg _ ((put_past (by decide +kernel)).trans (congrArg _ ((put_past (by decide +kernel)).trans (congrArg _ ((put_past (by decide +kernel)).trans (congrArg _ (rfl))))))))
  rw [e0, e1, e2, e3, e4]
  rfl
theorem putF_len (f : Str) (v : V) : ∀ l : List (Str × V), (putF f v l).length ≤ l.length + 1
  | [] => Nat.le_refl _
  | (g, x) :: r => by
    have := putF_len f v r
    by_cases h : g = f
    · subst h
      rw [put_here]
      simp
    · rw [put_past h]
      simp
      omega
section
variable {P : Program} {w : World} {K : PySem.W.Frag} {mg : Str → Option Value} {base : Heap} {C CC : Addr}
theorem scWI : FnScope ["self"] ["self"] (defScope (inClass (top 4) 0)) := ⟨rfl, rfl, rfl, by decide +kernel, rfl, by decide +kernel, by decide +kernel⟩
theorem ok_WI (M : Ms K C CC) (T : Txt K mg C CC) : FnOk P w K mg base CX0 1 M.fW M.fdW ["self"] (spWI C) := by
  refine M.FW.ok scWI (fun vs H Q E h => ?_) (fun cdv A outer s H vs Q E hr h => ?_)
  · obtain ⟨p, dp, rfl, _⟩ := h
    rfl
  · obtain ⟨p, dp, rfl, hp, k⟩ := h
    refine ⟨_, pss_cons (ps_fld (pv 0) pe_int rfl) (pss_cons (ps_fld (pv 0) pe_int rfl) (pss_cons (ps_fld (pv 0) pe_int rfl) (pss_cons (ps_fld (pv 0) pe_int rfl) (pss_one (ps_fld (pv 0) (pe_lst pa_nil) rfl))))), ?_⟩
    have l1 := putF_len "registers" (nv 2) []
    have l2 := putF_len "put_price" (nv 1) (putF "registers" (nv 2) [])
    have l3 := putF_len "get_price" (nv 1) (putF "put_price" (nv 1) (putF "registers" (nv 2) []))
    have l4 := putF_len "again_price" (nv 1) (putF "get_price" (nv 1) (putF "put_price" (nv 1) (putF "registers" (nv 2) [])))
    simp only [List.length_nil] at l1
    refine ⟨_, rfl, p, C, dp, _, rfl, hp, T.cl, T.nR, (by show 0 < 1000; decide), ?_⟩
    refine ⟨_, rfl, p, C, dp, _, rfl, upd_same, T.cl, T.nP, Nat.lt_of_le_of_lt l1 (by decide), ?_⟩
    rw [upd_upd]
    refine ⟨_, rfl, p, C, dp, _, rfl, upd_same, T.cl, T.nG, Nat.lt_of_le_of_lt l2 (by omega), ?_⟩
    rw [upd_upd]
    refine ⟨_, rfl, p, C, dp, _, rfl, upd_same, T.cl, T.nA, Nat.lt_of_le_of_lt l3 (by omega), ?_⟩
    rw [upd_upd]
    refine ⟨by show 0 ≤ sizeLine; decide, fun ss hs => ?_⟩
    have hsp : ss ≠ p := fun z => by
      rw [z, upd_same] at hs
      cases hs
    rw [upd_ne hsp] at hs
    refine ⟨_, rfl, p, C, dp, _, rfl, (upd_ne (Ne.symm hsp)).trans upd_same, T.cl, T.nS, Nat.lt_of_le_of_lt l4 (by omega), ?_⟩
    refine k _ ss ?_ ?_ hs fun b o e hb => ?_
    · rw [upd_same]
      exact congrArg (fun z => some (HO.ins C dp z)) wF_new
    · rw [upd_ne hsp, upd_same]
    · rw [upd_ne hb, upd_ne (ne_of_none e hs), upd_ne hb]
      exact e
theorem scCI : FnScope ["self", "work"] ["self", "work"] (defScope (inClass (top 35) 0)) := ⟨rfl, rfl, rfl, by decide +kernel, rfl, by decide +kernel, by decide +kernel⟩
theorem ok_CI (M : Ms K C CC) (T : Txt K mg C CC) : FnOk P w K mg base CX0 1 M.fC M.fdC ["self", "work"] (spCI CC) := by
  refine M.FC.ok scCI (fun vs H Q E h => ?_) (fun cdv A outer s H vs Q E hr h => ?_)
  · obtain ⟨p, dp, x, rfl, _⟩ := h
    rfl
  · obtain ⟨p, dp, x, rfl, hp, k⟩ := h
    refine ⟨_, pss_cons (ps_fld (pv 0) (pv 1) rfl) (pss_cons (ps_fld (pv 0) pe_int rfl) (pss_cons (ps_fld (pv 0) (pe_lst pa_nil) rfl) (pss_cons (ps_fld (pv 0) (pe_lst pa_nil) rfl) (pss_one (ps_fld (pv 0) pe_int rfl))))), ?_⟩
    have l1 := putF_len "work" (.ref x) []
    have l2 := putF_len "done" (nv 0) (putF "work" (.ref x) [])
    simp only [List.length_nil] at l1
    refine ⟨_, rfl, _, rfl, p, CC, dp, _, rfl, hp, T.cc, T.cW, (by show 0 < 1000; decide), ?_⟩
    refine ⟨_, rfl, p, CC, dp, _, rfl, upd_same, T.cc, T.cD, Nat.lt_of_le_of_lt l1 (by decide), ?_⟩
    rw [upd_upd]
    refine ⟨by show 0 ≤ sizeLine; decide, fun ha hh => ?_⟩
    have hhp : ha ≠ p := fun z => by
      rw [z, upd_same] at hh
      cases hh
    rw [upd_ne hhp] at hh
    have l3 := putF_len "held" (.ref ha) (putF "done" (nv 0) (putF "work" (.ref x) []))
    refine ⟨_, rfl, p, CC, dp, _, rfl, (upd_ne (Ne.symm hhp)).trans upd_same, T.cc, T.cH, Nat.lt_of_le_of_lt l2 (by omega), ?_⟩
    refine ⟨by show 0 ≤ sizeLine; decide, fun aa hq => ?_⟩
    have hap : aa ≠ p := fun z => by
      rw [z, upd_same] at hq
      cases hq
    rw [upd_ne hap] at hq
    have hah : aa ≠ ha := fun z => by
      rw [z, upd_same] at hq
      cases hq
    rw [upd_ne hah, upd_ne hap] at hq
    have l4 := putF_len "away" (.ref aa) (putF "held" (.ref ha) (putF "done" (nv 0) (putF "work" (.ref x) [])))
    refine ⟨_, rfl, p, CC, dp, _, rfl, (upd_ne (Ne.symm hap)).trans upd_same, T.cc, T.cA, Nat.lt_of_le_of_lt l3 (by omega), ?_⟩
    refine ⟨_, rfl, p, CC, dp, _, rfl, upd_same, T.cc, T.cP, Nat.lt_of_le_of_lt l4 (by omega), ?_⟩
    rw [upd_upd]
    refine k _ ha aa ?_ ?_ ?_ (Ne.symm hah) hh hq fun b o e hb => ?_
    · rw [upd_same]
      exact congrArg (fun z => some (HO.ins CC dp z)) cF_new
    · rw [upd_ne hhp, upd_ne (Ne.symm hah), upd_ne hhp, upd_same]
    · rw [upd_ne hap, upd_same]
    · rw [upd_ne hb, upd_ne (ne_of_none e hq), upd_ne hb, upd_ne (ne_of_none e hh), upd_ne hb]
      exact e
end
end Pb
namespace Pb
open PySem PySem.Spec PyProof.Rows L2
theorem rg2 {n : Nat} (h : n ≤ 1000) (e : n % 2 = 0) : RgC 0 (n : Int) 2 (n / 2) := by
  have hs : Builtin.Range.rangeSize 0 (n : Int) 2 = ((n / 2 : Nat) : Int) := by
    unfold Builtin.Range.rangeSize
    rw [if_pos (by decide)]
    split <;> omega
  refine ⟨by decide, by decide, ?_, hs⟩
  have fits : ∀ i : Int, -2000 ≤ i → i ≤ 2000 → Builtin.Range.rangeFitsLong i = true := fun i h1 h2 => by
    unfold Builtin.Range.rangeFitsLong
    rw [Bool.and_eq_true, decide_eq_true_eq, decide_eq_true_eq]
    omega
  unfold Builtin.Range.small
  rw [hs, fits 0 (by decide) (by decide), fits (n : Int) (by omega) (by omega), fits 2 (by decide) (by decide), fits ((n / 2 : Nat) : Int) (by omega) (by omega), if_pos (by decide), fits _ (by omega) (by omega)]
  simp
def spActs : Sp := fun vs H Q _ => ∃ (q : Addr) (l : List Nat), vs = [.ref q] ∧ H q = some (.lst (l.map nv)) ∧ l.length ≤ 1000 ∧ Q (.bl (Cm07.actsOf l).isSome) H
section
variable {P : Program} {w : World} {K : PySem.W.Frag} {mg : Str → Option Value} {base : Heap} {C CC : Addr}
theorem scActs : FnScope ["plan", "at"] ["plan"] (scOf 48) := ⟨rfl, rfl, rfl, by decide +kernel, rfl, by decide +kernel, by decide +kernel⟩
theorem nat_ix {l : List Nat} {i k : Nat} (h : l[i]? = some k) : (l.map nv)[i]? = some (nv k) := by
  rw [List.getElem?_map, h]
  rfl
theorem ok_acts (D : Ds K mg) (T : Txt K mg C CC) : FnOk P w K mg base CX0 1 D.acts.f D.acts.fd ["plan"] spActs := by
  refine D.acts.F.ok scActs (fun vs H Q E h => ?_) (fun cdv A outer s H vs Q E hr h => ?_)
  · obtain ⟨q, l, rfl, _⟩ := h
    rfl
  · obtain ⟨q, l, rfl, hq, hl, k⟩ := h
    refine ⟨_, pss_cons (ps_if (pt_cmpR op_ne (pe_op op_mod (pe_callB call_len_seq (by rfl) T.len PySem.boot_len (pa_cons (pv 0) pa_nil)) pe_int) pe_int (nomark _)) (pss_one (ps_ret pe_bl)) pss_nil)
      (pss_cons (ps_for PassesOwn.never rfl (pi_range3 rfl T.rng (pa_cons pe_int (pa_cons (pe_callB call_len_seq (by rfl) T.len PySem.boot_len (pa_cons (pv 0) pa_nil)) (pa_cons pe_int pa_nil)))) (pg_name (i := 1) scActs.nd rfl (.inl rfl))
        (pss_one (ps_if (PW.pt (pw_or (pt_cmpR op_gt (pe_ix ix_list (pv 0) (pv 1) (fun _ _ => rfl)) (pgl rfl T.a5) (nomark _)) (pw_or1 (PW.pt (pw_and (pt_cmpR op_eq (pe_ix ix_list (pv 0) (pv 1) (fun _ _ => rfl)) (pgl rfl T.a4) (nomark _)) (pw_and1 (pt_cmpR op_ne (pe_ix ix_list (pv 0) (pe_op op_add (pv 1) pe_int) (fun _ _ => rfl)) pe_int (nomark _)))))))) (pss_one (ps_ret pe_bl)) pss_nil)))
      (pss_one (ps_ret pe_bl))), ?_⟩
    refine ⟨_, rfl, q, _, rfl, .inl (SqL.of hq), _, _, rfl, rfl, (by show (0 : Int) < 2; decide), rfl, _, rfl, ?_⟩
    have hlen : (l.map nv).length = l.length := List.length_map _
    by_cases c : l.length % 2 = 0
    · refine if_false_of ?_ ?_
      · have z : (((l.map nv).length : Nat) : Int) % 2 = 0 := by omega
        show (!decide (V.int ((((l.map nv).length : Nat) : Int) % 2) = V.int 0)) = false
        rw [z]
        rfl
      refine ⟨_, rfl, q, _, rfl, .inl (SqL.of hq), _, _, _, l.length / 2, rfl, by rw [hlen]; exact rg2 hl c, ?_⟩
      refine for_rangeC (lo := 0) (c := 2) (n := l.length / 2) (fun i σ H' => ∃ v : Option V, σ = [some (.ref q), v] ∧ H' = H ∧ ∀ m a b, m < i → l[2 * m]? = some a → l[2 * m + 1]? = some b → badAct a b = false) ?_ ?_ ?_
      · exact ⟨none, rfl, rfl, fun m a b h => by omega⟩
      · rintro i σ H' hi ⟨v, rfl, rfl, hb⟩
        have e1 : l[2 * i]? = some (l[2 * i]'(by omega)) := by simp
        have e2 : l[2 * i + 1]? = some (l[2 * i + 1]'(by omega)) := by simp
        generalize l[2 * i]'(by omega) = a at e1
        generalize l[2 * i + 1]'(by omega) = b at e2
        have step : badAct a b = false → ∃ v : Option V, [some (V.ref q), some (V.int (0 + (i : Int) * 2))] = [some (V.ref q), v] ∧ H' = H' ∧ ∀ m a b, m < i + 1 → l[2 * m]? = some a → l[2 * m + 1]? = some b → badAct a b = false := fun hg => by
          refine ⟨_, rfl, rfl, fun m a' b' hm h1 h2 => ?_⟩
          by_cases z : m = i
          · subst z
            rw [e1] at h1
            rw [e2] at h2
            cases h1
            cases h2
            exact hg
          · exact hb m a' b' (by omega) h1 h2
        have bad : badAct a b = true → Q (.bl false) H' := fun hg => by
          have := actsOf_bad e1 e2 hg
          rw [this] at k
          exact k
        have at0 : atI (l.map nv) (0 + (i : Int) * 2) = some (nv a) := at_of (j := 2 * i) (by omega) (nat_ix e1)
        have at1 : atI (l.map nv) (0 + (i : Int) * 2 + 1) = some (nv b) := at_of (j := 2 * i + 1) (by omega) (nat_ix e2)
        refine ⟨_, rfl, _, rfl, q, _, _, _, rfl, rfl, SqL.of hq, at0, _, _, rfl, rfl, _, rfl, ?_⟩
        by_cases c1 : 5 < a
        · exact if_true_of (decide_eq_true (by omega)) (if_true_of rfl (bad (by simp [badAct, c1])))
        refine if_false_of (decide_eq_false (by omega)) ?_
        refine ⟨_, rfl, _, rfl, q, _, _, _, rfl, rfl, SqL.of hq, at0, rfl, _, rfl, ?_⟩
        by_cases c2 : a = 4
        · subst c2
          refine if_true_of rfl ?_
          refine ⟨_, rfl, _, rfl, _, _, rfl, rfl, q, _, _, _, rfl, rfl, SqL.of hq, at1, rfl, _, rfl, ?_⟩
          by_cases c3 : b = 0
          · subst c3
            exact if_false_of rfl (step rfl)
          · have z : (!decide (nv b = V.int 0)) = true := by
              rw [decide_eq_false]
              · rfl
              · intro z
                have z' : (b : Int) = 0 := V.int.inj z
                omega
            exact if_true_of z (bad (by simp [badAct, c3]))
        · have z : decide (nv a = V.int 4) = false := decide_eq_false fun z => by
            have z' : (a : Int) = 4 := V.int.inj z
            omega
          refine if_false_of z (if_false_of rfl (step ?_))
          simp [badAct, c2]
          omega
      · rintro σ H' ⟨v, rfl, rfl, hb⟩
        have := actsOf_good c fun i a b h1 h2 => hb i a b (by
          have := (List.getElem?_eq_some_iff.mp h2).1
          omega) h1 h2
        rw [this] at k
        exact k
    · have z : (((l.map nv).length : Nat) : Int) % 2 = 1 := by omega
      refine if_true_of (by show (!decide (V.int ((((l.map nv).length : Nat) : Int) % 2) = V.int 0)) = true; rw [z]; rfl) ?_
      rw [actsOf_odd (by omega)] at k
      exact k
def spJudge (C : Addr) : Sp := fun vs H Q _ => ∃ (x q dx ss : Addr) (ts : List Addr) (w : Cm07.Work) (l : List Nat), vs = [.ref x, .ref q] ∧ WorkIn C H x dx ss ts w ∧ Sound w ∧ H q = some (.lst (l.map nv)) ∧ l.length ≤ 1000 ∧ After C H x ss (Cm07.step w (.judge l)) Q
theorem scJudge : FnScope ["work", "plan", "course", "at", "words"] ["work", "plan"] (scOf 49) := ⟨rfl, rfl, rfl, by decide +kernel, rfl, by decide +kernel, by decide +kernel⟩
theorem judge_long {wk : Cm07.Work} {l : List Nat} (h : 200 < l.length ∨ Cm07.actsOf l = none) : Cm07.step wk (.judge l) = (wk, [-1]) := by
  show (wk, if 200 < l.length then [-1] else _) = _
  by_cases c : 200 < l.length
  · rw [if_pos c]
  · rw [if_neg c, h.resolve_left c]
theorem judge_some {wk : Cm07.Work} {l : List Nat} {p : List Cm07.Act} (h : ¬ 200 < l.length) (hp : Cm07.actsOf l = some p) : Cm07.step wk (.judge l) = (wk, match Cm07.rightPlan wk p with
      | some d => Cm07.ints (1 :: d.price :: Cm07.counted d.said)
      | none => Cm07.ints [0, (Cm07.faultFrom wk p Cm07.desk0 0).getD 0]) := by
  show (wk, if 200 < l.length then [-1] else _) = _
  rw [if_neg h, hp]
  rfl
/-- a course just made -/
theorem course_new {H H1 : Hp} {x dx ss p dp ha aa : Addr} {ts : List Addr} {wk : Cm07.Work} (W : WorkIn C H x dx ss ts wk) (np : H p = none) (nd : H dp = none) (h1 : H1 p = some (.ins CC dp (cF (.ref x) (nv 0) (.ref ha) (.ref aa) (nv 0)))) (h2 : H1 ha = some (.lst [])) (h3 : H1 aa = some (.lst [])) (ne : ha ≠ aa)
    (n2 : upd (upd H dp (.own p)) p (.ins CC dp []) ha = none) (n3 : upd (upd H dp (.own p)) p (.ins CC dp []) aa = none) (kp : ∀ b o, upd (upd H dp (.own p)) p (.ins CC dp []) b = some o → b ≠ p → H1 b = some o) :
    Same H H1 ∧ H ha = none ∧ H aa = none ∧ PlanIn C CC H1 ⟨p, dp, x, ha, aa, dx, ss, ts⟩ wk ⟨0, [], [], 0⟩ := by
  have s1 : Same H H1 := Same.made np nd kp
  have f : ∀ b, upd (upd H dp (.own p)) p (.ins CC dp []) b = none → H b = none := fun b z => NdefX.upd_none (NdefX.upd_none z)
  refine ⟨s1, f _ n2, f _ n3, ⟨h1, h2, h3⟩, W.keep s1, ne, fun z => ?_, fun z => ?_⟩
  · have z : ha = ss := z
    have := f _ n2
    rw [z, W.st.st] at this
    cases this
  · have z : aa = ss := z
    have := f _ n3
    rw [z, W.st.st] at this
    cases this
theorem ok_judge (D : Ds K mg) (M : Ms K C CC) (T : Txt K mg C CC) : FnOk P w K mg base CX0 6 D.judge.f D.judge.fd ["work", "plan"] (spJudge C) := by
  refine D.judge.F.ok scJudge (fun vs H Q E h => ?_) (fun cdv A outer s H vs Q E hr h => ?_)
  · obtain ⟨x, q, dx, ss, ts, w, l, rfl, _⟩ := h
    rfl
  · obtain ⟨x, q, dx, ss, ts, wk, l, rfl, W, S, hq, hl, k⟩ := h
    refine ⟨_, pss_cons (ps_if (PW.pt (pw_or (pt_cmpR op_gt (pe_callB call_len_seq (by rfl) T.len PySem.boot_len (pa_cons (pv 1) pa_nil)) (pgl rfl T.gMN) (nomark _)) (pw_or1 (pt_not (pt_val (pcall D.acts (ok_acts D T) hr rfl (pa_cons (pv 1) pa_nil))))))) (pss_one (ps_ret (pe_lst (pa_cons (pe_un un_neg pe_int) pa_nil)))) pss_nil)
      (pss_cons (ps_set (i := 2) scJudge.nd rfl (.inl rfl) (pe_make M.mC (ok_CI M T) (hr.mono (by decide)) rfl T.gCC M.bC .nil pass0 (pa_cons (pv 0) pa_nil)))
      (pss_cons (ps_for PassesOwn.never rfl (pi_range3 rfl T.rng (pa_cons pe_int (pa_cons (pe_callB call_len_seq (by rfl) T.len PySem.boot_len (pa_cons (pv 1) pa_nil)) (pa_cons pe_int pa_nil)))) (pg_name (i := 3) scJudge.nd rfl (.inl rfl))
        (pss_one (ps_if (pt_not (pt_val (pcall D.act (ok_act D T) hr rfl (pa_cons (pv 2) (pa_cons (pe_ix ix_list (pv 1) (pv 3) (fun _ _ => rfl)) (pa_cons (pe_ix ix_list (pv 1) (pe_op op_add (pv 3) pe_int) (fun _ _ => rfl)) pa_nil)))))) (pss_one (ps_ret (pe_lst (pa_cons pe_int (pa_cons (pe_op op_fdiv (pv 3) pe_int) pa_nil))))) pss_nil)))
      (pss_cons (ps_if (pt_cmpR op_lt (pe_fld (pv 2) rfl) (pe_callB call_len_seq (by rfl) T.len PySem.boot_len (pa_cons (pe_fld (pv 0) rfl) pa_nil)) (nomark _)) (pss_one (ps_ret (pe_lst (pa_cons pe_int (pa_cons (pe_op op_fdiv (pe_callB call_len_seq (by rfl) T.len PySem.boot_len (pa_cons (pv 1) pa_nil)) pe_int) pa_nil))))) pss_nil)
      (pss_cons (ps_set (i := 4) scJudge.nd rfl (.inl rfl) (pcall D.said (ok_said D T) hr rfl (pa_cons (pe_fld (pv 0) rfl) pa_nil)))
      (pss_one (ps_ret (pe_op op_cat (pe_lst (pa_cons pe_int (pa_cons (pe_fld (pv 2) rfl) (pa_cons (pe_callB call_len_seq (by rfl) T.len PySem.boot_len (pa_cons (pv 4) pa_nil)) pa_nil)))) (pv 4)))))))), ?_⟩
    have hlen : (l.map nv).length = l.length := List.length_map _
    have hf := W.st.few
    refine ⟨_, rfl, q, _, rfl, .inl (SqL.of hq), _, _, rfl, rfl, _, rfl, ?_⟩
    have no : (200 < l.length ∨ Cm07.actsOf l = none) → ∀ p', H p' = none → Q (.ref p') (upd H p' (.lst [.int (-1)])) := fun c p' hp => by
      rw [judge_long c] at k
      exact k.same W (same_new hp) hp upd_same
    by_cases c1 : 200 < l.length
    · exact if_true_of (decide_eq_true (by omega)) (if_true_of rfl ⟨_, rfl, (by show 1 ≤ sizeLine; decide), fun p' hp => no (.inl c1) p' hp⟩)
    refine if_false_of (decide_eq_false (by omega)) ?_
    refine ⟨_, rfl, q, l, rfl, hq, hl, _, rfl, ?_⟩
    cases hp : Cm07.actsOf l with
    | none => exact if_true_of rfl ⟨_, rfl, (by show 1 ≤ sizeLine; decide), fun p' hp' => no (.inr hp) p' hp'⟩
    | some pl =>
      refine if_false_of rfl ?_
      rw [judge_some c1 hp] at k
      obtain ⟨hpl, hget⟩ := actsOf_get hp
      refine ⟨_, rfl, fun p dp np nd ne => ⟨p, dp, x, rfl, upd_same, fun H1 ha aa h1 h2 h3 hne n2 n3 kp => ⟨rfl, ?_⟩⟩⟩
      obtain ⟨s1, n2', n3', I0⟩ := course_new W np nd h1 h2 h3 hne n2 n3 kp
      refine ⟨_, rfl, q, _, rfl, .inl (SqL.of (s1 _ _ hq)), _, _, _, l.length / 2, rfl, by rw [hlen]; exact rg2 hl (by omega), ?_⟩
      have hn : l.length / 2 = pl.length := by omega
      rw [hn]
      have same' : ∀ {H' : Hp}, Kept H1 H' ⟨p, dp, x, ha, aa, dx, ss, ts⟩ → Same H H' := fun {H'} kp' b o e => kp' b o (s1 b o e) (ne_of_none e np) (ne_of_none e n2') (ne_of_none e n3')
      refine for_rangeC (lo := 0) (c := 2) (n := pl.length) (fun i σ H' => ∃ (v : Option V) (c : Cs) (d : Cm07.Desk), σ = [some (.ref x), some (.ref q), some (.ref p), v, none] ∧ Kept H1 H' ⟨p, dp, x, ha, aa, dx, ss, ts⟩ ∧ CourseIn CC H' ⟨p, dp, x, ha, aa, dx, ss, ts⟩ c ∧ Cm07.acts wk (pl.take i) Cm07.desk0 = some d ∧ Sim wk c d) ?_ ?_ ?_
      · exact ⟨none, _, Cm07.desk0, rfl, Kept.of (.refl _), I0.co, rfl, sim0 wk⟩
      · rintro i σ H' hi ⟨v, c, d, rfl, kp', ci, hac, Sm⟩
        have ha' : pl[i]? = some pl[i] := by simp [hi]
        generalize pl[i] = a at ha'
        obtain ⟨k1, v1, e1, e2, en⟩ := hget i a ha'
        have at0 : atI (l.map nv) (0 + (i : Int) * 2) = some (nv k1) := at_of (j := 2 * i) (by omega) (nat_ix e1)
        have at1 : atI (l.map nv) (0 + (i : Int) * 2 + 1) = some (nv v1) := at_of (j := 2 * i + 1) (by omega) (nat_ix e2)
        have I1 := I0.upd kp' ci
        have hq' := same' kp' _ _ hq
        refine ⟨_, rfl, _, rfl, _, rfl, q, _, _, _, rfl, rfl, SqL.of hq', at0, _, rfl, _, rfl, _, _, rfl, rfl, q, _, _, _, rfl, rfl, SqL.of hq', at1, ⟨p, dp, x, ha, aa, dx, ss, ts⟩, wk, c, k1, v1, rfl, I1, Sm.small hf, fun z H2 e2' => ⟨_, rfl, if_true_of rfl ?_⟩, fun c' z H2 ci2 kp2 => ⟨_, rfl, if_false_of rfl ?_⟩⟩
        · have hac' : Cm07.act wk d a = none := by
            rcases sim_act Sm a en with ⟨_, h⟩ | ⟨c', e, h, _⟩
            · exact h
            · rw [z] at h
              cases h
          obtain ⟨r1, r2⟩ := judge_stop ha' hac hac'
          rw [r1, r2] at k
          refine ⟨_, rfl, _, _, rfl, rfl, ⟨by decide, by decide⟩, (by show 2 ≤ sizeLine; decide), fun p' hp' => ?_⟩
          have s2 := (same' kp').trans e2'
          refine k.same W (s2.trans (same_new hp')) (s2.free hp') ?_
          rw [upd_same]
          have z2 : (0 + (i : Int) * 2) / 2 = (i : Int) := by omega
          show some (HO.lst [V.int 0, V.int ((0 + (i : Int) * 2) / 2)]) = _
          rw [z2]
          rfl
        · rcases sim_act Sm a en with ⟨h, _⟩ | ⟨c'', e, h, he, Sm'⟩
          · rw [z] at h
            cases h
          · rw [z] at h
            cases h
            refine ⟨_, c', e, rfl, kp'.trans kp2, ci2, ?_, Sm'⟩
            rw [take_more ha']
            exact Lb.acts_snoc hac he
      · rintro σ H' ⟨v, c, d, rfl, kp', ci, hac, Sm⟩
        rw [List.take_length] at hac
        have I1 := I0.upd kp' ci
        have hl2 : (ts.map V.ref).length = wk.steps.length := by rw [List.length_map, W.st.len]
        have hl3 : (List.map V.ref (⟨p, dp, x, ha, aa, dx, ss, ts⟩ : Ad).ts).length = wk.steps.length := hl2
        have hq' := same' kp' _ _ hq
        have s2 := same' kp'
        refine ⟨_, rfl, p, CC, dp, _, _, rfl, ci.obj, T.cc, T.cD, cF_don, _, rfl, x, C, dx, _, _, rfl, I1.wk.obj, T.cl, T.nS, wF_ste, ss, _, rfl, .inl (SqL.of I1.wk.st.st), _, _, rfl, rfl, _, rfl, ?_⟩
        have hdone := Sm.done
        have hle := Sm.at_.le
        by_cases c2 : c.done < wk.steps.length
        · refine if_true_of (decide_eq_true (by omega)) ?_
          obtain ⟨r1, r2⟩ := judge_left hac (by omega)
          rw [r1, r2] at k
          refine ⟨_, rfl, q, _, rfl, .inl (SqL.of hq'), _, _, rfl, rfl, ⟨by decide, by decide⟩, (by show 2 ≤ sizeLine; decide), fun p' hp' => ?_⟩
          refine k.same W (s2.trans (same_new hp')) (s2.free hp') ?_
          rw [upd_same]
          have z2 : ((((l.map nv).length : Nat) : Int)) / 2 = ((pl.length : Nat) : Int) := by omega
          show some (HO.lst [V.int 0, V.int ((((l.map nv).length : Nat) : Int) / 2)]) = _
          rw [z2]
          rfl
        · refine if_false_of (decide_eq_false (by omega)) ?_
          have rr := judge_right hac (by omega)
          rw [rr] at k
          obtain ⟨hs, hpr⟩ := Lb.right_says rr
          refine ⟨_, rfl, x, C, dx, _, _, rfl, I1.wk.obj, T.cl, T.nS, wF_ste, ss, ts, wk, rfl, I1.wk.st, S, fun H2 p2 e2 hp2 hp2' => ?_⟩
          have hfs := says_few hf
          refine ⟨_, rfl, p, CC, dp, _, _, rfl, e2 _ _ ci.obj, T.cc, T.cP, cF_pri, _, rfl, p2, _, rfl, .inl (SqL.of hp2'), (by show 3 ≤ sizeLine; decide), fun p3 h3 => ?_⟩
          have s3 := same_new (o := .lst [V.int 1, nv c.price, V.int (((Cm07.says wk).map nv).length : Nat)]) h3
          refine ⟨_, rfl, p3, p2, _, _, rfl, rfl, upd_same, s3 _ _ hp2', ?_, fun p4 h4 => ?_⟩
          · refine Nat.le_of_lt (small1000 ?_)
            rw [List.length_map]
            show 3 + _ ≤ 1000
            omega
          · refine k.same W (((s2.trans e2).trans s3).trans (same_new h4)) (s2.free (e2.free (s3.free h4))) ?_
            rw [upd_same, List.length_map, Sm.price]
            show some (HO.lst (V.int 1 :: nv d.price :: nv (Cm07.says wk).length :: (Cm07.says wk).map nv)) = some (HO.lst (List.map V.int (Cm07.ints (1 :: d.price :: d.said.length :: d.said))))
            rw [hs, Cm07.ints, List.map_map]
            rfl
end
end Pb
/-! rules of one's own: a dict whose keys are pairs of tuples of whole numbers, its values whole numbers -/
namespace Pb
open PySem PySem.Spec PyProof.Rows L2
open Cm07 (Sit)
/-- a key -/
def nkl (l : List Nat) : NestedKey := .tup (l.map fun (n : Nat) => .num (n : Int))
def nk (s : Sit) : NestedKey := .tup [nkl s.regs, nkl s.away]
theorem nkl_inj {a b : List Nat} (h : nkl a = nkl b) : a = b := by
  have h' : a.map (fun (n : Nat) => NestedKey.num (n : Int)) = b.map fun (n : Nat) => NestedKey.num (n : Int) := NestedKey.tup.inj h
  refine List.map_inj_right (fun x y z => ?_) |>.mp h'
  have := NestedKey.num.inj z
  omega
theorem nk_inj {s t : Sit} (h : nk s = nk t) : s.regs = t.regs ∧ s.away = t.away := by
  have h' := NestedKey.tup.inj h
  injection h' with h1 h2
  injection h2 with h2 _
  exact ⟨nkl_inj h1, nkl_inj h2⟩
theorem depth_nkl (l : List Nat) : (nkl l).depth = 1 := by
  have e : ∀ l : List Nat, NestedKey.depthAll (l.map fun (n : Nat) => .num (n : Int)) = 0 := fun l => by
    induction l with
    | nil => rfl
    | cons a l ih =>
      show max 0 (NestedKey.depthAll (l.map fun (n : Nat) => .num (n : Int))) = 0
      rw [ih]
      rfl
  show NestedKey.depthAll (l.map fun (n : Nat) => .num (n : Int)) + 1 = 1
  rw [e]
theorem depth_nk (s : Sit) : (nk s).depth ≤ 8 := by
  show max (nkl s.regs).depth (max (nkl s.away).depth 0) + 1 ≤ 8
  rw [depth_nkl, depth_nkl]
  decide
/-- alike but for the price -/
def Lk (s t : Sit) : Prop := s.regs = t.regs ∧ s.away = t.away
instance (s t : Sit) : Decidable (Lk s t) := inferInstanceAs (Decidable (_ ∧ _))
theorem nk_iff {s t : Sit} : nk s = nk t ↔ Lk s t := ⟨nk_inj, fun h => by unfold nk; rw [h.1, h.2]⟩
abbrev Ent := Sit × Addr
def valP (es : List Ent) (s : Sit) : Option Nat := (es.find? fun e => decide (Lk e.1 s)).map fun e => e.1.price
def repP (s : Sit) (e : Ent) : Ent := if Lk e.1 s then (⟨e.1.regs, e.1.away, s.price⟩, e.2) else e
def putP (es : List Ent) (s : Sit) (b : Addr) : List Ent := match valP es s with
  | none => es ++ [(s, b)]
  | some _ => es.map (repP s)
def EntR (e : Ent) (x : NestedKey × Addr × Value) : Prop := x.1 = nk e.1 ∧ x.2.1 = e.2 ∧ ∃ t, x.2.2 = .int (e.1.price : Nat) t
/-- the object -/
def NdIn (P : Program) (w : World) (a : Addr) (es : List Ent) (h : Heap) : Prop := (a == sysModules) = false ∧ es.length ≤ sizeLine ∧ ∃ xs : List (NestedKey × Addr × Value), Paired EntR es xs ∧
  ∃ o ds ep, h.get? a = some o ∧ o.ExactDict ∧ o.data = .dict ds ep ∧ ds.toList = xs.map (entryOfKey (nestedKind P w)) ∧ (xs.map (·.1)).Nodup
def NdO (P : Program) (w : World) (a : Addr) (es : List Ent) : HO := .ext (NdIn P w a es)
theorem nd_ok {P : Program} {w : World} {H : Hp} {h : Heap} {a : Addr} {es : List Ent} (x : NdIn P w a es h) : ObjOk P w H h a (NdO P w a es) := by
  refine ⟨x, ?_, fun h1 h2 q st => ?_⟩
  · obtain ⟨_, _, xs, _, o, ds, ep, e, _⟩ := x
    exact ⟨o, e⟩
  · obtain ⟨y, z, xs, r, o, ds, ep, e, c⟩ := q
    exact ⟨y, z, xs, r, o, ds, ep, st o e, c⟩
/-- where a key stands -/
def KeyAt (H : Hp) (b : Addr) (s : Sit) : Prop := ∃ r a, H b = some (.tup [.ref r, .ref a]) ∧ H r = some (.tup (s.regs.map nv)) ∧ H a = some (.tup (s.away.map nv))
def KeysIn (H : Hp) (es : List Ent) : Prop := ∀ e ∈ es, KeyAt H e.2 e.1
theorem KeyAt.same {H H' : Hp} {b : Addr} {s : Sit} (k : KeyAt H b s) (e : ∀ b xs, H b = some (.tup xs) → H' b = some (.tup xs)) : KeyAt H' b s := by
  obtain ⟨r, a, h1, h2, h3⟩ := k
  exact ⟨r, a, e _ _ h1, e _ _ h2, e _ _ h3⟩
section
variable {P : Program} {w : World} {H : Hp} {h : Heap}
theorem nats_all : ∀ {l : List Nat} {us : List Value}, Vals (l.map nv) us → NestedAll h (l.map fun (n : Nat) => .num (n : Int)) us
  | [], _, r => by
    cases r
    exact .nil
  | n :: l, _, r => by
    cases r with
    | cons r1 r2 =>
      obtain ⟨t, rfl⟩ := r1
      exact .cons (.int _ _) (nats_all r2)
theorem tup_is {a : Addr} {l : List Nat} (ok : HOk P w H h) (e : H a = some (.tup (l.map nv))) : NestedIs h (nkl l) (.ref a) := by
  obtain ⟨_, its, rv, o, ho, hc, n, hd⟩ := ok a _ e
  exact .tup ho hc hd (by simpa using nats_all rv)
theorem key_is {b : Addr} {s : Sit} (ok : HOk P w H h) (k : KeyAt H b s) : (nestedKind P w).is h (nk s) b := by
  obtain ⟨r, a, h1, h2, h3⟩ := k
  obtain ⟨_, its, rv, o, ho, hc, n, hd⟩ := ok b _ h1
  refine ⟨?_, depth_nk s⟩
  cases rv with
  | cons r1 rv =>
    cases rv with
    | cons r2 rv =>
      cases rv
      cases r1
      cases r2
      exact .tup ho hc hd (.cons (tup_is ok h2) (.cons (tup_is ok h3) .nil))
theorem nd_dict {a : Addr} {es : List Ent} (ok : HOk P w H h) (x : NdIn P w a es h) (ks : KeysIn H es) : (a == sysModules) = false ∧ es.length ≤ sizeLine ∧ ∃ xs, Paired EntR es xs ∧ h.DictOfH (nestedKind P w) a xs := by
  obtain ⟨y, z, xs, r, o, ds, ep, e, c, d, f, g⟩ := x
  refine ⟨y, z, xs, r, o, ds, ep, e, c, d, f, ?_, g⟩
  have key : ∀ {es : List Ent} {xs : List (NestedKey × Addr × Value)}, Paired EntR es xs → KeysIn H es → ∀ x ∈ xs, (nestedKind P w).is h x.1 x.2.1 := fun {es xs} r => by
    induction r with
    | nil => intro _ x hx; cases hx
    | @cons e0 x0 l1 l2 r1 r2 ih =>
      intro ks x hx
      rcases List.mem_cons.mp hx with rfl | hx
      · rw [r1.1, r1.2.1]
        exact key_is ok (ks e0 (List.mem_cons_self ..))
      · exact ih (fun e he => ks e (List.mem_cons_of_mem _ he)) x hx
  exact key r ks
theorem find_rel {es : List Ent} {xs : List (NestedKey × Addr × Value)} (r : Paired EntR es xs) (s : Sit) : (valP es s = none ∧ atKey xs (nk s) = none) ∨ ∃ n b t, valP es s = some n ∧ atKey xs (nk s) = some (b, .int (n : Nat) t) := by
  induction r with
  | nil => exact .inl ⟨rfl, rfl⟩
  | @cons e0 x0 l1 l2 r1 r2 ih =>
    obtain ⟨q1, q2, t, q3⟩ := r1
    by_cases c : Lk e0.1 s
    · refine .inr ⟨e0.1.price, x0.2.1, t, ?_, ?_⟩
      · simp [valP, List.find?_cons, c]
      · have c' : x0.1 = nk s := q1.trans (nk_iff.mpr c)
        simp only [atKey, List.find?_cons, c', decide_true, Option.map_some]
        rw [← q3]
    · have c' : ¬ x0.1 = nk s := fun z => c (nk_iff.mp (q1.symm.trans z))
      have e1 : valP (e0 :: l1) s = valP l1 s := by simp [valP, List.find?_cons, c]
      have e2 : atKey (x0 :: l2) (nk s) = atKey l2 (nk s) := by simp [atKey, List.find?_cons, c']
      rw [e1, e2]
      exact ih
theorem put_rel {es : List Ent} {xs : List (NestedKey × Addr × Value)} (r : Paired EntR es xs) (s : Sit) (b : Addr) (t : Tok) : Paired EntR (putP es s b) (storedH xs (nk s) b (.int (s.price : Nat) t)) := by
  rcases find_rel r s with ⟨h1, h2⟩ | ⟨n, c, u, h1, h2⟩
  · rw [storedH_new h2]
    unfold putP
    rw [h1]
    have app : ∀ {es : List Ent} {xs : List (NestedKey × Addr × Value)} {e : Ent} {x : NestedKey × Addr × Value}, Paired EntR es xs → EntR e x → Paired EntR (es ++ [e]) (xs ++ [x]) := fun {es xs e x} r q => by
      induction r with
      | nil => exact .cons q .nil
      | cons r1 _ ih => exact .cons r1 ih
    exact app r ⟨rfl, rfl, t, rfl⟩
  · rw [storedH_old h2]
    unfold putP
    rw [h1]
    simp only
    have mp : ∀ {es : List Ent} {xs : List (NestedKey × Addr × Value)}, Paired EntR es xs → Paired EntR (es.map (repP s)) (xs.map (putAt (nk s) (.int (s.price : Nat) t))) := fun {es xs} r => by
      induction r with
      | nil => exact .nil
      | @cons e0 x0 l1 l2 r1 _ ih =>
        refine .cons ?_ ih
        obtain ⟨q1, q2, t', q3⟩ := r1
        by_cases c : Lk e0.1 s
        · have c' : x0.1 = nk s := q1.trans (nk_iff.mpr c)
          show EntR (repP s e0) (putAt _ _ x0)
          unfold putAt repP
          rw [if_pos c, if_pos c']
          exact ⟨q1, q2, t, rfl⟩
        · have c' : ¬ x0.1 = nk s := fun z => c (nk_iff.mp (q1.symm.trans z))
          show EntR (repP s e0) (putAt _ _ x0)
          unfold putAt repP
          rw [if_neg c, if_neg c']
          exact ⟨q1, q2, t', q3⟩
    exact mp r
theorem putP_len (es : List Ent) (s : Sit) (b : Addr) : (putP es s b).length ≤ es.length + 1 := by
  unfold putP
  split <;> simp
end
section
variable {X : Cx} {pins : List (Addr × Obj)} {σ : L2.St} {H : Hp} {s : Shared} {a b : Addr} {A : Around} {E : Value → Shared → Prop}
theorem ext_at {φ : Heap → Prop} (I : Inv X pins σ H s) (e : H a = some (.ext φ)) : φ s.heap := (I.hok a _ e).1
/-- a dict of this sort, read, its keys known -/
def NdAt (P : Program) (w : World) (H : Hp) (a : Addr) (es : List Ent) : Prop := H a = some (NdO P w a es) ∧ KeysIn H es
theorem NdAt.dict {es : List Ent} (I : Inv X pins σ H s) (n : NdAt X.prog X.w H a es) : (a == sysModules) = false ∧ es.length ≤ sizeLine ∧ ∃ xs, Paired EntR es xs ∧ s.heap.DictOfH (nestedKind X.prog X.w) a xs :=
  nd_dict I.hok (ext_at I n.1) n.2
end
/-! ### readings, rules -/
def tNdNew (P : Program) (w : World) : TE := fun _ H Q => ∀ p, H p = none → Q (.ref p) (upd H p (NdO P w p []))
def tNdNotIn (P : Program) (w : World) (ty td : TE) : TE := fun σ H Q => ty σ H fun y H1 => td σ H1 fun x H2 => ∃ (a b : Addr) (es : List Ent) (s : Sit), x = .ref a ∧ y = .ref b ∧ NdAt P w H2 a es ∧ KeyAt H2 b s ∧ Q (.bl (!(valP es s).isSome)) H2
def tNdGet (P : Program) (w : World) (td ty : TE) : TE := fun σ H Q => td σ H fun x H1 => ty σ H1 fun y H2 => ∃ (a b : Addr) (es : List Ent) (s : Sit) (n : Nat), x = .ref a ∧ y = .ref b ∧ NdAt P w H2 a es ∧ KeyAt H2 b s ∧ valP es s = some n ∧ Q (nv n) H2
def sNdPut (P : Program) (w : World) (td ty tv : TE) : TS := fun D σ H => tv σ H fun v H1 => td σ H1 fun x H2 => ty σ H2 fun y H3 => ∃ (a b : Addr) (es : List Ent) (s : Sit), x = .ref a ∧ y = .ref b ∧ v = nv s.price ∧ NdAt P w H3 a es ∧ KeyAt H3 b s ∧ es.length < sizeLine ∧ D.nx σ (upd H3 a (NdO P w a (putP es s b)))
section
variable {X : Cx} {o i e value : Expr} {pos pos' tpos : Pos} {td ty tv : TE}
theorem pe_ndnew : PE X (.Dict [] [] pos) (tNdNew X.prog X.w) := ⟨fun pins s σ H Q I h => by
  have hne : (s.heap.objs.size == sysModules) = false := beq_eq_false_iff_ne.mpr (Ne.symm (Nat.ne_of_lt I.big))
  have hid : NdIn X.prog X.w s.heap.objs.size [] (s.heap.push { cls := .type "dict", data := .dict #[] }) := ⟨hne, Nat.zero_le _, [], .nil, _, #[], 0, Heap.get?_push_size _ rfl, ⟨rfl, rfl, rfl⟩, rfl, rfl, List.nodup_nil⟩
  exact wpAny_Dict_empty ⟨.ref s.heap.objs.size, _, I.laid (a := s.heap.objs.size) (t' := s.toks) (fun _ _ q => Heap.get?_push_of_some _ q) (Nat.le_refl _) (nd_ok hid), rfl, h _ (I.hok.fresh (Nat.le_refl _))⟩⟩
theorem room8 {A : Around} (hu : A.units + 64 < cLine) : A.in1.units + 8 < cLine := by
  show A.units + 1 + 8 < cLine
  omega
theorem pc_ndnotin (hu : X.A.units + 64 < cLine) (hi : PE X i ty) (ho : PE X o td) : PC X .NotIn i o (tNdNotIn X.prog X.w ty td) := by
  refine ⟨fun pins s σ H Q I h => ?_⟩
  refine thn (hi.run pins s σ H _ I h) fun iv s1 ⟨y, H1, I1, ry, q1⟩ => thn (ho.run pins s1 σ H1 _ I1 q1) fun u s2 ⟨x, H2, I2, rx, q2⟩ => ?_
  obtain ⟨a, b, es, k, rfl, rfl, nd, ka, q⟩ := q2
  cases rx
  cases ry
  obtain ⟨hm, _, xs, r, dd⟩ := nd.dict I2
  refine wpAny_notIn_heap (knd := nestedKind X.prog X.w) (room8 hu) (key_is I2.hok ka) hm dd ?_
  have e : (atKey xs (nk k)).isSome = (valP es k).isSome := by
    rcases find_rel r k with ⟨h1, h2⟩ | ⟨n, c, t, h1, h2⟩ <;> rw [h1, h2] <;> rfl
  rw [e]
  exact ⟨.bl _, H2, I2.tok _, rfl, q⟩
theorem pe_ndget (hu : X.A.units + 64 < cLine) (ho : PE X o td) (hi : PE X i ty) (hs : NoSl i) : PE X (.Subscript o i pos) (tNdGet X.prog X.w td ty) := by
  refine ⟨fun pins s σ H Q I h => ?_⟩
  refine subD_of PySem.F.slot_dict_getitem.lookup hs (thn (ho.run pins s σ H _ I h) fun u s1 ⟨x, H1, I1, rx, q1⟩ => thn (hi.run pins s1 σ H1 _ I1 q1) fun iv s2 ⟨y, H2, I2, ry, q2⟩ => ?_)
  obtain ⟨a, b, es, k, n, rfl, rfl, nd, ka, hv, q⟩ := q2
  cases rx
  cases ry
  obtain ⟨hm, _, xs, r, dd⟩ := nd.dict I2
  refine ⟨dd.typeIs, ?_⟩
  rcases find_rel r k with ⟨h1, h2⟩ | ⟨n', c, t, h1, h2⟩
  · rw [h1] at hv
    cases hv
  · rw [h1] at hv
    cases hv
    exact wpAny_getItem_heap (knd := nestedKind X.prog X.w) (room8 hu) (key_is I2.hok ka) dd h2 ⟨nv n, H2, I2.tok _, ⟨t, rfl⟩, q⟩
theorem ps_ndput (hu : X.A.units + 64 < cLine) (ho : PE X o td) (hi : PE X i ty) (hv : PE X value tv) (hs : swapsWith value (some (.Subscript o i pos')) pos.line X.env = pure false) :
    PS X (.Assign [.Subscript o i pos'] value pos) (sNdPut X.prog X.w td ty tv) := by
  refine ⟨fun pins s σ H D I h => ?_⟩
  refine wpAny_Assign_Subscript (thn (hv.run pins s σ H _ I h) fun r s1 ⟨v, H1, I1, rv, q1⟩ => thn (ho.run pins s1 σ H1 _ I1 q1) fun u s2 ⟨x, H2, I2, rx, q2⟩ => thn (hi.run pins s2 σ H2 _ I2 q2) fun iv s3 ⟨y, H3, I3, ry, q3⟩ => ?_) hs
  obtain ⟨a, b, es, k, rfl, rfl, rfl, nd, ka, hl, q⟩ := q3
  cases rx
  cases ry
  obtain ⟨t, rfl⟩ := rv
  obtain ⟨hm, hz, xs, rr, dd⟩ := nd.dict I3
  have hz' : xs.length ≤ sizeLine := by
    rw [← Paired.length rr]
    exact hz
  refine wpAny_setItem_heap (knd := nestedKind X.prog X.w) (hsz := hz') (room8 hu) (key_is I3.hok ka) dd fun h' dd' sb => ?_
  obtain ⟨ob, ds, ep, g1, g2, g3, g4, _, g5⟩ := dd'
  have hp := putP_len es k b
  have new : NdIn X.prog X.w a (putP es k b) h' := ⟨hm, by omega, _, put_rel rr k b t, ob, ds, ep, g1, g2, g3, g4, g5⟩
  exact ⟨σ, _, d_write I3 (by rw [nd.1]; exact True.intro) sb ⟨ob, g1⟩ (nd_ok new), q⟩
end
/-! ### for state, price in d.items() -/
def Itn (P : Program) (w : World) (d : Addr) (o : Obj) (es : List Ent) : It :=
  ⟨fun i H => H d = some (.frz o (NdO P w d es)) ∧ i < es.length, fun i H x H' => ∃ (t : Addr) (e : Ent), es[i]? = some e ∧ x = .ref t ∧ H t = none ∧ H' = upd H t (.tup [.ref e.2, nv e.1.price]), fun i H => H d = some (.frz o (NdO P w d es)) ∧ es.length ≤ i⟩
theorem walk_nd {P : Program} {w : World} {d : Addr} {o : Obj} {es : List Ent} : Walk (Itn P w d o es) es.length (fun H => H d = some (.frz o (NdO P w d es))) (fun i H x H' => ∃ (t : Addr) (e : Ent), es[i]? = some e ∧ x = .ref t ∧ H t = none ∧ H' = upd H t (.tup [.ref e.2, nv e.1.price])) :=
  ⟨fun _ _ hi q => ⟨q, hi⟩, fun _ q => ⟨q, Nat.le_refl _⟩, fun _ _ _ _ _ _ y => y⟩
section
variable {X : Cx} {pins : List (Addr × Obj)} {σ : L2.St} {H : Hp} {s : Shared} {d : Addr} {o : Obj}
theorem nd_frz {es : List Ent} (I : Inv X pins σ H s) (h : H d = some (.frz o (NdO X.prog X.w d es))) :
    (d == sysModules) = false ∧ ∃ (ds : Array DictEntry) (ep : Nat), o.data = .dict ds ep ∧ DT.Raw s.heap d ds ep ∧ ds.size = es.length ∧ ∀ (i : Nat) (e : Ent), es[i]? = some e → ∃ (en : DictEntry) (t : Tok), ds[i]? = some en ∧ en.key = .ref e.2 ∧ en.val = .int (e.1.price : Nat) t := by
  obtain ⟨hd, x, _, _⟩ := I.hok d _ h
  obtain ⟨y, z, xs, r, o', ds, ep, e, c, dt, f, g⟩ := x
  rw [hd] at e
  cases e
  refine ⟨y, ds, ep, dt, ⟨o, hd, c, dt⟩, ?_, fun i e he => ?_⟩
  · have l1 : ds.size = xs.length := size_of_entries f
    have l2 : es.length = xs.length := Paired.length r
    omega
  · obtain ⟨b, hb, q1, q2, t, q3⟩ := paired_get r he
    have q := entry_at f i
    rw [hb] at q
    refine ⟨_, t, q, ?_, q3⟩
    show Value.ref b.2.1 = _
    rw [q2]
end
theorem turn_nd {P : Program} {w : World} {K : PySem.W.Frag} {d : Addr} {o : Obj} {ds : Array DictEntry} {ep : Nat} {es : List Ent} {elts : List Expr} {kk : Nat} {tpos : Pos} (it : Addr) (hod : o.data = .dict ds ep) :
    Turn P w K (.Tuple elts kk tpos) (Itn P w d o es) [it] it (fun i h => ∃ ok ov, IsItemIter h it d i es.length ep ok ov) where
  mem := by simp
  obj := fun i h st b hb => by
    have e : b = it := by simpa using hb
    subst e
    obtain ⟨ok, ov, e⟩ := st
    exact ⟨_, e, fun v z => nomatch z⟩
  keep := fun i h h' st k => let ⟨ok, ov, e⟩ := st; ⟨ok, ov, k it (by simp) _ e⟩
  item := by
    intro X hP hw hK hc i pins s σ H E I hf st hg
    subst hP hw hK
    obtain ⟨hd, hi⟩ := hg
    obtain ⟨hs, ds', ep', hdt, raw, hsz, ent⟩ := nd_frz I hd
    obtain ⟨rfl, rfl⟩ := dict_ep hod hdt
    obtain ⟨e, he⟩ : ∃ e, es[i]? = some e := ⟨es[i], List.getElem?_eq_getElem hi⟩
    obtain ⟨en, t, h1, h2, h3⟩ := ent i e he
    obtain ⟨ok, ov, hit⟩ := st
    rw [← hsz] at hit
    have hlt : it < s.heap.objs.size := Heap.lt_size hit
    have hids : i < ds'.size := by omega
    have hen : ds'[i] = en := by
      rw [Array.getElem?_eq_getElem hids] at h1
      exact Option.some.inj h1
    refine DT.nextI hit raw hids fun h' ho hT hz hk => ?_
    rw [hen, h2, h3] at ho hT
    refine ⟨_, rfl, wpAny_letOwnedTupleGo_items (s := { s with heap := h' }) ho fun h'' he' sb => ?_⟩
    have hT2 : h''.get? s.heap.objs.size = some { cls := .type "tuple", data := .seq #[.ref e.2, .int (e.1.price : Nat) t] } := (sb.2 _ (Nat.ne_of_gt hlt)).trans hT
    have new : ObjOk X.prog X.w (upd H s.heap.objs.size (.tup [.ref e.2, nv e.1.price])) h'' s.heap.objs.size (.tup [.ref e.2, nv e.1.price]) :=
      ⟨by show 2 ≤ sizeLine; decide, [.ref e.2, .int (e.1.price : Nat) t], .cons rfl (.cons ⟨t, rfl⟩ .nil), ⟨_, hT2, rfl, _, rfl⟩⟩
    have I1 : Inv X pins σ (upd H s.heap.objs.size (.tup [.ref e.2, nv e.1.price])) { s with heap := h'' } :=
      I.turnedNew (t' := s.toks) (ch := [it]) (fun b ob hb e => (sb.2 b (by simpa using hb)).trans (hk b ob (by simpa using hb) e)) hf (Nat.le_refl _) new
    refine ⟨.ref s.heap.objs.size, _, I1, rfl, ⟨_, e, he, rfl, I.hok.fresh (Nat.le_refl _), rfl⟩, ⟨.ref e.2, .int (e.1.price : Nat) t, ?_⟩, fun b hb => ?_⟩
    · rw [← hsz]
      exact he'
    · have z : b = it := by simpa using hb
      rw [z, upd_ne (Nat.ne_of_lt hlt)]
      exact (hf it (by simp)).1
  done := by
    intro X hP hw hK hc i pins s σ H E I hf st hg
    subst hP hw hK
    obtain ⟨hd, hi⟩ := hg
    obtain ⟨f0, f1, f2, f3, f4, f5⟩ := hf it (by simp)
    obtain ⟨hs, ds', ep', hdt, raw, hsz, ent⟩ := nd_frz I hd
    obtain ⟨rfl, rfl⟩ := dict_ep hod hdt
    obtain ⟨ok, ov, hit⟩ := st
    rw [← hsz] at hit
    exact DT.endI (I.ok.hd hc) hit raw (by omega) fun h' eb => ⟨rfl, I.turned (t' := s.toks) (fun b ob hb e => eb b ob hb e) f0 f1 f3 f4 f5⟩
  self := fun A i s Q E st h => let ⟨_, _, e⟩ := st; PySem.W.kcp_self e h
def iNd (P : Program) (w : World) (td : TE) : TI := fun σ H R => td σ H fun x H1 => ∃ (d : Addr) (o : Obj) (es : List Ent), x = .ref d ∧ H1 d = some (.frz o (NdO P w d es)) ∧ R (Itn P w d o es) H1
theorem pi_nd {X : Cx} {e : Expr} {td : TE} {apos cpos : Pos} {elts : List Expr} {kk : Nat} {tpos : Pos} (he : PE X e td) (hbase : attributeBase e "items" X.env (eval e X.env) = eval e X.env := by rfl) (hline : (apos.endLine == cpos.line) = true := by rfl) :
    PI X (.Tuple elts kk tpos) (.Call (.Attribute e "items" apos) [] [] cpos) (iNd X.prog X.w td) := by
  refine ⟨fun pins s σ H R I h => ?_⟩
  refine wpAny_Call_method (T := "dict") (id := "dict.items") hbase rfl hline F.plainAttrs_dict F.slot_dict_items F.type_dict_items (thn (he.run pins s σ H _ I h) fun u s1 ⟨x, H1, I1, rx, q1⟩ => ?_)
  obtain ⟨d, o, es, rfl, hd, q⟩ := q1
  cases rx
  obtain ⟨hs, ds, ep, hdt, raw, hsz, ent⟩ := nd_frz I1 hd
  have hnd : ∀ b, Value.ref d = .ref b → ∃ ob, s1.heap.get? b = some ob ∧ ob.dict = none := fun b z => by
    cases z
    obtain ⟨ob, z1, z2, _⟩ := raw
    exact ⟨ob, z1, z2.2.1⟩
  refine ⟨raw.typeIs, hnd, ?_⟩
  have I2 : Inv X pins σ H1 { s1 with heap := s1.heap.push { cls := .type "dict_items", data := .fields #[.ref d] } } := I1.kept (t' := s1.toks) fun b ob q => Heap.get?_push_of_some _ q
  have fin : wpAny (model X.prog X.w) X.A (pyIter (.ref s1.heap.objs.size)) (PIE X pins σ (.Tuple elts kk tpos) R) X.xe { s1 with heap := s1.heap.push { cls := .type "dict_items", data := .fields #[.ref d] } } := by
    refine DT.iterI (d := d) (es := ds) (ep := ep) ⟨_, Heap.get?_push_size _ rfl, rfl, rfl⟩ (raw.push _) (pi_one (tk := s1.toks) I2 _ (turn_nd _ hdt) ⟨.none, .none, ?_⟩ q)
    rw [← hsz]
    exact Heap.get?_push_size _ rfl
  show wpAny _ _ (callWith cpos (.builtin "dict.items") [.ref d] [] []) _ X.xe s1
  exact method_meetsIn F.slot_dict_items F.entry_dict_items rfl (PySem.evalArgs_none ⟨rfl, raw.typeIs, F.args_dict_items_1 _, _, DT.meetsItems (es := ds) (ep := ep) hs, raw, fin⟩)
end Pb
/-! a rule of one's own: sorted(t), t a tuple of whole numbers -/
namespace Pb
open PySem PySem.Spec PyProof.Rows L2
section
variable {X : Cx}
def rSortT (K : PySem.W.Frag) : List V → Hp → VK → Prop := fun vs H Q => ∃ (a : Addr) (ns : List Int), vs = [V.ref a] ∧ SqT K H a (ns.map V.int) ∧ ns.length < 64 ∧
  ∀ (ns' : List Int) (p : Addr), ns'.Perm ns → ns'.Pairwise (· ≤ ·) → H p = none → Q (.ref p) (upd H p (.lst (ns'.map V.int)))
theorem cr_sortT : CallR X (.builtin "sorted") (rSortT X.K) := by
  intro pins s σ H vs us Q I r h
  obtain ⟨a, ns, rfl, hs, h64, q⟩ := h
  obtain ⟨its, rv, ⟨ob, hob, hcl, en, hdat⟩, _⟩ := I.tuple hs
  rw [Vals.ref1 r]
  have hi := rv.ints
  have il : its.length < 64 := by rw [hi.length]; exact h64
  refine Calls.call_function_entry kind_sorted plain_sorted entry_sorted (args_sorted1 _) ?_
  unfold Builtin.«sorted»
  refine wpAny_bind (m := checkCount "sorted" 1 1 _) (wpAny_pure ?_)
  refine wpAny_bind (wpAny_collect_seq a (.inr rfl) hob hcl hdat (fun h1 kp => ?_) (by rw [List.size_toArray, sizeLine_eq]; omega))
  have et : its.toArray.toList = its := by simp
  rw [et]
  refine wpAny_bind (wpAny_newList ?_ (by rw [sizeLine_eq]; omega))
  have hnew : (h1.push (seqObj "list" its.toArray 0)).get? h1.objs.size = some (seqObj "list" its.toArray 0) := Heap.get?_push_size _ rfl
  refine wpAny_bind (wpAny_holding (wpAny_call_entry slot_list_sort ⟨_, hnew, rfl⟩ entry_list_sort (list_sort_tree hnew hi il fun out ns' b1 b2 b3 => ⟨_, rfl, ?_⟩) (args_list_sort _)))
  obtain ⟨ep, hat⟩ := sortedHeap_at (out := out) hnew
  have I1 : Inv X pins σ H { s with heap := h1 } := I.kept (t' := s.toks) kp
  have hlen : (ns'.map V.int).length ≤ sizeLine := by
    rw [List.length_map, b2.length_eq]
    exact small64 h64
  exact wpAny_pure ⟨_, rfl, .ref _, upd H h1.objs.size (.lst (ns'.map V.int)), I1.laid (t' := s.toks) (fun b o e1 => by
    have lt1 := Heap.lt_size e1
    show (sortedHeap _ _ _ _).get? b = some o
    rw [sortedHeap_old (Nat.ne_of_lt lt1) (by rw [size_push']; exact Nat.lt_succ_of_lt lt1)]
    exact Heap.get?_push_of_some _ e1) (Nat.le_refl _) ⟨hlen, out.toList, ep, vals_of_ints b1, hat⟩, rfl, q ns' _ b2 b3 (I1.hok.fresh (Nat.le_refl _))⟩
end
end Pb
namespace Pb
open PySem PySem.Spec PyProof.Rows L2
open Cm07 (Sit)
/-! ### ways: the mirror -/
abbrev Up (l : List Nat) : Prop := l.Pairwise (· < ·)
structure SitIn (s : Sit) : Prop where
  ru : Up s.regs
  au : Up s.away
  rl : ∀ v ∈ s.regs, v < 10
  al : ∀ v ∈ s.away, v < 10
theorem up_nodup {l : List Nat} (h : Up l) : l.Nodup := h.imp fun z => Nat.ne_of_lt z
theorem up_few {l : List Nat} (h : Up l) (k : ∀ v ∈ l, v < 10) : l.length ≤ 10 := few_of (up_nodup h) k
theorem up_insert {v : Nat} : ∀ {l : List Nat}, Up l → v ∉ l → Up (Cm07.insert v l)
  | [], _, _ => by simp [Cm07.insert]
  | a :: l, h, hv => by
    obtain ⟨h1, h2⟩ := List.pairwise_cons.mp h
    have hva : v ≠ a := fun z => hv (by rw [z]; exact List.mem_cons_self ..)
    have hvl : v ∉ l := fun z => hv (List.mem_cons_of_mem _ z)
    unfold Cm07.insert
    by_cases c : v < a
    · rw [if_pos c]
      refine List.pairwise_cons.mpr ⟨fun u hu => ?_, h⟩
      rcases List.mem_cons.mp hu with rfl | hu
      · exact c
      · exact Nat.lt_trans c (h1 u hu)
    · rw [if_neg c, if_neg hva]
      refine List.pairwise_cons.mpr ⟨fun u hu => ?_, up_insert h2 hvl⟩
      rcases Lb.mem_insert.mp hu with rfl | hu
      · omega
      · exact h1 u hu
theorem perm_insert {v : Nat} : ∀ {l : List Nat}, v ∉ l → (Cm07.insert v l).Perm (l ++ [v])
  | [], _ => by simp [Cm07.insert]
  | a :: l, hv => by
    have hva : v ≠ a := fun z => hv (by rw [z]; exact List.mem_cons_self ..)
    have hvl : v ∉ l := fun z => hv (List.mem_cons_of_mem _ z)
    unfold Cm07.insert
    by_cases c : v < a
    · rw [if_pos c]
      exact (List.perm_append_singleton v (a :: l)).symm
    · rw [if_neg c, if_neg hva]
      exact (perm_insert hvl).cons a
theorem sorted_is {v : Nat} {l : List Nat} {ns : List Int} (h : Up l) (hv : v ∉ l) (p : ns.Perm ((l ++ [v]).map fun (n : Nat) => (n : Int))) (q : ns.Pairwise (· ≤ ·)) : ns.map V.int = (Cm07.insert v l).map nv := by
  have e : ns = (Cm07.insert v l).map fun (n : Nat) => (n : Int) := by
    refine PySem.W.os_sorted_one (p.trans ((perm_insert hv).symm.map _)) q ?_
    exact List.pairwise_map.mpr ((up_insert h hv).imp fun z => by omega)
  rw [e, List.map_map]
  rfl
/-! ### where a way lies -/
def WayIn (H : Hp) (t : Addr) (s : Sit) : Prop := ∃ r a, H t = some (.tup [.ref r, .ref a, nv s.price]) ∧ H r = some (.tup (s.regs.map nv)) ∧ H a = some (.tup (s.away.map nv))
theorem WayIn.tups {H H' : Hp} {t : Addr} {s : Sit} (h : WayIn H t s) (e : ∀ b xs, H b = some (.tup xs) → H' b = some (.tup xs)) : WayIn H' t s := by
  obtain ⟨r, a, h1, h2, h3⟩ := h
  exact ⟨r, a, e _ _ h1, e _ _ h2, e _ _ h3⟩
theorem WayIn.same {H H' : Hp} {t : Addr} {s : Sit} (h : WayIn H t s) (e : Same H H') : WayIn H' t s := h.tups fun b xs => e b _
theorem tups_upd {H : Hp} {D : Addr} {xs ys : List V} (hD : H D = some (.lst xs)) : ∀ b zs, H b = some (.tup zs) → upd H D (.lst ys) b = some (.tup zs) := fun b zs e => by
  rw [upd_ne (ne_of e hD (by intro z; cases z))]
  exact e
def WaysIn (H : Hp) (l : Addr) (ss : List Sit) : Prop := ∃ ts : List Addr, H l = some (.lst (ts.map V.ref)) ∧ Paired (WayIn H) ts ss
theorem pr_map {A B : Type} {R S : A → B → Prop} {l : List A} {m : List B} (h : Paired R l m) (f : ∀ a b, R a b → S a b) : Paired S l m := by
  induction h with
  | nil => exact .nil
  | cons r _ ih => exact .cons (f _ _ r) ih
theorem pr_app {A B : Type} {R : A → B → Prop} {l l' : List A} {m m' : List B} (h : Paired R l m) (k : Paired R l' m') : Paired R (l ++ l') (m ++ m') := by
  induction h with
  | nil => exact k
  | cons r _ ih => exact .cons r ih
theorem WaysIn.same {H H' : Hp} {l : Addr} {ss : List Sit} (h : WaysIn H l ss) (e : Same H H') : WaysIn H' l ss := by
  obtain ⟨ts, h1, h2⟩ := h
  exact ⟨ts, e _ _ h1, pr_map h2 fun _ _ z => z.same e⟩
/-- a way, a list of ways is answered, all else stands -/
def Way (H : Hp) (s : Sit) (Q : VK) : Prop := ∀ (H' : Hp) (p : Addr), Same H H' → WayIn H' p s → Q (.ref p) H'
def Ways (H : Hp) (ss : List Sit) (Q : VK) : Prop := ∀ (H' : Hp) (p : Addr), Same H H' → H p = none → WaysIn H' p ss → Q (.ref p) H'
theorem Way.mono {H H1 : Hp} {s : Sit} {Q : VK} (k : Way H s Q) (e : Same H H1) : Way H1 s Q := fun H' p e' => k H' p (e.trans e')
theorem Ways.mono {H H1 : Hp} {ss : List Sit} {Q : VK} (k : Ways H ss Q) (e : Same H H1) : Ways H1 ss Q := fun H' p e' hp => k H' p (e.trans e') (e.free hp)
/-- a list of ways in the making -/
def MkW (H : Hp) (D : Addr) (ss : List Sit) (H' : Hp) : Prop := Same H H' ∧ WaysIn H' D ss
theorem MkW.zero {H : Hp} {D : Addr} (hD : H D = none) : MkW H D [] (upd H D (.lst [])) := ⟨same_new hD, [], upd_same, .nil⟩
theorem MkW.push {H H' H2 : Hp} {D t : Addr} {ss : List Sit} {s : Sit} (hD : H D = none) (m : MkW H D ss H') (e : Same H' H2) (ht : WayIn H2 t s) (few : ss.length < sizeLine) : ∃ acc, H2 D = some (.lst acc) ∧ acc.length < sizeLine ∧ MkW H D (ss ++ [s]) (upd H2 D (.lst (acc ++ [V.ref t]))) := by
  obtain ⟨e1, ts, h1, h2⟩ := m
  have hl : ts.length = ss.length := Paired.length h2
  have hd := e _ _ h1
  refine ⟨_, hd, by rw [List.length_map]; omega, fun b o q => ?_, ts ++ [t], ?_, ?_⟩
  · rw [upd_ne (ne_of_none q hD)]
    exact e _ _ (e1 _ _ q)
  · rw [upd_same, List.map_append]
    rfl
  · exact pr_app (pr_map h2 fun _ _ z => (z.same e).tups (tups_upd hd)) (.cons (ht.tups (tups_upd hd)) .nil)
theorem MkW.skip {H H' H2 : Hp} {D : Addr} {ss : List Sit} (m : MkW H D ss H') (e : Same H' H2) : MkW H D ss H2 := ⟨m.1.trans e, m.2.same e⟩
/-- .. by another list -/
theorem MkW.more {H H' H2 : Hp} {D p : Addr} {ss rs : List Sit} (hD : H D = none) (m : MkW H D ss H') (e : Same H' H2) (hp : WaysIn H2 p rs) (few : ss.length + rs.length ≤ sizeLine) :
    ∃ xs zs, H2 D = some (.lst xs) ∧ H2 p = some (.lst zs) ∧ xs.length + zs.length ≤ sizeLine ∧ MkW H D (ss ++ rs) (upd H2 D (.lst (xs ++ zs))) := by
  obtain ⟨e1, ts, h1, h2⟩ := m
  obtain ⟨us, g1, g2⟩ := hp
  have hl : ts.length = ss.length := Paired.length h2
  have hl2 : us.length = rs.length := Paired.length g2
  have hd := e _ _ h1
  refine ⟨_, _, hd, g1, by rw [List.length_map, List.length_map]; omega, fun b o q => ?_, ts ++ us, ?_, ?_⟩
  · rw [upd_ne (ne_of_none q hD)]
    exact e _ _ (e1 _ _ q)
  · rw [upd_same, List.map_append]
  · exact pr_app (pr_map h2 fun _ _ z => (z.same e).tups (tups_upd hd)) (pr_map g2 fun _ _ z => z.tups (tups_upd hd))
theorem WaysIn.at {H : Hp} {l : Addr} {ss : List Sit} (h : WaysIn H l ss) : ∃ xs : List V, H l = some (.lst xs) ∧ xs.length = ss.length ∧ ∀ (i : Nat) (y : V), xs[i]? = some y → ∃ t s, y = .ref t ∧ ss[i]? = some s ∧ WayIn H t s := by
  obtain ⟨ts, h1, h2⟩ := h
  refine ⟨_, h1, by rw [List.length_map]; exact Paired.length h2, fun i y hy => ?_⟩
  obtain ⟨t, ht, rfl⟩ := at_map hy
  obtain ⟨s, hs, hw⟩ := paired_get h2 ht
  exact ⟨t, s, rfl, hs, hw⟩
theorem cat_one {K : PySem.W.Frag} {H : Hp} {r q : Addr} {xs : List V} {y : V} {Q : VK} (hr : H r = some (.tup xs)) (hq : H q = some (.tup [y])) (hl : xs.length ≤ 1000) (k : ∀ (H1 : Hp) (p : Addr), Same H H1 → H1 p = some (.tup (xs ++ [y])) → Q (.ref p) H1) : rCatA K (.ref r) (.ref q) H Q := by
  refine ⟨r, q, xs, [y], rfl, rfl, SqT.of hr, SqT.of hq, ?_, fun z => ?_, fun _ z => (by cases z), fun _ _ p hp => k _ p (same_new hp) upd_same⟩
  · have := small1000 hl
    show xs.length + 1 ≤ _
    omega
  · subst z
    exact k H q (.refl H) hq
def spWithHeld : Sp := fun vs H Q _ => ∃ (t : Addr) (s : Sit) (v c : Nat), vs = [.ref t, nv v, nv c] ∧ WayIn H t s ∧ SitIn s ∧ v ∉ s.regs ∧ Way H { s with regs := Cm07.insert v s.regs, price := s.price + c } Q
def spNoHeld : Sp := fun vs H Q _ => ∃ (t : Addr) (s : Sit) (v : Nat), vs = [.ref t, nv v] ∧ WayIn H t s ∧ SitIn s ∧ Way H { s with regs := s.regs.filter fun x => !(x == v) } Q
def spWithAway : Sp := fun vs H Q _ => ∃ (t : Addr) (s : Sit) (v c : Nat), vs = [.ref t, nv v, nv c] ∧ WayIn H t s ∧ SitIn s ∧ v ∉ s.away ∧ Way H { s with away := Cm07.insert v s.away, price := s.price + c } Q
def spStill : Sp := fun vs H Q _ => ∃ (ss t : Addr) (ts : List Addr) (w : Cm07.Work) (s : Sit) (j : Nat), vs = [.ref ss, .ref t, nv j] ∧ StepsIn H ss ts w.steps ∧ WayIn H t s ∧ SitIn s ∧ j ≤ 1000 ∧ Way H (Cm07.tidy w j s) Q
section
variable {P : Program} {w : World} {K : PySem.W.Frag} {mg : Str → Option Value} {base : Heap} {C CC : Addr}
theorem scWithHeld : FnScope ["way", "value", "price"] ["way", "value", "price"] (scOf 59) := ⟨rfl, rfl, rfl, by decide +kernel, rfl, by decide +kernel, by decide +kernel⟩
theorem ok_withHeld (D : Ds K mg) (T : Txt K mg C CC) : FnOk P w K mg base CX0 1 D.withHeld.f D.withHeld.fd ["way", "value", "price"] spWithHeld := by
  refine D.withHeld.F.ok scWithHeld (fun vs H Q E h => ?_) (fun cdv A outer s H vs Q E hr h => ?_)
  · obtain ⟨t, s, v, c, rfl, _⟩ := h
    rfl
  · obtain ⟨t, st, v, c, rfl, hw, S, hv, k⟩ := h
    refine ⟨_, pss_one (ps_ret (pe_tup (pa_cons (pe_callTy call_tuple_of (by rfl) T.tpl (by decide +kernel) (pa_cons (pe_callB cr_sortT (by rfl) T.srt (by decide +kernel) (pa_cons (pe_op op_catA (pe_ix ix_tup (pv 0) pe_int (fun _ _ => rfl)) (pe_tup (pa_cons (pv 1) pa_nil))) pa_nil)) pa_nil))
      (pa_cons (pe_ix ix_tup (pv 0) pe_int (fun _ _ => rfl)) (pa_cons (pe_op op_add (pe_ix ix_tup (pv 0) pe_int (fun _ _ => rfl)) (pv 2)) pa_nil))))), ?_⟩
    obtain ⟨r, a, h1, h2, h3⟩ := hw
    have f1 := up_few S.ru S.rl
    refine ⟨_, rfl, t, _, _, _, rfl, rfl, SqT.of h1, atI_nat (j := 0) rfl, _, rfl, (by show 1 ≤ sizeLine; decide), fun q hq => ?_⟩
    have s1 := same_new (o := .tup [nv v]) hq
    refine cat_one (s1 _ _ h2) upd_same (by rw [List.length_map]; omega) fun H2 p e2 hp => ?_
    have e2' := s1.trans e2
    have hp' : H2 p = some (.tup (((st.regs ++ [v]).map fun (n : Nat) => (n : Int)).map V.int)) := by
      rw [hp, ← nv_ints, List.map_append]
      rfl
    refine ⟨p, _, rfl, SqT.of hp', by rw [List.length_map, List.length_append]; simp; omega, fun ns' p3 hpm hpw hn3 => ?_⟩
    rw [sorted_is S.ru hv hpm hpw]
    have s3 := same_new (o := .lst ((Cm07.insert v st.regs).map nv)) hn3
    refine ⟨p3, _, rfl, .inl ⟨SqL.of upd_same, fun p4 hn4 => ?_⟩⟩
    have s4 := same_new (o := .tup ((Cm07.insert v st.regs).map nv)) hn4
    have e4 := (e2'.trans s3).trans s4
    refine ⟨_, rfl, t, _, _, _, rfl, rfl, SqT.of (e4 _ _ h1), atI_nat (j := 1) rfl, _, rfl, t, _, _, _, rfl, rfl, SqT.of (e4 _ _ h1), atI_nat (j := 2) rfl, _, rfl, _, _, rfl, rfl, (by show 3 ≤ sizeLine; decide), fun p5 hn5 => ?_⟩
    have s5 := same_new (o := .tup [.ref p4, .ref a, .int ((st.price : Int) + (c : Int))]) hn5
    exact k _ p5 (e4.trans s5) ⟨p4, a, upd_same, s5 _ _ upd_same, s5 _ _ (e4 _ _ h3)⟩
theorem scNoHeld : FnScope ["way", "value", "other"] ["way", "value"] (scOf 60) := ⟨rfl, rfl, rfl, by decide +kernel, rfl, by decide +kernel, by decide +kernel⟩
theorem ok_noHeld (D : Ds K mg) (T : Txt K mg C CC) : FnOk P w K mg base CX0 1 D.noHeld.f D.noHeld.fd ["way", "value"] spNoHeld := by
  refine D.noHeld.F.ok scNoHeld (fun vs H Q E h => ?_) (fun cdv A outer s H vs Q E hr h => ?_)
  · obtain ⟨t, s, v, rfl, _⟩ := h
    rfl
  · obtain ⟨t, st, v, rfl, hw, S, k⟩ := h
    refine ⟨_, pss_one (ps_ret (pe_tup (pa_cons (pe_callTy call_tuple_of (by rfl) T.tpl (by decide +kernel) (pa_cons
        (pe_lc (own := [("other", 2)]) (g := gName 2) (tt := tTest (tOp rNe (tVar 2) (tVar 1))) (te := tVar 2) rfl scNoHeld.nd (pi_tup (pe_ix ix_tup (pv 0) pe_int (fun _ _ => rfl))) (blkOk_by (own := [("other", 2)]) (N := ["way", "value", "other"]) (sc := scOf 60) (by decide +kernel))
          (fun _ _ _ _ _ => pg_name (i := 2) scNoHeld.nd rfl (Or.inl rfl)) (fun _ _ _ _ _ => pts_one (pt_cmpR op_ne (pv 2) (pv 1) (nomark _))) (fun _ _ _ _ _ => pv 2)) pa_nil))
      (pa_cons (pe_ix ix_tup (pv 0) pe_int (fun _ _ => rfl)) (pa_cons (pe_ix ix_tup (pv 0) pe_int (fun _ _ => rfl)) pa_nil))))), ?_⟩
    obtain ⟨r, a, h1, h2, h3⟩ := hw
    have f1 := up_few S.ru S.rl
    refine ⟨_, rfl, t, _, _, _, rfl, rfl, SqT.of h1, atI_nat (j := 0) rfl, r, rfl, ⟨_, SqT.of h2⟩, fun D1 hD1 => ?_⟩
    refine lc_tup (K := K) (a := r) (xs := st.regs.map nv) (fun i H' => Mk H D1 (((st.regs.take i).filter fun x => !(x == v)).map nv) H') (.zero hD1) ?_ ?_ ?_
    · intro i H' _ m
      exact SqT.of (m.1 _ _ h2)
    · intro i y H' hi m
      obtain ⟨u, hu, rfl⟩ := at_map hi
      refine ⟨rfl, _, rfl, _, rfl, rfl, _, rfl, ?_⟩
      have few : (((st.regs.take i).filter fun x => !(x == v)).map nv).length ≤ 1000 := by
        have := List.length_filter_le (fun x => !(x == v)) (st.regs.take i)
        rw [List.length_take] at this
        rw [List.length_map]
        omega
      rw [take_more hu, List.filter_append]
      by_cases c : u = v
      · subst c
        refine if_false_of (by simp) ?_
        have z : [u].filter (fun x => !(x == u)) = [] := by simp
        rw [z, List.append_nil]
        exact m
      · refine if_true_of ?_ ⟨_, rfl, ?_⟩
        · have : ¬ nv u = nv v := fun z => c (by have := V.int.inj z; omega)
          show (!decide (nv u = nv v)) = true
          rw [decide_eq_false this]
          rfl
        · have z : [u].filter (fun x => !(x == v)) = [u] := by simp [c]
          rw [z, List.map_append]
          exact m.push hD1 (.refl _) few
    · intro H2 m
      rw [List.length_map, List.take_length] at m
      refine ⟨D1, _, rfl, .inl ⟨SqL.of m.2, fun p4 hn4 => ?_⟩⟩
      have s4 := same_new (o := .tup ((st.regs.filter fun x => !(x == v)).map nv)) hn4
      have e4 := m.1.trans s4
      refine ⟨_, rfl, t, _, _, _, rfl, rfl, SqT.of (e4 _ _ h1), atI_nat (j := 1) rfl, _, rfl, t, _, _, _, rfl, rfl, SqT.of (e4 _ _ h1), atI_nat (j := 2) rfl, (by show 3 ≤ sizeLine; decide), fun p5 hn5 => ?_⟩
      have s5 := same_new (o := .tup [.ref p4, .ref a, nv st.price]) hn5
      exact k _ p5 (e4.trans s5) ⟨p4, a, upd_same, s5 _ _ upd_same, s5 _ _ (e4 _ _ h3)⟩
theorem scWithAway : FnScope ["way", "value", "price"] ["way", "value", "price"] (scOf 61) := ⟨rfl, rfl, rfl, by decide +kernel, rfl, by decide +kernel, by decide +kernel⟩
theorem ok_withAway (D : Ds K mg) (T : Txt K mg C CC) : FnOk P w K mg base CX0 1 D.withAway.f D.withAway.fd ["way", "value", "price"] spWithAway := by
  refine D.withAway.F.ok scWithAway (fun vs H Q E h => ?_) (fun cdv A outer s H vs Q E hr h => ?_)
  · obtain ⟨t, s, v, c, rfl, _⟩ := h
    rfl
  · obtain ⟨t, st, v, c, rfl, hw, S, hv, k⟩ := h
    refine ⟨_, pss_one (ps_ret (pe_tup (pa_cons (pe_ix ix_tup (pv 0) pe_int (fun _ _ => rfl)) (pa_cons (pe_callTy call_tuple_of (by rfl) T.tpl (by decide +kernel) (pa_cons (pe_callB cr_sortT (by rfl) T.srt (by decide +kernel) (pa_cons (pe_op op_catA (pe_ix ix_tup (pv 0) pe_int (fun _ _ => rfl)) (pe_tup (pa_cons (pv 1) pa_nil))) pa_nil)) pa_nil))
      (pa_cons (pe_op op_add (pe_ix ix_tup (pv 0) pe_int (fun _ _ => rfl)) (pv 2)) pa_nil))))), ?_⟩
    obtain ⟨r, a, h1, h2, h3⟩ := hw
    have f1 := up_few S.au S.al
    refine ⟨_, rfl, t, _, _, _, rfl, rfl, SqT.of h1, atI_nat (j := 0) rfl, _, rfl, t, _, _, _, rfl, rfl, SqT.of h1, atI_nat (j := 1) rfl, _, rfl, (by show 1 ≤ sizeLine; decide), fun q hq => ?_⟩
    have s1 := same_new (o := .tup [nv v]) hq
    refine cat_one (s1 _ _ h3) upd_same (by rw [List.length_map]; omega) fun H2 p e2 hp => ?_
    have e2' := s1.trans e2
    have hp' : H2 p = some (.tup (((st.away ++ [v]).map fun (n : Nat) => (n : Int)).map V.int)) := by
      rw [hp, ← nv_ints, List.map_append]
      rfl
    refine ⟨p, _, rfl, SqT.of hp', by rw [List.length_map, List.length_append]; simp; omega, fun ns' p3 hpm hpw hn3 => ?_⟩
    rw [sorted_is S.au hv hpm hpw]
    have s3 := same_new (o := .lst ((Cm07.insert v st.away).map nv)) hn3
    refine ⟨p3, _, rfl, .inl ⟨SqL.of upd_same, fun p4 hn4 => ?_⟩⟩
    have s4 := same_new (o := .tup ((Cm07.insert v st.away).map nv)) hn4
    have e4 := (e2'.trans s3).trans s4
    refine ⟨_, rfl, t, _, _, _, rfl, rfl, SqT.of (e4 _ _ h1), atI_nat (j := 2) rfl, _, rfl, _, _, rfl, rfl, (by show 3 ≤ sizeLine; decide), fun p5 hn5 => ?_⟩
    have s5 := same_new (o := .tup [.ref r, .ref p4, .int ((st.price : Int) + (c : Int))]) hn5
    exact k _ p5 (e4.trans s5) ⟨r, p4, upd_same, s5 _ _ (e4 _ _ h2), s5 _ _ upd_same⟩
theorem scStill : FnScope ["steps", "way", "start", "held", "away", "value"] ["steps", "way", "start"] (scOf 62) := ⟨rfl, rfl, rfl, by decide +kernel, rfl, by decide +kernel, by decide +kernel⟩
end
end Pb
namespace Pb
open PySem PySem.Spec PyProof.Rows L2
open Cm07 (Sit)
def pLet (w : Cm07.Work) (s : Sit) (v : Nat) : List Sit :=
  if v ∈ s.away then [{ s with regs := s.regs.filter fun x => !(x == v) }]
  else if Cm07.isNumber w v = true then [{ s with regs := s.regs.filter fun x => !(x == v), away := Cm07.insert v s.away, price := s.price + w.put }, { s with regs := s.regs.filter fun x => !(x == v) }]
  else [{ s with regs := s.regs.filter fun x => !(x == v), away := Cm07.insert v s.away, price := s.price + w.put }]
def pLets (w : Cm07.Work) (s : Sit) (kept : List Nat) (v : Nat) : List Sit := if v ∈ kept then [] else pLet w s v
def pRoom (w : Cm07.Work) (kept : List Nat) (s : Sit) : List Sit := if s.regs.length < w.regs then [s] else s.regs.flatMap (pLets w s kept)
def pCost (w : Cm07.Work) (s : Sit) (v : Nat) : Nat := if v ∈ s.away then (if Cm07.isNumber w v = true then min w.get w.again else w.get) else w.again
def pHold (v c : Nat) (r : Sit) : Sit := { r with regs := Cm07.insert v r.regs, price := r.price + c }
def pBring (w : Cm07.Work) (v : Nat) (kept : List Nat) (s : Sit) : List Sit := if v ∈ s.regs then [s] else (pRoom w kept s).map (pHold v (pCost w s v))
def pStep (w : Cm07.Work) (j : Nat) (s : Sit) : List Sit := if (Cm07.stepAt w j).gives = false then [Cm07.tidy w (j + 1) s] else (pRoom w [] (Cm07.tidy w (j + 1) s)).map fun r => Cm07.tidy w (j + 1) (pHold (Cm07.valueOf w j) 0 r)
theorem pLet_len (w : Cm07.Work) (s : Sit) (v : Nat) : (pLet w s v).length ≤ 2 := by
  unfold pLet
  split
  · simp
  · split <;> simp
theorem flat_len {A B : Type} (f : A → List B) (n : Nat) (h : ∀ a, (f a).length ≤ n) : ∀ l : List A, (l.flatMap f).length ≤ n * l.length
  | [] => by simp
  | a :: l => by
    have h1 := h a
    have h2 := flat_len f n h l
    rw [List.flatMap_cons, List.length_append, List.length_cons, Nat.mul_succ]
    omega
theorem pLets_len (w : Cm07.Work) (s : Sit) (kept : List Nat) (v : Nat) : (pLets w s kept v).length ≤ 2 := by
  unfold pLets
  split
  · simp
  · exact pLet_len w s v
theorem numsL_all {w : Cm07.Work} {v : Nat} : v ∈ numsL w.steps ↔ Cm07.isNumber w v = true := by
  have h := numsL_is (w := w) (j := w.steps.length) (v := v)
  rw [List.take_length] at h
  rw [h]
  refine ⟨fun z => z.2, fun z => ⟨?_, z⟩⟩
  unfold Cm07.isNumber Cm07.numberOf at z
  cases q : (w.steps.filter Cm07.Step.gives)[v]? with
  | none =>
    rw [q] at z
    cases z
  | some s =>
    have := (List.getElem?_eq_some_iff.mp q).1
    show v < ((w.steps.take w.steps.length).filter Cm07.Step.gives).length
    rw [List.take_length]
    exact this
/-! sits stay in form -/
theorem SitIn.filter {s : Sit} (S : SitIn s) (p q : Nat → Bool) (c : Nat) : SitIn ⟨s.regs.filter p, s.away.filter q, c⟩ :=
  ⟨S.ru.sublist List.filter_sublist, S.au.sublist List.filter_sublist, fun v hv => S.rl v (List.mem_filter.mp hv).1, fun v hv => S.al v (List.mem_filter.mp hv).1⟩
theorem SitIn.regsF {s : Sit} (S : SitIn s) (p : Nat → Bool) : SitIn { s with regs := s.regs.filter p } := ⟨S.ru.sublist List.filter_sublist, S.au, fun v hv => S.rl v (List.mem_filter.mp hv).1, S.al⟩
theorem SitIn.hold {s : Sit} (S : SitIn s) {v c : Nat} (hv : v ∉ s.regs) (hl : v < 10) : SitIn (pHold v c s) := ⟨up_insert S.ru hv, S.au, fun u hu => by
  rcases Lb.mem_insert.mp hu with rfl | hu
  · exact hl
  · exact S.rl u hu, S.al⟩
theorem SitIn.putA {s : Sit} (S : SitIn s) {v c : Nat} (p : Nat → Bool) (hv : v ∉ s.away) (hl : v < 10) : SitIn ⟨s.regs.filter p, Cm07.insert v s.away, c⟩ := ⟨S.ru.sublist List.filter_sublist, up_insert S.au hv, fun u hu => S.rl u (List.mem_filter.mp hu).1, fun u hu => by
  rcases Lb.mem_insert.mp hu with rfl | hu
  · exact hl
  · exact S.al u hu⟩
theorem SitIn.lets {w : Cm07.Work} {s : Sit} (S : SitIn s) {v : Nat} (hv : v ∈ s.regs) : ∀ r ∈ pLet w s v, SitIn r ∧ r.regs = s.regs.filter fun x => !(x == v) := fun r hr => by
  have hl := S.rl v hv
  unfold pLet at hr
  split at hr
  · rw [List.mem_singleton.mp hr]
    exact ⟨S.regsF _, rfl⟩
  · rename_i ha
    split at hr
    · rcases List.mem_cons.mp hr with rfl | hr
      · exact ⟨S.putA _ ha hl, rfl⟩
      · rw [List.mem_singleton.mp hr]
        exact ⟨S.regsF _, rfl⟩
    · rw [List.mem_singleton.mp hr]
      exact ⟨S.putA _ ha hl, rfl⟩
theorem SitIn.room {w : Cm07.Work} {s : Sit} {kept : List Nat} (S : SitIn s) : ∀ r ∈ pRoom w kept s, SitIn r ∧ (∀ u ∈ r.regs, u ∈ s.regs) ∧ (s.regs.length ≤ w.regs → r.regs.length < w.regs) := fun r hr => by
  unfold pRoom at hr
  split at hr
  · rename_i h
    rw [List.mem_singleton.mp hr]
    exact ⟨S, fun u hu => hu, fun _ => h⟩
  · obtain ⟨v, hv, hr⟩ := List.mem_flatMap.mp hr
    unfold pLets at hr
    split at hr
    · cases hr
    · obtain ⟨S', e⟩ := S.lets hv r hr
      refine ⟨S', fun u hu => ?_, fun hl => ?_⟩
      · rw [e] at hu
        exact (List.mem_filter.mp hu).1
      · have := Lb.length_without (up_nodup S.ru) hv
        rw [e]
        omega
def spToLet (C : Addr) : Sp := fun vs H Q _ => ∃ (x t dx ss : Addr) (ts : List Addr) (w : Cm07.Work) (s : Sit) (v : Nat), vs = [.ref x, .ref t, nv v] ∧ WorkIn C H x dx ss ts w ∧ WayIn H t s ∧ SitIn s ∧ v ∈ s.regs ∧ Ways H (pLet w s v) Q
def spWRoom (C : Addr) : Sp := fun vs H Q _ => ∃ (x t q dx ss : Addr) (ts : List Addr) (w : Cm07.Work) (s : Sit) (kept : List Nat), vs = [.ref x, .ref t, .ref q] ∧ WorkIn C H x dx ss ts w ∧ WayIn H t s ∧ SitIn s ∧ H q = some (.lst (kept.map nv)) ∧ Ways H (pRoom w kept s) Q
def spToBring (C : Addr) : Sp := fun vs H Q _ => ∃ (x t dx ss : Addr) (ts : List Addr) (w : Cm07.Work) (s : Sit) (v : Nat), vs = [.ref x, .ref t, nv v] ∧ WorkIn C H x dx ss ts w ∧ WayIn H t s ∧ (v ∈ s.away ∨ Cm07.isNumber w v = true) ∧ ∀ H', Same H H' → Q (nv (pCost w s v)) H'
def spBringL (C : Addr) : Sp := fun vs H Q _ => ∃ (x t q dx ss : Addr) (ts : List Addr) (w : Cm07.Work) (s : Sit) (v : Nat) (kept : List Nat), vs = [.ref x, .ref t, nv v, .ref q] ∧ WorkIn C H x dx ss ts w ∧ WayIn H t s ∧ SitIn s ∧ H q = some (.lst (kept.map nv)) ∧ (v ∈ s.regs ∨ v ∈ s.away ∨ Cm07.isNumber w v = true) ∧ Ways H (pBring w v kept s) Q
def spDoStep (C : Addr) : Sp := fun vs H Q _ => ∃ (x t dx ss : Addr) (ts : List Addr) (w : Cm07.Work) (s : Sit) (j : Nat), vs = [.ref x, .ref t, nv j] ∧ WorkIn C H x dx ss ts w ∧ WayIn H t s ∧ SitIn s ∧ j < w.steps.length ∧ (∀ v ∈ s.regs, v < Cm07.valueOf w j) ∧ Ways H (pStep w j s) Q
section
variable {P : Program} {w : World} {K : PySem.W.Frag} {mg : Str → Option Value} {base : Heap} {C CC : Addr}
theorem ok_still (D : Ds K mg) (T : Txt K mg C CC) : FnOk P w K mg base CX0 4 D.still.f D.still.fd ["steps", "way", "start"] spStill := by
  refine D.still.F.ok scStill (fun vs H Q E h => ?_) (fun cdv A outer s H vs Q E hr h => ?_)
  · obtain ⟨ss, t, ts, w, s, j, rfl, _⟩ := h
    rfl
  · obtain ⟨ss, t, ts, wk, st, j, rfl, W, hw, S, hj, k⟩ := h
    refine ⟨_, pss_cons (ps_set (i := 3) scStill.nd rfl (.inl rfl) (pe_callTy call_tuple_of (by rfl) T.tpl (by decide +kernel) (pa_cons
        (pe_lc (own := [("value", 5)]) (g := gName 5) (tt := tTest (tCall spWant [] E0 (tCons (tVar 0) (tCons (tVar 5) (tCons (tVar 2) tNil))))) (te := tVar 5) rfl scStill.nd (pi_tup (pe_ix ix_tup (pv 1) pe_int (fun _ _ => rfl))) (blkOk_by (own := [("value", 5)]) (N := ["steps", "way", "start", "held", "away", "value"]) (sc := scOf 62) (by decide +kernel))
          (fun _ _ _ _ _ => pg_name (i := 5) scStill.nd rfl (Or.inl rfl)) (fun _ _ _ _ _ => pts_one (pt_val (pcall D.wantd (ok_wantd D T) hr rfl (pa_cons (pv 0) (pa_cons (pv 5) (pa_cons (pv 2) pa_nil)))))) (fun _ _ _ _ _ => pv 5)) pa_nil)))
      (pss_cons (ps_set (i := 4) scStill.nd rfl (.inl rfl) (pe_callTy call_tuple_of (by rfl) T.tpl (by decide +kernel) (pa_cons
        (pe_lc (own := [("value", 5)]) (g := gName 5) (tt := tTest (tCall spWant [] E0 (tCons (tVar 0) (tCons (tVar 5) (tCons (tVar 2) tNil))))) (te := tVar 5) rfl scStill.nd (pi_tup (pe_ix ix_tup (pv 1) pe_int (fun _ _ => rfl))) (blkOk_by (own := [("value", 5)]) (N := ["steps", "way", "start", "held", "away", "value"]) (sc := scOf 62) (by decide +kernel))
          (fun _ _ _ _ _ => pg_name (i := 5) scStill.nd rfl (Or.inl rfl)) (fun _ _ _ _ _ => pts_one (pt_val (pcall D.wantd (ok_wantd D T) hr rfl (pa_cons (pv 0) (pa_cons (pv 5) (pa_cons (pv 2) pa_nil)))))) (fun _ _ _ _ _ => pv 5)) pa_nil)))
      (pss_one (ps_ret (pe_tup (pa_cons (pv 3) (pa_cons (pv 4) (pa_cons (pe_ix ix_tup (pv 1) pe_int (fun _ _ => rfl)) pa_nil))))))), ?_⟩
    obtain ⟨r, a, h1, h2, h3⟩ := hw
    have f1 := up_few S.ru S.rl
    have f2 := up_few S.au S.al
    have few : ∀ (l : List Nat) (i : Nat), l.length ≤ 10 → (((l.take i).filter (Cm07.wanted wk j)).map nv).length ≤ 1000 := fun l i hl => by
      have := List.length_filter_le (Cm07.wanted wk j) (l.take i)
      rw [List.length_take] at this
      rw [List.length_map]
      omega
    refine ⟨_, rfl, t, _, _, _, rfl, rfl, SqT.of h1, atI_nat (j := 0) rfl, r, rfl, ⟨_, SqT.of h2⟩, fun D1 hD1 => ?_⟩
    refine lc_tup (K := K) (a := r) (xs := st.regs.map nv) (fun i H' => Mk H D1 (((st.regs.take i).filter (Cm07.wanted wk j)).map nv) H') (.zero hD1) ?_ ?_ ?_
    · intro i H' _ m
      exact SqT.of (m.1 _ _ h2)
    · intro i y H' hi m
      obtain ⟨u, hu, rfl⟩ := at_map hi
      refine ⟨rfl, _, rfl, _, rfl, _, rfl, ss, ts, wk.steps, u, j, rfl, W.keep m.1, hj, fun H2 e2 => ⟨_, rfl, ?_⟩⟩
      rw [wanted_fu, take_more hu, List.filter_append]
      cases c : Cm07.wanted wk j u with
      | false =>
        have z : [u].filter (Cm07.wanted wk j) = [] := by simp [c]
        rw [z, List.append_nil]
        exact if_false_of rfl (m.skip e2)
      | true =>
        have z : [u].filter (Cm07.wanted wk j) = [u] := by simp [c]
        rw [z, List.map_append]
        exact if_true_of rfl ⟨_, rfl, m.push hD1 e2 (few _ _ f1)⟩
    · intro H2 m
      rw [List.length_map, List.take_length] at m
      refine ⟨D1, _, rfl, .inl ⟨SqL.of m.2, fun p4 hn4 => ?_⟩⟩
      have s4 := same_new (o := .tup ((st.regs.filter (Cm07.wanted wk j)).map nv)) hn4
      have e4 := m.1.trans s4
      refine ⟨_, rfl, t, _, _, _, rfl, rfl, SqT.of (e4 _ _ h1), atI_nat (j := 1) rfl, a, rfl, ⟨_, SqT.of (e4 _ _ h3)⟩, fun D2 hD2 => ?_⟩
      refine lc_tup (K := K) (a := a) (xs := st.away.map nv) (fun i H' => Mk (upd H2 p4 (.tup ((st.regs.filter (Cm07.wanted wk j)).map nv))) D2 (((st.away.take i).filter (Cm07.wanted wk j)).map nv) H') (.zero hD2) ?_ ?_ ?_
      · intro i H' _ m'
        exact SqT.of (m'.1 _ _ (e4 _ _ h3))
      · intro i y H' hi m'
        obtain ⟨u, hu, rfl⟩ := at_map hi
        refine ⟨rfl, _, rfl, _, rfl, _, rfl, ss, ts, wk.steps, u, j, rfl, (W.keep e4).keep m'.1, hj, fun H3 e3 => ⟨_, rfl, ?_⟩⟩
        rw [wanted_fu, take_more hu, List.filter_append]
        cases c : Cm07.wanted wk j u with
        | false =>
          have z : [u].filter (Cm07.wanted wk j) = [] := by simp [c]
          rw [z, List.append_nil]
          exact if_false_of rfl (m'.skip e3)
        | true =>
          have z : [u].filter (Cm07.wanted wk j) = [u] := by simp [c]
          rw [z, List.map_append]
          exact if_true_of rfl ⟨_, rfl, m'.push hD2 e3 (few _ _ f2)⟩
      · intro H3 m'
        rw [List.length_map, List.take_length] at m'
        refine ⟨D2, _, rfl, .inl ⟨SqL.of m'.2, fun p5 hn5 => ?_⟩⟩
        have s5 := same_new (o := .tup ((st.away.filter (Cm07.wanted wk j)).map nv)) hn5
        have e5 := (e4.trans m'.1).trans s5
        refine ⟨_, rfl, _, rfl, _, rfl, t, _, _, _, rfl, rfl, SqT.of (e5 _ _ h1), atI_nat (j := 2) rfl, (by show 3 ≤ sizeLine; decide), fun p6 hn6 => ?_⟩
        have s6 := same_new (o := .tup [.ref p4, .ref p5, nv st.price]) hn6
        exact k _ p6 (e5.trans s6) ⟨p4, p5, upd_same, s6 _ _ (s5 _ _ (m'.1 _ _ upd_same)), s6 _ _ upd_same⟩
theorem scToLet : FnScope ["work", "way", "value", "left", "put"] ["work", "way", "value"] (scOf 63) := ⟨rfl, rfl, rfl, by decide +kernel, rfl, by decide +kernel, by decide +kernel⟩
theorem ok_toLet (D : Ds K mg) (T : Txt K mg C CC) : FnOk P w K mg base CX0 3 D.toLet.f D.toLet.fd ["work", "way", "value"] (spToLet C) := by
  refine D.toLet.F.ok scToLet (fun vs H Q E h => ?_) (fun cdv A outer s H vs Q E hr h => ?_)
  · obtain ⟨x, t, dx, ss, ts, w, s, v, rfl, _⟩ := h
    rfl
  · obtain ⟨x, t, dx, ss, ts, wk, st, v, rfl, W, hw, S, hv, k⟩ := h
    refine ⟨_, pss_cons (ps_set (i := 3) scToLet.nd rfl (.inl rfl) (pcall D.noHeld (ok_noHeld D T) hr rfl (pa_cons (pv 1) (pa_cons (pv 2) pa_nil))))
      (pss_cons (ps_if (pt_cmpR op_in_seq (pv 2) (pe_ix ix_tup (pv 1) pe_int (fun _ _ => rfl)) (by rfl)) (pss_one (ps_ret (pe_lst (pa_cons (pv 3) pa_nil)))) pss_nil)
      (pss_cons (ps_set (i := 4) scToLet.nd rfl (.inl rfl) (pcall D.withAway (ok_withAway D T) hr rfl (pa_cons (pv 3) (pa_cons (pv 2) (pa_cons (pe_fld (pv 0) rfl) pa_nil)))))
      (pss_cons (ps_if (pt_cmpR op_in_seq (pv 2) (pcall D.nums (ok_nums D T) hr rfl (pa_cons (pe_fld (pv 0) rfl) pa_nil)) (by rfl)) (pss_one (ps_ret (pe_lst (pa_cons (pv 4) (pa_cons (pv 3) pa_nil))))) pss_nil)
      (pss_one (ps_ret (pe_lst (pa_cons (pv 4) pa_nil))))))), ?_⟩
    have hw' := hw
    obtain ⟨r, a, h1, h2, h3⟩ := hw'
    refine ⟨_, rfl, _, rfl, t, st, v, rfl, hw, S, fun H1 p1 e1 hw1 => ?_⟩
    refine ⟨_, rfl, _, rfl, t, _, _, _, rfl, rfl, SqT.of (e1 _ _ h1), atI_nat (j := 1) rfl, a, _, rfl, .inr (SqT.of (e1 _ _ h3)), rfl, flat_nats _, _, rfl, ?_⟩
    show if inV (nv v) (st.away.map nv) = true then _ else _
    rw [in_nats]
    by_cases c1 : v ∈ st.away
    · refine if_true_of (decide_eq_true c1) ⟨_, rfl, (by show 1 ≤ sizeLine; decide), fun p hp => ?_⟩
      have e : pLet wk st v = [{ st with regs := st.regs.filter fun x => !(x == v) }] := if_pos c1
      rw [e] at k
      exact k _ p (e1.trans (same_new hp)) (e1.free hp) ⟨[p1], upd_same, .cons (hw1.same (same_new hp)) .nil⟩
    refine if_false_of (decide_eq_false c1) ?_
    have W1 := W.keep e1
    refine ⟨_, rfl, _, rfl, _, rfl, x, C, dx, _, _, rfl, W1.obj, T.cl, T.nP, wF_put, p1, _, v, wk.put, rfl, hw1, S.regsF _, c1, fun H2 p2 e2 hw2 => ?_⟩
    have e12 := e1.trans e2
    have W2 := W.keep e12
    refine ⟨_, rfl, _, rfl, x, C, dx, _, _, rfl, W2.obj, T.cl, T.nS, wF_ste, ss, ts, _, rfl, W2.st, fun H3 p3 e3 hp3 hp3' => ?_⟩
    have e13 := e12.trans e3
    refine ⟨p3, _, rfl, .inl (SqL.of hp3'), rfl, flat_nats _, _, rfl, ?_⟩
    show if inV (nv v) ((numsL wk.steps).map nv) = true then _ else _
    rw [in_nats]
    by_cases c2 : Cm07.isNumber wk v = true
    · refine if_true_of (decide_eq_true (numsL_all.mpr c2)) ⟨_, rfl, _, rfl, (by show 2 ≤ sizeLine; decide), fun p hp => ?_⟩
      have e : pLet wk st v = [{ st with regs := st.regs.filter fun x => !(x == v), away := Cm07.insert v st.away, price := st.price + wk.put }, { st with regs := st.regs.filter fun x => !(x == v) }] := by
        unfold pLet
        rw [if_neg c1, if_pos c2]
      rw [e] at k
      exact k _ p (e13.trans (same_new hp)) (e13.free hp) ⟨[p2, p1], upd_same, .cons ((hw2.same e3).same (same_new hp)) (.cons (((hw1.same e2).same e3).same (same_new hp)) .nil)⟩
    · refine if_false_of (decide_eq_false fun z => c2 (numsL_all.mp z)) ⟨_, rfl, (by show 1 ≤ sizeLine; decide), fun p hp => ?_⟩
      have e : pLet wk st v = [{ st with regs := st.regs.filter fun x => !(x == v), away := Cm07.insert v st.away, price := st.price + wk.put }] := by
        unfold pLet
        rw [if_neg c1, if_neg c2]
      rw [e] at k
      exact k _ p (e13.trans (same_new hp)) (e13.free hp) ⟨[p2], upd_same, .cons ((hw2.same e3).same (same_new hp)) .nil⟩
theorem scWRoom : FnScope ["work", "way", "kept", "ways", "value"] ["work", "way", "kept"] (scOf 64) := ⟨rfl, rfl, rfl, by decide +kernel, rfl, by decide +kernel, by decide +kernel⟩
theorem ok_wroom (D : Ds K mg) (T : Txt K mg C CC) : FnOk P w K mg base CX0 4 D.wroom.f D.wroom.fd ["work", "way", "kept"] (spWRoom C) := by
  refine D.wroom.F.ok scWRoom (fun vs H Q E h => ?_) (fun cdv A outer s H vs Q E hr h => ?_)
  · obtain ⟨x, t, q, dx, ss, ts, w, s, kept, rfl, _⟩ := h
    rfl
  · obtain ⟨x, t, q, dx, ss, ts, wk, st, kept, rfl, W, hw, S, hq, k⟩ := h
    refine ⟨_, pss_cons (ps_if (pt_cmpR op_lt (pe_callB call_len_seq (by rfl) T.len PySem.boot_len (pa_cons (pe_ix ix_tup (pv 1) pe_int (fun _ _ => rfl)) pa_nil)) (pe_fld (pv 0) rfl) (nomark _)) (pss_one (ps_ret (pe_lst (pa_cons (pv 1) pa_nil)))) pss_nil)
      (pss_cons (ps_set (i := 3) scWRoom.nd rfl (.inl rfl) (pe_lst pa_nil))
      (pss_cons (ps_for PassesOwn.never rfl (pi_tup (pe_ix ix_tup (pv 1) pe_int (fun _ _ => rfl))) (pg_name (i := 4) scWRoom.nd rfl (.inl rfl))
        (pss_one (ps_if (pt_cmpR op_notIn_seq (pv 4) (pv 2) (by rfl)) (pss_one (ps_expr (pe_bm PySem.F.plainAttrs_list PySem.F.slot_list_extend PySem.F.type_list_extend mt_extend (pv 3) (pa_cons (pcall D.toLet (ok_toLet D T) hr rfl (pa_cons (pv 0) (pa_cons (pv 1) (pa_cons (pv 4) pa_nil)))) pa_nil)))) pss_nil)))
      (pss_one (ps_ret (pv 3))))), ?_⟩
    have hw' := hw
    obtain ⟨r, a, h1, h2, h3⟩ := hw'
    have f1 := up_few S.ru S.rl
    refine ⟨_, rfl, t, _, _, _, rfl, rfl, SqT.of h1, atI_nat (j := 0) rfl, r, _, rfl, .inr (SqT.of h2), _, rfl, x, C, dx, _, _, rfl, W.obj, T.cl, T.nR, wF_reg, _, _, rfl, rfl, _, rfl, ?_⟩
    have hlen : (st.regs.map nv).length = st.regs.length := List.length_map _
    by_cases c : st.regs.length < wk.regs
    · refine if_true_of (decide_eq_true (by omega)) ⟨_, rfl, (by show 1 ≤ sizeLine; decide), fun p hp => ?_⟩
      have e : pRoom wk kept st = [st] := if_pos c
      rw [e] at k
      exact k _ p (same_new hp) hp ⟨[t], upd_same, .cons (hw.same (same_new hp)) .nil⟩
    · refine if_false_of (decide_eq_false (by omega)) ?_
      have e : pRoom wk kept st = st.regs.flatMap (pLets wk st kept) := if_neg c
      rw [e] at k
      refine ⟨by show 0 ≤ sizeLine; decide, fun p hp => ?_⟩
      have s1 := same_new (o := .lst []) hp
      refine ⟨_, rfl, t, _, _, _, rfl, rfl, SqT.of (s1 _ _ h1), atI_nat (j := 0) rfl, r, rfl, ⟨_, SqT.of (s1 _ _ h2)⟩, ?_⟩
      refine for_tup (K := K) (a := r) (xs := st.regs.map nv) (fun i σ H' => ∃ v : Option V, σ = [some (.ref x), some (.ref t), some (.ref q), some (.ref p), v] ∧ MkW H p ((st.regs.take i).flatMap (pLets wk st kept)) H') ?_ ?_ ?_ ?_
      · exact ⟨none, rfl, .zero hp⟩
      · rintro i σ H' _ ⟨v, _, m⟩
        exact SqT.of (m.1 _ _ h2)
      · rintro i y σ H' hi ⟨v, rfl, m⟩
        obtain ⟨u, hu, rfl⟩ := at_map hi
        have hum : u ∈ st.regs := List.mem_of_getElem? hu
        refine ⟨_, rfl, _, rfl, q, _, rfl, .inl (SqL.of (m.1 _ _ hq)), rfl, flat_nats _, _, rfl, ?_⟩
        show if (!inV (nv u) (kept.map nv)) = true then _ else _
        rw [in_nats]
        have em : (st.regs.take (i + 1)).flatMap (pLets wk st kept) = (st.regs.take i).flatMap (pLets wk st kept) ++ pLets wk st kept u := by
          rw [take_more hu, List.flatMap_append]
          simp
        rw [em]
        by_cases c2 : u ∈ kept
        · rw [decide_eq_true c2]
          have e2 : pLets wk st kept u = [] := if_pos c2
          rw [e2, List.append_nil]
          exact if_false_of rfl ⟨_, rfl, m⟩
        · rw [decide_eq_false c2]
          have e2 : pLets wk st kept u = pLet wk st u := if_neg c2
          rw [e2]
          have m' := m
          obtain ⟨_, ws, hws, _⟩ := m'
          refine if_true_of rfl ⟨_, rfl, .inl ⟨rfl, _, SqL.of hws⟩, _, rfl, _, rfl, _, rfl, x, t, dx, ss, ts, wk, st, u, rfl, W.keep m.1, hw.same m.1, S, hum, fun H2 p2 e2' hp2 hw2 => ?_⟩
          have fl := flat_len (pLets wk st kept) 2 (pLets_len wk st kept) (st.regs.take i)
          have fl2 := pLet_len wk st u
          have fl3 : (st.regs.take i).length ≤ 10 := by
            rw [List.length_take]
            omega
          obtain ⟨xs, zs, g1, g2, g3, g4⟩ := m.more hp e2' hw2 (by rw [sizeLine_eq]; omega)
          exact ⟨p, p2, xs, zs, rfl, rfl, g1, g2, g3, _, rfl, g4⟩
      · rintro σ H' ⟨v, rfl, m⟩
        rw [List.length_map, List.take_length] at m
        exact ⟨_, rfl, k H' p m.1 hp m.2⟩
theorem scToBring : FnScope ["work", "way", "value", "prices"] ["work", "way", "value"] (scOf 65) := ⟨rfl, rfl, rfl, by decide +kernel, rfl, by decide +kernel, by decide +kernel⟩
theorem ok_toBring (D : Ds K mg) (T : Txt K mg C CC) : FnOk P w K mg base CX0 3 D.toBring.f D.toBring.fd ["work", "way", "value"] (spToBring C) := by
  refine D.toBring.F.ok scToBring (fun vs H Q E h => ?_) (fun cdv A outer s H vs Q E hr h => ?_)
  · obtain ⟨x, t, dx, ss, ts, w, s, v, rfl, _⟩ := h
    rfl
  · obtain ⟨x, t, dx, ss, ts, wk, st, v, rfl, W, hw, hav, k⟩ := h
    refine ⟨_, pss_cons (ps_set (i := 3) scToBring.nd rfl (.inl rfl) (pe_lst pa_nil))
      (pss_cons (ps_if (pt_cmpR op_in_seq (pv 2) (pe_ix ix_tup (pv 1) pe_int (fun _ _ => rfl)) (by rfl)) (pss_one (ps_expr (pe_bm PySem.F.plainAttrs_list PySem.F.slot_list_append PySem.F.type_list_append mt_append (pv 3) (pa_cons (pe_fld (pv 0) rfl) pa_nil)))) pss_nil)
      (pss_cons (ps_if (pt_cmpR op_in_seq (pv 2) (pcall D.nums (ok_nums D T) hr rfl (pa_cons (pe_fld (pv 0) rfl) pa_nil)) (by rfl)) (pss_one (ps_expr (pe_bm PySem.F.plainAttrs_list PySem.F.slot_list_append PySem.F.type_list_append mt_append (pv 3) (pa_cons (pe_fld (pv 0) rfl) pa_nil)))) pss_nil)
      (pss_one (ps_ret (pe_callB (cr_min rfl) (by rfl) T.mn (by decide +kernel) (pa_cons (pv 3) pa_nil)))))), ?_⟩
    obtain ⟨r, a, h1, h2, h3⟩ := hw
    refine ⟨by show 0 ≤ sizeLine; decide, fun p hp => ?_⟩
    have s1 := same_new (o := .lst []) hp
    -- the rest, with the list l at p
    have fin : ∀ (H1 : Hp) (l : List Nat), Same H H1 → H1 p = some (.lst (l.map nv)) → (l = [] ∨ l = [wk.get]) → ((v ∈ st.away ∧ l = [wk.get]) ∨ (v ∉ st.away ∧ l = [])) →
        tSeq (tIfS (tTest (tOp (rIn K false) (tVar 2) (tCall spNums [] E0 (tCons (tFld K (tVar 0) "steps") tNil)))) (tDrop (tBM K "list" rAppend (tVar 3) (tCons (tFld K (tVar 0) "again_price") tNil))) tNext) (tRet (tCB (rMin K) (tCons (tVar 3) tNil)))
          { nx := fun _ H' => Q .non H', rt := Q } [some (.ref x), some (.ref t), some (nv v), some (.ref p)] H1 := fun H1 l e1 hl hl2 hc => by
      have W1 := W.keep e1
      refine ⟨_, rfl, _, rfl, x, C, dx, _, _, rfl, W1.obj, T.cl, T.nS, wF_ste, ss, ts, _, rfl, W1.st, fun H2 p2 e2 hp2 hp2' => ?_⟩
      have W2 := W1.keep e2
      refine ⟨p2, _, rfl, .inl (SqL.of hp2'), rfl, flat_nats _, _, rfl, ?_⟩
      show if inV (nv v) ((numsL wk.steps).map nv) = true then _ else _
      rw [in_nats]
      by_cases c2 : Cm07.isNumber wk v = true
      · refine if_true_of (decide_eq_true (numsL_all.mpr c2)) ?_
        refine ⟨_, rfl, .inl ⟨rfl, _, SqL.of (e2 _ _ hl)⟩, _, rfl, x, C, dx, _, _, rfl, W2.obj, T.cl, T.nA, wF_aga, p, _, _, rfl, rfl, e2 _ _ hl, ?_, ?_⟩
        · rw [List.length_map]
          rcases hl2 with z | z <;> rw [z] <;> exact small1000 (by simp)
        · have hp3 : upd H2 p (.lst (l.map nv ++ [nv wk.again])) p = some (.lst (((l ++ [wk.again]).map fun (n : Nat) => (n : Int)).map V.int)) := by
            rw [upd_same, ← nv_ints, List.map_append]
            rfl
          refine ⟨_, rfl, p, _, rfl, SqL.of hp3, by simp, fun m hm hmn => ?_⟩
          have e3 : Same H (upd H2 p (.lst (l.map nv ++ [nv wk.again]))) := fun b o q => by
            rw [upd_ne (ne_of_none q hp)]
            exact e2 _ _ (e1 _ _ q)
          have q := k _ e3
          have em : ((pCost wk st v : Nat) : Int) = m := by
            rcases hc with ⟨z, rfl⟩ | ⟨z, rfl⟩
            · have a1 := hmn wk.get (by simp)
              have a2 := hmn wk.again (by simp)
              have a3 : m = wk.get ∨ m = wk.again := by simpa using hm
              unfold pCost
              rw [if_pos z, if_pos c2]
              omega
            · have a3 : m = wk.again := by simpa using hm
              unfold pCost
              rw [if_neg z, a3]
          rw [← em]
          exact q
      · refine if_false_of (decide_eq_false fun z => c2 (numsL_all.mp z)) ?_
        have hz : v ∈ st.away := hav.resolve_right c2
        have hl' : l = [wk.get] := by
          rcases hc with ⟨_, z⟩ | ⟨z, _⟩
          · exact z
          · exact absurd hz z
        subst hl'
        have hp3 : H2 p = some (.lst ((([wk.get] : List Nat).map fun (n : Nat) => (n : Int)).map V.int)) := by
          rw [← nv_ints]
          exact e2 _ _ hl
        refine ⟨_, rfl, p, _, rfl, SqL.of hp3, by simp, fun m hm hmn => ?_⟩
        have q := k _ (e1.trans e2)
        have a3 : m = wk.get := by simpa using hm
        have em : ((pCost wk st v : Nat) : Int) = m := by
          unfold pCost
          rw [if_pos hz, if_neg c2, a3]
        rw [← em]
        exact q
    refine ⟨_, rfl, _, rfl, t, _, _, _, rfl, rfl, SqT.of (s1 _ _ h1), atI_nat (j := 1) rfl, a, _, rfl, .inr (SqT.of (s1 _ _ h3)), rfl, flat_nats _, _, rfl, ?_⟩
    show if inV (nv v) (st.away.map nv) = true then _ else _
    rw [in_nats]
    by_cases c1 : v ∈ st.away
    · refine if_true_of (decide_eq_true c1) ?_
      refine ⟨_, rfl, .inl ⟨rfl, _, SqL.of upd_same⟩, _, rfl, x, C, dx, _, _, rfl, s1 _ _ W.obj, T.cl, T.nG, wF_get, p, _, _, rfl, rfl, upd_same, (by show 0 < sizeLine; decide), ?_⟩
      rw [upd_upd]
      exact fin _ [wk.get] (same_new hp) upd_same (.inr rfl) (.inl ⟨c1, rfl⟩)
    · refine if_false_of (decide_eq_false c1) ?_
      exact fin _ [] s1 upd_same (.inl rfl) (.inr ⟨c1, rfl⟩)
end
end Pb
namespace Pb
open PySem PySem.Spec PyProof.Rows L2
open Cm07 (Sit)
theorem pRoom_len {w : Cm07.Work} {s : Sit} {kept : List Nat} (h : s.regs.length ≤ 10) : (pRoom w kept s).length ≤ 20 := by
  unfold pRoom
  split
  · simp
  · have := flat_len (pLets w s kept) 2 (pLets_len w s kept) s.regs
    omega
theorem pRoom_len8 {w : Cm07.Work} {s : Sit} {kept : List Nat} (h : s.regs.length ≤ 4) : (pRoom w kept s).length ≤ 8 := by
  unfold pRoom
  split
  · simp
  · have := flat_len (pLets w s kept) 2 (pLets_len w s kept) s.regs
    omega
theorem pBring_len {w : Cm07.Work} {v : Nat} {s : Sit} {kept : List Nat} (h : s.regs.length ≤ 4) : (pBring w v kept s).length ≤ 8 := by
  unfold pBring
  split
  · simp
  · rw [List.length_map]
    exact pRoom_len8 h
theorem pStep_len {w : Cm07.Work} {j : Nat} {s : Sit} (h : s.regs.length ≤ 4) : (pStep w j s).length ≤ 8 := by
  unfold pStep
  split
  · simp
  · rw [List.length_map]
    refine pRoom_len8 (Nat.le_trans ?_ h)
    exact List.length_filter_le _ _
/-! ### cheapest -/
def Ky (s : Sit) : List Nat × List Nat := (s.regs, s.away)
structure Chp (ss out : List Sit) : Prop where
  sub : ∀ t ∈ out, t ∈ ss
  best : ∀ s ∈ ss, ∃ t ∈ out, Lb.Best t s
  nd : (out.map Ky).Nodup
  len : out.length ≤ ss.length
/-- the dict behind some ways -/
structure ChE (ss : List Sit) (es : List Ent) : Prop where
  sub : ∀ e ∈ es, e.1 ∈ ss
  best : ∀ s ∈ ss, ∃ e ∈ es, Lb.Best e.1 s
  nd : (es.map fun e => Ky e.1).Nodup
  len : es.length ≤ ss.length
theorem valP_some {es : List Ent} {s : Sit} {n : Nat} (h : valP es s = some n) : ∃ e ∈ es, Lk e.1 s ∧ e.1.price = n := by
  unfold valP at h
  obtain ⟨e, he, rfl⟩ := Option.map_eq_some_iff.mp h
  exact ⟨e, List.mem_of_find?_eq_some he, by simpa using List.find?_some he, rfl⟩
theorem valP_none {es : List Ent} {s : Sit} (h : valP es s = none) : ∀ e ∈ es, ¬ Lk e.1 s := by
  unfold valP at h
  have h' : es.find? (fun e => decide (Lk e.1 s)) = none := by
    cases q : es.find? (fun e => decide (Lk e.1 s)) with
    | none => rfl
    | some e =>
      rw [q] at h
      cases h
  intro e he
  have := List.find?_eq_none.mp h' e he
  simpa using this
theorem ChE.zero : ChE [] [] := ⟨fun e h => (by cases h), fun s h => (by cases h), List.nodup_nil, Nat.le_refl _⟩
/-- a way that is dearer -/
theorem ChE.skip {ss : List Sit} {es : List Ent} {s : Sit} {n : Nat} (c : ChE ss es) (h : valP es s = some n) (hn : n ≤ s.price) : ChE (ss ++ [s]) es := by
  obtain ⟨e, he, lk, rfl⟩ := valP_some h
  refine ⟨fun e he => List.mem_append_left _ (c.sub e he), fun t ht => ?_, c.nd, by rw [List.length_append]; exact Nat.le_succ_of_le c.len⟩
  rcases List.mem_append.mp ht with ht | ht
  · exact c.best t ht
  · rw [List.mem_singleton.mp ht]
    exact ⟨e, he, lk.1, lk.2, hn⟩
/-- a new one -/
theorem ChE.add {ss : List Sit} {es : List Ent} {s : Sit} {b : Addr} (c : ChE ss es) (h : valP es s = none) : ChE (ss ++ [s]) (putP es s b) := by
  have hno := valP_none h
  have e1 : putP es s b = es ++ [(s, b)] := by
    unfold putP
    rw [h]
  rw [e1]
  refine ⟨fun e he => ?_, fun t ht => ?_, ?_, ?_⟩
  · rcases List.mem_append.mp he with he | he
    · exact List.mem_append_left _ (c.sub e he)
    · rw [List.mem_singleton.mp he]
      exact List.mem_append_right _ (List.mem_singleton.mpr rfl)
  · rcases List.mem_append.mp ht with ht | ht
    · obtain ⟨e, he, bb⟩ := c.best t ht
      exact ⟨e, List.mem_append_left _ he, bb⟩
    · rw [List.mem_singleton.mp ht]
      exact ⟨(s, b), List.mem_append_right _ (List.mem_singleton.mpr rfl), .refl s⟩
  · rw [List.map_append]
    refine List.nodup_append.mpr ⟨c.nd, by simp, fun x hx y hy z => ?_⟩
    obtain ⟨e, he, rfl⟩ := List.mem_map.mp hx
    simp only [List.map_cons, List.map_nil, List.mem_singleton] at hy
    rw [hy] at z
    have z1 : e.1.regs = s.regs := congrArg Prod.fst z
    have z2 : e.1.away = s.away := congrArg Prod.snd z
    exact hno e he ⟨z1, z2⟩
  · rw [List.length_append, List.length_append]
    have := c.len
    simp
    omega
theorem ky_rep (s : Sit) (e : Ent) : Ky (repP s e).1 = Ky e.1 := by
  unfold repP
  split <;> rfl
/-- a cheaper one -/
theorem ChE.better {ss : List Sit} {es : List Ent} {s : Sit} {b : Addr} {n : Nat} (c : ChE ss es) (h : valP es s = some n) (hn : s.price < n) : ChE (ss ++ [s]) (putP es s b) := by
  have e1 : putP es s b = es.map (repP s) := by
    unfold putP
    rw [h]
  rw [e1]
  refine ⟨fun e he => ?_, fun t ht => ?_, ?_, ?_⟩
  · obtain ⟨f, hf, rfl⟩ := List.mem_map.mp he
    unfold repP
    by_cases lk : Lk f.1 s
    · rw [if_pos lk]
      refine List.mem_append_right _ (List.mem_singleton.mpr ?_)
      show (⟨f.1.regs, f.1.away, s.price⟩ : Sit) = s
      rw [lk.1, lk.2]
    · rw [if_neg lk]
      exact List.mem_append_left _ (c.sub f hf)
  · have key : ∀ t : Sit, (∃ e ∈ es, Lb.Best e.1 t) → ∃ e ∈ es.map (repP s), Lb.Best e.1 t := by
      rintro t ⟨e, he, b1, b2, b3⟩
      refine ⟨repP s e, List.mem_map.mpr ⟨e, he, rfl⟩, ?_⟩
      unfold repP
      by_cases lk : Lk e.1 s
      · rw [if_pos lk]
        refine ⟨b1, b2, ?_⟩
        show s.price ≤ t.price
        have hv : e.1.price = n := by
          obtain ⟨e', he', lk', rfl⟩ := valP_some h
          have : e = e' := by
            have i1 := List.mem_iff_getElem.mp he
            have i2 := List.mem_iff_getElem.mp he'
            obtain ⟨i, hi, rfl⟩ := i1
            obtain ⟨j, hj, rfl⟩ := i2
            have z : (es.map fun e => Ky e.1)[i]'(by simpa using hi) = (es.map fun e => Ky e.1)[j]'(by simpa using hj) := by
              simp only [List.getElem_map]
              show ((es[i]).1.regs, (es[i]).1.away) = ((es[j]).1.regs, (es[j]).1.away)
              rw [lk.1, lk.2, lk'.1, lk'.2]
            have ij := (List.getElem_inj c.nd).mp z
            subst ij
            rfl
          rw [this]
        omega
      · rw [if_neg lk]
        exact ⟨b1, b2, b3⟩
    rcases List.mem_append.mp ht with ht | ht
    · exact key t (c.best t ht)
    · rw [List.mem_singleton.mp ht]
      obtain ⟨e, he, lk, _⟩ := valP_some h
      refine ⟨repP s e, List.mem_map.mpr ⟨e, he, rfl⟩, ?_⟩
      unfold repP
      rw [if_pos lk]
      exact ⟨lk.1, lk.2, Nat.le_refl _⟩
  · rw [List.map_map]
    have : (fun e => Ky e.1) ∘ repP s = fun e => Ky e.1 := by
      funext e
      exact ky_rep s e
    rw [this]
    exact c.nd
  · rw [List.length_map, List.length_append]
    exact Nat.le_succ_of_le c.len
theorem putP_keys {H : Hp} {es : List Ent} {s : Sit} {b : Addr} (k : KeysIn H es) (hb : KeyAt H b s) : KeysIn H (putP es s b) := by
  intro e he
  unfold putP at he
  split at he
  · rcases List.mem_append.mp he with he | he
    · exact k e he
    · rw [List.mem_singleton.mp he]
      exact hb
  · obtain ⟨f, hf, rfl⟩ := List.mem_map.mp he
    unfold repP
    by_cases lk : Lk f.1 s
    · rw [if_pos lk]
      obtain ⟨r, a, h1, h2, h3⟩ := k f hf
      exact ⟨r, a, h1, h2, h3⟩
    · rw [if_neg lk]
      exact k f hf
theorem KeysIn.tups {H H' : Hp} {es : List Ent} (k : KeysIn H es) (e : ∀ b xs, H b = some (.tup xs) → H' b = some (.tup xs)) : KeysIn H' es := fun x hx => (k x hx).same e
def spCheap : Sp := fun vs H Q _ => ∃ (l : Addr) (ss : List Sit), vs = [.ref l] ∧ WaysIn H l ss ∧ ss.length < sizeLine ∧ ∀ (H' : Hp) (p : Addr) (out : List Sit), Same H H' → H p = none → WaysIn H' p out → Chp ss out → Q (.ref p) H'
section
variable {P : Program} {w : World} {K : PySem.W.Frag} {mg : Str → Option Value} {base : Heap} {C CC : Addr}
theorem scCheap : FnScope ["ways", "prices", "held", "away", "price", "state"] ["ways"] (scOf 58) := ⟨rfl, rfl, rfl, by decide +kernel, rfl, by decide +kernel, by decide +kernel⟩
theorem ok_cheap (D : Ds K mg) (T : Txt K mg C CC) : FnOk P w K mg base CX0 1 D.cheap.f D.cheap.fd ["ways"] spCheap := by
  refine D.cheap.F.ok scCheap (fun vs H Q E h => ?_) (fun cdv A outer s H vs Q E hr h => ?_)
  · obtain ⟨l, ss, rfl, _⟩ := h
    rfl
  · obtain ⟨l, ss, rfl, hw, hz, k⟩ := h
    refine ⟨_, pss_cons (ps_set (i := 1) scCheap.nd rfl (.inl rfl) pe_ndnew)
      (pss_cons (ps_for PassesOwn.never rfl (pi_list (pv 0)) (pg_tup rfl (pgs_cons (pg_name (i := 2) scCheap.nd rfl (.inl rfl)) (pgs_cons (pg_name (i := 3) scCheap.nd rfl (.inl rfl)) (pgs_cons (pg_name (i := 4) scCheap.nd rfl (.inl rfl)) pgs_nil))))
        (pss_one (ps_if (PW.pt (pw_or (pt_cmp (pc_ndnotin hr.units (pe_tup (pa_cons (pv 2) (pa_cons (pv 3) pa_nil))) (pv 1))) (pw_or1 (pt_cmpR op_lt (pv 4) (pe_ndget hr.units (pv 1) (pe_tup (pa_cons (pv 2) (pa_cons (pv 3) pa_nil))) (fun _ _ => rfl)) (nomark _)))))
          (pss_one (ps_ndput hr.units (pv 1) (pe_tup (pa_cons (pv 2) (pa_cons (pv 3) pa_nil))) (pv 4) rfl)) pss_nil)))
      (pss_one (ps_ret (pe_lock (pe_lc (own := [("state", 5), ("price", 4)]) (g := gTup K 2 (gCons (gName 5) (gCons (gName 4) gNil))) (tt := tYes) (te := tTup (tCons (tOp (rIxT K) (tVar 5) (tC (.int 0))) (tCons (tOp (rIxT K) (tVar 5) (tC (.int 1))) (tCons (tVar 4) tNil)))) rfl scCheap.nd (pi_nd (pv 1)) (blkOk_by (own := [("state", 5), ("price", 4)]) (N := ["ways", "prices", "held", "away", "price", "state"]) (sc := scOf 58) (by decide +kernel))
        (fun _ _ _ _ _ => pg_tup rfl (pgs_cons (pg_name (i := 5) scCheap.nd rfl (Or.inl rfl)) (pgs_cons (pg_name (i := 4) scCheap.nd rfl (Or.inl rfl)) pgs_nil)))
        (fun _ _ _ _ _ => pts_nil) (fun _ _ _ _ _ => pe_tup (pa_cons (pe_ix ix_tup (pv 5) pe_int (fun _ _ => rfl)) (pa_cons (pe_ix ix_tup (pv 5) pe_int (fun _ _ => rfl)) (pa_cons (pv 4) pa_nil))))))))), ?_⟩
    obtain ⟨xs, hxs, hxl, hat⟩ := hw.at
    refine fun p hp => ?_
    have s0 := same_new (o := NdO P w p []) hp
    refine ⟨_, rfl, l, rfl, ⟨_, SqL.of (s0 _ _ hxs)⟩, ?_⟩
    have tupP : ∀ {H1 : Hp} {es : List Ent} (u : HO), H1 p = some (NdO P w p es) → ∀ b zs, H1 b = some (.tup zs) → upd H1 p u b = some (.tup zs) := fun {H1 es} u h1 b zs e => by
      rw [upd_ne (ne_of e h1 (by intro z; cases z))]
      exact e
    refine for_list (K := K) (a := l) (xs := xs) (fun i σ H' => ∃ (v2 v3 v4 : Option V) (es : List Ent), σ = [some (.ref l), some (.ref p), v2, v3, v4, none] ∧ Same H H' ∧ H' p = some (NdO P w p es) ∧ KeysIn H' es ∧ ChE (ss.take i) es) ?_ ?_ ?_ ?_
    · exact ⟨none, none, none, [], rfl, s0, upd_same, fun e h => (by cases h), ChE.zero⟩
    · rintro i σ H' _ ⟨_, _, _, _, _, e, _⟩
      exact SqL.of (e _ _ hxs)
    · rintro i y σ H' hi ⟨v2, v3, v4, es, rfl, e, hd, ks, ch⟩
      obtain ⟨t, st, rfl, hst, hway⟩ := hat i y hi
      obtain ⟨r, a, h1, h2, h3⟩ := hway
      have hfew : es.length < sizeLine := by
        have h4 := ch.len
        rw [List.length_take] at h4
        omega
      have em := take_more hst
      refine ⟨t, _, rfl, SqT.of (e _ _ h1), rfl, _, _, rfl, _, _, rfl, _, _, rfl, rfl, ?_⟩
      -- a key made
      have key : ∀ {H1 : Hp} {q : Addr}, Same H' H1 → H1 q = none → Same H1 (upd H1 q (.tup [.ref r, .ref a])) ∧ NdAt P w (upd H1 q (.tup [.ref r, .ref a])) p es ∧ KeyAt (upd H1 q (.tup [.ref r, .ref a])) q st := fun {H1 q} e1 hq => by
        have s1 := same_new (o := .tup [.ref r, .ref a]) hq
        have e2 := e1.trans s1
        exact ⟨s1, ⟨e2 _ _ hd, ks.tups fun b xs z => e2 _ _ z⟩, r, a, upd_same, e2 _ _ (e _ _ h2), e2 _ _ (e _ _ h3)⟩
      -- the store
      have put : ∀ {H1 : Hp}, Same H' H1 → ChE (ss.take (i + 1)) (putP es st (0 : Addr)) ∨ True → (∀ b, ChE (ss.take (i + 1)) (putP es st b)) →
          sNdPut P w (tVar 1) (tTup (tCons (tVar 2) (tCons (tVar 3) tNil))) (tVar 4) { nx := fun σ H' => ∃ (v2 v3 v4 : Option V) (es : List Ent), σ = [some (.ref l), some (.ref p), v2, v3, v4, none] ∧ Same H H' ∧ H' p = some (NdO P w p es) ∧ KeysIn H' es ∧ ChE (ss.take (i + 1)) es, rt := Q, bk := fun σ H' => True, ct := fun _ _ => True }
            [some (.ref l), some (.ref p), some (.ref r), some (.ref a), some (nv st.price), none] H1 := fun {H1} e1 _ hch => by
        refine ⟨_, rfl, _, rfl, _, rfl, _, rfl, (by show 2 ≤ sizeLine; decide), fun q hq => ?_⟩
        obtain ⟨s1, nd, ka⟩ := key e1 hq
        refine ⟨p, q, es, st, rfl, rfl, rfl, nd, ka, hfew, _, _, _, putP es st q, rfl, fun b o z => ?_, upd_same, ?_, hch q⟩
        · rw [upd_ne (ne_of_none z hp)]
          exact s1 _ _ (e1 _ _ (e _ _ z))
        · exact (putP_keys nd.2 ka).tups (tupP _ nd.1)
      refine ⟨_, rfl, _, rfl, (by show 2 ≤ sizeLine; decide), fun q hq => ⟨_, rfl, ?_⟩⟩
      obtain ⟨s1, nd, ka⟩ := key (.refl _) hq
      refine ⟨p, q, es, st, rfl, rfl, nd, ka, _, rfl, ?_⟩
      cases hv : valP es st with
      | none =>
        refine if_true_of rfl (if_true_of rfl ?_)
        exact put s1 (.inr trivial) fun b => by rw [em]; exact ch.add hv
      | some n =>
        refine if_false_of rfl ?_
        refine ⟨_, rfl, _, rfl, _, rfl, _, rfl, (by show 2 ≤ sizeLine; decide), fun q2 hq2 => ?_⟩
        obtain ⟨s2, nd2, ka2⟩ := key s1 hq2
        refine ⟨p, q2, es, st, n, rfl, rfl, nd2, ka2, hv, _, _, rfl, rfl, _, rfl, ?_⟩
        by_cases c : st.price < n
        · refine if_true_of (decide_eq_true (by omega)) ?_
          exact put (s1.trans s2) (.inr trivial) fun b => by rw [em]; exact ch.better hv c
        · refine if_false_of (decide_eq_false (by omega)) ?_
          refine ⟨_, _, _, es, rfl, (e.trans s1).trans s2, nd2.1, nd2.2, ?_⟩
          rw [em]
          exact ch.skip hv (by omega)
    · rintro σ H2 ⟨v2, v3, v4, es, rfl, e, hd, ks, ch⟩
      rw [hxl, List.take_length] at ch
      refine ⟨p, _, hd, trivial, fun od => ?_⟩
      have hks := ks.tups (tupP (.frz od (NdO P w p es)) hd)
      refine ⟨_, rfl, p, od, es, rfl, upd_same, fun D1 hD1 => ?_⟩
      have hDp : D1 ≠ p := fun z => by
        rw [z, upd_same] at hD1
        cases hD1
      have hfew : es.length < sizeLine := Nat.lt_of_le_of_lt ch.len hz
      refine lc_it walk_nd (fun i H' => MkW (upd H2 p (.frz od (NdO P w p es))) D1 ((es.take i).map (·.1)) H') (.zero hD1) ?_ ?_ ?_
      · intro i H' _ m
        exact m.1 _ _ upd_same
      · intro i x H3 H4 hi m hy
        obtain ⟨t, en, hen, rfl, hn, rfl⟩ := hy
        obtain ⟨r, a, h1, h2, h3⟩ := hks en (List.mem_of_getElem? hen)
        have s3 := same_new (o := .tup [.ref en.2, nv en.1.price]) hn
        have e3 := m.1.trans s3
        refine ⟨t, _, rfl, SqT.of upd_same, rfl, _, _, rfl, _, _, rfl, rfl, rfl, ?_⟩
        refine ⟨_, rfl, en.2, _, _, _, rfl, rfl, SqT.of (e3 _ _ h1), atI_nat (j := 0) rfl, _, rfl, en.2, _, _, _, rfl, rfl, SqT.of (e3 _ _ h1), atI_nat (j := 1) rfl, _, rfl, (by show 3 ≤ sizeLine; decide), fun p5 hn5 => ?_⟩
        have s5 := same_new (o := .tup [.ref r, .ref a, nv en.1.price]) hn5
        rw [take_more hen, List.map_append]
        refine m.push hD1 (s3.trans s5) ⟨r, a, upd_same, s5 _ _ (e3 _ _ h2), s5 _ _ (e3 _ _ h3)⟩ ?_
        rw [List.length_map, List.length_take]
        omega
      · intro H' m
        rw [List.take_length] at m
        obtain ⟨m1, ts', hts, hpr⟩ := m
        refine ⟨m1 _ _ upd_same, ?_⟩
        have tp : ∀ b zs, H' b = some (.tup zs) → upd H' p (NdO P w p es) b = some (.tup zs) := fun b zs z => by
          rw [upd_ne (ne_of z (m1 _ _ upd_same) (by intro z; cases z))]
          exact z
        refine k _ D1 (es.map (·.1)) (fun b o z => ?_) ?_ ⟨ts', ?_, pr_map hpr fun _ _ z => z.tups tp⟩ ⟨fun t ht => ?_, fun s hs => ?_, ?_, ?_⟩
        · rw [upd_ne (ne_of_none z hp)]
          refine m1 _ _ ?_
          rw [upd_ne (ne_of_none z hp)]
          exact e _ _ z
        · rw [upd_ne hDp] at hD1
          exact e.free hD1
        · rw [upd_ne hDp]
          exact hts
        · obtain ⟨en, hen, rfl⟩ := List.mem_map.mp ht
          exact ch.sub en hen
        · obtain ⟨en, hen, bb⟩ := ch.best s hs
          exact ⟨en.1, List.mem_map.mpr ⟨en, hen, rfl⟩, bb⟩
        · rw [List.map_map]
          exact ch.nd
        · rw [List.length_map]
          exact ch.len
end
end Pb
namespace Pb
open PySem PySem.Spec PyProof.Rows L2
open Cm07 (Sit)
section
variable {P : Program} {w : World} {K : PySem.W.Frag} {mg : Str → Option Value} {base : Heap} {C CC : Addr}
theorem scBringL : FnScope ["work", "way", "value", "kept", "price", "room"] ["work", "way", "value", "kept"] (scOf 66) := ⟨rfl, rfl, rfl, by decide +kernel, rfl, by decide +kernel, by decide +kernel⟩
theorem ok_bringL (D : Ds K mg) (T : Txt K mg C CC) : FnOk P w K mg base CX0 5 D.bringL.f D.bringL.fd ["work", "way", "value", "kept"] (spBringL C) := by
  refine D.bringL.F.ok scBringL (fun vs H Q E h => ?_) (fun cdv A outer s H vs Q E hr h => ?_)
  · obtain ⟨x, t, q, dx, ss, ts, w, s, v, kept, rfl, _⟩ := h
    rfl
  · obtain ⟨x, t, q, dx, ss, ts, wk, st, v, kept, rfl, W, hw, S, hq, hav, k⟩ := h
    refine ⟨_, pss_cons (ps_if (pt_cmpR op_in_seq (pv 2) (pe_ix ix_tup (pv 1) pe_int (fun _ _ => rfl)) (by rfl)) (pss_one (ps_ret (pe_lst (pa_cons (pv 1) pa_nil)))) pss_nil)
      (pss_cons (ps_set (i := 4) scBringL.nd rfl (.inr rfl) (pcall D.toBring (ok_toBring D T) hr rfl (pa_cons (pv 0) (pa_cons (pv 1) (pa_cons (pv 2) pa_nil)))))
      (pss_one (ps_ret (pe_lc (own := [("room", 5)]) (g := gName 5) (tt := tYes) (te := tCall spWithHeld [] E0 (tCons (tVar 5) (tCons (tVar 2) (tCons (tVar 4) tNil)))) rfl scBringL.nd (pi_list (pcall D.wroom (ok_wroom D T) hr rfl (pa_cons (pv 0) (pa_cons (pv 1) (pa_cons (pv 3) pa_nil))))) (blkOk_by (own := [("room", 5)]) (N := ["work", "way", "value", "kept", "price", "room"]) (sc := scOf 66) (by decide +kernel))
        (fun _ _ _ _ _ => pg_name (i := 5) scBringL.nd rfl (Or.inl rfl)) (fun _ _ _ _ _ => pts_nil) (fun _ _ _ _ _ => pcall D.withHeld (ok_withHeld D T) hr rfl (pa_cons (pv 5) (pa_cons (pv 2) (pa_cons (pv 4) pa_nil)))))))), ?_⟩
    have hw' := hw
    obtain ⟨r, a, h1, h2, h3⟩ := hw'
    have f1 := up_few S.ru S.rl
    refine ⟨_, rfl, _, rfl, t, _, _, _, rfl, rfl, SqT.of h1, atI_nat (j := 0) rfl, r, _, rfl, .inr (SqT.of h2), rfl, flat_nats _, _, rfl, ?_⟩
    show if inV (nv v) (st.regs.map nv) = true then _ else _
    rw [in_nats]
    by_cases c1 : v ∈ st.regs
    · refine if_true_of (decide_eq_true c1) ⟨_, rfl, (by show 1 ≤ sizeLine; decide), fun p hp => ?_⟩
      have e : pBring wk v kept st = [st] := if_pos c1
      rw [e] at k
      exact k _ p (same_new hp) hp ⟨[t], upd_same, .cons (hw.same (same_new hp)) .nil⟩
    refine if_false_of (decide_eq_false c1) ?_
    have e : pBring wk v kept st = (pRoom wk kept st).map (pHold v (pCost wk st v)) := if_neg c1
    rw [e] at k
    refine ⟨_, rfl, _, rfl, _, rfl, x, t, dx, ss, ts, wk, st, v, rfl, W, hw, hav.resolve_left c1, fun H1 e1 => ?_⟩
    refine ⟨_, rfl, _, rfl, _, rfl, x, t, q, dx, ss, ts, wk, st, kept, rfl, W.keep e1, hw.same e1, S, e1 _ _ hq, fun H2 p2 e2 hp2 hw2 => ?_⟩
    obtain ⟨xs, hxs, hxl, hat⟩ := hw2.at
    have e12 := e1.trans e2
    have hrl := pRoom_len (w := wk) (kept := kept) f1
    refine ⟨p2, rfl, ⟨_, SqL.of hxs⟩, fun D1 hD1 => ?_⟩
    refine lc_list (K := K) (a := p2) (xs := xs) (fun i H' => MkW H2 D1 (((pRoom wk kept st).take i).map (pHold v (pCost wk st v))) H') (.zero hD1) ?_ ?_ ?_
    · intro i H' _ m
      exact SqL.of (m.1 _ _ hxs)
    · intro i y H' hi m
      obtain ⟨t2, st2, rfl, hst2, hw3⟩ := hat i y hi
      obtain ⟨S2, sub2, _⟩ := S.room st2 (List.mem_of_getElem? hst2)
      refine ⟨rfl, _, rfl, _, rfl, _, rfl, t2, st2, v, pCost wk st v, rfl, hw3.same m.1, S2, fun z => c1 (sub2 v z), fun H3 p3 e3 hw4 => ?_⟩
      rw [take_more hst2, List.map_append]
      refine m.push hD1 e3 hw4 ?_
      rw [List.length_map, List.length_take, sizeLine_eq]
      omega
    · intro H' m
      rw [hxl, List.take_length] at m
      exact k H' D1 (e12.trans m.1) (e12.free hD1) m.2
theorem scDoStep : FnScope ["work", "way", "at", "rest", "value", "rooms", "room"] ["work", "way", "at"] (scOf 69) := ⟨rfl, rfl, rfl, by decide +kernel, rfl, by decide +kernel, by decide +kernel⟩
theorem tidy_in {wk : Cm07.Work} {j : Nat} {s : Sit} (S : SitIn s) : SitIn (Cm07.tidy wk j s) := S.filter _ _ _
theorem ok_doStep (D : Ds K mg) (T : Txt K mg C CC) : FnOk P w K mg base CX0 5 D.doStep.f D.doStep.fd ["work", "way", "at"] (spDoStep C) := by
  refine D.doStep.F.ok scDoStep (fun vs H Q E h => ?_) (fun cdv A outer s H vs Q E hr h => ?_)
  · obtain ⟨x, t, dx, ss, ts, w, s, j, rfl, _⟩ := h
    rfl
  · obtain ⟨x, t, dx, ss, ts, wk, st, j, rfl, W, hw, S, hj, hlt, k⟩ := h
    refine ⟨_, pss_cons (ps_set (i := 3) scDoStep.nd rfl (.inl rfl) (pcall D.still (ok_still D T) hr rfl (pa_cons (pe_fld (pv 0) rfl) (pa_cons (pv 1) (pa_cons (pe_op op_add (pv 2) pe_int) pa_nil)))))
      (pss_cons (ps_if (pt_not (pt_val (pcall D.gives (ok_gives D T) hr rfl (pa_cons (pe_ix ix_list (pe_fld (pv 0) rfl) (pv 2) (fun _ _ => rfl)) pa_nil)))) (pss_one (ps_ret (pe_lst (pa_cons (pv 3) pa_nil)))) pss_nil)
      (pss_cons (ps_set (i := 4) scDoStep.nd rfl (.inr rfl) (pcall D.vals (ok_vals D T) hr rfl (pa_cons (pe_slice sl_list (pe_fld (pv 0) rfl) po_none (po_some (pv 2))) pa_nil)))
      (pss_cons (ps_set (i := 5) scDoStep.nd rfl (.inl rfl) (pcall D.wroom (ok_wroom D T) hr rfl (pa_cons (pv 0) (pa_cons (pv 3) (pa_cons (pe_lst pa_nil) pa_nil)))))
      (pss_one (ps_ret (pe_lc (own := [("room", 6)]) (g := gName 6) (tt := tYes) (te := tCall spStill [] E0 (tCons (tFld K (tVar 0) "steps") (tCons (tCall spWithHeld [] E0 (tCons (tVar 6) (tCons (tVar 4) (tCons (tC (.int 0)) tNil)))) (tCons (tOp rAdd (tVar 2) (tC (.int 1))) tNil)))) rfl scDoStep.nd (pi_list (pv 5)) (blkOk_by (own := [("room", 6)]) (N := ["work", "way", "at", "rest", "value", "rooms", "room"]) (sc := scOf 69) (by decide +kernel))
        (fun _ _ _ _ _ => pg_name (i := 6) scDoStep.nd rfl (Or.inl rfl)) (fun _ _ _ _ _ => pts_nil) (fun _ _ _ _ _ => pcall D.still (ok_still D T) hr rfl (pa_cons (pe_fld (pv 0) rfl) (pa_cons (pcall D.withHeld (ok_withHeld D T) hr rfl (pa_cons (pv 6) (pa_cons (pv 4) (pa_cons pe_int pa_nil)))) (pa_cons (pe_op op_add (pv 2) pe_int) pa_nil)))))))))), ?_⟩
    have hf := W.st.few
    obtain ⟨tt, ht1, htt⟩ := W.st.ix (step_ix hj)
    have ej : ∀ j : Nat, V.int ((j : Int) + 1) = nv (j + 1) := fun j => rfl
    refine ⟨_, rfl, x, C, dx, _, _, rfl, W.obj, T.cl, T.nS, wF_ste, _, rfl, _, rfl, _, _, rfl, rfl, ss, t, ts, wk, st, j + 1, rfl, W.st, hw, S, by omega, fun H1 p1 e1 hw1 => ?_⟩
    have W1 := W.keep e1
    refine ⟨_, rfl, x, C, dx, _, _, rfl, W1.obj, T.cl, T.nS, wF_ste, _, rfl, ss, _, _, _, rfl, rfl, SqL.of W1.st.st, atI_nat ht1, tt, _, rfl, e1 _ _ htt, _, rfl, ?_⟩
    cases g : (Cm07.stepAt wk j).gives with
    | false =>
      refine if_true_of rfl ⟨_, rfl, (by show 1 ≤ sizeLine; decide), fun p hp => ?_⟩
      have e : pStep wk j st = [Cm07.tidy wk (j + 1) st] := if_pos g
      rw [e] at k
      exact k _ p (e1.trans (same_new hp)) (e1.free hp) ⟨[p1], upd_same, .cons (hw1.same (same_new hp)) .nil⟩
    | true =>
      refine if_false_of rfl ?_
      have e : pStep wk j st = (pRoom wk [] (Cm07.tidy wk (j + 1) st)).map fun r => Cm07.tidy wk (j + 1) (pHold (Cm07.valueOf wk j) 0 r) := if_neg (by rw [g]; decide)
      rw [e] at k
      refine ⟨_, rfl, x, C, dx, _, _, rfl, W1.obj, T.cl, T.nS, wF_ste, _, rfl, _, rfl, ss, _, rfl, SqL.of W1.st.st, fun p2 hp2 => ?_⟩
      have s2 := same_new (o := .lst (cutV (ts.map V.ref) none (some (j : Int)))) hp2
      refine ⟨p2, _, _, rfl, (W1.st.keep s2).sub 0 j (by rw [upd_same, cut_take]), fun H2 e2 => ?_⟩
      have e12 := (e1.trans s2).trans e2
      have hv : given ((wk.steps.drop 0).take j) = Cm07.valueOf wk j := rfl
      rw [hv]
      have hw2 := (hw1.same s2).same e2
      refine ⟨_, rfl, _, rfl, (by show 0 ≤ sizeLine; decide), fun p3 hp3 => ?_⟩
      have s3 := same_new (o := .lst []) hp3
      have e13 := e12.trans s3
      have S1 : SitIn (Cm07.tidy wk (j + 1) st) := tidy_in S
      have f1 := up_few S1.ru S1.rl
      refine ⟨x, p1, p3, dx, ss, ts, wk, _, [], rfl, W.keep e13, hw2.same s3, S1, upd_same, fun H4 p4 e4 hp4 hw4 => ?_⟩
      have e14 := e13.trans e4
      obtain ⟨xs, hxs, hxl, hat⟩ := hw4.at
      have hrl := pRoom_len (w := wk) (kept := []) f1
      refine ⟨_, rfl, p4, rfl, ⟨_, SqL.of hxs⟩, fun D1 hD1 => ?_⟩
      refine lc_list (K := K) (a := p4) (xs := xs) (fun i H' => MkW H4 D1 (((pRoom wk [] (Cm07.tidy wk (j + 1) st)).take i).map fun r => Cm07.tidy wk (j + 1) (pHold (Cm07.valueOf wk j) 0 r)) H') (.zero hD1) ?_ ?_ ?_
      · intro i H' _ m
        exact SqL.of (m.1 _ _ hxs)
      · intro i y H' hi m
        obtain ⟨t5, st5, rfl, hst5, hw5⟩ := hat i y hi
        obtain ⟨S5, sub5, _⟩ := S1.room st5 (List.mem_of_getElem? hst5)
        have hnew : Cm07.valueOf wk j ∉ st5.regs := fun z => by
          have := hlt _ (List.mem_filter.mp (sub5 _ z)).1
          omega
        have h10 : Cm07.valueOf wk j < 10 := by
          have h1 := Lb.valueOf_succ hj
          rw [g, if_pos rfl] at h1
          have h2 := valueOf_few (w := wk) (j := j + 1) hf
          omega
        have em := e14.trans m.1
        refine ⟨rfl, _, rfl, x, C, dx, _, _, rfl, em _ _ W.obj, T.cl, T.nS, wF_ste, _, rfl, _, rfl, t5, st5, Cm07.valueOf wk j, 0, rfl, hw5.same m.1, S5, hnew, fun H6 p6 e6 hw6 => ?_⟩
        have em6 := em.trans e6
        refine ⟨_, rfl, _, _, rfl, rfl, ss, p6, ts, wk, _, j + 1, rfl, W.st.keep em6, hw6, S5.hold hnew h10, by omega, fun H7 p7 e7 hw7 => ?_⟩
        rw [take_more hst5, List.map_append]
        refine m.push hD1 (e6.trans e7) hw7 ?_
        rw [List.length_map, List.length_take, sizeLine_eq]
        omega
      · intro H' m
        rw [hxl, List.take_length] at m
        exact k H' D1 (e14.trans m.1) (e14.free hD1) m.2
/-! ### all ways -/
def AllIn (w : Cm07.Work) (ss : List Sit) : Prop := ∀ s ∈ ss, SitIn s ∧ s.regs.length ≤ w.regs
def spBringAll (C : Addr) : Sp := fun vs H Q _ => ∃ (x l q dx ss : Addr) (ts : List Addr) (w : Cm07.Work) (ws : List Sit) (v : Nat) (kept : List Nat), vs = [.ref x, .ref l, nv v, .ref q] ∧ WorkIn C H x dx ss ts w ∧ w.regs ≤ 4 ∧ WaysIn H l ws ∧ AllIn w ws ∧ ws.length ≤ 1048576 ∧ H q = some (.lst (kept.map nv)) ∧ (∀ s ∈ ws, v ∈ s.regs ∨ v ∈ s.away ∨ Cm07.isNumber w v = true) ∧
  ∀ (H' : Hp) (p : Addr) (out : List Sit), Same H H' → H p = none → WaysIn H' p out → Chp (ws.flatMap (pBring w v kept)) out → Q (.ref p) H'
def spStepAll (C : Addr) : Sp := fun vs H Q _ => ∃ (x l dx ss : Addr) (ts : List Addr) (w : Cm07.Work) (ws : List Sit) (j : Nat), vs = [.ref x, .ref l, nv j] ∧ WorkIn C H x dx ss ts w ∧ w.regs ≤ 4 ∧ WaysIn H l ws ∧ AllIn w ws ∧ ws.length ≤ 1048576 ∧ j < w.steps.length ∧ (∀ s ∈ ws, ∀ v ∈ s.regs, v < Cm07.valueOf w j) ∧
  ∀ (H' : Hp) (p : Addr) (out : List Sit), Same H H' → H p = none → WaysIn H' p out → Chp (ws.flatMap (pStep w j)) out → Q (.ref p) H'
theorem flat_len' {A B : Type} (f : A → List B) (n : Nat) : ∀ l : List A, (∀ a ∈ l, (f a).length ≤ n) → (l.flatMap f).length ≤ n * l.length
  | [], _ => by simp
  | a :: l, h => by
    have h1 := h a (List.mem_cons_self ..)
    have h2 := flat_len' f n l fun b hb => h b (List.mem_cons_of_mem _ hb)
    rw [List.flatMap_cons, List.length_append, List.length_cons, Nat.mul_succ]
    omega
theorem scBringAll : FnScope ["work", "ways", "value", "kept", "found", "way"] ["work", "ways", "value", "kept"] (scOf 68) := ⟨rfl, rfl, rfl, by decide +kernel, rfl, by decide +kernel, by decide +kernel⟩
theorem ok_bringAll (D : Ds K mg) (T : Txt K mg C CC) : FnOk P w K mg base CX0 6 D.bringAll.f D.bringAll.fd ["work", "ways", "value", "kept"] (spBringAll C) := by
  refine D.bringAll.F.ok scBringAll (fun vs H Q E h => ?_) (fun cdv A outer s H vs Q E hr h => ?_)
  · obtain ⟨x, l, q, dx, ss, ts, w, ws, v, kept, rfl, _⟩ := h
    rfl
  · obtain ⟨x, l, q, dx, ss, ts, wk, ws, v, kept, rfl, W, r4, hw, ai, hz, hq, hav, k⟩ := h
    refine ⟨_, pss_cons (ps_set (i := 4) scBringAll.nd rfl (.inl rfl) (pe_lst pa_nil))
      (pss_cons (ps_for PassesOwn.never rfl (pi_list (pv 1)) (pg_name (i := 5) scBringAll.nd rfl (.inl rfl))
        (pss_one (ps_expr (pe_bm PySem.F.plainAttrs_list PySem.F.slot_list_extend PySem.F.type_list_extend mt_extend (pv 4) (pa_cons (pcall D.bringL (ok_bringL D T) hr rfl (pa_cons (pv 0) (pa_cons (pv 5) (pa_cons (pv 2) (pa_cons (pv 3) pa_nil))))) pa_nil)))))
      (pss_one (ps_ret (pcall D.cheap (ok_cheap D T) hr rfl (pa_cons (pv 4) pa_nil))))), ?_⟩
    refine ⟨by show 0 ≤ sizeLine; decide, fun p hp => ?_⟩
    have s1 := same_new (o := .lst []) hp
    obtain ⟨xs, hxs, hxl, hat⟩ := hw.at
    have hfl : ∀ i, ((ws.take i).flatMap (pBring wk v kept)).length ≤ 8 * 1048576 := fun i => by
      have h1 := flat_len' (pBring wk v kept) 8 (ws.take i) fun s hs => pBring_len (Nat.le_trans (ai s (List.mem_of_mem_take hs)).2 r4)
      have h2 : (ws.take i).length ≤ 1048576 := by
        rw [List.length_take]
        omega
      omega
    refine ⟨_, rfl, l, rfl, ⟨_, SqL.of (s1 _ _ hxs)⟩, ?_⟩
    refine for_list (K := K) (a := l) (xs := xs) (fun i σ H' => ∃ u : Option V, σ = [some (.ref x), some (.ref l), some (nv v), some (.ref q), some (.ref p), u] ∧ MkW H p ((ws.take i).flatMap (pBring wk v kept)) H') ?_ ?_ ?_ ?_
    · exact ⟨none, rfl, .zero hp⟩
    · rintro i σ H' _ ⟨u, _, m⟩
      exact SqL.of (m.1 _ _ hxs)
    · rintro i y σ H' hi ⟨u, rfl, m⟩
      obtain ⟨t, st, rfl, hst, hway⟩ := hat i y hi
      have hsm := List.mem_of_getElem? hst
      have m' := m
      obtain ⟨_, ts', hts, _⟩ := m'
      refine ⟨_, rfl, .inl ⟨rfl, _, SqL.of hts⟩, _, rfl, _, rfl, _, rfl, _, rfl, x, t, q, dx, ss, ts, wk, st, v, kept, rfl, W.keep m.1, hway.same m.1, (ai st hsm).1, m.1 _ _ hq, hav st hsm, fun H2 p2 e2 hp2 hw2 => ?_⟩
      have em : (ws.take (i + 1)).flatMap (pBring wk v kept) = (ws.take i).flatMap (pBring wk v kept) ++ pBring wk v kept st := by
        rw [take_more hst, List.flatMap_append]
        simp
      have hb := pBring_len (w := wk) (v := v) (kept := kept) (Nat.le_trans (ai st hsm).2 r4)
      obtain ⟨ys, zs, g1, g2, g3, g4⟩ := m.more hp e2 hw2 (by have := hfl i; rw [sizeLine_eq]; omega)
      refine ⟨p, p2, ys, zs, rfl, rfl, g1, g2, g3, _, rfl, ?_⟩
      rw [em]
      exact g4
    · rintro σ H' ⟨u, rfl, m⟩
      rw [hxl, List.take_length] at m
      refine ⟨_, rfl, p, _, rfl, m.2, ?_, fun H2 p2 out e2 hp2 hw2 ch => k H2 p2 out (m.1.trans e2) (m.1.free hp2) hw2 ch⟩
      have := hfl ws.length
      rw [List.take_length] at this
      rw [sizeLine_eq]
      omega
theorem scStepAll : FnScope ["work", "ways", "at", "found", "way"] ["work", "ways", "at"] (scOf 70) := ⟨rfl, rfl, rfl, by decide +kernel, rfl, by decide +kernel, by decide +kernel⟩
theorem ok_stepAll (D : Ds K mg) (T : Txt K mg C CC) : FnOk P w K mg base CX0 6 D.stepAll.f D.stepAll.fd ["work", "ways", "at"] (spStepAll C) := by
  refine D.stepAll.F.ok scStepAll (fun vs H Q E h => ?_) (fun cdv A outer s H vs Q E hr h => ?_)
  · obtain ⟨x, l, dx, ss, ts, w, ws, j, rfl, _⟩ := h
    rfl
  · obtain ⟨x, l, dx, ss, ts, wk, ws, j, rfl, W, r4, hw, ai, hz, hj, hlt, k⟩ := h
    refine ⟨_, pss_cons (ps_set (i := 3) scStepAll.nd rfl (.inl rfl) (pe_lst pa_nil))
      (pss_cons (ps_for PassesOwn.never rfl (pi_list (pv 1)) (pg_name (i := 4) scStepAll.nd rfl (.inl rfl))
        (pss_one (ps_expr (pe_bm PySem.F.plainAttrs_list PySem.F.slot_list_extend PySem.F.type_list_extend mt_extend (pv 3) (pa_cons (pcall D.doStep (ok_doStep D T) hr rfl (pa_cons (pv 0) (pa_cons (pv 4) (pa_cons (pv 2) pa_nil)))) pa_nil)))))
      (pss_one (ps_ret (pcall D.cheap (ok_cheap D T) hr rfl (pa_cons (pv 3) pa_nil))))), ?_⟩
    refine ⟨by show 0 ≤ sizeLine; decide, fun p hp => ?_⟩
    have s1 := same_new (o := .lst []) hp
    obtain ⟨xs, hxs, hxl, hat⟩ := hw.at
    have hfl : ∀ i, ((ws.take i).flatMap (pStep wk j)).length ≤ 8 * 1048576 := fun i => by
      have h1 := flat_len' (pStep wk j) 8 (ws.take i) fun s hs => pStep_len (Nat.le_trans (ai s (List.mem_of_mem_take hs)).2 r4)
      have h2 : (ws.take i).length ≤ 1048576 := by
        rw [List.length_take]
        omega
      omega
    refine ⟨_, rfl, l, rfl, ⟨_, SqL.of (s1 _ _ hxs)⟩, ?_⟩
    refine for_list (K := K) (a := l) (xs := xs) (fun i σ H' => ∃ u : Option V, σ = [some (.ref x), some (.ref l), some (nv j), some (.ref p), u] ∧ MkW H p ((ws.take i).flatMap (pStep wk j)) H') ?_ ?_ ?_ ?_
    · exact ⟨none, rfl, .zero hp⟩
    · rintro i σ H' _ ⟨u, _, m⟩
      exact SqL.of (m.1 _ _ hxs)
    · rintro i y σ H' hi ⟨u, rfl, m⟩
      obtain ⟨t, st, rfl, hst, hway⟩ := hat i y hi
      have hsm := List.mem_of_getElem? hst
      have m' := m
      obtain ⟨_, ts', hts, _⟩ := m'
      refine ⟨_, rfl, .inl ⟨rfl, _, SqL.of hts⟩, _, rfl, _, rfl, _, rfl, x, t, dx, ss, ts, wk, st, j, rfl, W.keep m.1, hway.same m.1, (ai st hsm).1, hj, hlt st hsm, fun H2 p2 e2 hp2 hw2 => ?_⟩
      have em : (ws.take (i + 1)).flatMap (pStep wk j) = (ws.take i).flatMap (pStep wk j) ++ pStep wk j st := by
        rw [take_more hst, List.flatMap_append]
        simp
      have hb := pStep_len (w := wk) (j := j) (Nat.le_trans (ai st hsm).2 r4)
      obtain ⟨ys, zs, g1, g2, g3, g4⟩ := m.more hp e2 hw2 (by have := hfl i; rw [sizeLine_eq]; omega)
      refine ⟨p, p2, ys, zs, rfl, rfl, g1, g2, g3, _, rfl, ?_⟩
      rw [em]
      exact g4
    · rintro σ H' ⟨u, rfl, m⟩
      rw [hxl, List.take_length] at m
      refine ⟨_, rfl, p, _, rfl, m.2, ?_, fun H2 p2 out e2 hp2 hw2 ch => k H2 p2 out (m.1.trans e2) (m.1.free hp2) hw2 ch⟩
      have := hfl ws.length
      rw [List.take_length] at this
      rw [sizeLine_eq]
      omega
end
end Pb
/-! the program's search is as good as the specification's; plain Lean -/
namespace Pb
open Cm07 Lb
/-! ### the price is only carried along -/
theorem pLet_up (w : Work) (n v : Nat) (s : Sit) : pLet w (up n s) v = (pLet w s v).map (up n) := by
  unfold pLet up
  by_cases h : v ∈ s.away
  · simp [h]
  · by_cases k : isNumber w v = true
    · simp [h, k, Nat.add_right_comm]
    · simp [h, k, Nat.add_right_comm]
theorem pLets_up (w : Work) (n : Nat) (kept : List Nat) (v : Nat) (s : Sit) : pLets w (up n s) kept v = (pLets w s kept v).map (up n) := by
  unfold pLets
  split
  · rfl
  · exact pLet_up w n v s
theorem pRoom_up (w : Work) (n : Nat) (kept : List Nat) (s : Sit) : pRoom w kept (up n s) = (pRoom w kept s).map (up n) := by
  unfold pRoom
  have e : (up n s).regs = s.regs := rfl
  rw [e]
  split
  · rfl
  · rw [List.map_flatMap]
    congr 1
    funext v
    exact pLets_up w n kept v s
theorem pBring_up (w : Work) (n v : Nat) (kept : List Nat) (s : Sit) : pBring w v kept (up n s) = (pBring w v kept s).map (up n) := by
  unfold pBring
  have e : (up n s).regs = s.regs := rfl
  rw [e]
  split
  · rfl
  · rw [pRoom_up, List.map_map, List.map_map]
    congr 1
    funext r
    show pHold v (pCost w s v) (up n r) = up n (pHold v (pCost w s v) r)
    simp only [pHold, up, Nat.add_right_comm]
theorem pStep_up (w : Work) (n j : Nat) (s : Sit) : pStep w j (up n s) = (pStep w j s).map (up n) := by
  unfold pStep
  have e2 : tidy w (j + 1) (up n s) = up n (tidy w (j + 1) s) := rfl
  rw [e2]
  split
  · rfl
  · rw [pRoom_up, List.map_map, List.map_map]
    congr 1
theorem best_up {t s : Sit} (h : Best t s) : s = up (s.price - t.price) t := by
  obtain ⟨h1, h2, h3⟩ := h
  obtain ⟨r, a, p⟩ := s
  obtain ⟨r', a', p'⟩ := t
  simp only at h1 h2 h3
  subst h1 h2
  unfold up
  simp only [Sit.mk.injEq, true_and]
  omega
theorem best_map {f : Sit → List Sit} (hf : ∀ n s, f (up n s) = (f s).map (up n)) {t s r : Sit} (h : Best t s) (hr : r ∈ f s) : ∃ r' ∈ f t, Best r' r := by
  rw [best_up h, hf] at hr
  obtain ⟨v, hv, rfl⟩ := List.mem_map.mp hr
  exact ⟨v, hv, rfl, rfl, Nat.le_add_right _ _⟩
/-- what is kept of a row of ways -/
theorem chp_best {f : Sit → List Sit} (hf : ∀ n s, f (up n s) = (f s).map (up n)) {ws out : List Sit} (c : Chp (ws.flatMap f) out) {s r : Sit} (h : ∃ t ∈ ws, Best t s) (hr : r ∈ f s) : ∃ t ∈ out, Best t r := by
  obtain ⟨t, ht, b⟩ := h
  obtain ⟨r', hr', b'⟩ := best_map hf b hr
  obtain ⟨u, hu, b2⟩ := c.best r' (List.mem_flatMap.mpr ⟨t, ht, hr'⟩)
  exact ⟨u, hu, b2.trans b'⟩
/-! ### the specification's one is a row of brings and a step -/
/-- one value after another leaves -/
def LV (w : Work) : List Nat → Sit → Sit → Prop
  | [], s, t => t = s
  | v :: vs, s, t => ∃ r ∈ leaves w v s, LV w vs r t
theorem lv_fold {w : Work} : ∀ (vs : List Nat) (ss : List Sit) (t : Sit), t ∈ vs.foldl (fun ss v => ss.flatMap (leaves w v)) ss → ∃ s ∈ ss, LV w vs s t
  | [], ss, t, h => ⟨t, h, rfl⟩
  | v :: vs, ss, t, h => by
    obtain ⟨r, hr, k⟩ := lv_fold vs _ t h
    obtain ⟨s, hs, hsr⟩ := List.mem_flatMap.mp hr
    exact ⟨s, hs, r, hsr, k⟩
theorem choices_sub : ∀ (n : Nat) (l vs : List Nat), vs ∈ choices n l → vs.Sublist l ∧ vs.length = n
  | 0, l, vs, h => by
    have : vs = [] := by
      cases l <;> simpa [choices] using h
    subst this
    exact ⟨List.nil_sublist _, rfl⟩
  | n + 1, [], vs, h => by simp [choices] at h
  | n + 1, a :: l, vs, h => by
    unfold choices at h
    rcases List.mem_append.mp h with h | h
    · obtain ⟨c, hc, rfl⟩ := List.mem_map.mp h
      obtain ⟨h1, h2⟩ := choices_sub n l c hc
      exact ⟨h1.cons_cons a, by simp [h2]⟩
    · obtain ⟨h1, h2⟩ := choices_sub (n + 1) l vs h
      exact ⟨h1.cons a, h2⟩
theorem leaveMany_lv {w : Work} {n : Nat} {l : List Nat} {s t : Sit} (h : t ∈ leaveMany w n l s) : ∃ vs : List Nat, vs.Sublist l ∧ vs.length = n ∧ LV w vs s t := by
  obtain ⟨vs, hv, ht⟩ := List.mem_flatMap.mp h
  obtain ⟨h1, h2⟩ := choices_sub n l vs hv
  obtain ⟨s', hs', k⟩ := lv_fold vs [s] t ht
  rw [List.mem_singleton.mp hs'] at k
  exact ⟨vs, h1, h2, k⟩
theorem leaves_let {w : Work} {v : Nat} {s r : Sit} : r ∈ leaves w v s ↔ r ∈ pLet w s v := by
  unfold leaves pLet
  by_cases h : v ∈ s.away
  · simp [h]
  · by_cases k : isNumber w v = true
    · simp [h, k, or_comm]
    · simp [h, k]
theorem comes_hold (w : Work) (s : Sit) (v : Nat) : comes w s v = pHold v (pCost w s v) s := by
  unfold comes pHold pCost
  simp only [List.contains_eq_mem, decide_eq_true_eq]
theorem leaves_regs {w : Work} {v : Nat} {s r : Sit} (h : r ∈ leaves w v s) : r.regs = s.regs.filter fun x => !(x == v) := by
  rw [leaves_let] at h
  unfold pLet at h
  split at h
  · rw [List.mem_singleton.mp h]
  · split at h
    · rcases List.mem_cons.mp h with rfl | h
      · rfl
      · rw [List.mem_singleton.mp h]
    · rw [List.mem_singleton.mp h]
theorem leaves_away {w : Work} {v u : Nat} {s r : Sit} (h : r ∈ leaves w v s) (hu : u ≠ v) : u ∈ r.away ↔ u ∈ s.away := by
  rw [leaves_let] at h
  unfold pLet at h
  split at h
  · rw [List.mem_singleton.mp h]
  · split at h
    · rcases List.mem_cons.mp h with rfl | h
      · simp [mem_insert, hu]
      · rw [List.mem_singleton.mp h]
    · rw [List.mem_singleton.mp h]
      simp [mem_insert, hu]
theorem cost_leaves {w : Work} {v u : Nat} {s r : Sit} (h : r ∈ leaves w v s) (hu : u ≠ v) : pCost w r u = pCost w s u := by
  unfold pCost
  by_cases c : u ∈ s.away
  · rw [if_pos c, if_pos ((leaves_away h hu).mpr c)]
  · rw [if_neg c, if_neg fun z => c ((leaves_away h hu).mp z)]
theorem up_ext : ∀ {a b : List Nat}, Up a → Up b → (∀ x, x ∈ a ↔ x ∈ b) → a = b
  | [], [], _, _, _ => rfl
  | [], y :: b, _, _, h => absurd ((h y).mpr (List.mem_cons_self ..)) (by simp)
  | x :: a, [], _, _, h => absurd ((h x).mp (List.mem_cons_self ..)) (by simp)
  | x :: a, y :: b, ha, hb, h => by
    obtain ⟨a1, a2⟩ := List.pairwise_cons.mp ha
    obtain ⟨b1, b2⟩ := List.pairwise_cons.mp hb
    have e : x = y := by
      rcases List.mem_cons.mp ((h x).mp (List.mem_cons_self ..)) with z | z
      · exact z
      · rcases List.mem_cons.mp ((h y).mpr (List.mem_cons_self ..)) with z2 | z2
        · exact z2.symm
        · have := b1 x z
          have := a1 y z2
          omega
    subst e
    rw [up_ext a2 b2 fun z => ?_]
    have hz := h z
    simp only [List.mem_cons] at hz
    constructor
    · intro q
      rcases hz.mp (.inr q) with r | r
      · have := a1 z q
        omega
      · exact r
    · intro q
      rcases hz.mpr (.inr q) with r | r
      · have := b1 z q
        omega
      · exact r
theorem insert_filter {u v : Nat} {l : List Nat} (h : Up l) (hu : u ∉ l) (huv : u ≠ v) : (Cm07.insert u l).filter (fun x => !(x == v)) = Cm07.insert u (l.filter fun x => !(x == v)) := by
  refine up_ext ((up_insert h hu).sublist List.filter_sublist) (up_insert (h.sublist List.filter_sublist) fun z => hu (List.mem_filter.mp z).1) fun x => ?_
  rw [mem_without, mem_insert, mem_insert, mem_without]
  constructor
  · rintro ⟨z | z, z2⟩
    · exact .inl z
    · exact .inr ⟨z, z2⟩
  · rintro (z | z)
    · exact ⟨.inl z, fun q => huv (z.symm.trans q)⟩
    · exact ⟨.inr z.1, z.2⟩
theorem let_hold {w : Work} {s r : Sit} {u v c : Nat} (S : SitIn s) (hu : u ∉ s.regs) (huv : u ≠ v) (h : r ∈ pLet w s v) : pHold u c r ∈ pLet w (pHold u c s) v := by
  have e := insert_filter S.ru hu huv
  unfold pLet at h ⊢
  have ea : (pHold u c s).away = s.away := rfl
  rw [ea]
  by_cases h1 : v ∈ s.away
  · rw [if_pos h1] at h ⊢
    rw [List.mem_singleton.mp h]
    refine List.mem_singleton.mpr ?_
    unfold pHold
    simp only [Sit.mk.injEq, and_true, true_and]
    exact e.symm
  · rw [if_neg h1] at h ⊢
    by_cases h2 : isNumber w v = true
    · rw [if_pos h2] at h ⊢
      rcases List.mem_cons.mp h with rfl | h
      · refine List.mem_cons.mpr (.inl ?_)
        unfold pHold
        simp only [Sit.mk.injEq, true_and]
        exact ⟨e.symm, by omega⟩
      · rw [List.mem_singleton.mp h]
        refine List.mem_cons_of_mem _ (List.mem_singleton.mpr ?_)
        unfold pHold
        simp only [Sit.mk.injEq, and_true, true_and]
        exact e.symm
    · rw [if_neg h2] at h ⊢
      rw [List.mem_singleton.mp h]
      refine List.mem_singleton.mpr ?_
      unfold pHold
      simp only [Sit.mk.injEq, true_and]
      exact ⟨e.symm, by omega⟩
theorem lv_comes {w : Work} {u : Nat} : ∀ (vs : List Nat) (s t : Sit), SitIn s → u ∉ s.regs → u ∉ vs → vs.Nodup → (∀ v ∈ vs, v ∈ s.regs) → LV w vs s t → LV w vs (comes w s u) (comes w t u)
  | [], s, t, _, _, _, _, _, h => by
    have h' : t = s := h
    rw [h']
    rfl
  | v :: vs, s, t, S, hu, hv, nd, hm, h => by
    obtain ⟨r, hr, k⟩ := h
    have huv : u ≠ v := fun z => hv (by rw [z]; exact List.mem_cons_self ..)
    obtain ⟨nd1, nd2⟩ := List.nodup_cons.mp nd
    have hvr := hm v (List.mem_cons_self ..)
    obtain ⟨S', er⟩ := S.lets hvr r (leaves_let.mp hr)
    refine ⟨comes w r u, ?_, lv_comes vs r t S' ?_ (fun z => hv (List.mem_cons_of_mem _ z)) nd2 (fun x hx => ?_) k⟩
    · rw [comes_hold, comes_hold, cost_leaves hr huv, leaves_let]
      exact let_hold S hu huv (leaves_let.mp hr)
    · rw [er]
      exact fun z => hu (List.mem_filter.mp z).1
    · rw [er]
      refine mem_without.mpr ⟨hm x (List.mem_cons_of_mem _ hx), fun z => nd1 (z ▸ hx)⟩
/-- brings, one after another -/
def PB (w : Work) (kept : List Nat) : List Nat → Sit → Sit → Prop
  | [], s, t => t = s
  | u :: us, s, t => ∃ r ∈ pBring w u kept s, PB w kept us r t
theorem comes_in {w : Work} {s : Sit} {u : Nat} (S : SitIn s) (hu : u ∉ s.regs) (hl : u < 10) : SitIn (comes w s u) := by
  rw [comes_hold]
  exact S.hold hu hl
theorem comes_len {w : Work} {s : Sit} {u : Nat} (S : SitIn s) (hu : u ∉ s.regs) : (comes w s u).regs.length = s.regs.length + 1 := (insert_nodup (up_nodup S.ru) hu).2
/-- **Where the specification lets go and gets at once, the program does it by and by.** -/
theorem pb_of {w : Work} {kept : List Nat} : ∀ (us vs : List Nat) (s t : Sit), SitIn s → s.regs.length ≤ w.regs → us.Nodup → (∀ u ∈ us, u ∈ kept ∧ u < 10) → vs.Nodup → (∀ v ∈ vs, v ∈ s.regs ∧ v ∉ kept) →
    vs.length = s.regs.length + (us.filter fun u => !s.regs.contains u).length - w.regs → LV w vs s t → PB w kept us s ((us.filter fun u => !s.regs.contains u).foldl (comes w) t)
  | [], vs, s, t, S, hl, _, _, _, _, hn, h => by
    have e : vs = [] := List.eq_nil_of_length_eq_zero (by simp at hn; omega)
    subst e
    exact h
  | u :: us, vs, s, t, S, hl, nd, hu, nv, hv, hn, h => by
    obtain ⟨nd1, nd2⟩ := List.nodup_cons.mp nd
    have hu1 := hu u (List.mem_cons_self ..)
    have hu2 : ∀ x ∈ us, x ∈ kept ∧ x < 10 := fun x hx => hu x (List.mem_cons_of_mem _ hx)
    by_cases c : u ∈ s.regs
    · have e : ((u :: us).filter fun u => !s.regs.contains u) = us.filter fun u => !s.regs.contains u := by simp [c]
      rw [e] at hn ⊢
      refine ⟨s, ?_, pb_of us vs s t S hl nd2 hu2 nv hv hn h⟩
      unfold pBring
      rw [if_pos c]
      exact List.mem_singleton.mpr rfl
    · have e : ((u :: us).filter fun u => !s.regs.contains u) = u :: us.filter fun u => !s.regs.contains u := by simp [c]
      rw [e] at hn ⊢
      rw [List.length_cons] at hn
      rw [List.foldl_cons]
      -- what is missing is the same behind it
      have miss : ∀ r : Sit, (∀ x ∈ us, x ∈ r.regs ↔ x ∈ s.regs) → (us.filter fun u => !r.regs.contains u) = us.filter fun u => !s.regs.contains u := fun r hr => by
        refine List.filter_congr fun x hx => ?_
        have := hr x hx
        by_cases q : x ∈ s.regs
        · simp [q, this.mpr q]
        · have q' : x ∉ r.regs := fun z => q (this.mp z)
          simp [q, q']
      have usne : ∀ x ∈ us, x ≠ u := fun x hx z => nd1 (z ▸ hx)
      by_cases room : s.regs.length < w.regs
      · have er : pBring w u kept s = [comes w s u] := by
          unfold pBring pRoom
          rw [if_neg c, if_pos room, comes_hold]
          rfl
        refine ⟨comes w s u, by rw [er]; exact List.mem_singleton.mpr rfl, ?_⟩
        have em := miss (comes w s u) fun x hx => by
          show x ∈ Cm07.insert u s.regs ↔ _
          rw [mem_insert]
          exact ⟨fun z => z.resolve_left (usne x hx), .inr⟩
        rw [← em]
        have hcl := comes_len (w := w) S c
        refine pb_of us vs (comes w s u) (comes w t u) (comes_in S c hu1.2) (by omega) nd2 hu2 nv (fun v hv' => ⟨?_, (hv v hv').2⟩) ?_ (lv_comes vs s t S c (fun z => (hv u z).2 hu1.1) nv (fun v hv' => (hv v hv').1) h)
        · exact mem_insert.mpr (.inr (hv v hv').1)
        · rw [em]
          omega
      · have hfull : s.regs.length = w.regs := by omega
        cases vs with
        | nil =>
          simp only [List.length_nil] at hn
          omega
        | cons v vs =>
          obtain ⟨r0, hr0, k⟩ := h
          obtain ⟨nv1, nv2⟩ := List.nodup_cons.mp nv
          have hv1 := hv v (List.mem_cons_self ..)
          have huv : u ≠ v := fun z => c (z ▸ hv1.1)
          have hlet := leaves_let.mp hr0
          obtain ⟨S0, er0⟩ := S.lets hv1.1 r0 hlet
          have hu0 : u ∉ r0.regs := fun z => c (by rw [er0] at z; exact (List.mem_filter.mp z).1)
          have hl0 : r0.regs.length + 1 = w.regs := by
            have := length_without (up_nodup S.ru) hv1.1
            rw [er0]
            omega
          have hmem : comes w r0 u ∈ pBring w u kept s := by
            unfold pBring pRoom
            rw [if_neg c, if_neg room, comes_hold, cost_leaves hr0 huv]
            refine List.mem_map.mpr ⟨r0, List.mem_flatMap.mpr ⟨v, hv1.1, ?_⟩, rfl⟩
            unfold pLets
            rw [if_neg hv1.2]
            exact hlet
          refine ⟨comes w r0 u, hmem, ?_⟩
          have em := miss (comes w r0 u) fun x hx => by
            show x ∈ Cm07.insert u r0.regs ↔ _
            rw [mem_insert, er0, mem_without]
            refine ⟨fun z => (z.resolve_left (usne x hx)).1, fun z => .inr ⟨z, fun q => hv1.2 (q ▸ (hu2 x hx).1)⟩⟩
          rw [← em]
          have hcl := comes_len (w := w) S0 hu0
          have hvr : ∀ x ∈ vs, x ∈ r0.regs := fun x hx => by
            rw [er0]
            exact mem_without.mpr ⟨(hv x (List.mem_cons_of_mem _ hx)).1, fun z => nv1 (z ▸ hx)⟩
          refine pb_of us vs (comes w r0 u) (comes w t u) (comes_in S0 hu0 hu1.2) (by omega) nd2 hu2 nv2 (fun x hx => ⟨mem_insert.mpr (.inr (hvr x hx)), (hv x (List.mem_cons_of_mem _ hx)).2⟩) ?_ (lv_comes vs r0 t S0 hu0 (fun z => (hv u (List.mem_cons_of_mem _ z)).2 hu1.1) nv2 hvr k)
          rw [em]
          simp only [List.length_cons] at hn
          omega
theorem pb_snoc {w : Work} {kept : List Nat} : ∀ (us : List Nat) (u : Nat) (s t : Sit), PB w kept (us ++ [u]) s t ↔ ∃ r, PB w kept us s r ∧ t ∈ pBring w u kept r
  | [], u, s, t => by
    constructor
    · rintro ⟨r, hr, h⟩
      have h' : t = r := h
      rw [h']
      exact ⟨s, rfl, hr⟩
    · rintro ⟨r, h, hr⟩
      have h' : r = s := h
      rw [h'] at hr
      exact ⟨t, hr, rfl⟩
  | x :: us, u, s, t => by
    constructor
    · rintro ⟨r, hr, h⟩
      obtain ⟨q, h1, h2⟩ := (pb_snoc us u r t).mp h
      exact ⟨q, ⟨r, hr, h1⟩, h2⟩
    · rintro ⟨q, ⟨r, hr, h1⟩, h2⟩
      exact ⟨r, hr, (pb_snoc us u r t).mpr ⟨q, h1, h2⟩⟩
theorem bring_has {w : Work} {kept : List Nat} {u : Nat} {s t : Sit} (h : t ∈ pBring w u kept s) : u ∈ t.regs := by
  unfold pBring at h
  split at h
  · rename_i c
    rw [List.mem_singleton.mp h]
    exact c
  · obtain ⟨r, _, rfl⟩ := List.mem_map.mp h
    exact mem_insert.mpr (.inl rfl)
/-- from uses to the program's row of them -/
theorem pb_used {w : Work} {st : Step} {kept : List Nat} {s t : Sit} (h : PB w kept st.uses s t) : PB w kept (usedL st) s t := by
  cases st with
  | num k => exact h
  | say a => exact h
  | two o a b =>
    by_cases c : a = b
    · subst c
      have e : (Step.two o a a).uses = [a] := by simp [Step.uses]
      rw [e] at h
      obtain ⟨r, hr, h2⟩ := h
      have h2' : t = r := h2
      refine ⟨r, hr, r, ?_, h2⟩
      have := bring_has hr
      unfold pBring
      rw [if_pos this]
      exact List.mem_singleton.mpr rfl
    · have e : (Step.two o a b).uses = [a, b] := by simp [Step.uses, c]
      rw [e] at h
      exact h
theorem bring_in {w : Work} {kept : List Nat} {u : Nat} {s t : Sit} (S : SitIn s) (hl : s.regs.length ≤ w.regs) (hu : u < 10) (h : t ∈ pBring w u kept s) : SitIn t ∧ t.regs.length ≤ w.regs := by
  unfold pBring at h
  split at h
  · rw [List.mem_singleton.mp h]
    exact ⟨S, hl⟩
  · rename_i c
    obtain ⟨r, hr, rfl⟩ := List.mem_map.mp h
    obtain ⟨S', sub, len⟩ := S.room r hr
    have hn : u ∉ r.regs := fun z => c (sub u z)
    refine ⟨S'.hold hn hu, ?_⟩
    have := (insert_nodup (up_nodup S'.ru) hn).2
    have := len hl
    show (Cm07.insert u r.regs).length ≤ _
    omega
theorem pb_in {w : Work} {kept : List Nat} : ∀ (us : List Nat) (s t : Sit), SitIn s → s.regs.length ≤ w.regs → (∀ u ∈ us, u < 10) → PB w kept us s t → SitIn t ∧ t.regs.length ≤ w.regs
  | [], s, t, S, hl, _, h => by
    have h' : t = s := h
    rw [h']
    exact ⟨S, hl⟩
  | u :: us, s, t, S, hl, hu, h => by
    obtain ⟨r, hr, k⟩ := h
    obtain ⟨S', hl'⟩ := bring_in S hl (hu u (List.mem_cons_self ..)) hr
    exact pb_in us r t S' hl' (fun x hx => hu x (List.mem_cons_of_mem _ hx)) k
theorem uses_kept {st : Step} {u : Nat} : u ∈ st.uses ↔ u ∈ usedL st := mem_usedL.symm
/-- **A step of the specification's search is a row of the program's.** -/
theorem one_prog {w : Work} {j : Nat} {s e : Sit} (S : SitIn s) (hl : s.regs.length ≤ w.regs) (hu : ∀ u ∈ (stepAt w j).uses, u < 10) (he : e ∈ one w j s) : ∃ r, PB w (usedL (stepAt w j)) (usedL (stepAt w j)) s r ∧ e ∈ pStep w j r := by
  obtain ⟨s1, h1, h2⟩ := List.mem_flatMap.mp he
  obtain ⟨vs, v1, v2, v3⟩ := leaveMany_lv h1
  have nd := uses_nodup (stepAt w j)
  have sub : vs.Sublist s.regs := v1.trans List.filter_sublist
  have pb := pb_of (w := w) (kept := usedL (stepAt w j)) (stepAt w j).uses vs s s1 S hl nd (fun u hu' => ⟨uses_kept.mp hu', hu u hu'⟩) ((up_nodup S.ru).sublist sub) (fun v hv => by
    have := List.mem_filter.mp (v1.subset hv)
    refine ⟨this.1, fun z => ?_⟩
    have q : v ∉ (stepAt w j).uses := by simpa using this.2
    exact q (uses_kept.mpr z)) v2 v3
  refine ⟨_, pb_used pb, ?_⟩
  unfold pStep
  simp only at h2
  split at h2
  · rename_i g
    rw [if_pos g]
    exact h2
  · rename_i g
    rw [if_neg g]
    obtain ⟨s2, h3, rfl⟩ := List.mem_map.mp h2
    refine List.mem_map.mpr ⟨s2, ?_, ?_⟩
    · obtain ⟨us, u1, u2, u3⟩ := leaveMany_lv h3
      unfold pRoom
      by_cases room : (tidy w (j + 1) (((stepAt w j).uses.filter fun v => !s.regs.contains v).foldl (comes w) s1)).regs.length < w.regs
      · rw [if_pos room]
        have e0 : us = [] := List.eq_nil_of_length_eq_zero (by omega)
        subst e0
        have u3' : s2 = _ := u3
        rw [u3']
        exact List.mem_singleton.mpr rfl
      · rw [if_neg room]
        obtain ⟨St, hlt⟩ := pb_in _ _ _ S hl (fun u hu' => hu u (uses_kept.mpr hu')) (pb_used pb)
        have hlt2 : (tidy w (j + 1) (((stepAt w j).uses.filter fun v => !s.regs.contains v).foldl (comes w) s1)).regs.length ≤ w.regs := Nat.le_trans (List.length_filter_le _ _) hlt
        have u5 : us.length = 1 := by omega
        obtain ⟨v, rfl⟩ : ∃ v, us = [v] := by
          match us, u5 with
          | [v], _ => exact ⟨v, rfl⟩
        obtain ⟨r, hr, u4⟩ := u3
        have u4' : s2 = r := u4
        refine List.mem_flatMap.mpr ⟨v, u1.subset (List.mem_singleton.mpr rfl), ?_⟩
        unfold pLets
        rw [if_neg (by simp), u4']
        exact leaves_let.mp hr
    · rfl
/-! ### what the program's ways cost -/
theorem let_cases {w : Work} {s r : Sit} {v : Nat} (h : r ∈ pLet w s v) : r.regs = s.regs.filter (fun x => !(x == v)) ∧ ((r.away = s.away ∧ r.price = s.price ∧ (v ∈ s.away ∨ isNumber w v = true)) ∨ (r.away = Cm07.insert v s.away ∧ r.price = s.price + w.put)) := by
  unfold pLet at h
  split at h
  · rename_i c
    rw [List.mem_singleton.mp h]
    exact ⟨rfl, .inl ⟨rfl, rfl, .inl c⟩⟩
  · split at h
    · rename_i c
      rcases List.mem_cons.mp h with rfl | h
      · exact ⟨rfl, .inr ⟨rfl, rfl⟩⟩
      · rw [List.mem_singleton.mp h]
        exact ⟨rfl, .inl ⟨rfl, rfl, .inr c⟩⟩
    · rw [List.mem_singleton.mp h]
      exact ⟨rfl, .inr ⟨rfl, rfl⟩⟩
structure WOk (w : Work) (j : Nat) (us : List Nat) (s : Sit) : Prop where
  inn : SitIn s
  len : s.regs.length ≤ w.regs
  rb : ∀ v ∈ s.regs, v < valueOf w j
  ab : ∀ v ∈ s.away, v < valueOf w j
  av : ∀ v, wanted w j v = true → v < valueOf w j → v ∈ s.regs ∨ v ∈ s.away ∨ isNumber w v = true
  us : ∀ u ∈ us, u ∈ s.regs
  pre : ∀ c, Run w ⟨j, s.regs, s.away⟩ c → Run w ⟨0, [], []⟩ (s.price + c)
theorem run_eq {w : Work} {p : Pl} {c d : Nat} (h : Run w p c) (e : c = d) : Run w p d := e ▸ h
theorem good_of {w : Work} {j : Nat} {s : Sit} {A : List Nat} (S : SitIn s) (hl : s.regs.length ≤ w.regs) : Good w ⟨j, s.regs, A⟩ := ⟨up_nodup S.ru, hl⟩
/-- room is made -/
theorem WOk.room {w : Work} {j : Nat} {us kept : List Nat} {s r : Sit} (h : WOk w j us s) (hk : ∀ u ∈ us, u ∈ kept) (hr : r ∈ pRoom w kept s) : WOk w j us r ∧ r.regs.length < w.regs ∧ (∀ v ∈ r.regs, v ∈ s.regs) ∧ ∀ v ∈ s.away, v ∈ r.away := by
  obtain ⟨S', sub, len⟩ := h.inn.room r hr
  have hl := len h.len
  unfold pRoom at hr
  split at hr
  · rename_i c
    rw [List.mem_singleton.mp hr]
    exact ⟨h, c, fun v z => z, fun v z => z⟩
  · obtain ⟨v, hv, hr⟩ := List.mem_flatMap.mp hr
    unfold pLets at hr
    split at hr
    · cases hr
    · rename_i hvk
      obtain ⟨e, cs⟩ := let_cases hr
      have hsa : ∀ x ∈ s.away, x ∈ r.away := fun x hx => by
        rcases cs with ⟨e2, _⟩ | ⟨e2, _⟩
        · rw [e2]
          exact hx
        · rw [e2]
          exact mem_insert.mpr (.inr hx)
      have hA : ∀ x ∈ r.away, x = v ∨ x ∈ s.away := fun x hx => by
        rcases cs with ⟨e2, _⟩ | ⟨e2, _⟩
        · rw [e2] at hx
          exact .inr hx
        · rw [e2] at hx
          exact mem_insert.mp hx
      refine ⟨⟨S', Nat.le_of_lt hl, fun x hx => h.rb x (sub x hx), fun x hx => ?_, fun x hx hb => ?_, fun u hu => ?_, fun c hc => ?_⟩, hl, sub, hsa⟩
      · rcases hA x hx with z | z
        · rw [z]
          exact h.rb v hv
        · exact h.ab x z
      · rcases h.av x hx hb with z | z | z
        · by_cases q : x = v
          · subst q
            rcases cs with ⟨_, _, q1 | q1⟩ | ⟨e2, _⟩
            · exact .inr (.inl (hsa x q1))
            · exact .inr (.inr q1)
            · exact .inr (.inl (by rw [e2]; exact mem_insert.mpr (.inl rfl)))
          · exact .inl (by rw [e]; exact mem_without.mpr ⟨z, q⟩)
        · exact .inr (.inl (hsa x z))
        · exact .inr (.inr z)
      · rw [e]
        exact mem_without.mpr ⟨h.us u hu, fun z => hvk (z ▸ hk u hu)⟩
      · have gd : Good w ⟨j, r.regs, r.away⟩ := good_of S' (Nat.le_of_lt hl)
        rcases cs with ⟨e2, e3, _⟩ | ⟨e2, e3⟩
        · refine run_eq (h.pre (0 + c) (Run.mv (t := ⟨j, r.regs, r.away⟩) (.drop rfl sub fun x hx => ?_) gd hc)) (by omega)
          have hx' : x ∈ r.away := hx
          rw [e2] at hx'
          exact hx'
        · exact run_eq (h.pre (w.put + c) (Run.mv (t := ⟨j, r.regs, r.away⟩) (.put v rfl hv sub hA) gd hc)) (by omega)
/-- a value is brought -/
theorem WOk.bring {w : Work} {j u : Nat} {us kept : List Nat} {s r : Sit} (h : WOk w j us s) (hk : ∀ x ∈ us, x ∈ kept) (hw : wanted w j u = true) (hb : u < valueOf w j) (h10 : u < 10) (hr : r ∈ pBring w u kept s) : WOk w j (us ++ [u]) r := by
  have hus : ∀ x ∈ us ++ [u], x ∈ us ∨ x = u := fun x hx => by
    rcases List.mem_append.mp hx with z | z
    · exact .inl z
    · exact .inr (List.mem_singleton.mp z)
  have has := bring_has hr
  have hin := bring_in h.inn h.len h10 hr
  unfold pBring at hr
  split at hr
  · rename_i c
    rw [List.mem_singleton.mp hr]
    exact ⟨h.inn, h.len, h.rb, h.ab, h.av, fun x hx => (hus x hx).elim (h.us x) (fun z => by rw [z]; exact c), h.pre⟩
  · rename_i c
    obtain ⟨r0, hr0, rfl⟩ := List.mem_map.mp hr
    obtain ⟨h0, hl0, sub, hsa⟩ := h.room hk hr0
    refine ⟨hin.1, hin.2, fun x hx => ?_, h0.ab, fun x hx hxb => ?_, fun x hx => ?_, fun c' hc => ?_⟩
    · rcases mem_insert.mp hx with z | z
      · omega
      · exact h0.rb x z
    · exact (h0.av x hx hxb).imp (fun z => mem_insert.mpr (.inr z)) id
    · rcases hus x hx with z | z
      · exact mem_insert.mpr (.inr (h0.us x z))
      · rw [z]
        exact has
    · have gd : Good w ⟨j, Cm07.insert u r0.regs, r0.away⟩ := good_of hin.1 hin.2
      have sub2 : ∀ x ∈ Cm07.insert u r0.regs, x = u ∨ x ∈ r0.regs := fun x hx => mem_insert.mp hx
      have get : u ∈ s.away → Run w ⟨0, [], []⟩ (r0.price + (w.get + c')) := fun z => h0.pre _ (Run.mv (t := ⟨j, Cm07.insert u r0.regs, r0.away⟩) (.get u rfl (hsa u z) sub2 fun x hx => hx) gd hc)
      have again : isNumber w u = true → Run w ⟨0, [], []⟩ (r0.price + (w.again + c')) := fun z => h0.pre _ (Run.mv (t := ⟨j, Cm07.insert u r0.regs, r0.away⟩) (.again u rfl z hb sub2 fun x hx => hx) gd hc)
      show Run w ⟨0, [], []⟩ (r0.price + pCost w s u + c')
      unfold pCost
      by_cases ha : u ∈ s.away
      · rw [if_pos ha]
        by_cases hn : isNumber w u = true
        · rw [if_pos hn]
          by_cases q : w.get ≤ w.again
          · exact run_eq (get ha) (by omega)
          · exact run_eq (again hn) (by omega)
        · rw [if_neg hn]
          exact run_eq (get ha) (by omega)
      · rw [if_neg ha]
        have hn : isNumber w u = true := ((h.av u hw hb).resolve_left c).resolve_left ha
        exact run_eq (again hn) (by omega)
theorem tidy_sub {w : Work} {j : Nat} {s : Sit} : (∀ v ∈ (tidy w j s).regs, v ∈ s.regs ∧ wanted w j v = true) ∧ ∀ v ∈ (tidy w j s).away, v ∈ s.away ∧ wanted w j v = true := ⟨fun v hv => List.mem_filter.mp hv, fun v hv => List.mem_filter.mp hv⟩
theorem pStep_room {w : Work} {kept : List Nat} {s r : Sit} (hr : r ∈ pRoom w kept s) : (r = s) ∨ ∃ v ∈ s.regs, r ∈ pLet w s v := by
  unfold pRoom at hr
  split at hr
  · exact .inl (List.mem_singleton.mp hr)
  · obtain ⟨v, hv, hr⟩ := List.mem_flatMap.mp hr
    unfold pLets at hr
    split at hr
    · cases hr
    · exact .inr ⟨v, hv, hr⟩
/-- a step is done -/
theorem WOk.step {w : Work} {j : Nat} {us : List Nat} {s r : Sit} (h : WOk w j us s) (hj : j < w.steps.length) (hf : w.steps.length ≤ 10) (hu : ∀ u ∈ (stepAt w j).uses, u ∈ us) (hr : r ∈ pStep w j s) : WOk w (j + 1) [] r := by
  have ev := valueOf_succ hj
  have hus : ∀ u ∈ (stepAt w j).uses, u ∈ s.regs := fun u hu' => h.us u (hu u hu')
  have v10 := valueOf_few (w := w) (j := j + 1) hf
  unfold pStep at hr
  split at hr
  · rename_i g
    rw [g, if_neg Bool.false_ne_true, Nat.add_zero] at ev
    rw [List.mem_singleton.mp hr]
    obtain ⟨t1, t2⟩ := tidy_sub (w := w) (j := j + 1) (s := s)
    have St : SitIn (tidy w (j + 1) s) := tidy_in h.inn
    have hlt : (tidy w (j + 1) s).regs.length ≤ w.regs := Nat.le_trans (List.length_filter_le _ _) h.len
    refine ⟨St, hlt, fun v hv => by rw [ev]; exact h.rb v (t1 v hv).1, fun v hv => by rw [ev]; exact h.ab v (t2 v hv).1, fun v hv hb => ?_, fun u hu => (by cases hu), fun c hc => ?_⟩
    · rw [ev] at hb
      rcases h.av v (wanted_succ hv) hb with z | z | z
      · exact .inl (List.mem_filter.mpr ⟨z, hv⟩)
      · exact .inr (.inl (List.mem_filter.mpr ⟨z, hv⟩))
      · exact .inr (.inr z)
    · have g1 : Good w ⟨j + 1, (tidy w (j + 1) s).regs, (tidy w (j + 1) s).away⟩ := good_of St hlt
      have g2 : Good w ⟨j + 1, s.regs, s.away⟩ := good_of h.inn h.len
      have r1 : Run w ⟨j + 1, s.regs, s.away⟩ (0 + c) := Run.mv (t := ⟨j + 1, (tidy w (j + 1) s).regs, (tidy w (j + 1) s).away⟩) (.drop rfl (fun v hv => (t1 v hv).1) fun v hv => (t2 v hv).1) g1 hc
      have r2 : Run w ⟨j, s.regs, s.away⟩ (0 + (0 + c)) := Run.mv (t := ⟨j + 1, s.regs, s.away⟩) (.next hj rfl hus (fun v hv => .inl hv) (fun z => by rw [g] at z; cases z) fun v hv => hv) g2 r1
      exact run_eq (h.pre _ r2) (by show s.price + _ = s.price + c; omega)
  · rename_i g0
    have g : (stepAt w j).gives = true := by
      cases q : (stepAt w j).gives with
      | true => rfl
      | false => exact absurd q g0
    rw [g, if_pos rfl] at ev
    obtain ⟨r0, hr0, rfl⟩ := List.mem_map.mp hr
    obtain ⟨t1, t2⟩ := tidy_sub (w := w) (j := j + 1) (s := s)
    have St : SitIn (tidy w (j + 1) s) := tidy_in h.inn
    have hlt : (tidy w (j + 1) s).regs.length ≤ w.regs := Nat.le_trans (List.length_filter_le _ _) h.len
    obtain ⟨S0, sub0, len0⟩ := St.room r0 hr0
    have hl0 := len0 hlt
    have hnew : valueOf w j ∉ r0.regs := fun z => by
      have := h.rb _ (t1 _ (sub0 _ z)).1
      omega
    have S1 : SitIn (pHold (valueOf w j) 0 r0) := S0.hold hnew (by omega)
    have hl1 : (pHold (valueOf w j) 0 r0).regs.length ≤ w.regs := by
      have := (insert_nodup (up_nodup S0.ru) hnew).2
      show (Cm07.insert (valueOf w j) r0.regs).length ≤ _
      omega
    have S2 : SitIn (tidy w (j + 1) (pHold (valueOf w j) 0 r0)) := tidy_in S1
    have hl2 : (tidy w (j + 1) (pHold (valueOf w j) 0 r0)).regs.length ≤ w.regs := Nat.le_trans (List.length_filter_le _ _) hl1
    obtain ⟨p1, p2⟩ := tidy_sub (w := w) (j := j + 1) (s := pHold (valueOf w j) 0 r0)
    -- what of the old ones is there
    have hA : (∀ x ∈ r0.away, x ∈ s.away ∨ x ∈ s.regs) ∧ (∀ x, x ∈ (tidy w (j + 1) s).away → x ∈ r0.away) ∧ (∀ x ∈ (tidy w (j + 1) s).regs, x ∈ r0.regs ∨ x ∈ r0.away ∨ isNumber w x = true) ∧
        ∀ c, Run w ⟨j, s.regs, r0.away⟩ c → Run w ⟨0, [], []⟩ (r0.price + c) := by
      rcases pStep_room hr0 with e | ⟨v, hv, hlet⟩
      · subst e
        refine ⟨fun x hx => .inl (t2 x hx).1, fun x hx => hx, fun x hx => .inl hx, fun c hc => ?_⟩
        exact run_eq (h.pre _ (Run.mv (t := ⟨j, s.regs, (tidy w (j + 1) s).away⟩) (.drop rfl (fun x hx => hx) fun x hx => (t2 x hx).1) (good_of h.inn h.len) hc)) (by show s.price + _ = s.price + c; omega)
      · obtain ⟨e, cs⟩ := let_cases hlet
        have hvs := (t1 v hv).1
        refine ⟨fun x hx => ?_, fun x hx => ?_, fun x hx => ?_, fun c hc => ?_⟩
        · rcases cs with ⟨e2, _⟩ | ⟨e2, _⟩
          · rw [e2] at hx
            exact .inl (t2 x hx).1
          · rw [e2] at hx
            rcases mem_insert.mp hx with z | z
            · exact .inr (by rw [z]; exact hvs)
            · exact .inl (t2 x z).1
        · rcases cs with ⟨e2, _⟩ | ⟨e2, _⟩
          · rw [e2]
            exact hx
          · rw [e2]
            exact mem_insert.mpr (.inr hx)
        · by_cases q : x = v
          · subst q
            rcases cs with ⟨e2, _, q1 | q1⟩ | ⟨e2, _⟩
            · exact .inr (.inl (by rw [e2]; exact q1))
            · exact .inr (.inr q1)
            · exact .inr (.inl (by rw [e2]; exact mem_insert.mpr (.inl rfl)))
          · exact .inl (by rw [e]; exact mem_without.mpr ⟨hx, q⟩)
        · rcases cs with ⟨e2, e3, _⟩ | ⟨e2, e3⟩
          · refine run_eq (h.pre _ (Run.mv (t := ⟨j, s.regs, r0.away⟩) (.drop rfl (fun x hx => hx) fun x hx => ?_) (good_of h.inn h.len) hc)) (by rw [e3]; show s.price + _ = s.price + c; omega)
            have hx' : x ∈ r0.away := hx
            rw [e2] at hx'
            exact (t2 x hx').1
          · refine run_eq (h.pre _ (Run.mv (t := ⟨j, s.regs, r0.away⟩) (.put v rfl hvs (fun x hx => hx) fun x hx => ?_) (good_of h.inn h.len) hc)) (by rw [e3]; show s.price + (w.put + c) = s.price + w.put + c; omega)
            have hx' : x ∈ r0.away := hx
            rw [e2] at hx'
            exact (mem_insert.mp hx').imp id fun z => (t2 x z).1
    obtain ⟨hA1, hA2, hA3, hA4⟩ := hA
    refine ⟨S2, hl2, fun v hv => ?_, fun v hv => ?_, fun v hv hb => ?_, fun u hu => (by cases hu), fun c hc => ?_⟩
    · rcases mem_insert.mp (p1 v hv).1 with z | z
      · omega
      · have := h.rb v (t1 v (sub0 v z)).1
        omega
    · have z : v ∈ r0.away := (p2 v hv).1
      rcases hA1 v z with q | q
      · have := h.ab v q
        omega
      · have := h.rb v q
        omega
    · by_cases q : v = valueOf w j
      · exact .inl (List.mem_filter.mpr ⟨mem_insert.mpr (.inl q), hv⟩)
      · rcases h.av v (wanted_succ hv) (by omega) with z | z | z
        · rcases hA3 v (List.mem_filter.mpr ⟨z, hv⟩) with y | y | y
          · exact .inl (List.mem_filter.mpr ⟨mem_insert.mpr (.inr y), hv⟩)
          · exact .inr (.inl (List.mem_filter.mpr ⟨y, hv⟩))
          · exact .inr (.inr y)
        · exact .inr (.inl (List.mem_filter.mpr ⟨hA2 v (List.mem_filter.mpr ⟨z, hv⟩), hv⟩))
        · exact .inr (.inr z)
    · have g1 : Good w ⟨j + 1, (tidy w (j + 1) (pHold (valueOf w j) 0 r0)).regs, (tidy w (j + 1) (pHold (valueOf w j) 0 r0)).away⟩ := good_of S2 hl2
      have g2 : Good w ⟨j + 1, (pHold (valueOf w j) 0 r0).regs, r0.away⟩ := good_of S1 hl1
      have r1 : Run w ⟨j + 1, (pHold (valueOf w j) 0 r0).regs, r0.away⟩ (0 + c) := Run.mv (t := ⟨j + 1, (tidy w (j + 1) (pHold (valueOf w j) 0 r0)).regs, (tidy w (j + 1) (pHold (valueOf w j) 0 r0)).away⟩) (.drop rfl (fun v hv => (p1 v hv).1) fun v hv => (p2 v hv).1) g1 hc
      have r2 : Run w ⟨j, s.regs, r0.away⟩ (0 + (0 + c)) := Run.mv (t := ⟨j + 1, (pHold (valueOf w j) 0 r0).regs, r0.away⟩) (.next hj rfl hus (fun v hv => by
        rcases mem_insert.mp hv with z | z
        · exact .inr ⟨g, z⟩
        · exact .inl (t1 v (sub0 v z)).1) (fun _ => mem_insert.mpr (.inl rfl)) fun v hv => hv) g2 r1
      exact run_eq (hA4 _ r2) (by show r0.price + _ = r0.price + 0 + c; omega)
/-! ### the rows of ways -/
structure LAt (w : Work) (j : Nat) (ws : List Sit) : Prop where
  ok : ∀ s ∈ ws, WOk w j [] s
  full : ∀ e, Path w j 0 sit0 e → ∃ t ∈ ws, Best t e
  nd : (ws.map Ky).Nodup
  ne : ws ≠ []
structure LMid (w : Work) (j : Nat) (us : List Nat) (ws : List Sit) : Prop where
  ok : ∀ s ∈ ws, WOk w j us s
  full : ∀ e r, Path w j 0 sit0 e → PB w (usedL (stepAt w j)) us e r → ∃ t ∈ ws, Best t r
  pin : ∀ e, Path w j 0 sit0 e → SitIn e ∧ e.regs.length ≤ w.regs
  nd : (ws.map Ky).Nodup
  ne : ws ≠ []
theorem best_in {w : Work} {t e : Sit} (b : Best t e) (S : SitIn t) (hl : t.regs.length ≤ w.regs) : SitIn e ∧ e.regs.length ≤ w.regs := by
  obtain ⟨b1, b2, _⟩ := b
  obtain ⟨r, a, p⟩ := e
  simp only at b1 b2
  subst b1 b2
  exact ⟨⟨S.ru, S.au, S.rl, S.al⟩, hl⟩
theorem LAt.mid {w : Work} {j : Nat} {ws : List Sit} (h : LAt w j ws) : LMid w j [] ws := by
  refine ⟨h.ok, fun e r hp hb => ?_, fun e hp => ?_, h.nd, h.ne⟩
  · have hb' : r = e := hb
    rw [hb']
    exact h.full e hp
  · obtain ⟨t, ht, b⟩ := h.full e hp
    exact best_in b (h.ok t ht).inn (h.ok t ht).len
theorem lat0 {w : Work} : LAt w 0 [⟨[], [], 0⟩] := by
  refine ⟨fun s hs => ?_, fun e he => ?_, by simp, by simp⟩
  · rw [List.mem_singleton.mp hs]
    refine ⟨⟨.nil, .nil, fun v hv => (by cases hv), fun v hv => (by cases hv)⟩, Nat.zero_le _, fun v hv => (by cases hv), fun v hv => (by cases hv), fun v _ hb => ?_, fun u hu => (by cases hu), fun c hc => ?_⟩
    · simp [valueOf] at hb
    · exact run_eq hc (by show c = 0 + c; omega)
  · have he' : e = sit0 := he
    rw [he']
    exact ⟨_, List.mem_singleton.mpr rfl, .refl _⟩
theorem used_few (s : Step) : (usedL s).length ≤ 2 := by
  cases s <;> simp [usedL]
theorem pLet_ne {w : Work} {s : Sit} {v : Nat} : ∃ r, r ∈ pLet w s v := by
  unfold pLet
  split
  · exact ⟨_, List.mem_singleton.mpr rfl⟩
  · split
    · exact ⟨_, List.mem_cons_self ..⟩
    · exact ⟨_, List.mem_singleton.mpr rfl⟩
theorem pRoom_ne {w : Work} {s : Sit} {kept : List Nat} (h : s.regs.length < w.regs ∨ ∃ v ∈ s.regs, v ∉ kept) : ∃ r, r ∈ pRoom w kept s := by
  unfold pRoom
  by_cases c : s.regs.length < w.regs
  · rw [if_pos c]
    exact ⟨s, List.mem_singleton.mpr rfl⟩
  · rw [if_neg c]
    obtain ⟨v, hv, hk⟩ := h.resolve_left c
    obtain ⟨r, hr⟩ := pLet_ne (w := w) (s := s) (v := v)
    refine ⟨r, List.mem_flatMap.mpr ⟨v, hv, ?_⟩⟩
    unfold pLets
    rw [if_neg hk]
    exact hr
theorem chp_ne {f : Sit → List Sit} {ws out : List Sit} (c : Chp (ws.flatMap f) out) (hn : ws ≠ []) (hf : ∀ s ∈ ws, ∃ r, r ∈ f s) : out ≠ [] := by
  cases ws with
  | nil => exact absurd rfl hn
  | cons s ws =>
    obtain ⟨r, hr⟩ := hf s (List.mem_cons_self ..)
    obtain ⟨t, ht, _⟩ := c.best r (List.mem_flatMap.mpr ⟨s, List.mem_cons_self .., hr⟩)
    intro z
    rw [z] at ht
    cases ht
theorem LMid.bring {w : Work} {j u : Nat} {us : List Nat} {ws out : List Sit} (So : Sound w) (hj : j < w.steps.length) (h : LMid w j us ws) (hus : ∀ x ∈ us, x ∈ usedL (stepAt w j)) (hu : u ∈ usedL (stepAt w j)) (c : Chp (ws.flatMap (pBring w u (usedL (stepAt w j)))) out) : LMid w j (us ++ [u]) out := by
  have huse := mem_usedL.mp hu
  have hb := So.val j hj u huse
  have h10 : u < 10 := Nat.lt_of_lt_of_le hb (valueOf_few So.few)
  refine ⟨fun r hr => ?_, fun e r hp hpb => ?_, h.pin, c.nd, chp_ne c h.ne fun s hs => ?_⟩
  · obtain ⟨s, hs, hsr⟩ := List.mem_flatMap.mp (c.sub r hr)
    exact (h.ok s hs).bring hus (wanted_use hj huse) hb h10 hsr
  · obtain ⟨r0, h1, h2⟩ := (pb_snoc us u e r).mp hpb
    exact chp_best (fun n s => pBring_up w n u _ s) c (h.full e r0 hp h1) h2
  · have hs' := h.ok s hs
    unfold pBring
    by_cases q : u ∈ s.regs
    · rw [if_pos q]
      exact ⟨s, List.mem_singleton.mpr rfl⟩
    · rw [if_neg q]
      obtain ⟨r, hr⟩ := pRoom_ne (w := w) (s := s) (kept := usedL (stepAt w j)) (by
        by_cases room : s.regs.length < w.regs
        · exact .inl room
        · refine .inr (Classical.byContradiction fun z => ?_)
          have all : ∀ v ∈ s.regs, v ∈ usedL (stepAt w j) := fun v hv => Classical.byContradiction fun y => z ⟨v, hv, y⟩
          have q1 : (u :: s.regs).length ≤ (usedL (stepAt w j)).length := by
            refine (List.nodup_cons.mpr ⟨q, up_nodup hs'.inn.ru⟩).length_le_of_subset fun x hx => ?_
            rcases List.mem_cons.mp hx with rfl | hx
            · exact hu
            · exact all x hx
          have q2 := used_few (stepAt w j)
          have q3 := So.r2
          rw [List.length_cons] at q1
          omega)
      exact ⟨_, List.mem_map.mpr ⟨r, hr, rfl⟩⟩
theorem path_snoc {w : Work} : ∀ (k j : Nat) (s e : Sit), Path w (k + 1) j s e → ∃ m, Path w k j s m ∧ e ∈ one w (j + k) m
  | 0, j, s, e, h => by
    obtain ⟨t, ht, p⟩ := h
    have p' : e = t := p
    rw [p']
    exact ⟨s, rfl, ht⟩
  | k + 1, j, s, e, h => by
    obtain ⟨t, ht, p⟩ := h
    obtain ⟨m, h1, h2⟩ := path_snoc k (j + 1) t e p
    refine ⟨m, ⟨t, ht, h1⟩, ?_⟩
    rw [show j + (k + 1) = j + 1 + k by omega]
    exact h2
theorem LMid.step {w : Work} {j : Nat} {ws out : List Sit} (So : Sound w) (hj : j < w.steps.length) (h : LMid w j (usedL (stepAt w j)) ws) (c : Chp (ws.flatMap (pStep w j)) out) : LAt w (j + 1) out := by
  refine ⟨fun r hr => ?_, fun e hp => ?_, c.nd, chp_ne c h.ne fun s hs => ?_⟩
  · obtain ⟨s, hs, hsr⟩ := List.mem_flatMap.mp (c.sub r hr)
    exact (h.ok s hs).step hj So.few (fun u hu => mem_usedL.mpr hu) hsr
  · obtain ⟨m, h1, h2⟩ := path_snoc j 0 sit0 e hp
    rw [Nat.zero_add] at h2
    obtain ⟨S, hl⟩ := h.pin m h1
    obtain ⟨r, p1, p2⟩ := one_prog S hl (fun u hu => Nat.lt_of_lt_of_le (So.val j hj u hu) (valueOf_few So.few)) h2
    exact chp_best (fun n s => pStep_up w n j s) c (h.full m r h1 p1) p2
  · unfold pStep
    split
    · exact ⟨_, List.mem_singleton.mpr rfl⟩
    · obtain ⟨r, hr⟩ := pRoom_ne (w := w) (s := tidy w (j + 1) s) (kept := []) (by
        by_cases room : (tidy w (j + 1) s).regs.length < w.regs
        · exact .inl room
        · refine .inr ?_
          have := So.r2
          cases q : (tidy w (j + 1) s).regs with
          | nil =>
            rw [q] at room
            simp at room
            omega
          | cons v l => exact ⟨v, List.mem_cons_self .., by simp⟩)
      exact ⟨_, List.mem_map.mpr ⟨r, hr, rfl⟩⟩
/-- **The least of the program's prices is the least price.** -/
theorem LAt.least {w : Work} {ws : List Sit} (h : LAt w w.steps.length ws) {m : Nat} (hm : m ∈ ws.map (·.price)) (hle : ∀ y ∈ ws.map (·.price), m ≤ y) : m = Cm07.least w := by
  have low : ∀ s ∈ ws, (∃ e, Path w w.steps.length 0 sit0 e) ∧ Cm07.least w ≤ s.price := fun s hs => by
    have r := (h.ok s hs).pre 0 (.done rfl)
    obtain ⟨p, q⟩ := least_low r
    exact ⟨p, by omega⟩
  obtain ⟨s, hs, rfl⟩ := List.mem_map.mp hm
  obtain ⟨⟨e, he⟩, hlow⟩ := low s hs
  obtain ⟨e', he', hpr⟩ := least_path he
  obtain ⟨t, ht, b⟩ := h.full e' he'
  have := hle t.price (List.mem_map.mpr ⟨t, ht, rfl⟩)
  have := b.2.2
  omega
/-! ### how many ways there may be -/
def subs : Nat → List (List Nat)
  | 0 => [[]]
  | n + 1 => subs n ++ (subs n).map (· ++ [n])
theorem subs_len : ∀ n, (subs n).length = 2 ^ n
  | 0 => rfl
  | n + 1 => by
    show (subs n ++ (subs n).map (· ++ [n])).length = _
    rw [List.length_append, List.length_map, subs_len n, Nat.pow_succ]
    omega
theorem subs_mem : ∀ (n : Nat) (l : List Nat), Up l → (∀ v ∈ l, v < n) → l ∈ subs n
  | 0, l, _, h => by
    cases l with
    | nil => exact List.mem_singleton.mpr rfl
    | cons a l => exact absurd (h a (List.mem_cons_self ..)) (by omega)
  | n + 1, l, hl, h => by
    show l ∈ subs n ++ (subs n).map (· ++ [n])
    by_cases c : n ∈ l
    · refine List.mem_append_right _ (List.mem_map.mpr ⟨l.filter fun x => !(x == n), subs_mem n _ (hl.sublist List.filter_sublist) (fun v hv => ?_), ?_⟩)
      · obtain ⟨h1, h2⟩ := mem_without.mp hv
        have := h v h1
        omega
      · refine up_ext ?_ hl fun x => ?_
        · refine List.pairwise_append.mpr ⟨hl.sublist List.filter_sublist, by simp, fun a ha b hb => ?_⟩
          obtain ⟨h1, h2⟩ := mem_without.mp ha
          have := h a h1
          rw [List.mem_singleton.mp hb]
          omega
        · rw [List.mem_append, mem_without, List.mem_singleton]
          constructor
          · rintro (z | z)
            · exact z.1
            · rw [z]
              exact c
          · intro z
            by_cases q : x = n
            · exact .inr q
            · exact .inl ⟨z, q⟩
    · refine List.mem_append_left _ (subs_mem n l hl fun v hv => ?_)
      have := h v hv
      have : v ≠ n := fun z => c (z ▸ hv)
      omega
def pairsL (a b : List (List Nat)) : List (List Nat × List Nat) := a.flatMap fun x => b.map fun y => (x, y)
theorem pairsL_len (b : List (List Nat)) : ∀ a : List (List Nat), (pairsL a b).length = a.length * b.length
  | [] => by simp [pairsL]
  | x :: a => by
    have ih := pairsL_len b a
    unfold pairsL at ih ⊢
    rw [List.flatMap_cons, List.length_append, List.length_map, ih, List.length_cons, Nat.succ_mul]
    omega
theorem ways_few {ws : List Sit} (h : ∀ s ∈ ws, SitIn s) (nd : (ws.map Ky).Nodup) : ws.length ≤ 1048576 := by
  have q := nd.length_le_of_subset (l₂ := pairsL (subs 10) (subs 10)) fun x hx => by
    obtain ⟨s, hs, rfl⟩ := List.mem_map.mp hx
    have S := h s hs
    exact List.mem_flatMap.mpr ⟨s.regs, subs_mem 10 _ S.ru S.rl, List.mem_map.mpr ⟨s.away, subs_mem 10 _ S.au S.al, rfl⟩⟩
  rw [List.length_map, pairsL_len, subs_len] at q
  exact q
end Pb
namespace Pb
open PySem PySem.Spec PyProof.Rows L2
open Cm07 (Sit)
def spLeast (C : Addr) : Sp := fun vs H Q _ => ∃ (x dx ss : Addr) (ts : List Addr) (w : Cm07.Work), vs = [.ref x] ∧ WorkIn C H x dx ss ts w ∧ Sound w ∧ ∀ H', Same H H' → Q (nv (Cm07.least w)) H'
section
variable {P : Program} {w : World} {K : PySem.W.Frag} {mg : Str → Option Value} {base : Heap} {C CC : Addr}
theorem scLeast : FnScope ["work", "ways", "at", "step", "value", "way"] ["work"] (scOf 71) := ⟨rfl, rfl, rfl, by decide +kernel, rfl, by decide +kernel, by decide +kernel⟩
theorem allIn_of {wk : Cm07.Work} {j : Nat} {us : List Nat} {ws : List Sit} (h : ∀ s ∈ ws, WOk wk j us s) : AllIn wk ws := fun s hs => ⟨(h s hs).inn, (h s hs).len⟩
theorem ok_least (D : Ds K mg) (T : Txt K mg C CC) : FnOk P w K mg base CX0 7 D.least.f D.least.fd ["work"] (spLeast C) := by
  refine D.least.F.ok scLeast (fun vs H Q E h => ?_) (fun cdv A outer s H vs Q E hr h => ?_)
  · obtain ⟨x, dx, ss, ts, w, rfl, _⟩ := h
    rfl
  · obtain ⟨x, dx, ss, ts, wk, rfl, W, So, k⟩ := h
    refine ⟨_, pss_cons (ps_set (i := 1) scLeast.nd rfl (.inl rfl) (pe_lst (pa_cons (pe_tup (pa_cons (pe_tup pa_nil) (pa_cons (pe_tup pa_nil) (pa_cons pe_int pa_nil)))) pa_nil)))
      (pss_cons (ps_for PassesOwn.never rfl (pi_enum rfl T.enu (pa_cons (pe_fld (pv 0) rfl) pa_nil)) (pg_tup rfl (pgs_cons (pg_name (i := 2) scLeast.nd rfl (.inl rfl)) (pgs_cons (pg_name (i := 3) scLeast.nd rfl (.inl rfl)) pgs_nil)))
        (pss_cons (ps_for PassesOwn.never rfl (pi_list (pcall D.used (ok_used D T) hr rfl (pa_cons (pv 3) pa_nil))) (pg_name (i := 4) scLeast.nd rfl (.inl rfl))
          (pss_one (ps_set (i := 1) scLeast.nd rfl (.inl rfl) (pcall D.bringAll (ok_bringAll D T) hr rfl (pa_cons (pv 0) (pa_cons (pv 1) (pa_cons (pv 4) (pa_cons (pcall D.used (ok_used D T) hr rfl (pa_cons (pv 3) pa_nil)) pa_nil))))))))
        (pss_one (ps_set (i := 1) scLeast.nd rfl (.inl rfl) (pcall D.stepAll (ok_stepAll D T) hr rfl (pa_cons (pv 0) (pa_cons (pv 1) (pa_cons (pv 2) pa_nil))))))))
      (pss_one (ps_ret (pe_callB (cr_min rfl) (by rfl) T.mn (by decide +kernel) (pa_cons
        (pe_lc (own := [("way", 5)]) (g := gName 5) (tt := tYes) (te := tOp (rIxT K) (tVar 5) (tC (.int 2))) rfl scLeast.nd (pi_list (pv 1)) (blkOk_by (own := [("way", 5)]) (N := ["work", "ways", "at", "step", "value", "way"]) (sc := scOf 71) (by decide +kernel))
          (fun _ _ _ _ _ => pg_name (i := 5) scLeast.nd rfl (Or.inl rfl)) (fun _ _ _ _ _ => pts_nil) (fun _ _ _ _ _ => pe_ix ix_tup (pv 5) pe_int (fun _ _ => rfl))) pa_nil))))), ?_⟩
    have hf := W.st.few
    have r4 := So.r4
    have hlen : (ts.map V.ref).length = wk.steps.length := by rw [List.length_map, W.st.len]
    refine ⟨by show 0 ≤ sizeLine; decide, fun p1 h1 => ⟨by show 0 ≤ sizeLine; decide, fun p2 h2 => ⟨by show 3 ≤ sizeLine; decide, fun p3 h3 => ⟨by show 1 ≤ sizeLine; decide, fun p4 h4 => ?_⟩⟩⟩⟩
    have s1 := same_new (o := .tup []) h1
    have s2 := same_new (o := .tup []) h2
    have s3 := same_new (o := .tup [.ref p1, .ref p2, .int 0]) h3
    have s4 := same_new (o := .lst [.ref p3]) h4
    have e4 := ((s1.trans s2).trans s3).trans s4
    refine ⟨_, rfl, x, C, dx, _, _, rfl, e4 _ _ W.obj, T.cl, T.nS, wF_ste, ss, _, rfl, SqL.of (e4 _ _ W.st.st), ?_⟩
    refine for_it (walk_enum (K := K) (a := ss) (xs := ts.map V.ref)) (fun i σ H' => ∃ (l : Addr) (v2 v3 v4 : Option V) (ws : List Sit), σ = [some (.ref x), some (.ref l), v2, v3, v4, none] ∧ Same H H' ∧ WaysIn H' l ws ∧ LAt wk i ws) ?_ ?_ ?_ ?_
    · exact ⟨p4, none, none, none, [⟨[], [], 0⟩], rfl, e4, ⟨[p3], upd_same, .cons ⟨p1, p2, s4 _ _ upd_same, s4 _ _ (s3 _ _ (s2 _ _ upd_same)), s4 _ _ (s3 _ _ upd_same)⟩ .nil⟩, lat0⟩
    · rintro i σ H' _ ⟨_, _, _, _, _, _, e, _⟩
      exact SqL.of (e _ _ W.st.st)
    · rintro i y σ H1 H2 hi ⟨l, v2, v3, v4, ws, rfl, e, hw, la⟩ hy
      obtain ⟨tp, x3, y3, rfl, hn, rfl, e3, e4'⟩ := hy
      cases e3
      obtain ⟨t, ht, rfl⟩ := at_map e4'
      have hj : i < wk.steps.length := by omega
      have hst := step_ix hj
      have htt := W.st.tup i t _ ht hst
      have sp := same_new (o := .tup [V.int (i : Nat), V.ref t]) hn
      have ep := e.trans sp
      refine ⟨tp, _, rfl, SqT.of upd_same, rfl, _, _, rfl, _, _, rfl, rfl, ?_⟩
      refine ⟨_, rfl, t, _, rfl, ep _ _ htt, fun H3 pu eu hpu hpu' => ?_⟩
      have e3' := ep.trans eu
      refine ⟨pu, rfl, ⟨_, SqL.of hpu'⟩, ?_⟩
      refine for_list (K := K) (a := pu) (xs := (usedL (Cm07.stepAt wk i)).map nv) (fun m σ H' => ∃ (l : Addr) (v4 : Option V) (ws : List Sit), σ = [some (.ref x), some (.ref l), some (V.int (i : Nat)), some (V.ref t), v4, none] ∧ Same H3 H' ∧ WaysIn H' l ws ∧ LMid wk i ((usedL (Cm07.stepAt wk i)).take m) ws) ?_ ?_ ?_ ?_
      · exact ⟨l, v4, ws, rfl, .refl _, (hw.same sp).same eu, la.mid⟩
      · rintro m σ H' _ ⟨_, _, _, _, e5, _⟩
        exact SqL.of (e5 _ _ hpu')
      · rintro m y σ H' hm ⟨l, v4, ws, rfl, e5, hw5, lm⟩
        obtain ⟨u, hu, rfl⟩ := at_map hm
        have hum := List.mem_of_getElem? hu
        have hus := mem_usedL.mp hum
        have e35 := e3'.trans e5
        refine ⟨_, rfl, _, rfl, _, rfl, _, rfl, t, _, rfl, e35 _ _ htt, fun H6 pk ek hpk hpk' => ?_⟩
        have e36 := e35.trans ek
        refine ⟨x, l, pk, dx, ss, ts, wk, ws, u, _, rfl, W.keep e36, r4, hw5.same ek, allIn_of lm.ok, ways_few (fun s hs => (lm.ok s hs).inn) lm.nd, hpk', fun s hs => (lm.ok s hs).av u (Lb.wanted_use hj hus) (So.val i hj u hus), fun H7 p7 out e7 hp7 hw7 ch => ?_⟩
        refine ⟨p7, _, out, rfl, (e5.trans ek).trans e7, hw7, ?_⟩
        rw [take_more hu]
        exact lm.bring So hj (fun z hz => List.mem_of_mem_take hz) hum ch
      · rintro σ H' ⟨l, v4, ws, rfl, e5, hw5, lm⟩
        rw [List.length_map, List.take_length] at lm
        have e35 := e3'.trans e5
        refine ⟨_, rfl, _, rfl, _, rfl, x, l, dx, ss, ts, wk, ws, i, rfl, W.keep e35, r4, hw5, allIn_of lm.ok, ways_few (fun s hs => (lm.ok s hs).inn) lm.nd, hj, fun s hs => (lm.ok s hs).rb, fun H7 p7 out e7 hp7 hw7 ch => ?_⟩
        exact ⟨p7, _, _, _, out, rfl, e35.trans e7, hw7, lm.step So hj ch⟩
    · rintro σ H' ⟨l, v2, v3, v4, ws, rfl, e, hw, la⟩
      rw [hlen] at la
      obtain ⟨xs, hxs, hxl, hat⟩ := hw.at
      have hz := ways_few (fun s hs => (la.ok s hs).inn) la.nd
      refine ⟨_, rfl, l, rfl, ⟨_, SqL.of hxs⟩, fun D1 hD1 => ?_⟩
      refine lc_list (K := K) (a := l) (xs := xs) (fun i H2 => Same H' H2 ∧ H2 D1 = some (.lst (((ws.take i).map (·.price)).map nv))) ⟨same_new hD1, upd_same⟩ ?_ ?_ ?_
      · rintro i H2 _ ⟨m, _⟩
        exact SqL.of (m _ _ hxs)
      · rintro i y H2 hi ⟨m1, m2⟩
        obtain ⟨t, st, rfl, hst, r, a, h5, h6, h7⟩ := hat i y hi
        refine ⟨rfl, _, rfl, t, _, _, _, rfl, rfl, SqT.of (m1 _ _ h5), atI_nat (j := 2) rfl, _, m2, ?_, fun b o q => ?_, ?_⟩
        · rw [List.length_map, List.length_map, List.length_take, sizeLine_eq]
          omega
        · rw [upd_ne (ne_of_none q hD1)]
          exact m1 _ _ q
        · rw [upd_same, take_more hst, List.map_append, List.map_append]
          rfl
      · rintro H2 ⟨m1, m2⟩
        rw [hxl, List.take_length, nv_ints] at m2
        have hne : 0 < ws.length := List.length_pos_iff.mpr la.ne
        refine ⟨D1, _, rfl, SqL.of m2, by rw [List.length_map, List.length_map]; exact hne, fun z hz hmn => ?_⟩
        obtain ⟨n, hn, rfl⟩ := List.mem_map.mp hz
        have := la.least hn fun y hy => by
          have := hmn (y : Int) (List.mem_map.mpr ⟨y, hy, rfl⟩)
          omega
        have q := k H2 (e.trans m1)
        rw [← this] at q
        exact q
end
end Pb
/-! a rule of one's own: max(xs, key=lambda x: (int, int)), the lambda capturing names -/
namespace Pb
open PySem PySem.Spec PyProof.Rows L2 LamX
structure Lam1 (sc scope : Scope) (p : Str) : Prop where
  kind : scope.kind = .function
  co : scope.isCoroutine = false
  gen : scope.isGenerator = false
  par : scope.names.lookup p = some .local
  own : ∀ y ∈ scope.names, y.2 ≠ .cell
  loc : ∀ y, scope.names.lookup y = some .local → y = p
  free : ∀ y ∈ scope.names, y.2 = .free → sc.names.lookup y.1 = some .cell ∨ sc.names.lookup y.1 = some .free
theorem Lam1.has {X : Cx} {scope : Scope} {p : Str} (L : Lam1 X.env.scope scope p) (ok : X.Ok) : ∀ y ∈ scope.names, y.2 = .free → ∃ c, X.env.cells.lookup y.1 = some c := fun y hy e => by
  rcases L.free y hy e with k | k
  · exact ok.has _ (.inl k)
  · exact ok.has _ (.inr k)
/-- the context of the lambda's body, called at s -/
def lam1Cx (X : Cx) (A : Around) (s : Shared) (H : Hp) (scope : Scope) (f c' : Addr) (p : Str) : Cx where
  prog := X.prog
  w := X.w
  K := X.K
  mg := X.mg
  base := X.base
  A := A.deeper (lamEnv X scope s.heap.objs.size f c')
  N := X.N ++ [p]
  s_0 := s
  H_0 := H
  env := lamEnv X scope s.heap.objs.size f c'
  outer := X.stack
  stack := lamEnv X scope s.heap.objs.size f c' :: X.stack
  ex := []
  fn := fun _ => false
  calm := true
  pn := []
  xe := fun _ _ => False
section
variable {X : Cx} {pins : List (Addr × Obj)} {σ : L2.St} {H : Hp} {s : Shared}
theorem lam1_start {A : Around} {scope : Scope} {f c' : Addr} {p : Str} {h₁ : Heap} {tk : Nat} {v : V} {u : Value} (I : Inv X pins σ H s) (L : Lam1 X.env.scope scope p) (hp : p ∉ X.N) (e0 : Env0 X.prog X.w X.K X.mg X.base A X.stack s H) (hd : A.handled = none) (r : RelV v u)
    (hns : h₁.Ns s.heap.objs.size fun y => ([(p, u)] : List (Str × Value)).reverse.lookup y) (kp : ∀ b o, s.heap.get? b = some o → h₁.get? b = some o) :
    Inv (lam1Cx X A s H scope f c' p) [] (σ ++ [some v]) H { s with heap := h₁, toks := tk } := by
  have hfree := L.has I.ok
  have cm : ∀ {y c}, (cloFrom X.env.cells scope.names []).lookup y = some c → X.env.cells.lookup y = some c := fun {y c} e => by
    rcases cloFrom_mem (PySem.mem_of_lookup e) with hm | ⟨h1, h2⟩
    · cases hm
    · obtain ⟨c1, hc⟩ := hfree _ h1 rfl
      have hc : X.env.cells.lookup y = some c1 := hc
      have e2 : c = c1 := by
        rw [h2, hc] <;> rfl
      rw [e2]
      exact hc
  have look : ∀ {y}, scope.names.lookup y = some .free → ∃ c, (cloFrom X.env.cells scope.names []).lookup y = some c := fun {y} hl => by
    have hy : (y, NameKind.free) ∈ scope.names := PySem.mem_of_lookup hl
    exact mem_lookup (cloFrom_has (cells := X.env.cells) (acc := []) hy)
  have cellK : ∀ {c : Addr} {v : Option Value}, s.heap.IsCell c v → h₁.IsCell c v := fun {c v} ⟨o, ho, hd⟩ => ⟨_, kp _ _ ho, hd⟩
  have noA : ∀ b : Addr, b ∉ (lam1Cx X A s H scope f c' p).ex := fun b z => absurd (show b ∈ ([] : List Addr) from z) (by simp)
  refine ⟨⟨e0.mod, L.kind, rfl, rfl, Nat.le_refl _, fun y z c e1 e2 => I.ok.inj y z c (cm e1) (cm e2), fun y hy => ?_, fun y c z _ => ?_, fun _ => hd, Around.frames_deeper e0.frames, .inr ⟨rfl, rfl⟩, fun b z => absurd z (noA b), e0.bs, e0.bsz, fun b _ _ => noA b,
      fun b z => absurd z (noA b), e0.funs, e0.frf⟩,
    rfl, e0.bare, Un.kept kp, ⟨_, hns, fun i y v' e1 e2 e3 => ?_⟩, fun y c e => ?_, e0.hok.fresh (Nat.le_refl _), fun y c e => ?_, fun q hq => absurd (show q ∈ ([] : List (Addr × Obj)) ++ [] from hq) (by simp), e0.hok.kept kp, ?_⟩
  · have hy : scope.names.lookup y = some .cell ∨ scope.names.lookup y = some .free := hy
    rcases hy with hy | hy
    · exact absurd rfl (L.own _ (PySem.mem_of_lookup hy))
    · exact look hy
  · have z : false = true := z
    cases z
  · have e1 : (X.N ++ [p])[i]? = some y := e1
    have e3 : Vis scope y := e3
    have hlen := I.len
    by_cases hi : i < X.N.length
    · rw [List.getElem?_append_left hi] at e1
      rw [List.getElem?_append_left (by rw [hlen]; exact hi)] at e2
      rcases e3 with k | k | k
      · exact absurd (by rw [← L.loc y k]; exact List.mem_of_getElem? e1) hp
      · exact absurd rfl (L.own _ (PySem.mem_of_lookup k))
      · obtain ⟨m, hn, hl⟩ := I.loc
        have hvis : Vis X.env.scope y := (L.free _ (PySem.mem_of_lookup k) rfl).elim (fun k => .inr (.inl k)) (fun k => .inr (.inr k))
        obtain ⟨w', r', q⟩ := hl i y v' e1 e2 hvis
        obtain ⟨c2, h2⟩ := look k
        refine ⟨w', r', .inr ⟨.inr k, c2, h2, ?_⟩⟩
        have c1 := cm h2
        rcases q with ⟨k', _⟩ | ⟨_, c3, e', z⟩
        · have k' : X.env.scope.names.lookup y = some .local := k'
          rcases L.free _ (PySem.mem_of_lookup k) rfl with k2 | k2 <;> rw [show X.env.scope.names.lookup y = _ from k2] at k' <;> cases k'
        · rw [c1] at e'
          cases e'
          exact cellK z
    · have hi2 : i = X.N.length := by
        have h1 := (List.getElem?_eq_some_iff.mp e1).1
        rw [List.length_append] at h1
        have h2 : ([p] : List Str).length = 1 := rfl
        omega
      have ey : p = y := by
        rw [List.getElem?_append_right (by omega), hi2, Nat.sub_self] at e1
        exact Option.some.inj e1
      have ev : v = v' := by
        rw [List.getElem?_append_right (by omega), hlen, hi2, Nat.sub_self] at e2
        exact Option.some.inj (Option.some.inj e2)
      subst ey
      subst ev
      refine ⟨u, r, .inl ⟨L.par, ?_⟩⟩
      show ([(p, u)] : List (Str × Value)).reverse.lookup p = some u
      simp [List.lookup]
  · obtain ⟨w', z⟩ := I.cell y c (cm e)
    exact ⟨w', cellK z⟩
  · exact I.freeC y c (cm e)
  · show (σ ++ [some v]).length = (X.N ++ [p]).length
    rw [List.length_append, List.length_append, I.len] <;> rfl
/-- the lambda is called -/
theorem lam1_call {k : Nat} {params : Arguments} {body : Expr} {scope : Scope} {f c' : Addr} {pm ctv : Value} {p : Str} {tb : TE} {Q : VK} {v : V} {u : Value} (I : Inv X pins σ H s) (hr : Room (k + 2) X.A) (L : Lam1 X.env.scope scope p) (hp : p ∉ X.N)
    (hf : s.heap.get? f = some (PySem.W.kla_obj "<lambda>" (X.env.qual ++ "<lambda>") params body scope (cloFrom X.env.cells scope.names []) pm c' ctv)) (hc : H c' = some (CodeO c' (X.env.qual ++ "<lambda>")))
    (hbind : ∀ (q : Str) (cl : List (Str × Addr)) (pm cv ctv u : Value), bindArgs (PySem.W.kla_fn "<lambda>" q params body scope cl pm cv ctv) ⟨[u], []⟩ = pure [(p, u)])
    (hbody : ∀ (A : Around) (s : Shared) (H : Hp) (f c' : Addr), Room k (A.deeper (lamEnv X scope s.heap.objs.size f c')) → PE (lam1Cx X A s H scope f c' p) body tb) (r : RelV v u) (ht : tb (σ ++ [some v]) H Q) :
    wpAny (model X.prog X.w) X.A.in1 (call (.ref f) [u]) (EP X pins σ Q) (fun _ _ => False) s := by
  have hr1 : Room (k + 1) X.A.in1 := hr.in1
  obtain ⟨⟨oc, vs, t, hoc, hdc, hvc⟩, _, _⟩ := I.hok c' _ hc
  have rc : codeAny (model X.prog X.w) X.A.in1 (.call (.ref f) ⟨[u], []⟩) (CR CX0 X.stack X.prog X.w H s Q E0) s := by
    refine PySem.W.kla_callFunE hr1.depth hf rfl L.co L.gen rfl ⟨c', oc, vs, t, rfl, hoc, hdc, hvc⟩ ?_
    rw [hbind]
    refine wpAny_pure (wpAny_newFunctionEnv L.own (fun y hy => by rw [List.mem_singleton.mp hy]; exact L.par) (fun h₁ hns hsb => ⟨I.nolimit.fresh _ hsb, ?_⟩) L.kind)
    show codeAny _ _ (.expr body (lamEnv X scope s.heap.objs.size f c')) _ _
    have kp : ∀ b o, s.heap.get? b = some o → h₁.get? b = some o := fun b o e => hsb.extBut b o (Nat.ne_of_lt (Heap.lt_size e)) (Heap.get?_push_of_some _ e)
    have J := lam1_start (f := f) (c' := c') (tk := s.toks + ([(p, u)] : List (Str × Value)).length) (A := X.A.in1) I L hp I.env0.in1 hr1.hd r hns kp
    refine PySem.W.kla_codeExpr (wpAny_mono ((hbody X.A.in1 s H f c' (hr1.deeper _)).run [] _ _ H Q J ht) (fun v s' hq => ?_) fun e s' hq => (show False from hq).elim)
    obtain ⟨w', H', J', rv, q⟩ := hq
    exact ⟨w', H', J'.os, J'.bare, J'.base, J'.hok, rv, q⟩
  refine wpAny_call (codeAny_mono rc fun r s' hq => ?_)
  cases r with
  | error e => exact (show False from hq).elim
  | ok fl =>
    cases fl with
    | ret u => exact I.after hq
    | next => exact False.elim hq
    | brk => exact False.elim hq
    | cont => exact False.elim hq
end
end Pb
namespace Pb
open PySem PySem.Spec PyProof.Rows L2 LamX
def pLe (a b : Int × Int) : Prop := a.1 < b.1 ∨ (a.1 = b.1 ∧ a.2 ≤ b.2)
theorem pLe.refl (a : Int × Int) : pLe a a := .inr ⟨rfl, Int.le_refl _⟩
theorem pLe.trans {a b c : Int × Int} (h : pLe a b) (k : pLe b c) : pLe a c := by
  rcases h with h | ⟨h, h'⟩ <;> rcases k with k | ⟨k, k'⟩
  · exact .inl (by omega)
  · exact .inl (by omega)
  · exact .inl (by omega)
  · exact .inr ⟨by omega, by omega⟩
theorem pLe_of_lt {a b : Int × Int} (h : PySem.W.DatumOrd.lt a b = true) : pLe a b := by
  have h : (if a.1 = b.1 then decide (a.2 < b.2) else decide (a.1 < b.1)) = true := h
  split at h
  · rename_i e
    exact .inr ⟨e, by have := of_decide_eq_true h; omega⟩
  · exact .inl (of_decide_eq_true h)
theorem pLe_of_not {a b : Int × Int} (h : PySem.W.DatumOrd.lt a b = false) : pLe b a := by
  have h : (if a.1 = b.1 then decide (a.2 < b.2) else decide (a.1 < b.1)) = false := h
  split at h
  · rename_i e
    exact .inr ⟨e.symm, by have := of_decide_eq_false h; omega⟩
  · rename_i e
    exact .inl (by have := of_decide_eq_false h; omega)
structure Mine (X : Cx) (b : Addr) : Prop where
  ne : b ≠ X.env.locals
  fs : b ∉ X.fs
  ab : X.s_0.heap.objs.size ≤ b
  cel : ∀ x c, X.env.cells.lookup x = some c → c ≠ b
section
variable {X : Cx} {pins ps : List (Addr × Obj)} {σ : L2.St} {H : Hp} {s : Shared}
theorem Mine.new {b : Addr} (I : Inv X pins σ H s) (h : s.heap.objs.size ≤ b) : Mine X b :=
  ⟨fun z => Nat.lt_irrefl _ (Nat.lt_of_lt_of_le (z ▸ I.lt : b < s.heap.objs.size) h), I.nofs h, Nat.le_trans I.sz h, fun x c e z => by
    obtain ⟨v, o, ho, _⟩ := I.cell x c e
    have h1 := Heap.lt_size ho
    rw [z] at h1
    exact Nat.lt_irrefl _ (Nat.lt_of_lt_of_le h1 h)⟩
theorem turn1 {a : Addr} {o o' : Obj} {h' : Heap} {t' : Nat} (I : Inv X ((a, o) :: ps) σ H s) (m : Mine X a) (hn : ∀ p ∈ X.pn ++ ps, p.1 ≠ a) (k : ∀ b u, b ≠ a → s.heap.get? b = some u → h'.get? b = some u) (ho : h'.get? a = some o') (hd : ∀ v, o'.data ≠ .cell v) :
    Inv X ((a, o') :: ps) σ H { s with heap := h', toks := t' } := by
  have I0 : Inv X ps σ H s := I.pins_of fun p hp => I.pin p (List.mem_append_right _ (List.mem_cons_of_mem _ hp))
  have ha := I.pin (a, o) (List.mem_append_right _ (List.mem_cons_self ..))
  have I1 := I0.turned (t' := t') (it := a) k ha.2.1 m.ne (.inr m.ab) m.cel hn
  refine I1.pins_of fun p hp => ?_
  rcases List.mem_cons.mp hp with e | hp
  · rw [e]
    exact ⟨ho, ha.2.1, m.ne, m.fs, hd⟩
  · exact I1.pin p (List.mem_append_right _ hp)
theorem swap1 {p q : Addr × Obj} (I : Inv X (p :: q :: ps) σ H s) : Inv X (q :: p :: ps) σ H s := I.pins_of fun r hr => I.pin r (List.mem_append_right _ (by
  rcases List.mem_cons.mp hr with e | hr
  · rw [e]; exact .tail _ (.head _)
  · rcases List.mem_cons.mp hr with e | hr
    · rw [e]; exact .head _
    · exact .tail _ (.tail _ hr)))
theorem pair_holds {t : Addr} {a b : Int} (I : Inv X pins σ H s) (h : H t = some (.tup [.int a, .int b])) : PySem.W.Holds s.heap (.ref t) ((a, b) : Int × Int) := by
  obtain ⟨_, its, r, o, ho, hc, n, hd⟩ := I.hok _ _ h
  obtain ⟨u1, u2, rfl, ⟨t1, rfl⟩, ⟨t2, rfl⟩⟩ := vals2 r
  exact ⟨_, Reads.tuple ho hc hd (ReadsAll.cons (Reads.int a t1) (ReadsAll.cons (Reads.int b t2) ReadsAll.nil))⟩
/-- the loop of max by a key: ns the values, kf their keys, nb the best up to now -/
theorem max_loop {f It S l : Addr} {fo : Obj} {ns : List Nat} {kf : Nat → Int × Int} {H1 : Hp} {R : Result → Shared → Prop} (hh : X.A.handled = none) (hu : X.A.units + 64 < cLine) (hs : SqL X.K H1 l (ns.map nv)) (hlI : l ≠ It) (hSI : S ≠ It) (mI : Mine X It) (mS : Mine X S)
    (pI : ∀ p ∈ X.pn ++ (f, fo) :: pins, p.1 ≠ It ∧ p.1 ≠ S)
    (turn : ∀ (n : Nat) (v : Value) (H' : Hp) (s' : Shared) (ps : List (Addr × Obj)), n ∈ ns → RelV (nv n) v → Same H1 H' → s'.heap.get? f = some fo → Inv X ps σ H' s' →
      wpAny (model X.prog X.w) X.A.in1 (call (.ref f) [v]) (EP X ps σ fun x H2 => Same H' H2 ∧ ∃ t, x = .ref t ∧ H2 t = some (.tup [.int (kf n).1, .int (kf n).2])) (fun _ _ => False) s')
    (hR : ∀ (n : Nat) (v : Value) (H' : Hp) (s' : Shared), n ∈ ns → RelV (nv n) v → (∀ m ∈ ns, pLe (kf m) (kf n)) → Same H1 H' → Inv X pins σ H' s' → R (.ok (.ret v)) s') :
    ∀ (r j nb : Nat) (H' : Hp) (s' : Shared) (vb : Value) (t : Addr) (c : Nat) (oI : Obj), ns.length - (j + 1) = r → j + 1 ≤ ns.length → Same H1 H' → H' t = some (.tup [.int (kf nb).1, .int (kf nb).2]) →
      Inv X ((S, seqObj "list" #[vb, .ref t] c) :: (It, oI) :: (f, fo) :: pins) σ H' s' → (∀ h : Heap, h.get? It = some oI → h.IsListIter It l (j + 1)) → nb ∈ ns → RelV (nv nb) vb → (∀ j' m, j' ≤ j → ns[j']? = some m → pLe (kf m) (kf nb)) →
      codeAny (model X.prog X.w) X.A (.builtin "max.loop" ⟨[.ref It, .ref f, .ref S], []⟩) R s' := by
  have hname : (toString "max" ++ toString ".loop" : String) = "max.loop" := by decide
  have nS : ∀ p ∈ X.pn ++ (f, fo) :: pins, p.1 ≠ S := fun p hp => (pI p hp).2
  have nI : ∀ p ∈ X.pn ++ (f, fo) :: pins, p.1 ≠ It := fun p hp => (pI p hp).1
  have nS' : ∀ oI, ∀ p ∈ X.pn ++ (It, oI) :: (f, fo) :: pins, p.1 ≠ S := fun oI p hp => by
    rcases List.mem_append.mp hp with hp | hp
    · exact nS p (List.mem_append_left _ hp)
    · rcases List.mem_cons.mp hp with e | hp
      · rw [e]; exact hSI.symm
      · exact nS p (List.mem_append_right _ hp)
  have nI' : ∀ oS, ∀ p ∈ X.pn ++ (S, oS) :: (f, fo) :: pins, p.1 ≠ It := fun oS p hp => by
    rcases List.mem_append.mp hp with hp | hp
    · exact nI p (List.mem_append_left _ hp)
    · rcases List.mem_cons.mp hp with e | hp
      · rw [e]; exact hSI
      · exact nI p (List.mem_append_right _ hp)
  intro r
  induction r with
  | zero =>
    intro j nb H' s' vb t c oI hr hj e1 ht I hit hnb rb hbest
    have hin : j + 1 = ns.length := by omega
    have gS := (I.pin (S, seqObj "list" #[vb, .ref t] c) (List.mem_append_right _ (.head _))).1
    have gI := (I.pin (It, oI) (List.mem_append_right _ (.tail _ (.head _)))).1
    obtain ⟨its, rv, hl, _⟩ := I.list (e1.seq hs)
    have hlen : its.length = ns.length := by
      have := rv.length
      rw [List.length_map] at this
      omega
    have W := Walks.list (prog := X.prog) (w := X.w) (A := X.A.in1) hh It l hlI its.toArray
    have hsz : its.toArray.size = ns.length := by rw [List.size_toArray]; exact hlen
    refine codeAny_builtin PySem.F.entry_max_loop ?_
    rw [Around.under_plainId PySem.F.plain_max_loop _]
    show wpAny _ X.A.in1 (seqItems? (.ref S) >>= _) _ _ _
    refine wpAny_bind (wpAny_seqItems gS rfl ?_)
    show wpAny _ X.A.in1 (tryCatch (pyNext (.ref It)) _ >>= _) _ _ _
    refine wpAny_bind (wpAny_tryCatch (W.done _ _ _ ⟨by rw [hsz, ← hin]; exact hit _ gI, hl.isList⟩ fun h' tk' hk' => ?_))
    have gS' : h'.get? S = some (seqObj "list" #[vb, .ref t] c) := hk' S _ (by simpa using hSI) gS
    have I0 : Inv X ((S, seqObj "list" #[vb, .ref t] c) :: (f, fo) :: pins) σ H' s' := I.pins_of fun p hp => I.pin p (List.mem_append_right _ (by
      rcases List.mem_cons.mp hp with e | hp
      · rw [e]; exact .head _
      · exact .tail _ (.tail _ hp)))
    have I1 : Inv X ((S, seqObj "list" #[vb, .ref t] c) :: (f, fo) :: pins) σ H' { s' with heap := h', toks := tk' } :=
      I0.turned (it := It) (fun b o hb e => hk' b o (by simpa using hb) e) (I.pin (It, oI) (List.mem_append_right _ (.tail _ (.head _)))).2.1 mI.ne (.inr mI.ab) mI.cel (nI' _)
    have s1 := Heap.SameBut.update h' S (Obj.mapSeq fun _ => (#[] : Array Value))
    show wpAny _ X.A.in1 (updateSeq S (fun _ => #[]) >>= _) _ _ _
    refine wpAny_bind ?_
    refine wpAny_updateSeq gS' rfl (wpAny_bind (wpAny_letGo (wpAny_pure ?_)))
    have I2 := turn1 (t' := tk') I1 mS nS (fun b u hb e => (s1.2 b hb).trans e) (get?_update_seq gS' fun _ => #[]) (fun v z => by cases z)
    refine hR nb vb H' _ hnb rb (fun m hm => ?_) e1 (I2.pins_of fun p hp => I2.pin p (List.mem_append_right _ (.tail _ (.tail _ hp))))
    obtain ⟨j', hj', ej⟩ := List.getElem_of_mem hm
    exact hbest j' m (by omega) (by rw [← ej]; simp [hj'])
  | succ r ih =>
    intro j nb H' s' vb t c oI hr hj e1 ht I hit hnb rb hbest
    have hlt : j + 1 < ns.length := by omega
    have gS := (I.pin (S, seqObj "list" #[vb, .ref t] c) (List.mem_append_right _ (.head _))).1
    have gI := (I.pin (It, oI) (List.mem_append_right _ (.tail _ (.head _)))).1
    obtain ⟨its, rv, hl, _⟩ := I.list (e1.seq hs)
    have hlen : its.length = ns.length := by
      have := rv.length
      rw [List.length_map] at this
      omega
    have W := Walks.list (prog := X.prog) (w := X.w) (A := X.A.in1) hh It l hlI its.toArray
    have hsz : its.toArray.size = ns.length := by rw [List.size_toArray]; exact hlen
    obtain ⟨n, hn⟩ : ∃ n, ns[j + 1]? = some n := ⟨_, List.getElem?_eq_getElem hlt⟩
    refine codeAny_builtin PySem.F.entry_max_loop ?_
    rw [Around.under_plainId PySem.F.plain_max_loop _]
    show wpAny _ X.A.in1 (seqItems? (.ref S) >>= _) _ _ _
    refine wpAny_bind (wpAny_seqItems gS rfl ?_)
    show wpAny _ X.A.in1 (tryCatch (pyNext (.ref It)) _ >>= _) _ _ _
    refine wpAny_bind (wpAny_tryCatch (W.item (j + 1) _ _ _ (by rw [hsz]; exact hlt) ⟨hit _ gI, hl.isList⟩ fun v h' tk' hP hst' hk' => ?_))
    have hv : its[j + 1]? = some v := by simpa using hP
    have rn : RelV (nv n) v := by
      obtain ⟨u, hu1, hu2⟩ := rv.get (i := j + 1) (x := nv n) (by rw [List.getElem?_map, hn]; rfl)
      rw [hv] at hu1
      cases hu1
      exact hu2
    obtain ⟨oI', hoI', hoc, hod⟩ := id hst'.1
    have I1 : Inv X ((S, seqObj "list" #[vb, .ref t] c) :: (It, oI') :: (f, fo) :: pins) σ H' { s' with heap := h', toks := tk' } :=
      swap1 (turn1 (t' := tk') (swap1 I) mI (nI' _) (fun b u hb e => hk' b u (by simpa using hb) e) hoI' (fun v z => by rw [hod] at z; cases z))
    have hit' : ∀ h : Heap, h.get? It = some oI' → h.IsListIter It l (j + 1 + 1) := fun h e => ⟨oI', e, hoc, hod⟩
    have gf := (I1.pin (f, fo) (List.mem_append_right _ (.tail _ (.tail _ (.head _))))).1
    show wpAny _ X.A.in1 (tryCatch (holding [v] (call (.ref f) [v])) _ >>= _) _ _ _
    refine wpAny_bind (wpAny_tryCatch (wpAny_holding (wpAny_mono (turn n v H' _ _ (List.mem_of_getElem? hn) rn e1 gf I1) (fun x s'' he => ?_) fun _ _ hF => hF.elim)))
    obtain ⟨xv, H2, I2, rx, e2, t2, rfl, ht2⟩ := he
    obtain rfl : x = Value.ref t2 := rx
    have ht' := e2 _ _ ht
    have gS2 := (I2.pin (S, seqObj "list" #[vb, .ref t] c) (List.mem_append_right _ (.head _))).1
    show wpAny _ X.A.in1 (tryCatch (holding [v, .ref t2] (richCompare .Gt (.ref t2) (.ref t) >>= _)) _ >>= _) _ _ _
    refine wpAny_bind (wpAny_tryCatch (wpAny_holding (wpAny_bind (PySem.W.gt_datum (A := X.A.in1) (pair_holds I2 ht2) (pair_holds I2 ht') (by show X.A.units + 1 + _ < _; have : PySem.W.Datum.depth (Int × Int) = 1 := rfl; omega) ?_))))
    refine wpAny_bind (wpAny_holding (wpAny_truthy_bool ?_))
    refine wpAny_bind (wpAny_letGo (wpAny_pure ?_))
    cases hb' : PySem.W.DatumOrd.lt (kf nb) (kf n) with
    | true =>
      have hb2 : PySem.W.DatumOrd.lt ((kf nb).1, (kf nb).2) ((kf n).1, (kf n).2) = true := hb'
      have s1 := Heap.SameBut.update s''.heap S (Obj.mapSeq fun _ => #[v, .ref t2])
      obtain ⟨c2, hc2⟩ : ∃ c2, (s''.heap.update S (Obj.mapSeq fun _ => #[v, .ref t2])).get? S = some (seqObj "list" #[v, .ref t2] c2) := ⟨_, get?_update_seq gS2 fun _ => #[v, .ref t2]⟩
      simp only [hb2, if_true]
      refine wpAny_bind ?_
      refine wpAny_updateSeq gS2 rfl (wpAny_bind (wpAny_letGo ?_))
      rw [hname]
      have I3 := turn1 (t' := s''.toks) I2 mS (nS' _) (fun b u hb e => (s1.2 b hb).trans e) hc2 (fun v z => by cases z)
      refine wpAny_pure ⟨plainId_quiet PySem.F.plain_max_loop _, ih (j + 1) n H2 _ v t2 c2 oI' (by omega) hlt (e1.trans e2) ht2 I3 hit' (List.mem_of_getElem? hn) rn fun j' m hj' hm => ?_⟩
      by_cases e : j' = j + 1
      · rw [e, hn] at hm
        cases hm
        exact pLe.refl _
      · exact (hbest j' m (by omega) hm).trans (pLe_of_lt hb')
    | false =>
      have hb2 : PySem.W.DatumOrd.lt ((kf nb).1, (kf nb).2) ((kf n).1, (kf n).2) = false := hb'
      simp only [hb2, Bool.false_eq_true, if_false]
      refine wpAny_bind (wpAny_letGo ?_)
      rw [hname]
      refine wpAny_pure ⟨plainId_quiet PySem.F.plain_max_loop _, ih (j + 1) nb H2 _ vb t c oI' (by omega) hlt (e1.trans e2) ht' I2 hit' hnb rb fun j' m hj' hm => ?_⟩
      by_cases e : j' = j + 1
      · rw [e, hn] at hm
        cases hm
        exact pLe_of_not hb'
      · exact hbest j' m (by omega) hm
end
end Pb
namespace Pb
open PySem PySem.Spec PyProof.Rows L2 LamX
theorem extN_seq {K : PySem.W.Frag} {H H' : Hp} {a : Addr} {xs : List V} (e : ExtN H H') (h : SqL K H a xs) : SqL K H' a xs := by
  rcases h with (h | ⟨o, h⟩) | h
  · exact .inl (.inl (e _ _ h fun ps z => by cases z))
  · exact .inl (.inr ⟨o, e _ _ h fun ps z => by cases z⟩)
  · exact .inr h
section
variable {X : Cx} {pins : List (Addr × Obj)} {σ : L2.St} {H1 : Hp} {s : Shared}
theorem max_lam {f l : Addr} {fo : Obj} {ns : List Nat} {kf : Nat → Int × Int} {Q : Value → Shared → Prop} {E : Value → Shared → Prop} (hh : X.A.handled = none) (hu : X.A.units + 64 < cLine) (hs : SqL X.K H1 l (ns.map nv)) (hne : ns ≠ [])
    (turn : ∀ (n : Nat) (v : Value) (H' : Hp) (s' : Shared) (ps : List (Addr × Obj)), n ∈ ns → RelV (nv n) v → Same H1 H' → s'.heap.get? f = some fo → Inv X ps σ H' s' →
      wpAny (model X.prog X.w) X.A.in1 (call (.ref f) [v]) (EP X ps σ fun x H2 => Same H' H2 ∧ ∃ t, x = .ref t ∧ H2 t = some (.tup [.int (kf n).1, .int (kf n).2])) (fun _ _ => False) s')
    (I : Inv X ((f, fo) :: pins) σ H1 s)
    (hQ : ∀ (n : Nat) (v : Value) (H' : Hp) (s' : Shared), n ∈ ns → RelV (nv n) v → (∀ m ∈ ns, pLe (kf m) (kf n)) → Same H1 H' → Inv X pins σ H' s' → Q v s') :
    wpAny (model X.prog X.w) X.A (call (.builtin "max") [.ref l] [(Str.ofString "key", .ref f)]) Q E s := by
  have hname : (toString "max" ++ toString ".loop" : String) = "max.loop" := by decide
  obtain ⟨its0, rv0, hl0, _⟩ := I.list hs
  have hls := hl0.isList
  obtain ⟨ol, hol, _⟩ := id hls
  have hll : l < s.heap.objs.size := Heap.lt_size hol
  have hpos : 0 < ns.length := by
    cases ns with
    | nil => exact absurd rfl hne
    | cons a b => exact Nat.zero_lt_succ _
  refine kmk_tree PySem.F.kind_max PySem.F.plain_max PySem.F.entry_max (kmk_max_key _ _) ?_
  show wpAny _ X.A.in1 (Builtin.Builtins.bindParams "max" ["key", "default"] 0 ⟨[], [(Str.ofString "key", .ref f)]⟩ >>= _) _ _ s
  refine wpAny_bind (wpAny_of_eq (show Builtin.Builtins.bindParams "max" ["key", "default"] 0 ⟨[], [(Str.ofString "key", .ref f)]⟩ = pure [some (.ref f), none] from rfl) ?_)
  refine wpAny_bind (wpAny_pure ?_)
  refine wpAny_bind (wpAny_pyIter_list hls ?_)
  refine wpAny_bind (wpAny_newList ?_ (Nat.zero_le _))
  rw [hname]
  have hS : (s.heap.push { cls := .type "list_iterator", data := .fields #[.ref l, .int 0 0] }).objs.size = s.heap.objs.size + 1 := size_push' ..
  have gI : ((s.heap.push { cls := .type "list_iterator", data := .fields #[.ref l, .int 0 0] }).push (seqObj "list" #[] 0)).get? s.heap.objs.size = some { cls := .type "list_iterator", data := .fields #[.ref l, .int 0 0] } :=
    Heap.get?_push_of_some _ (Heap.get?_push_size _ rfl)
  have gS : ((s.heap.push { cls := .type "list_iterator", data := .fields #[.ref l, .int 0 0] }).push (seqObj "list" #[] 0)).get? (s.heap.push { cls := .type "list_iterator", data := .fields #[.ref l, .int 0 0] }).objs.size = some (seqObj "list" #[] 0) := Heap.get?_push_size _ rfl
  have kp : ∀ b o, s.heap.get? b = some o → ((s.heap.push { cls := .type "list_iterator", data := .fields #[.ref l, .int 0 0] }).push (seqObj "list" #[] 0)).get? b = some o := fun b o e => Heap.get?_push_of_some _ (Heap.get?_push_of_some _ e)
  have hlI : l ≠ s.heap.objs.size := Nat.ne_of_lt hll
  generalize hh1 : (s.heap.push { cls := .type "list_iterator", data := .fields #[.ref l, .int 0 0] }).push (seqObj "list" #[] 0) = h1 at gI gS kp ⊢
  have hSI : (s.heap.push { cls := .type "list_iterator", data := .fields #[.ref l, .int 0 0] }).objs.size ≠ s.heap.objs.size := by rw [hS]; exact Nat.ne_of_gt (Nat.lt_succ_self _)
  have hSge : s.heap.objs.size ≤ (s.heap.push { cls := .type "list_iterator", data := .fields #[.ref l, .int 0 0] }).objs.size := by rw [hS]; exact Nat.le_succ _
  generalize (s.heap.push { cls := .type "list_iterator", data := .fields #[.ref l, .int 0 0] }).objs.size = S at gS hSI hSge ⊢
  have mI : Mine X s.heap.objs.size := Mine.new I (Nat.le_refl _)
  have mS : Mine X S := Mine.new I hSge
  have pI : ∀ p ∈ X.pn ++ (f, fo) :: pins, p.1 ≠ s.heap.objs.size ∧ p.1 ≠ S := fun p hp => by
    have := Heap.lt_size (I.pin p hp).1
    exact ⟨Nat.ne_of_lt this, Nat.ne_of_lt (Nat.lt_of_lt_of_le this hSge)⟩
  have I0 : Inv X ((f, fo) :: pins) σ H1 { s with heap := h1 } := I.kept (t' := s.toks) kp
  have I1 : Inv X ((S, seqObj "list" #[] 0) :: (s.heap.objs.size, { cls := .type "list_iterator", data := .fields #[.ref l, .int 0 0] }) :: (f, fo) :: pins) σ H1 { s with heap := h1 } := I0.pins_of fun p hp => by
    rcases List.mem_cons.mp hp with e | hp
    · rw [e]
      exact ⟨gS, I.hok.fresh hSge, mS.ne, mS.fs, fun v z => by cases z⟩
    · rcases List.mem_cons.mp hp with e | hp
      · rw [e]
        exact ⟨gI, I.hok.fresh (Nat.le_refl _), mI.ne, mI.fs, fun v z => by cases z⟩
      · exact I0.pin p (List.mem_append_right _ hp)
  have nI' : ∀ oS, ∀ p ∈ X.pn ++ (S, oS) :: (f, fo) :: pins, p.1 ≠ s.heap.objs.size := fun oS p hp => by
    rcases List.mem_append.mp hp with hp | hp
    · exact (pI p (List.mem_append_left _ hp)).1
    · rcases List.mem_cons.mp hp with e | hp
      · rw [e]; exact hSI
      · exact (pI p (List.mem_append_right _ hp)).1
  have nS' : ∀ oI, ∀ p ∈ X.pn ++ (s.heap.objs.size, oI) :: (f, fo) :: pins, p.1 ≠ S := fun oI p hp => by
    rcases List.mem_append.mp hp with hp | hp
    · exact (pI p (List.mem_append_left _ hp)).2
    · rcases List.mem_cons.mp hp with e | hp
      · rw [e]; exact hSI.symm
      · exact (pI p (List.mem_append_right _ hp)).2
  refine wpAny_pure ⟨plainId_quiet PySem.F.plain_max_loop _, ?_⟩
  obtain ⟨its, rv, hl, _⟩ := I1.list hs
  have hlen : its.length = ns.length := by
    have := rv.length
    rw [List.length_map] at this
    omega
  have W := Walks.list (prog := X.prog) (w := X.w) (A := X.A.in1) hh s.heap.objs.size l hlI its.toArray
  have hsz : its.toArray.size = ns.length := by rw [List.size_toArray]; exact hlen
  obtain ⟨n, hn⟩ : ∃ n, ns[0]? = some n := ⟨_, List.getElem?_eq_getElem hpos⟩
  refine codeAny_builtin PySem.F.entry_max_loop ?_
  rw [Around.under_plainId PySem.F.plain_max_loop _]
  show wpAny _ X.A.in1 (seqItems? (.ref S) >>= _) _ _ _
  refine wpAny_bind (wpAny_seqItems gS rfl ?_)
  show wpAny _ X.A.in1 (tryCatch (pyNext (.ref s.heap.objs.size)) _ >>= _) _ _ _
  refine wpAny_bind (wpAny_tryCatch (W.item 0 _ _ _ (by rw [hsz]; exact hpos) ⟨⟨_, gI, rfl, rfl⟩, hl.isList⟩ fun v h' tk' hP hst' hk' => ?_))
  have hv : its[0]? = some v := by simpa using hP
  have rn : RelV (nv n) v := by
    obtain ⟨u, hu1, hu2⟩ := rv.get (i := 0) (x := nv n) (by rw [List.getElem?_map, hn]; rfl)
    rw [hv] at hu1
    cases hu1
    exact hu2
  obtain ⟨oI', hoI', hoc, hod⟩ := id hst'.1
  have I2 : Inv X ((S, seqObj "list" #[] 0) :: (s.heap.objs.size, oI') :: (f, fo) :: pins) σ H1 { s with heap := h', toks := tk' } :=
    swap1 (turn1 (s := { s with heap := h1 }) (t' := tk') (swap1 I1) mI (nI' _) (fun b u hb e => hk' b u (by simpa using hb) e) hoI' (fun v z => by rw [hod] at z; cases z))
  have hit' : ∀ h : Heap, h.get? s.heap.objs.size = some oI' → h.IsListIter s.heap.objs.size l (0 + 1) := fun h e => ⟨oI', e, hoc, hod⟩
  have gf := (I2.pin (f, fo) (List.mem_append_right _ (.tail _ (.tail _ (.head _))))).1
  show wpAny _ X.A.in1 (tryCatch (holding [v] (call (.ref f) [v])) _ >>= _) _ _ _
  refine wpAny_bind (wpAny_tryCatch (wpAny_holding (wpAny_mono (turn n v H1 _ _ (List.mem_of_getElem? hn) rn (Same.refl _) gf I2) (fun x s'' he => ?_) fun _ _ hF => hF.elim)))
  obtain ⟨xv, H2, I3, rx, e2, t2, rfl, ht2⟩ := he
  obtain rfl : x = Value.ref t2 := rx
  have gS2 := (I3.pin (S, seqObj "list" #[] 0) (List.mem_append_right _ (.head _))).1
  have s1 := Heap.SameBut.update s''.heap S (Obj.mapSeq fun _ => #[v, .ref t2])
  obtain ⟨c2, hc2⟩ : ∃ c2, (s''.heap.update S (Obj.mapSeq fun _ => #[v, .ref t2])).get? S = some (seqObj "list" #[v, .ref t2] c2) := ⟨_, get?_update_seq gS2 fun _ => #[v, .ref t2]⟩
  show wpAny _ X.A.in1 (updateSeq S (fun _ => #[v, .ref t2]) >>= _) _ _ _
  refine wpAny_bind ?_
  refine wpAny_updateSeq gS2 rfl ?_
  rw [hname]
  have I4 := turn1 (t' := s''.toks) I3 mS (nS' _) (fun b u hb e => (s1.2 b hb).trans e) hc2 (fun v z => by cases z)
  refine wpAny_pure ⟨plainId_quiet PySem.F.plain_max_loop _, max_loop (kf := kf) (pins := pins) hh hu hs hlI hSI mI mS pI turn hQ _ 0 n H2 _ v t2 c2 oI' rfl hpos e2 ht2 I4 hit' (List.mem_of_getElem? hn) rn fun j' m hj' hm => ?_⟩
  have e : j' = 0 := by omega
  rw [e, hn] at hm
  cases hm
  exact pLe.refl _
def tMaxL (T : List (Addr × Str)) (K : PySem.W.Frag) (t : TA) (tb : TE) : TE := fun σ H Q => t σ H fun vs H1 => ∃ (l : Addr) (ns : List Nat), vs = [.ref l] ∧ ns ≠ [] ∧ SqL K H1 l (ns.map nv) ∧ Tabs T H1 ∧ ∀ H2, ExtN H1 H2 → Tabs T H2 →
  ∃ kf : Nat → Int × Int, (∀ n ∈ ns, ∀ H3, Same H2 H3 → tb (σ ++ [some (nv n)]) H3 (fun x H4 => Same H3 H4 ∧ ∃ t, x = .ref t ∧ H4 t = some (.tup [.int (kf n).1, .int (kf n).2]))) ∧
    ∀ n ∈ ns, (∀ m ∈ ns, pLe (kf m) (kf n)) → ∀ H3, Same H2 H3 → Q (nv n) H3
theorem pe_maxLam {T : List (Addr × Str)} {c P : Addr} {k : Nat} {p pos lpos kpos : Pos} {e : Expr} {t : TA} {params : Arguments} {body : Expr} {scope : Scope} {y : Str} {tb : TE}
    (hg : Gl X "max") (hm : X.mg "max" = none) (ha : PA X [e] t) (TB : TabB X.base X.mg c P) (hcode : X.env.code = .ref c) (hmT : (P, X.env.qual ++ "<lambda>") ∈ T) (huT : ∀ p ∈ T, p.1 = P → p.2 = X.env.qual ++ "<lambda>") (hr : Room (k + 2) X.A) (L : Lam1 X.env.scope scope y) (hy : y ∉ X.N)
    (hdef : defaultsOf params X.env = ([], [])) (hbind : ∀ (q : Str) (cl : List (Str × Addr)) (pm cv ctv u : Value), bindArgs (PySem.W.kla_fn "<lambda>" q params body scope cl pm cv ctv) ⟨[u], []⟩ = pure [(y, u)])
    (hbody : ∀ (A : Around) (s : Shared) (H : Hp) (f c' : Addr), Room k (A.deeper (lamEnv X scope s.heap.objs.size f c')) → PE (lam1Cx X A s H scope f c' y) body tb)
    (he : backTo pos (starEach [e] X.env) = (false, eval e X.env) :: backTo pos (starEach [] X.env) := by rfl) (hpl : (backTo pos (starEach [e] X.env)).any (·.1) = false := by rfl) :
    PE X (.Call (.Name "max" p) [e] [⟨some "key", .Lambda params body scope lpos, kpos⟩] pos) (tMaxL T X.K t tb) := by
  refine ⟨fun pins s σ H Q I h => ?_⟩
  refine wpAny_Call_Name_kw (ld_blt (u := .builtin "max") I hg hm (by decide +kernel) ?_ (by decide) (by decide))
  refine PyProof.Rows.callWith_kw (thn (ha.run pos pins s σ H _ I h) fun us s1 ⟨vs, H1, I1, r1, q1⟩ => ?_) he hpl (by rfl) (by rfl)
  obtain ⟨l, ns, rfl, hne, hs, hT, q⟩ := q1
  obtain rfl := Vals.ref1 r1
  show wpAny _ _ (evalAll ((do let v ← eval (.Lambda params body scope lpos) X.env; standAt pos; pure v) :: [])) _ _ s1
  refine wpAny_evalAll_cons (wpAny_bind (lam_make2 I1 TB hcode hmT huT hT hdef (L.has I1.ok) fun f c' pm ctv H2 s2 I2 eN T2 hf hfn hfr hco => wpAny_bind (wpAny_standAt (wpAny_pure (wpAny_evalAll_nil ?_)))))
  obtain ⟨kf, k1, k2⟩ := q H2 eN T2
  have I3 : Inv X ((f, PySem.W.kla_obj "<lambda>" (X.env.qual ++ "<lambda>") params body scope (cloFrom X.env.cells scope.names []) pm c' ctv) :: pins) σ H2 s2 := I2.pins_of fun p hp => by
    rcases List.mem_cons.mp hp with e | hp
    · rw [e]
      refine ⟨hf, hfn, fun z => ?_, fun z => ?_, fun v z => by cases z⟩
      · obtain ⟨m, ⟨o, es, ep, ho, hd, _⟩, _⟩ := I2.loc
        have hf' := hf
        rw [show f = X.env.locals from z, ho] at hf'
        cases hf'
        cases hd
      · refine hfr ?_
        rcases I2.ok.stk with e | ⟨e, hf0⟩
        · rw [e]
          exact z
        · rw [e]
          show f ∈ List.filterMap (·.frame) (X.env :: X.outer)
          rw [List.filterMap_cons, hf0]
          exact List.mem_cons_of_mem _ z
    · exact I2.pin p (List.mem_append_right _ hp)
  refine max_lam (kf := kf) hr.hd (by have := hr.un; omega) (extN_seq eN hs) hne (fun n v H' s' ps hn rn e1 gf I' => ?_) (I3.tok _) fun n v H' s' hn rn hb e1 I' => ⟨_, H', I', rn, k2 n hn hb H' e1⟩
  exact lam1_call (k := k) I' hr L hy gf (e1 _ _ hco) hbind hbody rn (k1 n hn H' e1)
end
end Pb
/-! the plan that lets go what's wanted last: mathematics -/
namespace Pb
open Cm07 Lb
def numsOf (p : List Act) : List Nat := p.flatMap Act.nums
theorem numsOf_snoc {p : List Act} {a : Act} {k v : Nat} (h : a.nums = [k, v]) : numsOf (p ++ [a]) = numsOf p ++ [k, v] := by
  unfold numsOf
  rw [List.flatMap_append]
  simp [h]
theorem numsOf_len (p : List Act) : (numsOf p).length = 2 * p.length := by
  induction p with
  | nil => rfl
  | cons a p ih =>
    show (a.nums ++ numsOf p).length = _
    rw [List.length_append, ih, List.length_cons]
    have : a.nums.length = 2 := by cases a <;> rfl
    omega
def FS (w : Work) (p : List Act) (c : Cs) : Prop := ∃ d, acts w p desk0 = some d ∧ Sim w c d
def Can (w : Work) (p : List Act) : Prop := ∃ d, acts w p desk0 = some d
theorem Can.pre {w : Work} {p q : List Act} (h : Can w (p ++ q)) : Can w p := by
  obtain ⟨d, h⟩ := h
  rw [acts_append] at h
  cases e : acts w p desk0 with
  | none =>
    rw [e] at h
    cases h
  | some d' => exact ⟨d', e⟩
theorem FS.snoc {w : Work} {p : List Act} {c : Cs} {a : Act} {k v : Nat} (h : FS w p c) (ok : Can w (p ++ [a])) (hk : a.nums = [k, v]) : ∃ c', cAct w c k v = some c' ∧ FS w (p ++ [a]) c' := by
  obtain ⟨d, h1, S⟩ := h
  obtain ⟨e0, ok⟩ := ok
  rcases sim_act S a hk with ⟨_, hn⟩ | ⟨c', e, h2, h3, S'⟩
  · rw [acts_append, h1] at ok
    have ok : (act w d a).bind (acts w []) = some e0 := ok
    rw [hn] at ok
    cases ok
  · exact ⟨c', h2, e, acts_snoc h1 h3, S'⟩
theorem far_fs {w : Work} {j b : Nat} {f : Far} {c : Cs} (h : FarAt w j b f) (k : FS w f.plan c) : c.done = j ∧ c.held = f.regs.reverse ∧ (∀ v, v ∈ c.away ↔ v ∈ f.away) ∧ cRoom w c = decide (f.regs.length < w.regs) := by
  obtain ⟨d, h1, h2, h3, h4, h5, h6, h7, h8⟩ := h
  obtain ⟨d', e1, S⟩ := k
  rw [h1] at e1
  cases e1
  refine ⟨S.done.trans h2, by rw [S.held, h3], fun v => by rw [S.away, h4], ?_⟩
  unfold cRoom
  rw [S.held, h3, List.length_reverse]
theorem FS.small {w : Work} {p : List Act} {c : Cs} (h : FS w p c) (k : w.steps.length ≤ 10) : Small c := by
  obtain ⟨d, _, S⟩ := h
  exact S.small k
theorem FS.price {w : Work} {p : List Act} {c : Cs} (h : FS w p c) : c.price = planCost w p := by
  obtain ⟨d, h1, S⟩ := h
  rw [S.price, acts_price h1]
  show 0 + _ = _
  omega
/-! ### the one that's wanted last -/
def Late (w : Work) (j m u : Nat) : Prop := fu w.steps m j < fu w.steps u j ∨ (fu w.steps m j = fu w.steps u j ∧ m ≤ u)
theorem Late.anti {w : Work} {j m u : Nat} (a : Late w j m u) (b : Late w j u m) : m = u := by
  unfold Late at a b
  omega
theorem nextUse_lt {w : Work} {j v i : Nat} (h : nextUse w j v = some i) : i < w.steps.length := List.mem_range.mp (List.mem_of_mem_drop (List.mem_of_find?_eq_some h))
theorem fu_some {w : Work} {j v i : Nat} (h : nextUse w j v = some i) : fu w.steps v j = i := by
  rw [next_fu, h]
  rfl
theorem fu_no {w : Work} {j v : Nat} (h : nextUse w j v = none) : fu w.steps v j = w.steps.length := by
  rw [next_fu, h]
  rfl
theorem last_late {w : Work} {j : Nat} : ∀ {l : List Nat} {u : Nat}, lastWanted w j l = some u → ∀ m ∈ l, Late w j m u
  | [], u, h => by cases h
  | v :: l, u, h => by
    unfold lastWanted at h
    cases e : lastWanted w j l with
    | none =>
      rw [e] at h
      cases h
      intro m hm
      rcases List.mem_cons.mp hm with rfl | hm
      · exact .inr ⟨rfl, Nat.le_refl _⟩
      · obtain ⟨x, hx⟩ := lastWanted_some (w := w) (j := j) (l := l) (fun z => by rw [z] at hm; cases hm)
        rw [e] at hx
        cases hx
    | some x =>
      have ih := last_late e
      rw [e] at h
      have key : Late w j v u ∧ Late w j x u := by
        unfold Late
        simp only at h
        cases ev : nextUse w j v with
        | none =>
          have fv := fu_no ev
          cases ex : nextUse w j x with
          | none =>
            have fx := fu_no ex
            rw [ev, ex] at h
            simp only [Option.some.injEq] at h
            subst h
            have c : max v x = v ∧ x ≤ v ∨ max v x = x ∧ v ≤ x := by omega
            rcases c with ⟨c, c'⟩ | ⟨c, c'⟩ <;> rw [c] <;> omega
          | some b =>
            have fx := fu_some ex
            have := nextUse_lt ex
            rw [ev, ex] at h
            simp only [Option.some.injEq] at h
            subst h
            omega
        | some a =>
          have fv := fu_some ev
          have := nextUse_lt ev
          cases ex : nextUse w j x with
          | none =>
            have fx := fu_no ex
            rw [ev, ex] at h
            simp only [Option.some.injEq] at h
            subst h
            omega
          | some b =>
            have fx := fu_some ex
            rw [ev, ex] at h
            simp only at h
            split at h
            · cases h
              omega
            · split at h
              · cases h
                omega
              · simp only [Option.some.injEq] at h
                subst h
                have c : max v x = v ∧ x ≤ v ∨ max v x = x ∧ v ≤ x := by omega
                rcases c with ⟨c, c'⟩ | ⟨c, c'⟩ <;> rw [c] <;> omega
      intro m hm
      rcases List.mem_cons.mp hm with rfl | hm
      · exact key.1
      · have h1 := ih m hm
        have h2 := key.2
        unfold Late at h1 h2 ⊢
        omega
/-! ### how long it gets -/
theorem putIf_len {w : Work} {j v : Nat} {f : Far} : (putIf w j f v).plan.length ≤ f.plan.length + 1 := by
  unfold putIf
  split
  · simp
  · omega
theorem farGet_len {w : Work} {j v : Nat} {f : Far} : (farGet w j f v).plan.length ≤ f.plan.length + 3 := by
  unfold farGet
  split
  · omega
  · simp only [List.length_append, List.length_singleton]
    split
    · omega
    · split
      · omega
      · rename_i u _
        have := putIf_len (w := w) (j := j) (v := u) (f := f)
        simp only [List.length_append, List.length_singleton]
        omega
theorem farGets_len {w : Work} {j : Nat} : ∀ (l : List Nat) (f : Far), (l.foldl (farGet w j) f).plan.length ≤ f.plan.length + 3 * l.length
  | [], f => Nat.le_refl _
  | v :: l, f => by
    have h1 := farGets_len (w := w) (j := j) l (farGet w j f v)
    have h2 := farGet_len (w := w) (j := j) (v := v) (f := f)
    show (l.foldl (farGet w j) (farGet w j f v)).plan.length ≤ _
    rw [List.length_cons]
    omega
theorem uses_len (s : Step) : s.uses.length ≤ 2 := by
  cases s with
  | num k => simp [Step.uses]
  | say a => simp [Step.uses]
  | two o a b =>
    by_cases e : a = b
    · simp [Step.uses, e]
    · simp [Step.uses, e]
theorem farStep_len {w : Work} {j : Nat} {f : Far} : (farStep w f j).plan.length ≤ f.plan.length + 8 := by
  have h1 := farGets_len (w := w) (j := j) (stepAt w j).uses f
  have h2 := uses_len (stepAt w j)
  unfold farStep
  generalize (stepAt w j).uses.foldl (farGet w j) f = g at h1
  simp only
  split
  · simp only [List.length_append, List.length_singleton]
    omega
  · split
    · simp only [List.length_append, List.length_singleton]
      omega
    · split
      · omega
      · rename_i u _
        have := putIf_len (w := w) (j := j + 1) (v := u) (f := g)
        simp only [List.length_append, List.length_singleton]
        omega
theorem farAll_len {w : Work} : ∀ n : Nat, ((List.range n).foldl (farStep w) ⟨[], [], []⟩).plan.length ≤ 8 * n
  | 0 => Nat.le_refl _
  | n + 1 => by
    rw [List.range_succ, List.foldl_append]
    have h1 := farAll_len (w := w) n
    have h2 := farStep_len (w := w) (j := n) (f := (List.range n).foldl (farStep w) ⟨[], [], []⟩)
    show (farStep w _ n).plan.length ≤ _
    omega
theorem gets_dup {w : Work} {j : Nat} {f : Far} {s : Step} : (usedL s).foldl (farGet w j) f = s.uses.foldl (farGet w j) f := by
  cases s with
  | num k => rfl
  | say a => rfl
  | two o a b =>
    by_cases e : a = b
    · subst e
      show farGet w j (farGet w j f a) a = _
      simp only [Step.uses, if_true]
      show _ = farGet w j f a
      have h : a ∈ (farGet w j f a).regs := by
        unfold farGet
        by_cases c : f.regs.contains a = true
        · rw [if_pos c]
          simpa using c
        · rw [if_neg c]
          exact List.mem_cons_self ..
      generalize farGet w j f a = g at h
      unfold farGet
      rw [if_pos (by simpa using h)]
    · simp [usedL, Step.uses, e]
end Pb
namespace Pb
open PySem PySem.Spec PyProof.Rows L2 LamX
abbrev qLam : Str := (("wanted_last" : Str) ++ ".<locals>.") ++ "<lambda>"
abbrev tabs (Pt : Addr) : List (Addr × Str) := [(Pt, qLam)]
def lam1B (sc scope : Scope) (p : Str) : Bool :=
  decide (scope.kind = .function) && !scope.isCoroutine && !scope.isGenerator && decide (scope.names.lookup p = some .local) && scope.names.all fun y => !decide (y.2 = .cell) && (!decide (y.2 = .local) || decide (y.1 = p)) && (!decide (y.2 = .free) || decide (sc.names.lookup y.1 = some .cell) || decide (sc.names.lookup y.1 = some .free))
theorem lam1_by {sc scope : Scope} {p : Str} (h : lam1B sc scope p = true) : Lam1 sc scope p := by
  unfold lam1B at h
  simp only [Bool.and_eq_true, Bool.or_eq_true, Bool.not_eq_true', decide_eq_true_eq, decide_eq_false_iff_not, List.all_eq_true] at h
  obtain ⟨⟨⟨⟨h1, h2⟩, h3⟩, h4⟩, h5⟩ := h
  refine ⟨h1, h2, h3, h4, fun y hy => (h5 y hy).1.1, fun y hy => ?_, fun y hy e => ?_⟩
  · have hm := PySem.mem_of_lookup hy
    exact (h5 _ hm).1.2.resolve_left fun z => z rfl
  · rcases (h5 y hy).2 with (z | z) | z
    · exact absurd e z
    · exact .inl z
    · exact .inr z
section
variable {P : Program} {w : World} {K : PySem.W.Frag} {mg : Str → Option Value} {base : Heap} {C CC : Addr}
/-- a def by its body, its code known -/
theorem ok_code {x qual : Str} {st : Stmt} {f : Addr} {fd : FuncData} {N ps : List Str} {k : Nat} {sp : Sp} {cv : Value} (F : Fun K x qual st f fd) (hcode : fd.code = cv) (S : FnScope N ps (defScope st)) (len : ∀ vs H Q E, sp vs H Q E → vs.length = ps.length)
    (hbody : ∀ (A : Around) (outer : List Env) (s : Shared) (H : Hp) (vs : List V) (Q : VK) (E : XK), Room k (A.deeper (envOfC qual (defScope st) s.heap.objs.size f cv)) → sp vs H Q E →
      ∃ t, PSs (cxOf CX0 P w K mg base N qual (defScope st) f cv A outer s H E).nox (defBody st) t ∧ t { nx := fun _ H' => Q .non H', rt := Q } (start N vs) H) : FnOk P w K mg base CX0 (k + 1) f fd ps sp := by
  obtain ⟨oc, od, kV, doc, pm, an, cdv, ct, osl, rfl, lk, hcd⟩ := F.ex
  have e : cdv = cv := hcode
  subst e
  refine fn_of lk hcd S len fun A outer s H vs Q E hr hsp => ?_
  obtain ⟨t, h, q⟩ := hbody A outer s H vs Q E hr hsp
  exact ⟨t, h.nox, q⟩
def spLast (Pt : Addr) : Sp := fun vs H Q _ => ∃ (ss va : Addr) (ts : List Addr) (wk : Cm07.Work) (ns : List Nat) (j : Nat), vs = [.ref ss, .ref va, nv j] ∧ StepsIn H ss ts wk.steps ∧ H va = some (.lst (ns.map nv)) ∧ ns ≠ [] ∧ j ≤ 1000 ∧ Tabs (tabs Pt) H ∧
  ∀ n ∈ ns, (∀ m ∈ ns, Late wk j m n) → ∀ H', ExtN H H' → Tabs (tabs Pt) H' → Q (nv n) H'
theorem scLast : FnScope ["steps", "values", "start"] ["steps", "values", "start"] (scOf 52) := ⟨rfl, rfl, rfl, by decide +kernel, rfl, by decide +kernel, by decide +kernel⟩
/-- the lambda's expression -/
def lamOf : List Stmt → Option (Arguments × Expr × Scope)
  | [.Return (some (.Call _ _ [⟨_, .Lambda a b s _, _⟩] _)) _] => some (a, b, s)
  | _ => none
theorem tupOf_ne {xs : List V} (ps : Array Value) : HO.tup xs ≠ .tbl ps := fun z => by cases z
theorem StepsIn.ext {H H' : Hp} {ss : Addr} {ts : List Addr} {l : List Cm07.Step} (h : StepsIn H ss ts l) (e : ExtN H H') : StepsIn H' ss ts l :=
  ⟨e _ _ h.st (fun _ z => by cases z), h.len, fun i t s a b => e _ _ (h.tup i t s a b) (fun _ z => by cases z), h.few⟩
theorem ok_last {c Pt : Addr} (D : Ds K mg) (T : Txt K mg C CC) (TB : TabB base mg c Pt) (hcode : D.last.fd.code = .ref c) : FnOk P w K mg base CX0 5 D.last.f D.last.fd ["steps", "values", "start"] (spLast Pt) := by
  refine ok_code D.last.F hcode scLast (fun vs H Q E h => ?_) (fun A outer s H vs Q E hr h => ?_)
  · obtain ⟨ss, va, ts, wk, ns, j, rfl, _⟩ := h
    rfl
  · obtain ⟨ss, va, ts, wk, ns, j, rfl, W, hv, hne, hj, hT, k⟩ := h
    refine ⟨_, pss_one (ps_ret (pe_maxLam (k := 2) (T := tabs Pt) (y := "value") rfl T.mx (pa_cons (pv 1) pa_nil) TB rfl (List.mem_cons_self ..) (fun p hp _ => by rw [List.mem_singleton.mp hp]; rfl) (hr.mono (by decide))
      (lam1_by (sc := scOf 52) (by decide +kernel)) (by show ("value" : Str) ∉ (["steps", "values", "start"] : List Str); decide +kernel) rfl (fun _ _ _ _ _ _ => rfl)
      (fun A s H f c' hr2 => pe_tup (pa_cons (pcall D.first (ok_first D T) hr2 rfl (pa_cons (pv 0) (pa_cons (pv 3) (pa_cons (pv 2) pa_nil)))) (pa_cons (pv 3) pa_nil))))), ?_⟩
    · refine ⟨_, rfl, va, ns, rfl, hne, SqL.of hv, hT, fun H2 eN T2 => ⟨fun n => (((fu wk.steps n j : Nat) : Int), (n : Int)), fun n hn H3 e3 => ?_, fun n hn hb H3 e3 => ?_⟩⟩
      · refine ⟨_, rfl, _, rfl, _, rfl, ss, ts, wk.steps, n, j, rfl, (W.ext eN).keep e3, hj, fun H4 e4 => ⟨_, rfl, (by show 2 ≤ sizeLine; decide), fun p hp => ⟨e4.trans (same_new hp), p, rfl, upd_same⟩⟩⟩
      · refine k n hn (fun m hm => ?_) H3 (fun b o h1 h2 => e3 _ _ (eN b o h1 h2)) (T2.ext e3)
        have := hb m hm
        unfold pLe at this
        unfold Late
        simp only at this
        omega
end
end Pb
namespace Pb
open PySem PySem.Spec PyProof.Rows L2 LamX
def KeptT (H H' : Hp) (A : Ad) (pl : Addr) : Prop := ∀ b o, H b = some o → (∀ ps, o ≠ .tbl ps) → b ≠ A.c → b ≠ A.ha → b ≠ A.aa → b ≠ pl → H' b = some o
theorem KeptT.trans {H H1 H2 : Hp} {A : Ad} {pl : Addr} (a : KeptT H H1 A pl) (b : KeptT H1 H2 A pl) : KeptT H H2 A pl := fun c o h n h1 h2 h3 h4 => b c o (a c o h n h1 h2 h3 h4) n h1 h2 h3 h4
theorem KeptT.of {H H' : Hp} {A : Ad} {pl : Addr} (e : ExtN H H') : KeptT H H' A pl := fun b o h n _ _ _ _ => e b o h n
theorem KeptT.same {H H' : Hp} {A : Ad} {pl : Addr} (e : Same H H') : KeptT H H' A pl := fun b o h _ _ _ _ _ => e b o h
theorem KeptT.refl {H : Hp} {A : Ad} {pl : Addr} : KeptT H H A pl := fun b o h _ _ _ _ _ => h
structure FarIn (C CC Pt : Addr) (H : Hp) (A : Ad) (pl : Addr) (w : Cm07.Work) (c : Cs) (l : List Nat) : Prop where
  pi : PlanIn C CC H A w c
  pa : H pl = some (.lst (l.map nv))
  n1 : pl ≠ A.ha
  n2 : pl ≠ A.aa
  n3 : pl ≠ A.ss
  tb : Tabs (tabs Pt) H
theorem tabs_of {T : List (Addr × Str)} {H H' : Hp} (t : Tabs T H) (k : ∀ b o, H b = some o → ((∃ ps, o = .tbl ps) ∨ ∃ c q, o = CodeO c q) → H' b = some o) : Tabs T H' := fun p hp => by
  obtain ⟨ps, h1, h2, h3⟩ := t p hp
  refine ⟨ps, k _ _ h1 (.inl ⟨_, rfl⟩), h2, fun pos cv hc => ?_⟩
  obtain ⟨c, e1, e2⟩ := h3 pos cv hc
  exact ⟨c, e1, k _ _ e2 (.inr ⟨_, _, rfl⟩)⟩
theorem tab_ne {o : HO} (h : (∃ ps, o = .tbl ps) ∨ ∃ c q, o = CodeO c q) : (∀ xs, o ≠ .lst xs) ∧ ∀ C d fs, o ≠ .ins C d fs := by
  rcases h with ⟨ps, rfl⟩ | ⟨c, q, rfl⟩
  · exact ⟨fun _ z => (by cases z), fun _ _ _ z => (by cases z)⟩
  · exact ⟨fun _ z => (by unfold CodeO at z; cases z), fun _ _ _ z => (by unfold CodeO at z; cases z)⟩
theorem ne_lst {H : Hp} {a b : Addr} {o : HO} {xs : List V} (h : H a = some o) (k : H b = some (.lst xs)) (n : ∀ xs, o ≠ .lst xs) : a ≠ b := fun z => by
  rw [z, k] at h
  exact n xs (Option.some.inj h).symm
theorem ne_ins {H : Hp} {a b C d : Addr} {o : HO} {fs : List (Str × V)} (h : H a = some o) (k : H b = some (.ins C d fs)) (n : ∀ C d fs, o ≠ .ins C d fs) : a ≠ b := fun z => by
  rw [z, k] at h
  exact n _ _ _ (Option.some.inj h).symm
section
variable {C CC Pt : Addr} {H H' : Hp} {A : Ad} {pl : Addr} {wk : Cm07.Work} {c c' : Cs} {l l' : List Nat}
theorem FarIn.ext (h : FarIn C CC Pt H A pl wk c l) (e : ExtN H H') (t : Tabs (tabs Pt) H') : FarIn C CC Pt H' A pl wk c l :=
  ⟨⟨⟨e _ _ h.pi.co.obj (fun _ z => by cases z), e _ _ h.pi.co.hel (fun _ z => by cases z), e _ _ h.pi.co.awa (fun _ z => by cases z)⟩, ⟨e _ _ h.pi.wk.obj (fun _ z => by cases z), h.pi.wk.st.ext e⟩, h.pi.ne, h.pi.hs, h.pi.as⟩, e _ _ h.pa (fun _ z => by cases z), h.n1, h.n2, h.n3, t⟩
theorem FarIn.same (h : FarIn C CC Pt H A pl wk c l) (e : Same H H') : FarIn C CC Pt H' A pl wk c l := h.ext (fun b o q _ => e b o q) (h.tb.ext e)
/-- the course and the plan changed, nothing else -/
theorem FarIn.put (h : FarIn C CC Pt H A pl wk c l) (k : ∀ b o, H b = some o → b ≠ A.c → b ≠ A.ha → b ≠ A.aa → b ≠ pl → H' b = some o) (e : CourseIn CC H' A c') (hp : H' pl = some (.lst (l'.map nv))) : FarIn C CC Pt H' A pl wk c' l' := by
  have q1 : ∀ b o, H b = some o → (∀ xs, o ≠ .lst xs) → (∀ C d fs, o ≠ .ins C d fs) → H' b = some o := fun b o z n1 n2 => k b o z (ne_ins z h.pi.co.obj n2) (ne_lst z h.pi.co.hel n1) (ne_lst z h.pi.co.awa n1) (ne_lst z h.pa n1)
  refine ⟨⟨e, ⟨k _ _ h.pi.wk.obj (ne_of h.pi.wk.obj h.pi.co.obj wF_ne_cF) (ne_of h.pi.wk.obj h.pi.co.hel (by intro z; cases z)) (ne_of h.pi.wk.obj h.pi.co.awa (by intro z; cases z)) (ne_of h.pi.wk.obj h.pa (by intro z; cases z)), ⟨k _ _ h.pi.wk.st.st (ne_of h.pi.wk.st.st h.pi.co.obj (by intro z; cases z)) (Ne.symm h.pi.hs) (Ne.symm h.pi.as) (Ne.symm h.n3), h.pi.wk.st.len, fun i t s a b => q1 _ _ (h.pi.wk.st.tup i t s a b) (fun _ z => by cases z) (fun _ _ _ z => by cases z), h.pi.wk.st.few⟩⟩, h.pi.ne, h.pi.hs, h.pi.as⟩, hp, h.n1, h.n2, h.n3, tabs_of h.tb fun b o z n => q1 b o z (tab_ne n).1 (tab_ne n).2⟩
end
def spAdd (C CC Pt : Addr) : Sp := fun vs H Q _ => ∃ (A : Ad) (pl : Addr) (wk : Cm07.Work) (c c' : Cs) (l : List Nat) (k v : Nat), vs = [.ref A.c, .ref pl, nv k, nv v] ∧ FarIn C CC Pt H A pl wk c l ∧ Small c ∧ l.length ≤ 900 ∧ cAct wk c k v = some c' ∧
  ∀ H', FarIn C CC Pt H' A pl wk c' (l ++ [k, v]) → KeptT H H' A pl → Q .non H'
def spLet (C CC Pt : Addr) : Sp := fun vs H Q _ => ∃ (A : Ad) (pl va : Addr) (wk : Cm07.Work) (c c1 c2 : Cs) (l l1 ns : List Nat) (j k u : Nat), vs = [.ref A.c, .ref pl, .ref va, nv j, nv k] ∧ FarIn C CC Pt H A pl wk c l ∧ Small c ∧ Small c1 ∧ l.length ≤ 800 ∧ H va = some (.lst (ns.map nv)) ∧ j ≤ 1000 ∧ u ∈ ns ∧ (∀ m ∈ ns, Late wk j m u) ∧
  (Cm07.wanted wk j u = true → u ∉ c.away → cAct wk c 0 u = some c1 ∧ l1 = l ++ [0, u]) ∧ (¬ (Cm07.wanted wk j u = true ∧ u ∉ c.away) → c1 = c ∧ l1 = l) ∧ cAct wk c1 k u = some c2 ∧ ∀ H', FarIn C CC Pt H' A pl wk c2 (l1 ++ [k, u]) → KeptT H H' A pl → Q .non H'
section
variable {P : Program} {w : World} {K : PySem.W.Frag} {mg : Str → Option Value} {base : Heap} {C CC : Addr} {Pt : Addr}
theorem scAdd : FnScope ["course", "plan", "act", "value"] ["course", "plan", "act", "value"] (scOf 51) := ⟨rfl, rfl, rfl, by decide +kernel, rfl, by decide +kernel, by decide +kernel⟩
theorem ok_add (D : Ds K mg) (T : Txt K mg C CC) : FnOk P w K mg base CX0 6 D.addAct.f D.addAct.fd ["course", "plan", "act", "value"] (spAdd C CC Pt) := by
  refine D.addAct.F.ok scAdd (fun vs H Q E h => ?_) (fun cdv A outer s H vs Q E hr h => ?_)
  · obtain ⟨A, pl, wk, c, c', l, k, v, rfl, _⟩ := h
    rfl
  · obtain ⟨A, pl, wk, c, c', l, a, v, rfl, I, S, hl, hc, k⟩ := h
    refine ⟨_, pss_cons (ps_expr (pcall D.act (ok_act D T) hr rfl (pa_cons (pv 0) (pa_cons (pv 2) (pa_cons (pv 3) pa_nil)))))
      (pss_one (ps_expr (pe_bm PySem.F.plainAttrs_list PySem.F.slot_list_extend PySem.F.type_list_extend mt_extend (pv 1) (pa_cons (pe_lst (pa_cons (pv 2) (pa_cons (pv 3) pa_nil))) pa_nil)))), ?_⟩
    refine ⟨_, rfl, _, rfl, _, rfl, A, wk, c, a, v, rfl, I.pi, S, fun z => ?_, fun c2 z H2 ci kp => ?_⟩
    · rw [hc] at z
      cases z
    · rw [hc] at z
      cases z
      have hpl : H2 pl = some (.lst (l.map nv)) := kp _ _ I.pa (ne_of I.pa I.pi.co.obj (by intro z; cases z)) I.n1 I.n2
      refine ⟨_, rfl, .inl ⟨rfl, _, SqL.of hpl⟩, _, rfl, _, rfl, (by show 2 ≤ sizeLine; decide), fun p hp => ?_⟩
      have e3 := same_new (o := .lst [nv a, nv v]) hp
      refine ⟨pl, p, _, _, rfl, rfl, e3 _ _ hpl, upd_same, ?_, ?_⟩
      · rw [List.length_map]
        exact Nat.le_of_lt (small1000 (by show l.length + 2 ≤ 1000; omega))
      have up : ∀ b, b ≠ pl → ∀ o, H2 b = some o → upd (upd H2 p (.lst [nv a, nv v])) pl (.lst (l.map nv ++ [nv a, nv v])) b = some o := fun b n o q => by
        rw [upd_ne n]
        exact e3 _ _ q
      have npc : A.c ≠ pl := ne_of I.pi.co.obj I.pa (by intro z; cases z)
      have kk : ∀ b o, H b = some o → b ≠ A.c → b ≠ A.ha → b ≠ A.aa → b ≠ pl → upd (upd H2 p (.lst [nv a, nv v])) pl (.lst (l.map nv ++ [nv a, nv v])) b = some o := fun b o q n1 n2 n3 n4 => up b n4 o (kp b o q n1 n2 n3)
      refine k _ (I.put kk ⟨up _ npc _ ci.obj, up _ (Ne.symm I.n1) _ ci.hel, up _ (Ne.symm I.n2) _ ci.awa⟩ ?_) (fun b o q _ n1 n2 n3 n4 => kk b o q n1 n2 n3 n4)
      rw [upd_same, List.map_append]
      rfl
theorem scLet : FnScope ["course", "plan", "values", "start", "act", "steps", "value"] ["course", "plan", "values", "start", "act"] (scOf 53) := ⟨rfl, rfl, rfl, by decide +kernel, rfl, by decide +kernel, by decide +kernel⟩
theorem ok_let {ca : Addr} (D : Ds K mg) (T : Txt K mg C CC) (TB : TabB base mg ca Pt) (hcode : D.last.fd.code = .ref ca) : FnOk P w K mg base CX0 7 D.letGo.f D.letGo.fd ["course", "plan", "values", "start", "act"] (spLet C CC Pt) := by
  refine D.letGo.F.ok scLet (fun vs H Q E h => ?_) (fun cdv A outer s H vs Q E hr h => ?_)
  · obtain ⟨A, pl, va, wk, c, c1, c2, l, l1, ns, j, k, u, rfl, _⟩ := h
    rfl
  · obtain ⟨A, pl, va, wk, c, c1, c2, l, l1, ns, j, a, u, rfl, I, S, S1, hl, hv, hj, hu, hb, ky, kn, hc2, k⟩ := h
    refine ⟨_, pss_cons (ps_set (i := 5) scLet.nd rfl (.inl rfl) (pe_fld (pe_fld (pv 0) rfl) rfl))
      (pss_cons (ps_set (i := 6) scLet.nd rfl (.inl rfl) (pcall D.last (ok_last D T TB hcode) hr rfl (pa_cons (pv 5) (pa_cons (pv 2) (pa_cons (pv 3) pa_nil)))))
      (pss_cons (ps_if (PW.pt (pw_and (pt_val (pcall D.wantd (ok_wantd D T) hr rfl (pa_cons (pv 5) (pa_cons (pv 6) (pa_cons (pv 3) pa_nil))))) (pw_and1 (pt_cmpR op_notIn_seq (pv 6) (pe_fld (pv 0) rfl) (by rfl)))))
        (pss_one (ps_expr (pcall D.addAct (ok_add (Pt := Pt) D T) hr rfl (pa_cons (pv 0) (pa_cons (pv 1) (pa_cons (pgl rfl T.a0) (pa_cons (pv 6) pa_nil))))))) pss_nil)
      (pss_one (ps_expr (pcall D.addAct (ok_add (Pt := Pt) D T) hr rfl (pa_cons (pv 0) (pa_cons (pv 1) (pa_cons (pv 4) (pa_cons (pv 6) pa_nil))))))))), ?_⟩
    refine ⟨_, rfl, A.c, CC, A.dc, _, _, rfl, I.pi.co.obj, T.cc, T.cW, cF_wor, A.x, C, A.dx, _, _, rfl, I.pi.wk.obj, T.cl, T.nS, wF_ste, ?_⟩
    refine ⟨_, rfl, _, rfl, _, rfl, A.ss, va, A.ts, wk, ns, j, rfl, I.pi.wk.st, hv, (fun z => by rw [z] at hu; cases hu), hj, I.tb, fun n hn hbn H1 e1 t1 => ?_⟩
    have en : n = u := (hb n hn).anti (hbn u hu)
    subst en
    have I1 := I.ext e1 t1
    refine ⟨_, rfl, _, rfl, _, rfl, A.ss, A.ts, wk.steps, n, j, rfl, I1.pi.wk.st, hj, fun H2 e2 => ⟨_, rfl, ?_⟩⟩
    rw [wanted_fu]
    have I2 := I1.same e2
    have k2 : KeptT H H2 A pl := (KeptT.of e1).trans (KeptT.same e2)
    have fin : ∀ {H3 : Hp}, FarIn C CC Pt H3 A pl wk c1 l1 → KeptT H H3 A pl → l1.length ≤ 802 → spAdd C CC Pt ([.ref A.c, .ref pl, nv a, nv n] ++ []) H3 (fun _ H4 => Q .non H4) E0 := fun {H3} I3 k3 hl1 =>
      ⟨A, pl, wk, c1, c2, l1, a, n, rfl, I3, S1, by omega, hc2, fun H4 I4 k4 => k H4 I4 (k3.trans k4)⟩
    cases cw : Cm07.wanted wk j n with
    | false =>
      obtain ⟨rfl, rfl⟩ := kn (fun z => by rw [cw] at z; cases z.1)
      exact if_false_of rfl (if_false_of rfl ⟨_, rfl, _, rfl, _, rfl, _, rfl, fin I2 k2 (by omega)⟩)
    | true =>
      refine if_true_of rfl ?_
      refine ⟨_, rfl, _, rfl, A.c, CC, A.dc, _, _, rfl, I2.pi.co.obj, T.cc, T.cA, cF_awa, A.aa, _, rfl, .inl (SqL.of I2.pi.co.awa), rfl, flat_nats _, _, rfl, ?_⟩
      show if (!inV (nv n) (c.away.map nv)) = true then _ else _
      rw [in_nats]
      by_cases ca' : n ∈ c.away
      · rw [decide_eq_true ca']
        obtain ⟨rfl, rfl⟩ := kn (fun z => z.2 ca')
        exact if_false_of rfl ⟨_, rfl, _, rfl, _, rfl, _, rfl, fin I2 k2 (by omega)⟩
      · rw [decide_eq_false ca']
        obtain ⟨hc1, rfl⟩ := ky cw ca'
        refine if_true_of rfl ?_
        refine ⟨_, rfl, _, rfl, _, rfl, A, pl, wk, c, c1, l, 0, n, rfl, I2, S, by omega, hc1, fun H3 I3 k3 => ?_⟩
        exact ⟨_, rfl, _, rfl, _, rfl, _, rfl, fin I3 (k2.trans k3) (by rw [List.length_append]; show l.length + 2 ≤ 802; omega)⟩
end
end Pb
namespace Pb
open PySem PySem.Spec PyProof.Rows L2 LamX
/-! ### mathematics -/
theorem put_fs {w : Cm07.Work} {i j b u : Nat} {f : Cm07.Far} {c : Cs} (h : Lb.FarAt w j b f) (k : FS w f.plan c) (can : Can w (Cm07.putIf w i f u).plan) : ∃ c1, FS w (Cm07.putIf w i f u).plan c1 ∧
    (Cm07.wanted w i u = true → u ∉ c.away → cAct w c 0 u = some c1 ∧ numsOf (Cm07.putIf w i f u).plan = numsOf f.plan ++ [0, u]) ∧ (¬ (Cm07.wanted w i u = true ∧ u ∉ c.away) → c1 = c ∧ numsOf (Cm07.putIf w i f u).plan = numsOf f.plan) := by
  obtain ⟨_, _, ha, _⟩ := far_fs h k
  have e : (Cm07.wanted w i u && !f.away.contains u) = true ↔ (Cm07.wanted w i u = true ∧ u ∉ c.away) := by
    rw [Bool.and_eq_true, Bool.not_eq_true', List.contains_eq_mem, decide_eq_false_iff_not, ha u]
  unfold Cm07.putIf at can ⊢
  by_cases q : (Cm07.wanted w i u && !f.away.contains u) = true
  · rw [if_pos q] at can ⊢
    obtain ⟨c1, h1, h2⟩ := k.snoc can (show (Cm07.Act.put u).nums = [0, u] from rfl)
    exact ⟨c1, h2, fun _ _ => ⟨h1, numsOf_snoc rfl⟩, fun z => absurd (e.mp q) z⟩
  · rw [if_neg q] at can ⊢
    exact ⟨c, k, fun z1 z2 => absurd (e.mpr ⟨z1, z2⟩) q, fun _ => ⟨rfl, rfl⟩⟩
theorem far_can {w : Cm07.Work} {j b : Nat} {f : Cm07.Far} (h : Lb.FarAt w j b f) : Can w f.plan := by
  obtain ⟨d, h1, _⟩ := h
  exact ⟨d, h1⟩
structure Going (w : Cm07.Work) (j : Nat) (f : Cm07.Far) (c : Cs) : Prop where
  at_ : Lb.FarAt w j (Cm07.valueOf w j) f
  fs : FS w f.plan c
  lt : j < w.steps.length
  ok : Lb.Valid w
  two : 2 ≤ w.regs
  few : w.steps.length ≤ 10
/-- how getting goes -/
theorem get_in {w : Cm07.Work} {j v : Nat} {f : Cm07.Far} {c : Cs} (G : Going w j f c) (h : v ∈ c.held) : Cm07.farGet w j f v = f := by
  obtain ⟨_, h2, _, _⟩ := far_fs G.at_ G.fs
  rw [h2, List.mem_reverse] at h
  unfold Cm07.farGet
  rw [if_pos (by simpa using h)]
theorem get_room {w : Cm07.Work} {j v : Nat} {f : Cm07.Far} {c : Cs} (G : Going w j f c) (hv : v ∈ (Cm07.stepAt w j).uses) (h : v ∉ c.held) (hr : cRoom w c = true) : (Cm07.farGet w j f v).plan = f.plan ++ [.get v] ∧ ∃ c', cAct w c 1 v = some c' ∧ FS w (Cm07.farGet w j f v).plan c' := by
  obtain ⟨_, h2, _, h4⟩ := far_fs G.at_ G.fs
  obtain ⟨g1, _, _⟩ := Lb.far_get G.two G.at_ G.lt G.ok hv
  have can := far_can g1
  rw [h2, List.mem_reverse] at h
  have e : (Cm07.farGet w j f v).plan = f.plan ++ [.get v] := by
    unfold Cm07.farGet
    rw [if_neg (by simpa using h)]
    rw [h4] at hr
    simp only [if_pos (of_decide_eq_true hr)]
  refine ⟨e, ?_⟩
  rw [e] at can ⊢
  obtain ⟨c', k1, k2⟩ := G.fs.snoc can (show (Cm07.Act.get v).nums = [1, v] from rfl)
  exact ⟨c', k1, k2⟩
theorem get_full {w : Cm07.Work} {j v : Nat} {f : Cm07.Far} {c : Cs} (G : Going w j f c) (hv : v ∈ (Cm07.stepAt w j).uses) (h : v ∉ c.held) (hr : cRoom w c = false) :
    ∃ (u : Nat) (c1 c2 c3 : Cs) (p1 : List Cm07.Act), u ∈ c.held.filter (fun x => !decide (x ∈ usedL (Cm07.stepAt w j))) ∧ (∀ m ∈ c.held.filter (fun x => !decide (x ∈ usedL (Cm07.stepAt w j))), Late w j m u) ∧ FS w p1 c1 ∧ p1.length ≤ f.plan.length + 1 ∧
      (Cm07.wanted w j u = true → u ∉ c.away → cAct w c 0 u = some c1 ∧ numsOf p1 = numsOf f.plan ++ [0, u]) ∧ (¬ (Cm07.wanted w j u = true ∧ u ∉ c.away) → c1 = c ∧ numsOf p1 = numsOf f.plan) ∧
      cAct w c1 2 u = some c2 ∧ FS w (p1 ++ [.drop u]) c2 ∧ cAct w c2 1 v = some c3 ∧ (Cm07.farGet w j f v).plan = p1 ++ [.drop u] ++ [.get v] ∧ FS w (Cm07.farGet w j f v).plan c3 := by
  obtain ⟨_, h2, _, h4⟩ := far_fs G.at_ G.fs
  obtain ⟨g1, g2, _⟩ := Lb.far_get G.two G.at_ G.lt G.ok hv
  have can := far_can g1
  rw [h2, List.mem_reverse] at h
  rw [h4] at hr
  have hl := of_decide_eq_false hr
  have mem : ∀ x, x ∈ c.held.filter (fun x => !decide (x ∈ usedL (Cm07.stepAt w j))) ↔ x ∈ f.regs.filter fun u => !(Cm07.stepAt w j).uses.contains u := fun x => by
    rw [List.mem_filter, List.mem_filter, h2, List.mem_reverse]
    simp [mem_usedL]
  cases e : Cm07.lastWanted w j (f.regs.filter fun u => !(Cm07.stepAt w j).uses.contains u) with
  | none =>
    -- there is one that isn't used
    exfalso
    obtain ⟨d, _, _, _, _, h5, h6, _⟩ := G.at_
    have ne : (f.regs.filter fun u => !(Cm07.stepAt w j).uses.contains u) ≠ [] := fun z => by
      have all : ∀ u ∈ f.regs, u ∈ (Cm07.stepAt w j).uses := fun u hu => by
        refine Classical.byContradiction fun q => ?_
        have : u ∈ f.regs.filter fun u => !(Cm07.stepAt w j).uses.contains u := List.mem_filter.mpr ⟨hu, by simpa using q⟩
        rw [z] at this
        cases this
      have q1 : (v :: f.regs).length ≤ (Cm07.stepAt w j).uses.length := by
        refine (List.nodup_cons.mpr ⟨h, h5⟩).length_le_of_subset fun u hu => ?_
        rcases List.mem_cons.mp hu with rfl | hu
        · exact hv
        · exact all u hu
      have q2 := uses_len (Cm07.stepAt w j)
      have q3 := G.two
      rw [List.length_cons] at q1
      omega
    obtain ⟨u, hu⟩ := Lb.lastWanted_some (w := w) (j := j) ne
    rw [e] at hu
    cases hu
  | some u =>
    have ep : (Cm07.farGet w j f v).plan = (Cm07.putIf w j f u).plan ++ [.drop u] ++ [.get v] := by
      unfold Cm07.farGet
      rw [if_neg (by simpa using h)]
      simp only [if_neg hl, e]
    rw [ep] at can ⊢
    obtain ⟨c1, f1, k1, k2⟩ := put_fs G.at_ G.fs can.pre.pre
    obtain ⟨c2, a2, f2⟩ := f1.snoc can.pre (show (Cm07.Act.drop u).nums = [2, u] from rfl)
    obtain ⟨c3, a3, f3⟩ := f2.snoc can (show (Cm07.Act.get v).nums = [1, v] from rfl)
    exact ⟨u, c1, c2, c3, _, (mem u).mpr (Lb.lastWanted_mem e), fun m hm => last_late e m ((mem m).mp hm), f1, putIf_len, k1, k2, a2, f2, a3, rfl, f3⟩
def spGetU (C CC Pt : Addr) : Sp := fun vs H Q _ => ∃ (A : Ad) (pl t : Addr) (wk : Cm07.Work) (c : Cs) (f : Cm07.Far) (j v : Nat), vs = [.ref A.c, .ref pl, nv v, .ref t] ∧ FarIn C CC Pt H A pl wk c (numsOf f.plan) ∧ Going wk j f c ∧ f.plan.length ≤ 300 ∧ H t = some (.tup (tupOf (Cm07.stepAt wk j))) ∧ v ∈ (Cm07.stepAt wk j).uses ∧
  ∀ H' c', FarIn C CC Pt H' A pl wk c' (numsOf (Cm07.farGet wk j f v).plan) → FS wk (Cm07.farGet wk j f v).plan c' → KeptT H H' A pl → Q .non H'
section
variable {P : Program} {w : World} {K : PySem.W.Frag} {mg : Str → Option Value} {base : Heap} {C CC : Addr} {Pt : Addr}
theorem scGetU : FnScope ["course", "plan", "value", "step", "others", "other"] ["course", "plan", "value", "step"] (scOf 54) := ⟨rfl, rfl, rfl, by decide +kernel, rfl, by decide +kernel, by decide +kernel⟩
theorem ok_getU {ca : Addr} (D : Ds K mg) (T : Txt K mg C CC) (TB : TabB base mg ca Pt) (hcode : D.last.fd.code = .ref ca) : FnOk P w K mg base CX0 8 D.getUsed.f D.getUsed.fd ["course", "plan", "value", "step"] (spGetU C CC Pt) := by
  refine D.getUsed.F.ok scGetU (fun vs H Q E h => ?_) (fun cdv A outer s H vs Q E hr h => ?_)
  · obtain ⟨A, pl, t, wk, c, f, j, v, rfl, _⟩ := h
    rfl
  · obtain ⟨A, pl, t, wk, c, f, j, v, rfl, I, G, hl, ht, hv, k⟩ := h
    refine ⟨_, pss_cons (ps_if (pt_cmpR op_in_seq (pv 2) (pe_fld (pv 0) rfl) (by rfl)) (pss_one ps_retN) pss_nil)
      (pss_cons (ps_if (pt_not (pt_val (pcall D.room (ok_room D T) hr rfl (pa_cons (pv 0) pa_nil))))
        (pss_cons (ps_setLc (i := 4) (own := [("other", 5)]) (g := gName 5) (tt := tTest (tOp (rIn K true) (tVar 5) (tCall spUsed [] E0 (tCons (tVar 3) tNil)))) (te := tVar 5) rfl scGetU.nd rfl rfl (sw_true rfl rfl rfl (by decide +kernel)) (pi_list (pe_fld (pv 0) rfl)) (blkOk_by (own := [("other", 5)]) (N := ["course", "plan", "value", "step", "others", "other"]) (sc := scOf 54) (by decide +kernel))
          (fun _ _ _ _ _ => pg_name (i := 5) scGetU.nd rfl (Or.inl rfl)) (fun _ _ _ _ _ => pts_one (pt_cmpR op_notIn_seq (pv 5) (pcall D.used (ok_used D T) hr rfl (pa_cons (pv 3) pa_nil)) (by rfl))) (fun _ _ _ _ _ => pv 5))
        (pss_one (ps_expr (pcall D.letGo (ok_let D T TB hcode) hr rfl (pa_cons (pv 0) (pa_cons (pv 1) (pa_cons (pv 4) (pa_cons (pe_fld (pv 0) rfl) (pa_cons (pgl rfl T.a2) pa_nil))))))))) pss_nil)
      (pss_one (ps_expr (pcall D.addAct (ok_add (Pt := Pt) D T) hr rfl (pa_cons (pv 0) (pa_cons (pv 1) (pa_cons (pgl rfl T.a1) (pa_cons (pv 2) pa_nil)))))))), ?_⟩
    have S := G.fs.small G.few
    have hn := numsOf_len f.plan
    obtain ⟨hd, _, _, _⟩ := far_fs G.at_ G.fs
    refine ⟨_, rfl, _, rfl, A.c, CC, A.dc, _, _, rfl, I.pi.co.obj, T.cc, T.cH, cF_hel, A.ha, _, rfl, .inl (SqL.of I.pi.co.hel), rfl, flat_nats _, _, rfl, ?_⟩
    show if inV (nv v) (c.held.map nv) = true then _ else _
    rw [in_nats]
    by_cases c1 : v ∈ c.held
    · have e := get_in G c1
      rw [e] at k
      exact if_true_of (decide_eq_true c1) (k H c I G.fs .refl)
    refine if_false_of (decide_eq_false c1) ?_
    refine ⟨_, rfl, A, wk, c, rfl, I.pi, _, rfl, ?_⟩
    cases cr : cRoom wk c with
    | true =>
      refine if_false_of rfl ?_
      obtain ⟨ep, c', a1, f1⟩ := get_room G hv c1 cr
      rw [ep, numsOf_snoc (a := .get v) (k := 1) (v := v) rfl] at k
      rw [ep] at f1
      exact ⟨_, rfl, _, rfl, _, rfl, A, pl, wk, c, c', numsOf f.plan, 1, v, rfl, I, S, by omega, a1, fun H' I' k' => k H' c' I' f1 k'⟩
    | false =>
      refine if_true_of rfl ?_
      obtain ⟨u, c1', c2, c3, p1, hu, hb, f1, hp1, ky, kn, a2, f2, a3, ep, f3⟩ := get_full G hv c1 cr
      refine ⟨_, rfl, A.c, CC, A.dc, _, _, rfl, I.pi.co.obj, T.cc, T.cH, cF_hel, A.ha, rfl, ⟨_, SqL.of I.pi.co.hel⟩, fun D1 hD1 => ?_⟩
      refine lc_list (K := K) (a := A.ha) (xs := c.held.map nv) (fun i H' => Mk H D1 (((c.held.take i).filter (fun x => !decide (x ∈ usedL (Cm07.stepAt wk j)))).map nv) H') (.zero hD1) ?_ ?_ ?_
      · intro i H' _ m
        exact SqL.of (m.1 _ _ I.pi.co.hel)
      · intro i y H' hi m
        obtain ⟨x, hx, rfl⟩ := at_map hi
        refine ⟨rfl, _, rfl, _, rfl, t, _, rfl, m.1 _ _ ht, fun H2 p e2 hp hp' => ?_⟩
        refine ⟨p, _, rfl, .inl (SqL.of hp'), rfl, flat_nats _, _, rfl, ?_⟩
        show if (!inV (nv x) ((usedL (Cm07.stepAt wk j)).map nv)) = true then _ else _
        rw [in_nats, take_more hx, List.filter_append]
        by_cases cx : x ∈ usedL (Cm07.stepAt wk j)
        · have z : [x].filter (fun x => !decide (x ∈ usedL (Cm07.stepAt wk j))) = [] := by simp [cx]
          rw [z, List.append_nil, decide_eq_true cx]
          exact if_false_of rfl (m.skip e2)
        · have z : [x].filter (fun x => !decide (x ∈ usedL (Cm07.stepAt wk j))) = [x] := by simp [cx]
          rw [z, List.map_append, decide_eq_false cx]
          refine if_true_of rfl ⟨_, rfl, m.push hD1 e2 ?_⟩
          have := List.length_filter_le (fun x => !decide (x ∈ usedL (Cm07.stepAt wk j))) (c.held.take i)
          rw [List.length_take] at this
          rw [List.length_map]
          have := S.1
          omega
      · intro H2 m
        rw [List.length_map, List.take_length] at m
        have I2 := I.same m.1
        refine ⟨_, rfl, _, rfl, _, rfl, _, rfl, A.c, CC, A.dc, _, _, rfl, I2.pi.co.obj, T.cc, T.cD, cF_don, A, pl, D1, wk, c, c1', c2, numsOf f.plan, numsOf p1, _, j, 2, u, ?_, I2, S, f1.small G.few, by omega, m.2, ?_, hu, hb, ky, kn, a2, fun H3 I3 k3 => ?_⟩
        · rw [hd]
          rfl
        · have := G.lt
          have := G.few
          omega
        · have hn1 := numsOf_len p1
          have hl2 : (numsOf p1 ++ [2, u]).length = 2 * p1.length + 2 := by rw [List.length_append, hn1]; rfl
          have e2 : numsOf (p1 ++ [.drop u]) = numsOf p1 ++ [2, u] := numsOf_snoc rfl
          refine ⟨_, rfl, _, rfl, _, rfl, A, pl, wk, c2, c3, _, 1, v, rfl, I3, f2.small G.few, by rw [hl2]; omega, a3, fun H4 I4 k4 => ?_⟩
          refine k H4 c3 ?_ f3 (((KeptT.same m.1).trans k3).trans k4)
          rw [ep, numsOf_snoc (a := .get v) (k := 1) (v := v) rfl, e2]
          exact I4
end
end Pb
namespace Pb
open PySem PySem.Spec PyProof.Rows L2 LamX
/-! ### mathematics -/
theorem step_short {w : Cm07.Work} {j : Nat} {f : Cm07.Far} {c : Cs} (G : Going w j ((usedL (Cm07.stepAt w j)).foldl (Cm07.farGet w j) f) c) (F : Lb.FarAt w j (Cm07.valueOf w j) f) (h : (Cm07.stepAt w j).gives = false ∨ cRoom w c = true) :
    (Cm07.farStep w f j).plan = ((usedL (Cm07.stepAt w j)).foldl (Cm07.farGet w j) f).plan ++ [.next] ∧ ∃ c', cAct w c 4 0 = some c' ∧ FS w (Cm07.farStep w f j).plan c' := by
  have can := far_can (Lb.far_step G.two G.lt G.ok F)
  obtain ⟨_, h2, _, h4⟩ := far_fs G.at_ G.fs
  have e : (Cm07.farStep w f j).plan = ((usedL (Cm07.stepAt w j)).foldl (Cm07.farGet w j) f).plan ++ [.next] := by
    unfold Cm07.farStep
    rw [← gets_dup]
    simp only
    split
    · rfl
    · rename_i hg
      have hr := h.resolve_left (by simpa using hg)
      rw [h4] at hr
      rw [if_pos (of_decide_eq_true hr)]
  refine ⟨e, ?_⟩
  rw [e] at can ⊢
  exact G.fs.snoc can (show (Cm07.Act.next).nums = [4, 0] from rfl)
theorem step_full {w : Cm07.Work} {j : Nat} {f : Cm07.Far} {c : Cs} (G : Going w j ((usedL (Cm07.stepAt w j)).foldl (Cm07.farGet w j) f) c) (F : Lb.FarAt w j (Cm07.valueOf w j) f) (hg : (Cm07.stepAt w j).gives = true) (hr : cRoom w c = false) :
    ∃ (u : Nat) (c1 c2 : Cs) (p1 : List Cm07.Act), u ∈ c.held ∧ (∀ m ∈ c.held, Late w (j + 1) m u) ∧ FS w p1 c1 ∧
      (Cm07.wanted w (j + 1) u = true → u ∉ c.away → cAct w c 0 u = some c1 ∧ numsOf p1 = numsOf ((usedL (Cm07.stepAt w j)).foldl (Cm07.farGet w j) f).plan ++ [0, u]) ∧ (¬ (Cm07.wanted w (j + 1) u = true ∧ u ∉ c.away) → c1 = c ∧ numsOf p1 = numsOf ((usedL (Cm07.stepAt w j)).foldl (Cm07.farGet w j) f).plan) ∧
      cAct w c1 5 u = some c2 ∧ (Cm07.farStep w f j).plan = p1 ++ [.nextIn u] ∧ FS w (Cm07.farStep w f j).plan c2 := by
  have can := far_can (Lb.far_step G.two G.lt G.ok F)
  obtain ⟨_, h2, _, h4⟩ := far_fs G.at_ G.fs
  rw [h4] at hr
  have hl := of_decide_eq_false hr
  have ne : ((usedL (Cm07.stepAt w j)).foldl (Cm07.farGet w j) f).regs ≠ [] := fun z => by
    rw [z] at hl
    have := G.two
    simp at hl
    omega
  obtain ⟨u, hu⟩ := Lb.lastWanted_some (w := w) (j := j + 1) ne
  have ep : (Cm07.farStep w f j).plan = (Cm07.putIf w (j + 1) ((usedL (Cm07.stepAt w j)).foldl (Cm07.farGet w j) f) u).plan ++ [.nextIn u] := by
    unfold Cm07.farStep
    rw [← gets_dup]
    simp only
    rw [if_neg (by rw [hg]; decide), if_neg hl, hu]
  rw [ep] at can ⊢
  obtain ⟨c1, f1, k1, k2⟩ := put_fs G.at_ G.fs can.pre
  obtain ⟨c2, a2, f2⟩ := f1.snoc can (show (Cm07.Act.nextIn u).nums = [5, u] from rfl)
  exact ⟨u, c1, c2, _, by rw [h2, List.mem_reverse]; exact Lb.lastWanted_mem hu, fun m hm => last_late hu m (by rw [h2, List.mem_reverse] at hm; exact hm), f1, k1, k2, a2, rfl, f2⟩
def spStepF (C CC Pt : Addr) : Sp := fun vs H Q _ => ∃ (A : Ad) (pl t : Addr) (wk : Cm07.Work) (c : Cs) (f : Cm07.Far) (j : Nat), vs = [.ref A.c, .ref pl, .ref t] ∧ FarIn C CC Pt H A pl wk c (numsOf f.plan) ∧ Going wk j f c ∧ f.plan.length ≤ 100 ∧ H t = some (.tup (tupOf (Cm07.stepAt wk j))) ∧
  ∀ H' c', FarIn C CC Pt H' A pl wk c' (numsOf (Cm07.farStep wk f j).plan) → FS wk (Cm07.farStep wk f j).plan c' → KeptT H H' A pl → Q .non H'
section
variable {P : Program} {w : World} {K : PySem.W.Frag} {mg : Str → Option Value} {base : Heap} {C CC : Addr} {Pt : Addr}
theorem scStepF : FnScope ["course", "plan", "step", "value"] ["course", "plan", "step"] (scOf 55) := ⟨rfl, rfl, rfl, by decide +kernel, rfl, by decide +kernel, by decide +kernel⟩
theorem ok_stepF {ca : Addr} (D : Ds K mg) (T : Txt K mg C CC) (TB : TabB base mg ca Pt) (hcode : D.last.fd.code = .ref ca) : FnOk P w K mg base CX0 9 D.addStep.f D.addStep.fd ["course", "plan", "step"] (spStepF C CC Pt) := by
  refine D.addStep.F.ok scStepF (fun vs H Q E h => ?_) (fun cdv A outer s H vs Q E hr h => ?_)
  · obtain ⟨A, pl, t, wk, c, f, j, rfl, _⟩ := h
    rfl
  · obtain ⟨A, pl, t, wk, c, f, j, rfl, I, G, hl, ht, k⟩ := h
    refine ⟨_, pss_cons (ps_for PassesOwn.never rfl (pi_list (pcall D.used (ok_used D T) hr rfl (pa_cons (pv 2) pa_nil))) (pg_name (i := 3) scStepF.nd rfl (.inl rfl))
        (pss_one (ps_expr (pcall D.getUsed (ok_getU D T TB hcode) hr rfl (pa_cons (pv 0) (pa_cons (pv 1) (pa_cons (pv 3) (pa_cons (pv 2) pa_nil))))))))
      (pss_one (ps_if (PW.pt (pw_or (pt_not (pt_val (pcall D.gives (ok_gives D T) hr rfl (pa_cons (pv 2) pa_nil)))) (pw_or1 (pt_val (pcall D.room (ok_room D T) hr rfl (pa_cons (pv 0) pa_nil))))))
        (pss_one (ps_expr (pcall D.addAct (ok_add (Pt := Pt) D T) hr rfl (pa_cons (pv 0) (pa_cons (pv 1) (pa_cons (pgl rfl T.a4) (pa_cons pe_int pa_nil)))))))
        (pss_one (ps_expr (pcall D.letGo (ok_let D T TB hcode) hr rfl (pa_cons (pv 0) (pa_cons (pv 1) (pa_cons (pe_fld (pv 0) rfl) (pa_cons (pe_op op_add (pe_fld (pv 0) rfl) pe_int) (pa_cons (pgl rfl T.a5) pa_nil)))))))))), ?_⟩
    refine ⟨_, rfl, t, _, rfl, ht, fun H1 pu e1 np hp => ⟨pu, rfl, ⟨_, SqL.of hp⟩, ?_⟩⟩
    have I1 := I.same e1
    have ht1 := e1 _ _ ht
    have nh : pu ≠ A.ha := fun z => by rw [z, I.pi.co.hel] at np; cases np
    have na : pu ≠ A.aa := fun z => by rw [z, I.pi.co.awa] at np; cases np
    have npl : pu ≠ pl := fun z => by rw [z, I.pa] at np; cases np
    have nc : pu ≠ A.c := fun z => by rw [z, I.pi.co.obj] at np; cases np
    have kpu : ∀ {H' : Hp}, KeptT H1 H' A pl → H' pu = some (.lst ((usedL (Cm07.stepAt wk j)).map nv)) := fun kt => kt _ _ hp (fun _ z => by cases z) nc nh na npl
    have kt' : ∀ {H' : Hp}, KeptT H1 H' A pl → H' t = some (.tup (tupOf (Cm07.stepAt wk j))) := fun kt => kt _ _ ht1 (fun _ z => by cases z) (ne_of ht1 I1.pi.co.obj (by intro z; cases z)) (ne_of ht1 I1.pi.co.hel (by intro z; cases z)) (ne_of ht1 I1.pi.co.awa (by intro z; cases z)) (ne_of ht1 I1.pa (by intro z; cases z))
    have hul : (usedL (Cm07.stepAt wk j)).length ≤ 2 := by
      cases Cm07.stepAt wk j <;> simp [usedL]
    refine for_list (K := K) (a := pu) (xs := (usedL (Cm07.stepAt wk j)).map nv) (fun i σ H' => ∃ (v3 : Option V) (c' : Cs), σ = [some (.ref A.c), some (.ref pl), some (.ref t), v3] ∧ KeptT H1 H' A pl ∧ FarIn C CC Pt H' A pl wk c' (numsOf (((usedL (Cm07.stepAt wk j)).take i).foldl (Cm07.farGet wk j) f).plan) ∧ Going wk j (((usedL (Cm07.stepAt wk j)).take i).foldl (Cm07.farGet wk j) f) c' ∧ i ≤ 2) ?_ ?_ ?_ ?_
    · exact ⟨none, c, rfl, .refl, I1, G, Nat.zero_le _⟩
    · rintro i σ H' _ ⟨_, _, _, kt, _⟩
      exact SqL.of (kpu kt)
    · rintro i y σ H' hi ⟨v3, c', rfl, kt, I', G', hi2⟩
      obtain ⟨u, hu, rfl⟩ := at_map hi
      have hlt := (List.getElem?_eq_some_iff.mp hu).1
      have huse : u ∈ (Cm07.stepAt wk j).uses := mem_usedL.mp (List.mem_of_getElem? hu)
      have hgl := farGets_len (w := wk) (j := j) ((usedL (Cm07.stepAt wk j)).take i) f
      rw [List.length_take] at hgl
      refine ⟨_, rfl, _, rfl, _, rfl, _, rfl, A, pl, t, wk, c', _, j, u, rfl, I', G', by omega, kt' kt, huse, fun H2 c2 I2 f2 k2 => ?_⟩
      obtain ⟨g1, _, _⟩ := Lb.far_get G'.two G'.at_ G'.lt G'.ok huse
      refine ⟨_, c2, rfl, kt.trans k2, ?_, ?_, by omega⟩
      · rw [take_more hu, List.foldl_append]
        exact I2
      · rw [take_more hu, List.foldl_append]
        exact ⟨g1, f2, G'.lt, G'.ok, G'.two, G'.few⟩
    · rintro σ H' ⟨v3, c', rfl, kt, I', G', _⟩
      rw [List.length_map, List.take_length] at I' G'
      have hgl := farGets_len (w := wk) (j := j) (usedL (Cm07.stepAt wk j)) f
      have S := G'.fs.small G'.few
      obtain ⟨hd, _, _, _⟩ := far_fs G'.at_ G'.fs
      have hn := numsOf_len ((usedL (Cm07.stepAt wk j)).foldl (Cm07.farGet wk j) f).plan
      have kH : KeptT H H' A pl := (KeptT.same e1).trans kt
      refine ⟨_, rfl, t, _, rfl, kt' kt, _, rfl, ?_⟩
      have short : ((Cm07.stepAt wk j).gives = false ∨ cRoom wk c' = true) → spAdd C CC Pt ([.ref A.c, .ref pl, nv 4, nv 0] ++ []) H' (fun _ H4 => Q .non H4) E0 := fun h => by
        obtain ⟨ep, c2, a2, f2⟩ := step_short G' G.at_ h
        have k2 := fun H2 I2 k3 => k H2 c2 I2 f2 k3
        rw [ep, numsOf_snoc (a := .next) (k := 4) (v := 0) rfl] at k2
        exact ⟨A, pl, wk, c', c2, _, 4, 0, rfl, I', S, by omega, a2, fun H2 I2 k3 => k2 H2 I2 (kH.trans k3)⟩
      cases hg : (Cm07.stepAt wk j).gives with
      | false => exact if_true_of rfl (if_true_of rfl ⟨_, rfl, _, rfl, short (.inl hg)⟩)
      | true =>
        refine if_false_of rfl ?_
        refine ⟨_, rfl, A, wk, c', rfl, I'.pi, _, rfl, ?_⟩
        cases cr : cRoom wk c' with
        | true => exact if_true_of rfl ⟨_, rfl, _, rfl, short (.inr cr)⟩
        | false =>
          refine if_false_of rfl ?_
          obtain ⟨u, c1, c2, p1, hu, hb, f1, ky, kn, a2, ep, f2⟩ := step_full G' G.at_ hg cr
          refine ⟨_, rfl, _, rfl, _, rfl, A.c, CC, A.dc, _, _, rfl, I'.pi.co.obj, T.cc, T.cH, cF_hel, _, rfl, A.c, CC, A.dc, _, _, rfl, I'.pi.co.obj, T.cc, T.cD, cF_don, _, _, rfl, rfl, A, pl, A.ha, wk, c', c1, c2, _, numsOf p1, c'.held, j + 1, 5, u, ?_, I', S, f1.small G'.few, by omega, I'.pi.co.hel, ?_, hu, hb, ky, kn, a2, fun H3 I3 k3 => ?_⟩
          · rw [hd]
            rfl
          · have := G.lt
            have := G.few
            omega
          · have k2 := k H3 c2
            rw [ep, numsOf_snoc (a := .nextIn u) (k := 5) (v := u) rfl] at k2
            exact k2 I3 (by rw [ep] at f2; exact f2) (kH.trans k3)
end
end Pb
namespace Pb
open PySem PySem.Spec PyProof.Rows L2 LamX
/-- behind a call, where tables of code may have grown -/
def AfterT (C Pt : Addr) (H : Hp) (x ss : Addr) (r : Cm07.Work × List Int) (Q : VK) : Prop :=
  ∀ (H' : Hp) (p dx ss' : Addr) (ts' : List Addr), WorkIn C H' x dx ss' ts' r.1 → (∀ b o, H b = some o → (∀ ps, o ≠ .tbl ps) → b ≠ x → b ≠ ss → H' b = some o) → (ss' = ss ∨ ∀ b o, H b = some o → (∀ ps, o ≠ .tbl ps) → b ≠ ss') → Tabs (tabs Pt) H' →
    (∀ b o, H b = some o → (∀ ps, o ≠ .tbl ps) → b ≠ p) → H' p = some (.lst (r.2.map V.int)) → Q (.ref p) H'
theorem AfterT.to {C Pt : Addr} {H : Hp} {x dx ss : Addr} {ts : List Addr} {w : Cm07.Work} {r : Cm07.Work × List Int} {Q : VK} (k : AfterT C Pt H x ss r Q) (W : WorkIn C H x dx ss ts w) (t : Tabs (tabs Pt) H) : After C H x ss r Q := by
  intro H' p dx' ss' ts' W' kp hs hp hp'
  refine k H' p dx' ss' ts' W' (fun b o h _ h1 h2 => kp b o h h1 h2) (hs.imp id fun n b o h _ => ne_of_none h n) (tabs_of t fun b o h n => kp b o h (ne_ins h W.obj (tab_ne n).2) (ne_lst h W.st.st (tab_ne n).1)) (fun b o h _ => ne_of_none h hp) hp'
def farI (w : Cm07.Work) (i : Nat) : Cm07.Far := (List.range i).foldl (Cm07.farStep w) ⟨[], [], []⟩
theorem farI_succ (w : Cm07.Work) (i : Nat) : farI w (i + 1) = Cm07.farStep w (farI w i) i := by
  unfold farI
  rw [List.range_succ, List.foldl_append]
  rfl
def spFar (C Pt : Addr) : Sp := fun vs H Q _ => ∃ (x dx ss : Addr) (ts : List Addr) (w : Cm07.Work), vs = [.ref x] ∧ WorkIn C H x dx ss ts w ∧ Sound w ∧ Tabs (tabs Pt) H ∧ AfterT C Pt H x ss (Cm07.step w .far) Q
section
variable {P : Program} {w : World} {K : PySem.W.Frag} {mg : Str → Option Value} {base : Heap} {C CC : Addr} {Pt : Addr}
theorem scFar : FnScope ["work", "course", "plan", "step"] ["work"] (scOf 56) := ⟨rfl, rfl, rfl, by decide +kernel, rfl, by decide +kernel, by decide +kernel⟩
theorem ok_far {ca : Addr} (D : Ds K mg) (M : Ms K C CC) (T : Txt K mg C CC) (TB : TabB base mg ca Pt) (hcode : D.last.fd.code = .ref ca) : FnOk P w K mg base CX0 10 D.far.f D.far.fd ["work"] (spFar C Pt) := by
  refine D.far.F.ok scFar (fun vs H Q E h => ?_) (fun cdv A outer s H vs Q E hr h => ?_)
  · obtain ⟨x, dx, ss, ts, w, rfl, _⟩ := h
    rfl
  · obtain ⟨x, dx, ss, ts, wk, rfl, W, So, tb, k⟩ := h
    refine ⟨_, pss_cons (ps_set (i := 1) scFar.nd rfl (.inl rfl) (pe_make M.mC (ok_CI M T) (hr.mono (by decide)) rfl T.gCC M.bC .nil pass0 (pa_cons (pv 0) pa_nil)))
      (pss_cons (ps_set (i := 2) scFar.nd rfl (.inl rfl) (pe_lst pa_nil))
      (pss_cons (ps_for PassesOwn.never rfl (pi_list (pe_fld (pv 0) rfl)) (pg_name (i := 3) scFar.nd rfl (.inl rfl))
        (pss_one (ps_expr (pcall D.addStep (ok_stepF D T TB hcode) hr rfl (pa_cons (pv 1) (pa_cons (pv 2) (pa_cons (pv 3) pa_nil)))))))
      (pss_one (ps_ret (pe_op op_cat (pe_lst (pa_cons (pe_fld (pv 1) rfl) (pa_cons (pe_op op_fdiv (pe_callB call_len_seq (by rfl) T.len PySem.boot_len (pa_cons (pv 2) pa_nil)) pe_int) pa_nil))) (pv 2)))))), ?_⟩
    have hf := So.few
    refine ⟨_, rfl, fun p dp np nd ne => ⟨p, dp, x, rfl, upd_same, fun H1 ha aa h1 h2 h3 hne n2 n3 kp => ⟨rfl, ?_⟩⟩⟩
    obtain ⟨s1, n2', n3', I0⟩ := course_new W np nd h1 h2 h3 hne n2 n3 kp
    refine ⟨by show 0 ≤ sizeLine; decide, fun pl hpl => ?_⟩
    have s2 := same_new (o := .lst []) hpl
    have e2 := s1.trans s2
    have npl : H pl = none := s1.free hpl
    have I1 : FarIn C CC Pt (upd H1 pl (.lst [])) ⟨p, dp, x, ha, aa, dx, ss, ts⟩ pl wk ⟨0, [], [], 0⟩ (numsOf (farI wk 0).plan) := by
      refine ⟨I0.same s2, upd_same, fun z => ?_, fun z => ?_, fun z => ?_, tb.ext e2⟩
      · have z : pl = ha := z
        rw [z, h2] at hpl
        cases hpl
      · have z : pl = aa := z
        rw [z, h3] at hpl
        cases hpl
      · have z : pl = ss := z
        rw [z, W.st.st] at npl
        cases npl
    refine ⟨_, rfl, x, C, dx, _, _, rfl, I1.pi.wk.obj, T.cl, T.nS, wF_ste, ss, rfl, ⟨_, SqL.of I1.pi.wk.st.st⟩, ?_⟩
    have hlen : (ts.map V.ref).length = wk.steps.length := by rw [List.length_map, W.st.len]
    refine for_list (K := K) (a := ss) (xs := ts.map V.ref) (fun i σ H' => ∃ (v3 : Option V) (c : Cs), σ = [some (.ref x), some (.ref p), some (.ref pl), v3] ∧ KeptT (upd H1 pl (.lst [])) H' ⟨p, dp, x, ha, aa, dx, ss, ts⟩ pl ∧ FarIn C CC Pt H' ⟨p, dp, x, ha, aa, dx, ss, ts⟩ pl wk c (numsOf (farI wk i).plan) ∧ FS wk (farI wk i).plan c ∧ i ≤ wk.steps.length) ?_ ?_ ?_ ?_
    · exact ⟨none, _, rfl, .refl, I1, ⟨Cm07.desk0, rfl, sim0 wk⟩, Nat.zero_le _⟩
    · rintro i σ H' _ ⟨_, _, _, _, I', _⟩
      exact SqL.of I'.pi.wk.st.st
    · rintro i y σ H' hi ⟨v3, c, rfl, kt, I', f', hi'⟩
      obtain ⟨t, h1', rfl⟩ := at_map hi
      have hlt : i < wk.steps.length := by
        have := (List.getElem?_eq_some_iff.mp h1').1
        have := W.st.len
        omega
      have G : Going wk i (farI wk i) c := ⟨Lb.far_steps So.r2 So.val i hi', f', hlt, So.val, So.r2, hf⟩
      have hll := farAll_len (w := wk) i
      have hll : (farI wk i).plan.length ≤ 8 * i := hll
      refine ⟨_, rfl, _, rfl, _, rfl, ⟨p, dp, x, ha, aa, dx, ss, ts⟩, pl, t, wk, c, farI wk i, i, rfl, I', G, by omega, I'.pi.wk.st.tup i t _ h1' (step_ix hlt), fun H2 c2 I2 f2 k2 => ?_⟩
      rw [← farI_succ] at I2 f2
      exact ⟨_, c2, rfl, kt.trans k2, I2, f2, by omega⟩
    · rintro σ H' ⟨v3, c, rfl, kt, I', f', _⟩
      rw [hlen] at I' f'
      have hn := numsOf_len (farI wk wk.steps.length).plan
      have hll := farAll_len (w := wk) wk.steps.length
      have hll : (farI wk wk.steps.length).plan.length ≤ 8 * wk.steps.length := hll
      have kH : ∀ b o, H b = some o → (∀ ps, o ≠ .tbl ps) → H' b = some o := fun b o h n => kt b o (e2 _ _ h) n (ne_of_none h np) (ne_of_none h n2') (ne_of_none h n3') (ne_of_none h npl)
      refine ⟨_, rfl, p, CC, dp, _, _, rfl, I'.pi.co.obj, T.cc, T.cP, cF_pri, _, rfl, pl, _, rfl, .inl (SqL.of I'.pa), _, _, rfl, rfl, ⟨by decide, by decide⟩, (by show 2 ≤ sizeLine; decide), fun p3 h3 => ?_⟩
      have s3 := same_new (o := .lst [nv c.price, V.int ((((numsOf (farI wk wk.steps.length).plan).map nv).length : Nat) / 2 : Int)]) h3
      refine ⟨_, rfl, p3, pl, _, _, rfl, rfl, upd_same, s3 _ _ I'.pa, ?_, fun p4 h4 => ?_⟩
      · refine Nat.le_of_lt (small1000 ?_)
        rw [List.length_map]
        show 2 + _ ≤ 1000
        omega
      · have s4 := same_new (o := .lst ([nv c.price, V.int ((((numsOf (farI wk wk.steps.length).plan).map nv).length : Nat) / 2 : Int)] ++ (numsOf (farI wk wk.steps.length).plan).map nv)) h4
        have I4 := (I'.same s3).same s4
        refine k _ p4 dx ss ts I4.pi.wk (fun b o h n _ _ => s4 _ _ (s3 _ _ (kH b o h n))) (.inl rfl) I4.tb (fun b o h n z => ?_) ?_
        · have q := s3 _ _ (kH b o h n)
          rw [z, h4] at q
          cases q
        · rw [upd_same]
          have hr := Lb.far_right So.r2 So.val
          have hp := f'.price
          show some (HO.lst (nv c.price :: V.int ((((numsOf (farI wk wk.steps.length).plan).map nv).length : Nat) / 2 : Int) :: (numsOf (farI wk wk.steps.length).plan).map nv)) = some (HO.lst (List.map V.int (Cm07.ints (((Cm07.acts wk (Cm07.far wk) Cm07.desk0).map fun d => d.price).getD 0 :: (Cm07.far wk).length :: (Cm07.far wk).flatMap Cm07.Act.nums))))
          rw [hr, hp, List.length_map, hn]
          have e : ((2 * (farI wk wk.steps.length).plan.length : Nat) : Int) / 2 = (((Cm07.far wk).length : Nat) : Int) := by
            show ((2 * (farI wk wk.steps.length).plan.length : Nat) : Int) / 2 = (((farI wk wk.steps.length).plan.length : Nat) : Int)
            omega
          rw [e, Cm07.ints, List.map_map]
          rfl
end
end Pb
namespace Pb
open PySem PySem.Spec PyProof.Rows L2 LamX
/-! ### each call keeps a work sound -/
theorem sound_push {w : Cm07.Work} {s : Cm07.Step} (S : Sound w) (hs : okStep s) (hu : ∀ v ∈ s.uses, v < Cm07.values w) (hl : w.steps.length < 10) : Sound { w with steps := w.steps ++ [s] } := by
  refine ⟨S.r2, S.r4, S.p9, S.g9, S.a9, by show (w.steps ++ [s]).length ≤ 10; rw [List.length_append]; show w.steps.length + 1 ≤ 10; omega, fun j hj v hv => ?_, fun t ht => ?_⟩
  · have hj : j < (w.steps ++ [s]).length := hj
    rw [List.length_append] at hj
    have hj : j < w.steps.length + 1 := hj
    show v < (((w.steps ++ [s]).take j).filter Cm07.Step.gives).length
    have hv : v ∈ ((w.steps ++ [s]).getD j (.num 0)).uses := hv
    by_cases c : j < w.steps.length
    · rw [List.take_append_of_le_length (by omega)]
      rw [List.getD_eq_getElem?_getD, List.getElem?_append_left c, ← List.getD_eq_getElem?_getD] at hv
      exact S.val j c v hv
    · have e : j = w.steps.length := by omega
      subst e
      rw [List.take_append_of_le_length (Nat.le_refl _), List.take_length]
      rw [List.getD_eq_getElem?_getD, List.getElem?_append_right (Nat.le_refl _), Nat.sub_self] at hv
      exact hu v hv
  · have ht : t ∈ w.steps ++ [s] := ht
    rcases List.mem_append.mp ht with h | h
    · exact S.ok t h
    · rw [List.mem_singleton.mp h]
      exact hs
theorem sound_put {w : Cm07.Work} {s : Cm07.Step} (S : Sound w) (hs : okStep s) : Sound (Cm07.put w s).1 := by
  unfold Cm07.put
  split
  · exact S
  · rename_i h
    split
    · exact S
    · rename_i h2
      refine sound_push S hs (fun v hv => ?_) (by have : Cm07.LONG = 10 := rfl; omega)
      refine Nat.lt_of_not_le fun z => h ?_
      exact List.any_eq_true.mpr ⟨v, hv, decide_eq_true z⟩
theorem sound_init : Sound Cm07.init := ⟨by decide, by decide, by decide, by decide, by decide, by decide, fun j hj => absurd hj (Nat.not_lt_zero _), fun s hs => absurd hs (by intro z; cases z)⟩
theorem sound_step {w : Cm07.Work} {p : Nat} {a : List Nat} {c : Cm07.Call} (S : Sound w) (h : PaFlat.Form p a c) (hb : ∀ n ∈ a, n < 4294967296) : Sound (Cm07.step w c).1 := by
  cases h with
  | work k p g a =>
    show Sound (if k < 2 ∨ 4 < k ∨ 9 < p ∨ 9 < g ∨ 9 < a then (w, [-1]) else (⟨k, p, g, a, []⟩, Cm07.ints [k])).1
    split
    · exact S
    · rename_i h
      exact ⟨by show 2 ≤ k; omega, by show k ≤ 4; omega, by show p ≤ 9; omega, by show g ≤ 9; omega, by show a ≤ 9; omega, Nat.zero_le _, fun j hj => absurd hj (Nat.not_lt_zero _), fun s hs => absurd hs (by intro z; cases z)⟩
  | num k => exact sound_put S (hb k (List.mem_cons_self ..))
  | two o a b =>
    by_cases ho : o < 10
    · obtain ⟨p, _, hd, e⟩ := two_small (w := w) (a := a) (b := b) ho
      rw [e]
      exact sound_put S hd
    · rw [two_big (by omega)]
      exact S
  | say a => exact sound_put S trivial
  | shows => exact S
  | says => exact S
  | most => exact S
  | least => exact S
  | far => exact S
  | judge l _ => exact S
/-! ### what the top has written, more -/
def lenL : List Nat := [4, 1, 3, 1, 0, 0, 0, 0, 0, 1]
structure Ln (K : PySem.W.Frag) (mg : Str → Option Value) : Prop where
  len : ∃ a, mg "LENGTHS" = some (.ref a) ∧ ∀ H : Hp, SqT K H a (lenL.map nv)
theorem drop_at {l : List Int} {i j : Nat} {r : List Int} {x : Int} (h : l.drop i = r) (hx : r[j]? = some x) : (l.map V.int)[i + j]? = some (V.int x) := by
  rw [← h, List.getElem?_drop] at hx
  rw [List.getElem?_map, hx]
  rfl
theorem cut_mid {l : List Int} {i : Nat} {p : Int} {a : List Nat} {r : List Int} (h : l.drop i = p :: (PaFlat.ns a ++ r)) : cutV (l.map V.int) (some ((i : Int) + 1)) (some ((i + 1 + a.length : Nat) : Int)) = a.map nv := by
  have hl : l.length - i = 1 + (a.length + r.length) := by
    rw [← List.length_drop, h, List.length_cons, List.length_append]
    unfold PaFlat.ns
    rw [List.length_map]
    omega
  have e : ((i : Int) + 1) = ((i + 1 : Nat) : Int) := rfl
  unfold cutV
  rw [e, HT.sIx_nat, HT.sIx_nat, List.length_map, Nat.min_eq_left (by omega), Nat.min_eq_left (by omega)]
  have e2 : l.drop (i + 1) = PaFlat.ns a ++ r := by
    rw [← List.drop_drop, h]
    rfl
  rw [← List.map_drop, e2, ← List.map_take]
  have e3 : i + 1 + a.length - (i + 1) = (PaFlat.ns a).length := by
    unfold PaFlat.ns
    rw [List.length_map]
    omega
  rw [e3, List.take_left]
  unfold PaFlat.ns
  rw [List.map_map]
  rfl
theorem cut_tail {xs : List V} {x : V} : cutV (x :: xs) (some 1) none = xs := by
  unfold cutV
  have e : (1 : Int) = ((1 : Nat) : Int) := rfl
  rw [e, HT.sIx_nat, HT.sIx_none, List.length_cons, Nat.min_eq_left (by omega)]
  show xs.take (xs.length + 1 - 1) = xs
  rw [Nat.add_sub_cancel, List.take_length]
def spEnd (K : PySem.W.Frag) : Sp := fun vs H Q _ => ∃ (q : Addr) (l : List Int) (i p : Nat) (a : List Nat) (c : Cm07.Call) (r : List Int), vs = [.ref q, nv i] ∧ SqL K H q (l.map V.int) ∧ l.drop i = (p : Int) :: (PaFlat.ns a ++ r) ∧ PaFlat.Form p a c ∧ Q (nv (i + 1 + a.length)) H
def spAnsw (C Pt : Addr) : Sp := fun vs H Q _ => ∃ (x q dx ss : Addr) (ts : List Addr) (w : Cm07.Work) (p : Nat) (a : List Nat) (c : Cm07.Call), vs = [.ref x, nv p, .ref q] ∧ WorkIn C H x dx ss ts w ∧ Sound w ∧ Tabs (tabs Pt) H ∧ H q = some (.lst (a.map nv)) ∧ PaFlat.Form p a c ∧ AfterT C Pt H x ss (Cm07.step w c) Q
section
variable {P : Program} {w : World} {K : PySem.W.Frag} {mg : Str → Option Value} {base : Heap} {C CC : Addr} {Pt : Addr}
theorem scEnd : FnScope ["calls", "at", "behind"] ["calls", "at"] (scOf 97) := ⟨rfl, rfl, rfl, by decide +kernel, rfl, by decide +kernel, by decide +kernel⟩
theorem ok_end (D : Ds K mg) (T : Txt K mg C CC) (L : Ln K mg) : FnOk P w K mg base CX0 1 D.endc.f D.endc.fd ["calls", "at"] (spEnd K) := by
  refine D.endc.F.ok scEnd (fun vs H Q E h => ?_) (fun cdv A outer s H vs Q E hr h => ?_)
  · obtain ⟨q, l, i, p, a, c, r, rfl, _⟩ := h
    rfl
  · obtain ⟨q, l, i, p, a, c, r, rfl, hq, hd, hf, k⟩ := h
    obtain ⟨la, gl, tl⟩ := L.len
    refine ⟨_, pss_cons (ps_set (i := 2) scEnd.nd rfl (.inl rfl) (pe_op op_add (pe_op op_add (pv 1) pe_int) (pe_ix ix_tup (pe_glob (v := .ref la) (by rfl) gl rfl) (pe_ix ix_list (pv 0) (pv 1) (fun _ _ => rfl)) (fun _ _ => rfl))))
      (pss_cons (ps_if (pt_cmpR op_eq (pe_ix ix_list (pv 0) (pv 1) (fun _ _ => rfl)) (pgl rfl T.k9) (nomark _)) (pss_one (ps_ret (pe_op op_add (pv 2) (pe_ix ix_list (pv 0) (pe_op op_add (pv 1) pe_int) (fun _ _ => rfl))))) pss_nil)
      (pss_one (ps_ret (pv 2)))), ?_⟩
    have a0 : atI (l.map V.int) (i : Int) = some (nv p) := atI_nat (by have := drop_at (j := 0) hd rfl; exact this)
    obtain ⟨n, hn, h9, hne⟩ : ∃ n : Nat, lenL[p]? = some n ∧ (p = 9 → ∃ m : Nat, a.length = 1 + m ∧ (l.map V.int)[i + 1]? = some (nv m) ∧ n = 1) ∧ (p ≠ 9 → n = a.length) := by
      cases hf with
      | judge m hm => exact ⟨1, rfl, fun _ => ⟨m.length, by rw [List.length_cons]; omega, drop_at (j := 1) hd rfl, rfl⟩, fun z => absurd rfl z⟩
      | _ => exact ⟨_, rfl, fun z => absurd z (by decide), fun _ => rfl⟩
    have hn' : (lenL.map nv)[p]? = some (nv n) := nat_ix hn
    refine ⟨_, rfl, _, _, rfl, rfl, _, rfl, _, rfl, q, _, _, _, rfl, rfl, hq, a0, la, _, _, _, rfl, rfl, tl H, atI_nat hn', _, _, rfl, rfl, ?_⟩
    refine ⟨_, rfl, _, rfl, q, _, _, _, rfl, rfl, hq, a0, rfl, _, rfl, ?_⟩
    by_cases c9 : p = 9
    · obtain ⟨m, e1, e2, e3⟩ := h9 c9
      refine if_true_of (decide_eq_true (by rw [c9]; rfl)) ?_
      refine ⟨_, rfl, _, rfl, _, rfl, _, _, rfl, rfl, q, _, _, _, rfl, rfl, hq, at_of (j := i + 1) rfl e2, _, _, rfl, rfl, ?_⟩
      have e : ((i : Int) + 1 + (n : Int) + (m : Int)) = ((i + 1 + a.length : Nat) : Int) := by omega
      have k' : Q (.int ((i + 1 + a.length : Nat) : Int)) H := k
      rw [← e] at k'
      exact k'
    · refine if_false_of (decide_eq_false fun z => ?_) ?_
      · have z' : (p : Int) = 9 := V.int.inj z
        omega
      · refine ⟨_, rfl, ?_⟩
        have e : ((i : Int) + 1 + (n : Int)) = ((i + 1 + a.length : Nat) : Int) := by
          have := hne c9
          omega
        have k' : Q (.int ((i + 1 + a.length : Nat) : Int)) H := k
        rw [← e] at k'
        exact k'
end
end Pb
namespace Pb
open PySem PySem.Spec PyProof.Rows L2 LamX
section
variable {P : Program} {w : World} {K : PySem.W.Frag} {mg : Str → Option Value} {base : Heap} {C CC : Addr} {Pt : Addr}
theorem scAnsw : FnScope ["work", "call", "numbers"] ["work", "call", "numbers"] (scOf 96) := ⟨rfl, rfl, rfl, by decide +kernel, rfl, by decide +kernel, by decide +kernel⟩
theorem ok_answ {ca : Addr} (D : Ds K mg) (M : Ms K C CC) (T : Txt K mg C CC) (TB : TabB base mg ca Pt) (hcode : D.last.fd.code = .ref ca) : FnOk P w K mg base CX0 11 D.answer.f D.answer.fd ["work", "call", "numbers"] (spAnsw C Pt) := by
  refine D.answer.F.ok scAnsw (fun vs H Q E h => ?_) (fun cdv A outer s H vs Q E hr h => ?_)
  · obtain ⟨x, q, dx, ss, ts, wk, p, a, c, rfl, _⟩ := h
    rfl
  · obtain ⟨x, q, dx, ss, ts, wk, p, a, c, rfl, W, So, tb, hq, hf, kT⟩ := h
    have k := kT.to W tb
    refine ⟨_, pss_cons (ps_if (pt_cmpR op_eq (pv 1) (pgl rfl T.k0) (nomark _)) (pss_one (ps_ret (pcall D.begin (ok_begin D T) hr rfl (pa_cons (pv 0) (pa_cons (pe_ix ix_list (pv 2) pe_int (fun _ _ => rfl)) (pa_cons (pe_slice sl_list (pv 2) (po_some pe_int) po_none) pa_nil)))))) pss_nil)
      (pss_cons (ps_if (pt_cmpR op_eq (pv 1) (pgl rfl T.k1) (nomark _)) (pss_one (ps_ret (pcall D.num (ok_num D T) hr rfl (pa_cons (pv 0) (pa_cons (pe_ix ix_list (pv 2) pe_int (fun _ _ => rfl)) pa_nil))))) pss_nil)
      (pss_cons (ps_if (pt_cmpR op_eq (pv 1) (pgl rfl T.k2) (nomark _)) (pss_one (ps_ret (pcall D.two (ok_two D T) hr rfl (pa_cons (pv 0) (pa_cons (pe_ix ix_list (pv 2) pe_int (fun _ _ => rfl)) (pa_cons (pe_ix ix_list (pv 2) pe_int (fun _ _ => rfl)) (pa_cons (pe_ix ix_list (pv 2) pe_int (fun _ _ => rfl)) pa_nil))))))) pss_nil)
      (pss_cons (ps_if (pt_cmpR op_eq (pv 1) (pgl rfl T.k3) (nomark _)) (pss_one (ps_ret (pcall D.say (ok_say D T) hr rfl (pa_cons (pv 0) (pa_cons (pe_ix ix_list (pv 2) pe_int (fun _ _ => rfl)) pa_nil))))) pss_nil)
      (pss_cons (ps_if (pt_cmpR op_eq (pv 1) (pgl rfl T.k4) (nomark _)) (pss_one (ps_ret (pcall D.shows (ok_shows D T) hr rfl (pa_cons (pv 0) pa_nil)))) pss_nil)
      (pss_cons (ps_if (pt_cmpR op_eq (pv 1) (pgl rfl T.k5) (nomark _)) (pss_one (ps_ret (pcall D.says (ok_says D T) hr rfl (pa_cons (pv 0) pa_nil)))) pss_nil)
      (pss_cons (ps_if (pt_cmpR op_eq (pv 1) (pgl rfl T.k6) (nomark _)) (pss_one (ps_ret (pe_lst (pa_cons (pcall D.most (ok_most D T) hr rfl (pa_cons (pe_fld (pv 0) rfl) pa_nil)) pa_nil)))) pss_nil)
      (pss_cons (ps_if (pt_cmpR op_eq (pv 1) (pgl rfl T.k7) (nomark _)) (pss_one (ps_ret (pe_lst (pa_cons (pcall D.least (ok_least D T) hr rfl (pa_cons (pv 0) pa_nil)) pa_nil)))) pss_nil)
      (pss_cons (ps_if (pt_cmpR op_eq (pv 1) (pgl rfl T.k8) (nomark _)) (pss_one (ps_ret (pcall D.far (ok_far D M T TB hcode) hr rfl (pa_cons (pv 0) pa_nil)))) pss_nil)
      (pss_one (ps_ret (pcall D.judge (ok_judge D M T) hr rfl (pa_cons (pv 0) (pa_cons (pe_slice sl_list (pv 2) (po_some pe_int) po_none) pa_nil))))))))))))), ?_⟩
    cases hf with
    | work k' p' g' a' =>
      refine ⟨_, rfl, rfl, _, rfl, if_true_of rfl ?_⟩
      refine ⟨_, rfl, _, rfl, q, _, _, _, rfl, rfl, SqL.of hq, atI_nat (j := 0) rfl, _, rfl, _, rfl, q, _, rfl, SqL.of hq, fun p hp => ?_⟩
      have e := same_new (o := .lst (cutV ([k', p', g', a'].map nv) (some 1) none)) hp
      refine ⟨x, p, dx, ss, ts, wk, k', p', g', a', rfl, W.keep e, ?_, k.mono e⟩
      rw [upd_same]
      exact congrArg (fun z => some (HO.lst z)) cut_tail
    | num k' =>
      refine ⟨_, rfl, rfl, _, rfl, if_false_of rfl ⟨_, rfl, rfl, _, rfl, if_true_of rfl ?_⟩⟩
      exact ⟨_, rfl, _, rfl, q, _, _, _, rfl, rfl, SqL.of hq, atI_nat (j := 0) rfl, x, dx, ss, ts, wk, k', rfl, W, k⟩
    | two o a b =>
      refine ⟨_, rfl, rfl, _, rfl, if_false_of rfl ⟨_, rfl, rfl, _, rfl, if_false_of rfl ⟨_, rfl, rfl, _, rfl, if_true_of rfl ?_⟩⟩⟩
      exact ⟨_, rfl, _, rfl, q, _, _, _, rfl, rfl, SqL.of hq, atI_nat (j := 0) rfl, _, rfl, q, _, _, _, rfl, rfl, SqL.of hq, atI_nat (j := 1) rfl, _, rfl, q, _, _, _, rfl, rfl, SqL.of hq, atI_nat (j := 2) rfl, x, dx, ss, ts, wk, o, a, b, rfl, W, k⟩
    | say a =>
      refine ⟨_, rfl, rfl, _, rfl, if_false_of rfl ⟨_, rfl, rfl, _, rfl, if_false_of rfl ⟨_, rfl, rfl, _, rfl, if_false_of rfl ⟨_, rfl, rfl, _, rfl, if_true_of rfl ?_⟩⟩⟩⟩
      exact ⟨_, rfl, _, rfl, q, _, _, _, rfl, rfl, SqL.of hq, atI_nat (j := 0) rfl, x, dx, ss, ts, wk, a, rfl, W, k⟩
    | shows =>
      refine ⟨_, rfl, rfl, _, rfl, if_false_of rfl ⟨_, rfl, rfl, _, rfl, if_false_of rfl ⟨_, rfl, rfl, _, rfl, if_false_of rfl ⟨_, rfl, rfl, _, rfl, if_false_of rfl ⟨_, rfl, rfl, _, rfl, if_true_of rfl ?_⟩⟩⟩⟩⟩
      exact ⟨_, rfl, x, dx, ss, ts, wk, rfl, W, k⟩
    | says =>
      refine ⟨_, rfl, rfl, _, rfl, if_false_of rfl ⟨_, rfl, rfl, _, rfl, if_false_of rfl ⟨_, rfl, rfl, _, rfl, if_false_of rfl ⟨_, rfl, rfl, _, rfl, if_false_of rfl ⟨_, rfl, rfl, _, rfl, if_false_of rfl ⟨_, rfl, rfl, _, rfl, if_true_of rfl ?_⟩⟩⟩⟩⟩⟩
      exact ⟨_, rfl, x, dx, ss, ts, wk, rfl, W, So, k⟩
    | most =>
      refine ⟨_, rfl, rfl, _, rfl, if_false_of rfl ⟨_, rfl, rfl, _, rfl, if_false_of rfl ⟨_, rfl, rfl, _, rfl, if_false_of rfl ⟨_, rfl, rfl, _, rfl, if_false_of rfl ⟨_, rfl, rfl, _, rfl, if_false_of rfl ⟨_, rfl, rfl, _, rfl, if_false_of rfl ⟨_, rfl, rfl, _, rfl, if_true_of rfl ?_⟩⟩⟩⟩⟩⟩⟩
      refine ⟨_, rfl, x, C, dx, _, _, rfl, W.obj, T.cl, T.nS, wF_ste, ss, ts, wk, rfl, W.st, fun H' e => ⟨by show 1 ≤ sizeLine; decide, fun p hp => ?_⟩⟩
      exact k.same W (e.trans (same_new hp)) (e.free hp) upd_same
    | least =>
      refine ⟨_, rfl, rfl, _, rfl, if_false_of rfl ⟨_, rfl, rfl, _, rfl, if_false_of rfl ⟨_, rfl, rfl, _, rfl, if_false_of rfl ⟨_, rfl, rfl, _, rfl, if_false_of rfl ⟨_, rfl, rfl, _, rfl, if_false_of rfl ⟨_, rfl, rfl, _, rfl, if_false_of rfl ⟨_, rfl, rfl, _, rfl, if_false_of rfl ⟨_, rfl, rfl, _, rfl, if_true_of rfl ?_⟩⟩⟩⟩⟩⟩⟩⟩
      refine ⟨_, rfl, x, dx, ss, ts, wk, rfl, W, So, fun H' e => ⟨by show 1 ≤ sizeLine; decide, fun p hp => ?_⟩⟩
      exact k.same W (e.trans (same_new hp)) (e.free hp) upd_same
    | far =>
      refine ⟨_, rfl, rfl, _, rfl, if_false_of rfl ⟨_, rfl, rfl, _, rfl, if_false_of rfl ⟨_, rfl, rfl, _, rfl, if_false_of rfl ⟨_, rfl, rfl, _, rfl, if_false_of rfl ⟨_, rfl, rfl, _, rfl, if_false_of rfl ⟨_, rfl, rfl, _, rfl, if_false_of rfl ⟨_, rfl, rfl, _, rfl, if_false_of rfl ⟨_, rfl, rfl, _, rfl, if_false_of rfl ⟨_, rfl, rfl, _, rfl, if_true_of rfl ?_⟩⟩⟩⟩⟩⟩⟩⟩⟩
      exact ⟨_, rfl, x, dx, ss, ts, wk, rfl, W, So, tb, kT⟩
    | judge l hl =>
      refine ⟨_, rfl, rfl, _, rfl, if_false_of rfl ⟨_, rfl, rfl, _, rfl, if_false_of rfl ⟨_, rfl, rfl, _, rfl, if_false_of rfl ⟨_, rfl, rfl, _, rfl, if_false_of rfl ⟨_, rfl, rfl, _, rfl, if_false_of rfl ⟨_, rfl, rfl, _, rfl, if_false_of rfl ⟨_, rfl, rfl, _, rfl, if_false_of rfl ⟨_, rfl, rfl, _, rfl, if_false_of rfl ⟨_, rfl, rfl, _, rfl, if_false_of rfl ?_⟩⟩⟩⟩⟩⟩⟩⟩⟩
      refine ⟨_, rfl, _, rfl, _, rfl, q, _, rfl, SqL.of hq, fun p hp => ?_⟩
      have e := same_new (o := .lst (cutV ((l.length :: l).map nv) (some 1) none)) hp
      refine ⟨x, p, dx, ss, ts, wk, l, rfl, W.keep e, So, ?_, by omega, k.mono e⟩
      rw [upd_same]
      exact congrArg (fun z => some (HO.lst z)) cut_tail
end
end Pb
namespace Pb
open PySem PySem.Spec PyProof.Rows L2 LamX
def FZ (H H' : Hp) : Prop := ∀ b o u, H b = some (.frz o u) → H' b = some (.frz o u)
/-- an argument: it stands as long as what was handed in stands -/
def Arg (K : PySem.W.Frag) (H : Hp) (a : Addr) (xs : List V) : Prop := ∀ H', FZ H H' → SqL K H' a xs
def spAll (K : PySem.W.Frag) (Pt : Addr) : Sp := fun vs H Q _ => ∃ (a : Addr) (l : List Int) (cs : List Cm07.Call), vs = [.ref a] ∧ Arg K H a (l.map V.int) ∧ PaFlat.Left l cs ∧ (PaFlat.tells Cm07.init cs).length ≤ 10000000 ∧ Tabs (tabs Pt) H ∧
  ∀ H' p, H' p = some (.lst ((PaFlat.tells Cm07.init cs).map V.int)) → Q (.ref p) H'
def atMu (n : Nat) (σ : List (Option V)) : Nat := match σ[3]? with
  | some (some (V.int z)) => n - z.toNat
  | _ => 0
theorem tabs_upd {T : List (Addr × Str)} {H : Hp} {o : Addr} {xs ys : List V} (t : Tabs T H) (h : H o = some (.lst xs)) : Tabs T (upd H o (.lst ys)) := tabs_of t fun b u q n => by
  rw [upd_ne (ne_lst q h (tab_ne n).1)]
  exact q
theorem work_upd {C : Addr} {H : Hp} {x dx ss o : Addr} {ts : List Addr} {w : Cm07.Work} {xs ys : List V} (W : WorkIn C H x dx ss ts w) (h : H o = some (.lst xs)) (n : ss ≠ o) : WorkIn C (upd H o (.lst ys)) x dx ss ts w := by
  refine ⟨?_, ?_, W.st.len, fun i t s a b => ?_, W.st.few⟩
  · rw [upd_ne (ne_of W.obj h (by intro z; cases z))]
    exact W.obj
  · rw [upd_ne n]
    exact W.st.st
  · have q := W.st.tup i t s a b
    rw [upd_ne (ne_of q h (by intro z; cases z))]
    exact q
theorem fz_upd {H H' : Hp} {o : Addr} {xs ys : List V} (f : FZ H H') (h : H' o = some (.lst xs)) : FZ H (upd H' o (.lst ys)) := fun b ob u q => by
  have q' := f b ob u q
  rw [upd_ne (ne_of q' h (by intro z; cases z))]
  exact q'
section
variable {P : Program} {w : World} {K : PySem.W.Frag} {mg : Str → Option Value} {base : Heap} {C CC : Addr} {Pt : Addr}
theorem scAll : FnScope ["calls", "work", "told", "at", "behind", "one"] ["calls"] (scOf 98) := ⟨rfl, rfl, rfl, by decide +kernel, rfl, by decide +kernel, by decide +kernel⟩
theorem ok_all {ca fa : Addr} {fd : FuncData} (F : Fun K "answers" "answers" (top 98) fa fd) (D : Ds K mg) (M : Ms K C CC) (T : Txt K mg C CC) (L : Ln K mg) (TB : TabB base mg ca Pt) (hcode : D.last.fd.code = .ref ca) : FnOk P w K mg base CX0 12 fa fd ["calls"] (spAll K Pt) := by
  refine F.ok scAll (fun vs H Q E h => ?_) (fun cdv A outer s H vs Q E hr h => ?_)
  · obtain ⟨a, l, cs, rfl, _⟩ := h
    rfl
  · obtain ⟨a, l, cs, rfl, hA, hL, hbig, tb, k⟩ := h
    refine ⟨_, pss_cons (ps_set (i := 1) scAll.nd rfl (.inl rfl) (pe_make0 M.mW (ok_WI M T) (hr.mono (by decide)) rfl T.gC M.bW .nil pass0))
      (pss_cons (ps_set (i := 2) scAll.nd rfl (.inl rfl) (pe_lst pa_nil))
      (pss_cons (ps_set (i := 3) scAll.nd rfl (.inl rfl) pe_int)
      (pss_cons (ps_while PassesOwn.never (pt_cmpR op_lt (pv 3) (pe_callB call_len_seq (by rfl) T.len PySem.boot_len (pa_cons (pv 0) pa_nil)) (nomark _))
        (pss_cons (ps_set (i := 4) scAll.nd rfl (.inl rfl) (pcall D.endc (ok_end D T L) hr rfl (pa_cons (pv 0) (pa_cons (pv 3) pa_nil))))
        (pss_cons (ps_set (i := 5) scAll.nd rfl (.inl rfl) (pcall D.answer (ok_answ D M T TB hcode) hr rfl (pa_cons (pv 1) (pa_cons (pe_ix ix_list (pv 0) (pv 3) (fun _ _ => rfl)) (pa_cons (pe_slice sl_list (pv 0) (po_some (pe_op op_add (pv 3) pe_int)) (po_some (pv 4))) pa_nil)))))
        (pss_cons (ps_expr (pe_bm PySem.F.plainAttrs_list PySem.F.slot_list_append PySem.F.type_list_append mt_append (pv 2) (pa_cons (pe_callB call_len_seq (by rfl) T.len PySem.boot_len (pa_cons (pv 5) pa_nil)) pa_nil)))
        (pss_cons (ps_expr (pe_bm PySem.F.plainAttrs_list PySem.F.slot_list_extend PySem.F.type_list_extend mt_extend (pv 2) (pa_cons (pv 5) pa_nil)))
        (pss_one (ps_set (i := 3) scAll.nd rfl (.inl rfl) (pv 4))))))))
      (pss_one (ps_ret (pv 2)))))), ?_⟩
    refine fun x dx nx nd ne => ⟨x, dx, rfl, upd_same, fun H1 ss h1 h2 n2 kp => ⟨rfl, ?_⟩⟩
    have s1 : Same H H1 := Same.made nx nd kp
    refine ⟨by show 0 ≤ sizeLine; decide, fun o ho => ?_⟩
    have s2 := same_new (o := .lst []) ho
    have e2 := s1.trans s2
    have hlen : (l.map V.int).length = l.length := List.length_map _
    refine while_by (fun σ H' => ∃ (i : Nat) (v4 v5 : Option V) (dx ss : Addr) (ts : List Addr) (wk : Cm07.Work) (cs' : List Cm07.Call) (tol : List Int), σ = [some (.ref a), some (.ref x), some (.ref o), some (nv i), v4, v5] ∧ FZ H H' ∧ i ≤ l.length ∧ PaFlat.Left (l.drop i) cs' ∧ WorkIn C H' x dx ss ts wk ∧ Sound wk ∧ Tabs (tabs Pt) H' ∧ H' o = some (.lst (tol.map V.int)) ∧ ss ≠ o ∧ PaFlat.tells Cm07.init cs = tol ++ PaFlat.tells wk cs') (fun σ _ => atMu l.length σ) ?_ ?_ ?_
    · refine ⟨0, none, none, dx, ss, [], Cm07.init, cs, [], rfl, fun b ob u q => e2 _ _ q, Nat.zero_le _, hL, ⟨s2 _ _ h1, ⟨s2 _ _ h2, rfl, fun i t s z => by simp at z, by decide⟩⟩, sound_init, tb.ext e2, upd_same, fun z => ?_, rfl⟩
      rw [z, ho] at h2
      cases h2
    · rintro σ H' ⟨i, v4, v5, dx', ss', ts', wk, cs', tol, rfl, fz, hi, hl, W, So, tb', ho', hne, htell⟩
      have hS := hA H' fz
      refine ⟨_, rfl, _, rfl, a, _, rfl, .inl hS, _, _, rfl, rfl, _, rfl, ?_⟩
      by_cases c : i < l.length
      · refine if_true_of (decide_eq_true (by omega)) ?_
        obtain ⟨x0, r0, e0⟩ : ∃ x0 r0, l.drop i = x0 :: r0 := by
          cases e : l.drop i with
          | nil =>
            have : (l.drop i).length = 0 := by rw [e]; rfl
            rw [List.length_drop] at this
            omega
          | cons x0 r0 => exact ⟨x0, r0, rfl⟩
        generalize hdr : l.drop i = dr at hl e0
        cases hl with
        | nil => cases e0
        | @cons p aa cl r cs2 hf hb hl2 =>
          have a0 : atI (l.map V.int) (i : Int) = some (nv p) := atI_nat (by have := drop_at (j := 0) hdr rfl; exact this)
          have hle : i + 1 + aa.length ≤ l.length := by
            have : (l.drop i).length = ((p : Int) :: (PaFlat.ns aa ++ r)).length := by rw [hdr]
            rw [List.length_drop, List.length_cons, List.length_append] at this
            unfold PaFlat.ns at this
            rw [List.length_map] at this
            omega
          have hdr2 : l.drop (i + 1 + aa.length) = r := by
            have : l.drop (i + (1 + aa.length)) = (l.drop i).drop (1 + aa.length) := by rw [List.drop_drop]
            rw [Nat.add_assoc, this, hdr]
            rw [Nat.add_comm 1 aa.length, List.drop_succ_cons]
            have e : aa.length = (PaFlat.ns aa).length := by
              unfold PaFlat.ns
              rw [List.length_map]
            rw [e, List.drop_left]
          refine ⟨_, rfl, _, rfl, a, l, i, p, aa, cl, r, rfl, hS, hdr, hf, ?_⟩
          refine ⟨_, rfl, _, rfl, _, rfl, a, _, _, _, rfl, rfl, hS, a0, _, rfl, _, rfl, _, _, rfl, rfl, _, rfl, _, rfl, _, rfl, a, _, rfl, hS, fun q hq => ?_⟩
          have s3 := same_new (o := .lst (cutV (l.map V.int) (some ((i : Int) + 1)) (some ((i + 1 + aa.length : Nat) : Int)))) hq
          refine ⟨x, q, dx', ss', ts', wk, p, aa, cl, rfl, W.keep s3, So, tb'.ext s3, ?_, hf, fun H3 p3 dx3 ss3 ts3 W3 kp3 hs3 tb3 hp3 hp3' => ?_⟩
          · rw [upd_same]
            exact congrArg (fun z => some (HO.lst z)) (cut_mid hdr)
          have nt : ∀ {xs : List V} (ps : Array Value), HO.lst xs ≠ .tbl ps := fun ps z => by cases z
          have hox : o ≠ x := ne_of ho' W.obj (by intro z; cases z)
          have ho3 : H3 o = some (.lst (tol.map V.int)) := kp3 _ _ (s3 _ _ ho') nt hox (Ne.symm hne)
          have hop : o ≠ p3 := hp3 _ _ (s3 _ _ ho') nt
          have hso : ss3 ≠ o := by
            rcases hs3 with z | z
            · rw [z]
              exact hne
            · exact Ne.symm (z _ _ (s3 _ _ ho') nt)
          have fz3 : FZ H H3 := fun b ob u qq => by
            have q1 := fz b ob u qq
            exact kp3 b _ (s3 _ _ q1) (fun ps z => by cases z) (ne_of q1 W.obj (by intro z; cases z)) (ne_of q1 W.st.st (by intro z; cases z))
          have htell2 : PaFlat.tells Cm07.init cs = (tol ++ [((Cm07.step wk cl).2.length : Int)] ++ (Cm07.step wk cl).2) ++ PaFlat.tells (Cm07.step wk cl).1 cs2 := by
            rw [htell]
            show tol ++ ((((Cm07.step wk cl).2.length : Int) :: (Cm07.step wk cl).2) ++ PaFlat.tells (Cm07.step wk cl).1 cs2) = _
            simp
          have hbnd : tol.length + 1 + (Cm07.step wk cl).2.length ≤ 10000000 := by
            have : (PaFlat.tells Cm07.init cs).length = tol.length + 1 + (Cm07.step wk cl).2.length + (PaFlat.tells (Cm07.step wk cl).1 cs2).length := by
              rw [htell2, List.length_append, List.length_append, List.length_append]
              rfl
            omega
          have hline : (10000000 : Nat) < sizeLine := by decide
          refine ⟨_, rfl, .inl ⟨rfl, _, SqL.of ho3⟩, _, rfl, p3, _, rfl, .inl (SqL.of hp3'), o, _, _, rfl, rfl, ho3, ?_, ?_⟩
          · rw [List.length_map]
            omega
          have hp4 : upd H3 o (.lst (tol.map V.int ++ [V.int ((((Cm07.step wk cl).2.map V.int).length : Nat) : Int)])) p3 = some (.lst ((Cm07.step wk cl).2.map V.int)) := by
            rw [upd_ne (Ne.symm hop)]
            exact hp3'
          refine ⟨_, rfl, .inl ⟨rfl, _, SqL.of upd_same⟩, _, rfl, o, p3, _, _, rfl, rfl, upd_same, hp4, ?_, ?_⟩
          · rw [List.length_append, List.length_map, List.length_map]
            show tol.length + 1 + _ ≤ sizeLine
            omega
          rw [upd_upd]
          refine ⟨_, rfl, ⟨i + 1 + aa.length, _, _, dx3, ss3, ts3, (Cm07.step wk cl).1, cs2, tol ++ [((Cm07.step wk cl).2.length : Int)] ++ (Cm07.step wk cl).2, rfl, fz_upd fz3 ho3, hle, by rw [hdr2]; exact hl2, work_upd W3 ho3 hso, sound_step So hf hb, tabs_upd tb3 ho3, ?_, hso, htell2⟩, ?_⟩
          · rw [upd_same, List.map_append, List.map_append, List.length_map]
            rfl
          · show l.length - ((i + 1 + aa.length : Nat) : Int).toNat < l.length - (i : Int).toNat
            rw [Int.toNat_natCast, Int.toNat_natCast]
            omega
      · refine if_false_of (decide_eq_false (by omega)) ?_
        have e : l.drop i = [] := List.drop_eq_nil_of_le (by omega)
        rw [e] at hl
        cases hl
        refine ⟨_, rfl, k H' o ?_⟩
        rw [htell]
        show H' o = some (.lst ((tol ++ []).map V.int))
        rw [List.append_nil]
        exact ho'
    · rintro σ H Q Q' hq ⟨v1, h1, v2, h2, p, xs, h3, h4, i, j, h5, h6, b, h7, h8⟩
      exact ⟨v1, h1, v2, h2, p, xs, h3, h4, i, j, h5, h6, b, h7, hq _ _ h8⟩
end
end Pb
namespace Pb
open PySem PySem.Spec PyProof.Rows L2 LamX
open PySem.W (WData Codec OpenSpec Well WellAll ReadsW ReadsAllW)
/-! ### the end of a Spec row with one table of code objects -/
theorem spec_callT {P : Program} {w : World} {K : PySem.W.Frag} {mg mb : Str → Option Value} {CX : CXT} {k : Nat} {fa ca Pt : Addr} {fd : FuncData} {ps : List Str} {sp : Sp} {s₁ : Shared} {vals : List Value} {ds : List WData} {R : PySem.W.WRecords} {cl : Str → Option Addr} {d0 : WData}
    (KX : K.In s₁.heap) (hns : s₁.heap.Ns mainGlobals mg) (hb : s₁.heap.Ns builtinsNs mb) (hbb : ∀ x : Str, x ≠ "__name__" → mb x = bootBuiltins x) (hlim : s₁.heap.NoLimit) (hg : s₁.gens = #[])
    (hT : s₁.heap.get? Pt = some { cls := .none, data := .fields #[] }) (nT : K.lookup Pt = none) (Cd : PySem.W.CodeHd s₁.heap ca Pt)
    (hbm : ∃ (bm : Addr) (ob : Obj), mg "__builtins__" = some (.ref bm) ∧ bm ≠ builtinsNs ∧ s₁.heap.get? bm = some ob ∧ ob.cls = .type "module" ∧ ob.dict = some builtinsNs ∧ ob.data = .plain)
    (hwl : WellAll w.params s₁.heap vals ds) (hpl : plWs ds = true) (hwt : ∀ d ∈ ds, d.weight ≤ 1048576) (hr : Room k callerA)
    (F : ∀ base : Heap, K.In base → base.Ns mainGlobals mg → TabB base mg ca Pt → FnOk P w K mg base CX k fa fd ps sp) (hbind : ∀ (s : Shared) (us : List Value), us.length = ps.length → BindsTo s fd ⟨us, []⟩ (ps.zip us)) (hlen : ds.length = ps.length)
    (hsp : ∀ (H0 H : Hp) (xs : List V), OnlyF H0 → Same H0 H → H Pt = some (.tbl #[]) → DwAll K H0 xs ds → sp xs H (fun v H' => Dw K H' v d0) fun _ _ _ => False)
    (hCX : ∀ H e s', CX [] H s₁ (fun _ _ _ => False) e s' → False) :
    codeAny (model P w) callerA (.call (.ref fa) ⟨vals, []⟩) (fun r s' => ∃ u as, r = .ok (.ret u) ∧ ReadsW R cl s'.heap u d0 as ∧ OldK s₁.heap s'.heap ∧ s'.os = s₁.os ∧ AllBare s'.gens) s₁ := by
  obtain ⟨A, ho, ar⟩ := area_all ds vals hwl hpl hwt
  have hO0 : OnlyF (argH K s₁.heap A) := argH_only ar
  have hok0 : HOk P w (argH K s₁.heap A) s₁.heap := argH_ok ar
  have hS := dw_all KX ar ds vals hwl hpl ho
  have hV := vals_toV ho
  have hK0 : ∀ b u, argH K s₁.heap A b = some u → K.lookup b = none := fun b u q => (argH_is ar q).1
  have seq0 : ∀ {b : Addr} {o : Obj}, s₁.heap.get? b = some o → (∀ vs n, o.data ≠ .seq vs n) → argH K s₁.heap A b = none := fun {b o} e d => by
    cases q : argH K s₁.heap A b with
    | none => rfl
    | some u =>
      obtain ⟨_, vs, _, _, ⟨e2, _⟩ | ⟨e2, _⟩⟩ := argH_is ar q
      · rw [e2] at e
        cases e
        exact absurd rfl (d _ _)
      · rw [e2] at e
        cases e
        exact absurd rfl (d _ _)
  have nPt : argH K s₁.heap A Pt = none := seq0 hT (fun vs n z => by cases z)
  generalize argH K s₁.heap A = H0 at hO0 hok0 hS hK0 seq0 nPt
  have sm : Same H0 (upd H0 Pt (.tbl #[])) := same_new nPt
  have hP : upd H0 Pt (.tbl #[]) Pt = some (.tbl #[]) := upd_same
  have hok : HOk P w (upd H0 Pt (.tbl #[])) s₁.heap := fun b u e => by
    by_cases z : b = Pt
    · rw [z, hP] at e
      cases e
      rw [z]
      exact hT
    · rw [upd_ne z] at e
      refine (hok0 b u e).stay (fun _ _ _ q => q) (fun d q => ?_) fun d xs q => ?_
      · exact sm _ _ q
      · exact sm _ _ q
  have noD : ∀ {b : Addr} {o : Obj}, s₁.heap.get? b = some o → (∀ vs n, o.data ≠ .seq vs n) → o.data ≠ .fields #[] → upd H0 Pt (.tbl #[]) b = none := fun {b o} e h1 h2 => by
    have n : b ≠ Pt := fun z => by
      rw [z, hT] at e
      cases e
      exact h2 rfl
    rw [upd_ne n]
    exact seq0 e h1
  have hO : ∀ b, b ≠ Pt → upd H0 Pt (.tbl #[]) b = none ∨ ∃ o u, upd H0 Pt (.tbl #[]) b = some (.frz o u) := fun b n => by
    rw [upd_ne n]
    exact hO0 b
  have nK : ∀ b o, K.lookup b = some o → upd H0 Pt (.tbl #[]) b = none := fun b o e => by
    have n : b ≠ Pt := fun z => by
      rw [z, nT] at e
      cases e
    rw [upd_ne n]
    cases q : H0 b with
    | none => rfl
    | some u =>
      rw [hK0 b u q] at e
      cases e
  have hspH := hsp H0 _ (vals.map toV) hO0 sm hP hS
  generalize upd H0 Pt (.tbl #[]) = H at hP hok noD hO nK hspH
  have base_of : ∀ {b : Addr} {o : Obj}, s₁.heap.get? b = some o → H b = none → (hidT s₁.heap H).get? b = some o := fun e n => hidT_get e n
  have noA : ∀ {b : Addr} {o : Obj} {es : Array DictEntry} {ep : Nat}, s₁.heap.get? b = some o → o.data = .dict es ep → H b = none := fun {b o es ep} e d => by
    refine noD e (fun vs n z => ?_) fun z => ?_
    · rw [d] at z
      cases z
    · rw [d] at z
      cases z
  have nsK : ∀ {b : Addr} {m : Str → Option Value}, s₁.heap.Ns b m → (hidT s₁.heap H).Ns b m := fun {b m} ⟨o, es, ep, e, d, r⟩ => ⟨o, es, ep, base_of e (noA e d), d, r⟩
  have hKb : K.In (hidT s₁.heap H) := fun b o e => base_of (KX b o e) (nK b o e)
  have hM : Mod K mg (hidT s₁.heap H) := ⟨hKb, nsK hns, ⟨mb, nsK hb, hbb⟩, let ⟨mc, h1, h2⟩ := hlim; ⟨mc, nsK h1, h2⟩⟩
  have TB : TabB (hidT s₁.heap H) mg ca Pt := by
    refine ⟨?_, ?_, fun z => ?_⟩
    · obtain ⟨o, us, file, tf, flags, tg, inF, text, tt, e1, r1, r2, r3, r4, r5, r6, r7, r8, hne⟩ := Cd
      refine ⟨o, us, file, tf, flags, tg, inF, text, tt, base_of e1 (noD e1 (fun vs n z => ?_) fun z => ?_), r1, r2, r3, r4, r5, r6, r7, r8, hne⟩
      · rw [r2] at z
        cases z
      · rw [r2] at z
        cases z
        simp at r3
    · obtain ⟨bm, ob, b1, b2, b3, b4, b5, b6⟩ := hbm
      have nG : bm ≠ mainGlobals := fun q => by
        obtain ⟨o, es, ep, e, hd, _⟩ := hns
        rw [q, e] at b3
        cases b3
        rw [hd] at b6
        cases b6
      have nP : bm ≠ Pt := fun q => by
        rw [q, hT] at b3
        cases b3
        cases b6
      refine ⟨bm, ob, b1, b2, nG, nP, base_of b3 (noD b3 (fun vs n z => ?_) fun z => ?_), b4, b5, b6⟩
      · rw [b6] at z
        cases z
      · rw [b6] at z
        cases z
    · obtain ⟨o, es, ep, e, hd, _⟩ := hns
      rw [z, hT] at e
      cases e
      cases hd
  have e0 : Env0 P w K mg (hidT s₁.heap H) callerA [] s₁ H := ⟨rfl, hM, fun b o e => of_hidT e, Nat.le_of_eq (hidT_size _ _), trivial, fun b hb => absurd (show b ∈ ([] : List Addr) from hb) (by simp), hok, .of_eq hg⟩
  have hl : vals.length = ps.length := by rw [wellAll_len hwl]; exact hlen
  refine codeAny_mono ((F _ hKb (nsK hns) TB).run callerA [] s₁ H ⟨vals, []⟩ vals (vals.map toV) _ _ hr e0 (hbind s₁ vals hl) hV hspH) fun r s' x => ?_
  cases r with
  | error e => exact (hCX H e s' x).elim
  | ok fl =>
    cases fl with
    | next => exact False.elim x
    | brk => exact False.elim x
    | cont => exact False.elim x
    | ret u =>
      obtain ⟨v, H', os, bare, un, hok', r', q⟩ := x
      have kept : ∀ b o, b ≠ Pt → s₁.heap.get? b = some o → s'.heap.get? b = some o := fun b o nb e => by
        cases q2 : H b with
        | none => exact un.keep b o e q2 (by intro z; exact absurd (show b ∈ ([] : List Addr) from z) (by simp)) (by simp)
        | some u2 =>
          rcases hO b nb with z | ⟨ob, u3, z⟩
          · rw [q2] at z
            cases z
          · have z2 := un.frzs b ob _ z
            obtain ⟨e1, _⟩ := hok b _ z
            obtain ⟨e2, _⟩ := hok' b _ z2
            rw [e] at e1
            cases e1
            exact e2
      have KX' : K.In s'.heap := fun b o e => kept b o (fun z => by rw [z, nT] at e; cases e) (KX b o e)
      obtain ⟨as, hrd⟩ := Dw.reads (R := R) (cl := cl) hok' KX' d0 v u q r'
      obtain ⟨more, hm⟩ : ∃ more : Array Value, s'.heap.get? Pt = some { cls := .none, data := .fields more } := by
        obtain ⟨more, z⟩ := un.tbls Pt #[] hP
        exact ⟨_, hok' Pt _ z⟩
      refine ⟨u, as, rfl, hrd, ⟨fun b o e => ?_, fun b o e => ?_⟩, os, bare⟩
      · by_cases hb : b = Pt
        · rw [hb] at e ⊢
          rw [hT] at e
          cases e
          exact .inr (.inl ⟨(Cd.tab hT).isCodeTable, rfl, #[], more, rfl, by rw [Array.empty_append]; exact hm⟩)
        · exact .inl (kept b o hb e)
      · by_cases hb : b = Pt
        · rw [hb]
          exact ⟨_, hm⟩
        · exact ⟨o, kept b o hb e⟩
theorem walk_specT {r : OpenSpec} {k : Nat} {q : Program} {loose : List Str} {XP : (Str → Option Value) → Heap → Prop} {YP : World → Heap → Prop} {d dr : DefRec} {K : Params → PySem.W.Frag} {CX : CXT} {ps : List Str} {x : Str} {sp : PySem.W.Frag → Addr → Sp}
    (hwell : r.wellSaid = true) (hdf : d.params.defaults = []) (hlen : r.args.length = ps.length) (hr : Room k callerA)
    (hY : ∀ (w : World) (h : Heap), YP w h → (K w.params).In h) (hrec : (recsOf q).find? (fun e => e.name == x) = some dr)
    (F : ∀ (w : World) (mg : Str → Option Value) (fa : Addr) (h : Heap), YP w h → (K w.params).In h → h.Ns mainGlobals mg → mg d.name = some (.ref fa) →
      ∃ (fd : FuncData) (ca Pt : Addr), PySem.W.tabIn (K w.params) x = some (ca, Pt) ∧ (K w.params).lookup Pt = none ∧ (∀ (s : Shared) (us : List Value), us.length = ps.length → BindsTo s fd ⟨us, []⟩ (ps.zip us)) ∧
        ∀ base : Heap, (K w.params).In base → base.Ns mainGlobals mg → TabB base mg ca Pt → FnOk r.prog w (K w.params) mg base CX k fa fd ps (sp (K w.params) Pt))
    (hsp : ∀ (K : PySem.W.Frag) (Pt : Addr) (H0 H : Hp) (xs : List V) (a : Codec.denoteAll r.args), OnlyF H0 → Same H0 H → H Pt = some (.tbl #[]) → Codec.withinAll r.args a = true → Codec.app r.args r.asked a = true → DwAll K H0 xs (Codec.encAll r.args a) →
      sp K Pt xs H (fun v H' => Dw K H' v (r.ret.enc (Codec.app r.args r.f a))) fun _ _ _ => False)
    (hCX : ∀ (H : Hp) (s : Shared) (e : Value) (s' : Shared), CX [] H s (fun _ _ _ => False) e s' → False) :
    PySem.W.WalkOS q loose XP YP r d [] (fun f vs => PySem.call f vs) := by
  intro w s₀ s₁ mg mb G Y fa o pm cd doc dV kV ho hd hcd hD hmg hg args vals as hpre hlay hrd hwl hlo
  obtain ⟨a, e1, e2⟩ := PySem.W.os_pre_some hpre
  obtain ⟨e3, hwi⟩ := Codec.encAll_of_decAll r.args args a e1
  subst e3
  have KX := hY w _ Y
  obtain ⟨fd, ca, Pt, ht, nT, hb, hF⟩ := F w mg fa _ Y KX G.T.g hmg
  obtain ⟨Cd, hT⟩ := PySem.W.tab_of G.T KX hrec ht
  refine PySem.W.enter_call (codeAny_mono (spec_callT (R := []) (cl := classAt s₀.heap) (d0 := r.ret.enc (Codec.app r.args r.f a)) KX G.T.g G.T.b G.T.builtins G.T.nolimit hg hT nT Cd G.T.bmain hwl (pl_encAll _ _) (layable_weight hlay) hr hF hb (by rw [encAll_len]; exact hlen)
    (fun H0 H xs hO hs hP hS => hsp _ Pt H0 H xs a hO hs hP hwi e2 hS) fun H e s' => hCX H s₁ e s') fun r' s' hq => ?_)
  obtain ⟨u, as', rfl, h1, h2, h3, h4⟩ := hq
  exact ⟨.inl ⟨u, _, as', rfl, fun _ => rfl, h1, (OpenSpec.post_iff hwell hwi _ _).mpr rfl, fun z => Bool.noConfusion (show false = true from z)⟩, h2, h3, h4⟩
end Pb
namespace Pb
open PySem PySem.Spec PyProof.Rows L2 LamX
def dfMk {K : PySem.W.Frag} {h : Heap} {mg : Str → Option Value} {g x : Str} {st : Stmt} {ps : List Str} (X : K.In h) (G : h.Ns mainGlobals mg) {f : Addr} {oc : Value} {od an : Option Addr} {osl : Array (Option Value)} {kV doc pm cdv ct : Value}
    (a : PySem.W.nsIn K mainGlobals g = some (some (.ref f))) (l : K.lookup f = some ⟨oc, od, .func (PySem.W.fnOf x x (defArgs st) (defBody st) (defScope st) .none kV doc pm an cdv ct), osl⟩) (c : PySem.W.codeIn K cdv x = true) (k : PySem.W.keepIn K (.ref f) = true)
    (hb : ∀ (kV doc pm : Value) (an : Option Addr) (cdv ct : Value) (us : List Value), us.length = ps.length → bindArgs (PySem.W.fnOf x x (defArgs st) (defBody st) (defScope st) .none kV doc pm an cdv ct) ⟨us, []⟩ = pure (ps.zip us)) : Df K mg g x st ps :=
  ⟨f, _, fun_mk l c k, PySem.W.mg_of X G a, (fun_mk l c k).binds hb⟩
theorem tabIn_of {K : PySem.W.Frag} {x : Str} {f ca Pt : Addr} {oc oc2 : Value} {od od2 : Option Addr} {osl osl2 : Array (Option Value)} {fd : FuncData} {vs : Array Value} (a : PySem.W.nsIn K mainGlobals x = some (some (.ref f))) (l : K.lookup f = some ⟨oc, od, .func fd, osl⟩) (hc : fd.code = .ref ca)
    (lc : K.lookup ca = some ⟨oc2, od2, .fields vs, osl2⟩) (hv : vs[11]? = some (.ref Pt)) : PySem.W.tabIn K x = some (ca, Pt) := by
  unfold PySem.W.tabIn
  simp only [a, l, hc, lc, hv]
theorem ln_of {K : PySem.W.Frag} {h : Heap} {mg : Str → Option Value} (X : K.In h) (G : h.Ns mainGlobals mg) {la : Addr} {od : Option Addr} {osl : Array (Option Value)} {n : Nat} {t0 t1 t2 t3 t4 t5 t6 t7 t8 t9 : Tok} (a : PySem.W.nsIn K mainGlobals "LENGTHS" = some (some (.ref la)))
    (l : K.lookup la = some ⟨.type "tuple", od, .seq #[.int 4 t0, .int 1 t1, .int 3 t2, .int 1 t3, .int 0 t4, .int 0 t5, .int 0 t6, .int 0 t7, .int 0 t8, .int 1 t9] n, osl⟩) : Ln K mg :=
  ⟨la, PySem.W.mg_of X G a, fun H => .inr ⟨_, _, n, l, rfl, rfl, by show 10 ≤ sizeLine; decide, .cons ⟨t0, rfl⟩ (.cons ⟨t1, rfl⟩ (.cons ⟨t2, rfl⟩ (.cons ⟨t3, rfl⟩ (.cons ⟨t4, rfl⟩ (.cons ⟨t5, rfl⟩ (.cons ⟨t6, rfl⟩ (.cons ⟨t7, rfl⟩ (.cons ⟨t8, rfl⟩ (.cons ⟨t9, rfl⟩ .nil)))))))))⟩⟩
theorem gi_of {K : PySem.W.Frag} {h : Heap} {mg : Str → Option Value} (X : K.In h) (G : h.Ns mainGlobals mg) {n : Str} {i : Int} {t : Tok} (a : PySem.W.nsIn K mainGlobals n = some (some (.int i t))) : ∃ t, mg n = some (.int i t) := ⟨t, PySem.W.mg_of X G a⟩
def msMk {K : PySem.W.Frag} {C CC fW fC : Addr} {oc : Value} {od an : Option Addr} {osl : Array (Option Value)} {kV doc pm cdv ct : Value} {oc2 : Value} {od2 an2 : Option Addr} {osl2 : Array (Option Value)} {kV2 doc2 pm2 cdv2 ct2 : Value}
    (iW : PySem.W.findIn K (.ref C) "__init__" = some (some (.ref fW))) (lW : K.lookup fW = some ⟨oc, od, .func (PySem.W.fnOf "__init__" "Work.__init__" (defArgs (inClass (top 4) 0)) (defBody (inClass (top 4) 0)) (defScope (inClass (top 4) 0)) .none kV doc pm an cdv ct), osl⟩) (cW : PySem.W.codeIn K cdv "Work.__init__" = true) (kW : PySem.W.keepIn K (.ref fW) = true) (mkW : PySem.W.makesIn K C = true) (fnW : PySem.W.isFn K (.ref fW) = true) (kcW : PySem.W.keepIn K (.ref C) = true)
    (iC : PySem.W.findIn K (.ref CC) "__init__" = some (some (.ref fC))) (lC : K.lookup fC = some ⟨oc2, od2, .func (PySem.W.fnOf "__init__" "Course.__init__" (defArgs (inClass (top 35) 0)) (defBody (inClass (top 35) 0)) (defScope (inClass (top 35) 0)) .none kV2 doc2 pm2 an2 cdv2 ct2), osl2⟩) (cC : PySem.W.codeIn K cdv2 "Course.__init__" = true) (kC : PySem.W.keepIn K (.ref fC) = true) (mkC : PySem.W.makesIn K CC = true) (fnC : PySem.W.isFn K (.ref fC) = true) (kcC : PySem.W.keepIn K (.ref CC) = true)
    (bW : ∀ (kV doc pm : Value) (an : Option Addr) (cdv ct : Value) (us : List Value), us.length = (["self"] : List Str).length → bindArgs (PySem.W.fnOf "__init__" "Work.__init__" (defArgs (inClass (top 4) 0)) (defBody (inClass (top 4) 0)) (defScope (inClass (top 4) 0)) .none kV doc pm an cdv ct) ⟨us, []⟩ = pure ((["self"] : List Str).zip us))
    (bC : ∀ (kV doc pm : Value) (an : Option Addr) (cdv ct : Value) (us : List Value), us.length = (["self", "work"] : List Str).length → bindArgs (PySem.W.fnOf "__init__" "Course.__init__" (defArgs (inClass (top 35) 0)) (defBody (inClass (top 35) 0)) (defScope (inClass (top 35) 0)) .none kV doc pm an cdv ct) ⟨us, []⟩ = pure ((["self", "work"] : List Str).zip us)) : Ms K C CC :=
  ⟨fW, _, fun_mk lW cW kW, (fun_mk lW cW kW).binds bW, ⟨mkW, iW, fnW, kcW⟩, fC, _, fun_mk lC cC kC, (fun_mk lC cC kC).binds bC, ⟨mkC, iC, fnC, kcC⟩⟩
theorem all_mk {P : Program} {w : World} {K : PySem.W.Frag} {h : Heap} {mg : Str → Option Value} {fa f0 C CC Pt ca : Addr} {oc : Value} {od an : Option Addr} {osl : Array (Option Value)} {kV doc pm cdv ct : Value} (X : K.In h) (G : h.Ns mainGlobals mg) (hfa : mg "answers" = some (.ref fa))
    (aA : PySem.W.nsIn K mainGlobals "answers" = some (some (.ref f0))) (lA : K.lookup f0 = some ⟨oc, od, .func (PySem.W.fnOf "answers" "answers" (defArgs (top 98)) (defBody (top 98)) (defScope (top 98)) .none kV doc pm an cdv ct), osl⟩) (cA : PySem.W.codeIn K cdv "answers" = true) (kA : PySem.W.keepIn K (.ref f0) = true)
    (D : Ds K mg) (M : Ms K C CC) (T : Txt K mg C CC) (L : Ln K mg) (hcode : D.last.fd.code = .ref ca) (ht : PySem.W.tabIn K "wanted_last" = some (ca, Pt)) (nT : K.lookup Pt = none) :
    ∃ (fd : FuncData) (ca Pt : Addr), PySem.W.tabIn K "wanted_last" = some (ca, Pt) ∧ K.lookup Pt = none ∧ (∀ (s : Shared) (us : List Value), us.length = (["calls"] : List Str).length → BindsTo s fd ⟨us, []⟩ ((["calls"] : List Str).zip us)) ∧
      ∀ base : Heap, K.In base → base.Ns mainGlobals mg → TabB base mg ca Pt → FnOk P w K mg base CX0 12 fa fd ["calls"] (spAll K Pt) := by
  have e := hfa.symm.trans (PySem.W.mg_of X G aA)
  cases e
  exact ⟨_, ca, Pt, ht, nT, fun s us hu => match us, hu with | [_], _ => .of_eq rfl, fun base _ _ TB => ok_all (fun_mk lA cA kA) D M T L TB hcode⟩
theorem bd_used (kV doc pm : Value) (an : Option Addr) (cdv ct : Value) (us : List Value) (hl : us.length = (["step"] : List Str).length) : bindArgs (PySem.W.fnOf "used" "used" (defArgs (top 5)) (defBody (top 5)) (defScope (top 5)) .none kV doc pm an cdv ct) ⟨us, []⟩ = pure ((["step"] : List Str).zip us) := match us, hl with | [_], _ => rfl
theorem bd_gives (kV doc pm : Value) (an : Option Addr) (cdv ct : Value) (us : List Value) (hl : us.length = (["step"] : List Str).length) : bindArgs (PySem.W.fnOf "gives" "gives" (defArgs (top 6)) (defBody (top 6)) (defScope (top 6)) .none kV doc pm an cdv ct) ⟨us, []⟩ = pure ((["step"] : List Str).zip us) := match us, hl with | [_], _ => rfl
theorem bd_vals (kV doc pm : Value) (an : Option Addr) (cdv ct : Value) (us : List Value) (hl : us.length = (["steps"] : List Str).length) : bindArgs (PySem.W.fnOf "values_given" "values_given" (defArgs (top 7)) (defBody (top 7)) (defScope (top 7)) .none kV doc pm an cdv ct) ⟨us, []⟩ = pure ((["steps"] : List Str).zip us) := match us, hl with | [_], _ => rfl
theorem bd_nums (kV doc pm : Value) (an : Option Addr) (cdv ct : Value) (us : List Value) (hl : us.length = (["steps"] : List Str).length) : bindArgs (PySem.W.fnOf "numbers_given" "numbers_given" (defArgs (top 8)) (defBody (top 8)) (defScope (top 8)) .none kV doc pm an cdv ct) ⟨us, []⟩ = pure ((["steps"] : List Str).zip us) := match us, hl with | [_], _ => rfl
theorem bd_first (kV doc pm : Value) (an : Option Addr) (cdv ct : Value) (us : List Value) (hl : us.length = (["steps", "value", "start"] : List Str).length) : bindArgs (PySem.W.fnOf "first_use" "first_use" (defArgs (top 9)) (defBody (top 9)) (defScope (top 9)) .none kV doc pm an cdv ct) ⟨us, []⟩ = pure ((["steps", "value", "start"] : List Str).zip us) := match us, hl with | [_, _, _], _ => rfl
theorem bd_wantd (kV doc pm : Value) (an : Option Addr) (cdv ct : Value) (us : List Value) (hl : us.length = (["steps", "value", "start"] : List Str).length) : bindArgs (PySem.W.fnOf "is_wanted" "is_wanted" (defArgs (top 10)) (defBody (top 10)) (defScope (top 10)) .none kV doc pm an cdv ct) ⟨us, []⟩ = pure ((["steps", "value", "start"] : List Str).zip us) := match us, hl with | [_, _, _], _ => rfl
theorem bd_there (kV doc pm : Value) (an : Option Addr) (cdv ct : Value) (us : List Value) (hl : us.length = (["steps", "at"] : List Str).length) : bindArgs (PySem.W.fnOf "there_behind" "there_behind" (defArgs (top 11)) (defBody (top 11)) (defScope (top 11)) .none kV doc pm an cdv ct) ⟨us, []⟩ = pure ((["steps", "at"] : List Str).zip us) := match us, hl with | [_, _], _ => rfl
theorem bd_most (kV doc pm : Value) (an : Option Addr) (cdv ct : Value) (us : List Value) (hl : us.length = (["steps"] : List Str).length) : bindArgs (PySem.W.fnOf "most_at_once" "most_at_once" (defArgs (top 12)) (defBody (top 12)) (defScope (top 12)) .none kV doc pm an cdv ct) ⟨us, []⟩ = pure ((["steps"] : List Str).zip us) := match us, hl with | [_], _ => rfl
theorem bd_made (kV doc pm : Value) (an : Option Addr) (cdv ct : Value) (us : List Value) (hl : us.length = (["operation", "first", "second"] : List Str).length) : bindArgs (PySem.W.fnOf "made" "made" (defArgs (top 25)) (defBody (top 25)) (defScope (top 25)) .none kV doc pm an cdv ct) ⟨us, []⟩ = pure ((["operation", "first", "second"] : List Str).zip us) := match us, hl with | [_, _, _], _ => rfl
theorem bd_said (kV doc pm : Value) (an : Option Addr) (cdv ct : Value) (us : List Value) (hl : us.length = (["steps"] : List Str).length) : bindArgs (PySem.W.fnOf "words_said" "words_said" (defArgs (top 26)) (defBody (top 26)) (defScope (top 26)) .none kV doc pm an cdv ct) ⟨us, []⟩ = pure ((["steps"] : List Str).zip us) := match us, hl with | [_], _ => rfl
theorem bd_room (kV doc pm : Value) (an : Option Addr) (cdv ct : Value) (us : List Value) (hl : us.length = (["course"] : List Str).length) : bindArgs (PySem.W.fnOf "has_room" "has_room" (defArgs (top 36)) (defBody (top 36)) (defScope (top 36)) .none kV doc pm an cdv ct) ⟨us, []⟩ = pure ((["course"] : List Str).zip us) := match us, hl with | [_], _ => rfl
theorem bd_put (kV doc pm : Value) (an : Option Addr) (cdv ct : Value) (us : List Value) (hl : us.length = (["course", "value"] : List Str).length) : bindArgs (PySem.W.fnOf "put" "put" (defArgs (top 37)) (defBody (top 37)) (defScope (top 37)) .none kV doc pm an cdv ct) ⟨us, []⟩ = pure ((["course", "value"] : List Str).zip us) := match us, hl with | [_, _], _ => rfl
theorem bd_bringP (kV doc pm : Value) (an : Option Addr) (cdv ct : Value) (us : List Value) (hl : us.length = (["course", "value", "price"] : List Str).length) : bindArgs (PySem.W.fnOf "bring" "bring" (defArgs (top 38)) (defBody (top 38)) (defScope (top 38)) .none kV doc pm an cdv ct) ⟨us, []⟩ = pure ((["course", "value", "price"] : List Str).zip us) := match us, hl with | [_, _, _], _ => rfl
theorem bd_fetch (kV doc pm : Value) (an : Option Addr) (cdv ct : Value) (us : List Value) (hl : us.length = (["course", "value"] : List Str).length) : bindArgs (PySem.W.fnOf "fetch" "fetch" (defArgs (top 40)) (defBody (top 40)) (defScope (top 40)) .none kV doc pm an cdv ct) ⟨us, []⟩ = pure ((["course", "value"] : List Str).zip us) := match us, hl with | [_, _], _ => rfl
theorem bd_drop (kV doc pm : Value) (an : Option Addr) (cdv ct : Value) (us : List Value) (hl : us.length = (["course", "value"] : List Str).length) : bindArgs (PySem.W.fnOf "drop" "drop" (defArgs (top 41)) (defBody (top 41)) (defScope (top 41)) .none kV doc pm an cdv ct) ⟨us, []⟩ = pure ((["course", "value"] : List Str).zip us) := match us, hl with | [_, _], _ => rfl
theorem bd_again (kV doc pm : Value) (an : Option Addr) (cdv ct : Value) (us : List Value) (hl : us.length = (["course", "value"] : List Str).length) : bindArgs (PySem.W.fnOf "make_again" "make_again" (defArgs (top 42)) (defBody (top 42)) (defScope (top 42)) .none kV doc pm an cdv ct) ⟨us, []⟩ = pure ((["course", "value"] : List Str).zip us) := match us, hl with | [_, _], _ => rfl
theorem bd_ready (kV doc pm : Value) (an : Option Addr) (cdv ct : Value) (us : List Value) (hl : us.length = (["course"] : List Str).length) : bindArgs (PySem.W.fnOf "is_ready" "is_ready" (defArgs (top 43)) (defBody (top 43)) (defScope (top 43)) .none kV doc pm an cdv ct) ⟨us, []⟩ = pure ((["course"] : List Str).zip us) := match us, hl with | [_], _ => rfl
theorem bd_finish (kV doc pm : Value) (an : Option Addr) (cdv ct : Value) (us : List Value) (hl : us.length = (["course"] : List Str).length) : bindArgs (PySem.W.fnOf "finish_step" "finish_step" (defArgs (top 44)) (defBody (top 44)) (defScope (top 44)) .none kV doc pm an cdv ct) ⟨us, []⟩ = pure ((["course"] : List Str).zip us) := match us, hl with | [_], _ => rfl
theorem bd_next (kV doc pm : Value) (an : Option Addr) (cdv ct : Value) (us : List Value) (hl : us.length = (["course"] : List Str).length) : bindArgs (PySem.W.fnOf "do_next" "do_next" (defArgs (top 45)) (defBody (top 45)) (defScope (top 45)) .none kV doc pm an cdv ct) ⟨us, []⟩ = pure ((["course"] : List Str).zip us) := match us, hl with | [_], _ => rfl
theorem bd_place (kV doc pm : Value) (an : Option Addr) (cdv ct : Value) (us : List Value) (hl : us.length = (["course", "value"] : List Str).length) : bindArgs (PySem.W.fnOf "do_in_place" "do_in_place" (defArgs (top 46)) (defBody (top 46)) (defScope (top 46)) .none kV doc pm an cdv ct) ⟨us, []⟩ = pure ((["course", "value"] : List Str).zip us) := match us, hl with | [_, _], _ => rfl
theorem bd_act (kV doc pm : Value) (an : Option Addr) (cdv ct : Value) (us : List Value) (hl : us.length = (["course", "act", "value"] : List Str).length) : bindArgs (PySem.W.fnOf "do_act" "do_act" (defArgs (top 47)) (defBody (top 47)) (defScope (top 47)) .none kV doc pm an cdv ct) ⟨us, []⟩ = pure ((["course", "act", "value"] : List Str).zip us) := match us, hl with | [_, _, _], _ => rfl
theorem bd_acts (kV doc pm : Value) (an : Option Addr) (cdv ct : Value) (us : List Value) (hl : us.length = (["plan"] : List Str).length) : bindArgs (PySem.W.fnOf "are_acts" "are_acts" (defArgs (top 48)) (defBody (top 48)) (defScope (top 48)) .none kV doc pm an cdv ct) ⟨us, []⟩ = pure ((["plan"] : List Str).zip us) := match us, hl with | [_], _ => rfl
theorem bd_judge (kV doc pm : Value) (an : Option Addr) (cdv ct : Value) (us : List Value) (hl : us.length = (["work", "plan"] : List Str).length) : bindArgs (PySem.W.fnOf "judge" "judge" (defArgs (top 49)) (defBody (top 49)) (defScope (top 49)) .none kV doc pm an cdv ct) ⟨us, []⟩ = pure ((["work", "plan"] : List Str).zip us) := match us, hl with | [_, _], _ => rfl
theorem bd_addAct (kV doc pm : Value) (an : Option Addr) (cdv ct : Value) (us : List Value) (hl : us.length = (["course", "plan", "act", "value"] : List Str).length) : bindArgs (PySem.W.fnOf "add_act" "add_act" (defArgs (top 51)) (defBody (top 51)) (defScope (top 51)) .none kV doc pm an cdv ct) ⟨us, []⟩ = pure ((["course", "plan", "act", "value"] : List Str).zip us) := match us, hl with | [_, _, _, _], _ => rfl
theorem bd_last (kV doc pm : Value) (an : Option Addr) (cdv ct : Value) (us : List Value) (hl : us.length = (["steps", "values", "start"] : List Str).length) : bindArgs (PySem.W.fnOf "wanted_last" "wanted_last" (defArgs (top 52)) (defBody (top 52)) (defScope (top 52)) .none kV doc pm an cdv ct) ⟨us, []⟩ = pure ((["steps", "values", "start"] : List Str).zip us) := match us, hl with | [_, _, _], _ => rfl
theorem bd_letGo (kV doc pm : Value) (an : Option Addr) (cdv ct : Value) (us : List Value) (hl : us.length = (["course", "plan", "values", "start", "act"] : List Str).length) : bindArgs (PySem.W.fnOf "let_go" "let_go" (defArgs (top 53)) (defBody (top 53)) (defScope (top 53)) .none kV doc pm an cdv ct) ⟨us, []⟩ = pure ((["course", "plan", "values", "start", "act"] : List Str).zip us) := match us, hl with | [_, _, _, _, _], _ => rfl
theorem bd_getUsed (kV doc pm : Value) (an : Option Addr) (cdv ct : Value) (us : List Value) (hl : us.length = (["course", "plan", "value", "step"] : List Str).length) : bindArgs (PySem.W.fnOf "get_used" "get_used" (defArgs (top 54)) (defBody (top 54)) (defScope (top 54)) .none kV doc pm an cdv ct) ⟨us, []⟩ = pure ((["course", "plan", "value", "step"] : List Str).zip us) := match us, hl with | [_, _, _, _], _ => rfl
theorem bd_addStep (kV doc pm : Value) (an : Option Addr) (cdv ct : Value) (us : List Value) (hl : us.length = (["course", "plan", "step"] : List Str).length) : bindArgs (PySem.W.fnOf "add_step" "add_step" (defArgs (top 55)) (defBody (top 55)) (defScope (top 55)) .none kV doc pm an cdv ct) ⟨us, []⟩ = pure ((["course", "plan", "step"] : List Str).zip us) := match us, hl with | [_, _, _], _ => rfl
theorem bd_far (kV doc pm : Value) (an : Option Addr) (cdv ct : Value) (us : List Value) (hl : us.length = (["work"] : List Str).length) : bindArgs (PySem.W.fnOf "far_plan" "far_plan" (defArgs (top 56)) (defBody (top 56)) (defScope (top 56)) .none kV doc pm an cdv ct) ⟨us, []⟩ = pure ((["work"] : List Str).zip us) := match us, hl with | [_], _ => rfl
theorem bd_cheap (kV doc pm : Value) (an : Option Addr) (cdv ct : Value) (us : List Value) (hl : us.length = (["ways"] : List Str).length) : bindArgs (PySem.W.fnOf "cheapest" "cheapest" (defArgs (top 58)) (defBody (top 58)) (defScope (top 58)) .none kV doc pm an cdv ct) ⟨us, []⟩ = pure ((["ways"] : List Str).zip us) := match us, hl with | [_], _ => rfl
theorem bd_withHeld (kV doc pm : Value) (an : Option Addr) (cdv ct : Value) (us : List Value) (hl : us.length = (["way", "value", "price"] : List Str).length) : bindArgs (PySem.W.fnOf "with_held" "with_held" (defArgs (top 59)) (defBody (top 59)) (defScope (top 59)) .none kV doc pm an cdv ct) ⟨us, []⟩ = pure ((["way", "value", "price"] : List Str).zip us) := match us, hl with | [_, _, _], _ => rfl
theorem bd_noHeld (kV doc pm : Value) (an : Option Addr) (cdv ct : Value) (us : List Value) (hl : us.length = (["way", "value"] : List Str).length) : bindArgs (PySem.W.fnOf "without_held" "without_held" (defArgs (top 60)) (defBody (top 60)) (defScope (top 60)) .none kV doc pm an cdv ct) ⟨us, []⟩ = pure ((["way", "value"] : List Str).zip us) := match us, hl with | [_, _], _ => rfl
theorem bd_withAway (kV doc pm : Value) (an : Option Addr) (cdv ct : Value) (us : List Value) (hl : us.length = (["way", "value", "price"] : List Str).length) : bindArgs (PySem.W.fnOf "with_away" "with_away" (defArgs (top 61)) (defBody (top 61)) (defScope (top 61)) .none kV doc pm an cdv ct) ⟨us, []⟩ = pure ((["way", "value", "price"] : List Str).zip us) := match us, hl with | [_, _, _], _ => rfl
theorem bd_still (kV doc pm : Value) (an : Option Addr) (cdv ct : Value) (us : List Value) (hl : us.length = (["steps", "way", "start"] : List Str).length) : bindArgs (PySem.W.fnOf "still_wanted" "still_wanted" (defArgs (top 62)) (defBody (top 62)) (defScope (top 62)) .none kV doc pm an cdv ct) ⟨us, []⟩ = pure ((["steps", "way", "start"] : List Str).zip us) := match us, hl with | [_, _, _], _ => rfl
theorem bd_toLet (kV doc pm : Value) (an : Option Addr) (cdv ct : Value) (us : List Value) (hl : us.length = (["work", "way", "value"] : List Str).length) : bindArgs (PySem.W.fnOf "ways_to_let_go" "ways_to_let_go" (defArgs (top 63)) (defBody (top 63)) (defScope (top 63)) .none kV doc pm an cdv ct) ⟨us, []⟩ = pure ((["work", "way", "value"] : List Str).zip us) := match us, hl with | [_, _, _], _ => rfl
theorem bd_wroom (kV doc pm : Value) (an : Option Addr) (cdv ct : Value) (us : List Value) (hl : us.length = (["work", "way", "kept"] : List Str).length) : bindArgs (PySem.W.fnOf "with_room" "with_room" (defArgs (top 64)) (defBody (top 64)) (defScope (top 64)) .none kV doc pm an cdv ct) ⟨us, []⟩ = pure ((["work", "way", "kept"] : List Str).zip us) := match us, hl with | [_, _, _], _ => rfl
theorem bd_toBring (kV doc pm : Value) (an : Option Addr) (cdv ct : Value) (us : List Value) (hl : us.length = (["work", "way", "value"] : List Str).length) : bindArgs (PySem.W.fnOf "price_to_bring" "price_to_bring" (defArgs (top 65)) (defBody (top 65)) (defScope (top 65)) .none kV doc pm an cdv ct) ⟨us, []⟩ = pure ((["work", "way", "value"] : List Str).zip us) := match us, hl with | [_, _, _], _ => rfl
theorem bd_bringL (kV doc pm : Value) (an : Option Addr) (cdv ct : Value) (us : List Value) (hl : us.length = (["work", "way", "value", "kept"] : List Str).length) : bindArgs (PySem.W.fnOf "bring" "bring" (defArgs (top 66)) (defBody (top 66)) (defScope (top 66)) .none kV doc pm an cdv ct) ⟨us, []⟩ = pure ((["work", "way", "value", "kept"] : List Str).zip us) := match us, hl with | [_, _, _, _], _ => rfl
theorem bd_bringAll (kV doc pm : Value) (an : Option Addr) (cdv ct : Value) (us : List Value) (hl : us.length = (["work", "ways", "value", "kept"] : List Str).length) : bindArgs (PySem.W.fnOf "bring_all" "bring_all" (defArgs (top 68)) (defBody (top 68)) (defScope (top 68)) .none kV doc pm an cdv ct) ⟨us, []⟩ = pure ((["work", "ways", "value", "kept"] : List Str).zip us) := match us, hl with | [_, _, _, _], _ => rfl
theorem bd_doStep (kV doc pm : Value) (an : Option Addr) (cdv ct : Value) (us : List Value) (hl : us.length = (["work", "way", "at"] : List Str).length) : bindArgs (PySem.W.fnOf "do_step" "do_step" (defArgs (top 69)) (defBody (top 69)) (defScope (top 69)) .none kV doc pm an cdv ct) ⟨us, []⟩ = pure ((["work", "way", "at"] : List Str).zip us) := match us, hl with | [_, _, _], _ => rfl
theorem bd_stepAll (kV doc pm : Value) (an : Option Addr) (cdv ct : Value) (us : List Value) (hl : us.length = (["work", "ways", "at"] : List Str).length) : bindArgs (PySem.W.fnOf "do_step_all" "do_step_all" (defArgs (top 70)) (defBody (top 70)) (defScope (top 70)) .none kV doc pm an cdv ct) ⟨us, []⟩ = pure ((["work", "ways", "at"] : List Str).zip us) := match us, hl with | [_, _, _], _ => rfl
theorem bd_least (kV doc pm : Value) (an : Option Addr) (cdv ct : Value) (us : List Value) (hl : us.length = (["work"] : List Str).length) : bindArgs (PySem.W.fnOf "least_price" "least_price" (defArgs (top 71)) (defBody (top 71)) (defScope (top 71)) .none kV doc pm an cdv ct) ⟨us, []⟩ = pure ((["work"] : List Str).zip us) := match us, hl with | [_], _ => rfl
theorem bd_begin (kV doc pm : Value) (an : Option Addr) (cdv ct : Value) (us : List Value) (hl : us.length = (["work", "registers", "prices"] : List Str).length) : bindArgs (PySem.W.fnOf "begin" "begin" (defArgs (top 89)) (defBody (top 89)) (defScope (top 89)) .none kV doc pm an cdv ct) ⟨us, []⟩ = pure ((["work", "registers", "prices"] : List Str).zip us) := match us, hl with | [_, _, _], _ => rfl
theorem bd_behind (kV doc pm : Value) (an : Option Addr) (cdv ct : Value) (us : List Value) (hl : us.length = (["work", "step"] : List Str).length) : bindArgs (PySem.W.fnOf "put_behind" "put_behind" (defArgs (top 90)) (defBody (top 90)) (defScope (top 90)) .none kV doc pm an cdv ct) ⟨us, []⟩ = pure ((["work", "step"] : List Str).zip us) := match us, hl with | [_, _], _ => rfl
theorem bd_num (kV doc pm : Value) (an : Option Addr) (cdv ct : Value) (us : List Value) (hl : us.length = (["work", "word"] : List Str).length) : bindArgs (PySem.W.fnOf "num" "num" (defArgs (top 91)) (defBody (top 91)) (defScope (top 91)) .none kV doc pm an cdv ct) ⟨us, []⟩ = pure ((["work", "word"] : List Str).zip us) := match us, hl with | [_, _], _ => rfl
theorem bd_two (kV doc pm : Value) (an : Option Addr) (cdv ct : Value) (us : List Value) (hl : us.length = (["work", "operation", "first", "second"] : List Str).length) : bindArgs (PySem.W.fnOf "two" "two" (defArgs (top 92)) (defBody (top 92)) (defScope (top 92)) .none kV doc pm an cdv ct) ⟨us, []⟩ = pure ((["work", "operation", "first", "second"] : List Str).zip us) := match us, hl with | [_, _, _, _], _ => rfl
theorem bd_say (kV doc pm : Value) (an : Option Addr) (cdv ct : Value) (us : List Value) (hl : us.length = (["work", "value"] : List Str).length) : bindArgs (PySem.W.fnOf "say" "say" (defArgs (top 93)) (defBody (top 93)) (defScope (top 93)) .none kV doc pm an cdv ct) ⟨us, []⟩ = pure ((["work", "value"] : List Str).zip us) := match us, hl with | [_, _], _ => rfl
theorem bd_shows (kV doc pm : Value) (an : Option Addr) (cdv ct : Value) (us : List Value) (hl : us.length = (["work"] : List Str).length) : bindArgs (PySem.W.fnOf "shows" "shows" (defArgs (top 94)) (defBody (top 94)) (defScope (top 94)) .none kV doc pm an cdv ct) ⟨us, []⟩ = pure ((["work"] : List Str).zip us) := match us, hl with | [_], _ => rfl
theorem bd_says (kV doc pm : Value) (an : Option Addr) (cdv ct : Value) (us : List Value) (hl : us.length = (["work"] : List Str).length) : bindArgs (PySem.W.fnOf "says" "says" (defArgs (top 95)) (defBody (top 95)) (defScope (top 95)) .none kV doc pm an cdv ct) ⟨us, []⟩ = pure ((["work"] : List Str).zip us) := match us, hl with | [_], _ => rfl
theorem bd_answer (kV doc pm : Value) (an : Option Addr) (cdv ct : Value) (us : List Value) (hl : us.length = (["work", "call", "numbers"] : List Str).length) : bindArgs (PySem.W.fnOf "answer" "answer" (defArgs (top 96)) (defBody (top 96)) (defScope (top 96)) .none kV doc pm an cdv ct) ⟨us, []⟩ = pure ((["work", "call", "numbers"] : List Str).zip us) := match us, hl with | [_, _, _], _ => rfl
theorem bd_endc (kV doc pm : Value) (an : Option Addr) (cdv ct : Value) (us : List Value) (hl : us.length = (["calls", "at"] : List Str).length) : bindArgs (PySem.W.fnOf "end_of_call" "end_of_call" (defArgs (top 97)) (defBody (top 97)) (defScope (top 97)) .none kV doc pm an cdv ct) ⟨us, []⟩ = pure ((["calls", "at"] : List Str).zip us) := match us, hl with | [_, _], _ => rfl
theorem bd_WI (kV doc pm : Value) (an : Option Addr) (cdv ct : Value) (us : List Value) (hl : us.length = (["self"] : List Str).length) : bindArgs (PySem.W.fnOf "__init__" "Work.__init__" (defArgs (inClass (top 4) 0)) (defBody (inClass (top 4) 0)) (defScope (inClass (top 4) 0)) .none kV doc pm an cdv ct) ⟨us, []⟩ = pure ((["self"] : List Str).zip us) := match us, hl with | [_], _ => rfl
theorem bd_CI (kV doc pm : Value) (an : Option Addr) (cdv ct : Value) (us : List Value) (hl : us.length = (["self", "work"] : List Str).length) : bindArgs (PySem.W.fnOf "__init__" "Course.__init__" (defArgs (inClass (top 35) 0)) (defBody (inClass (top 35) 0)) (defScope (inClass (top 35) 0)) .none kV doc pm an cdv ct) ⟨us, []⟩ = pure ((["self", "work"] : List Str).zip us) := match us, hl with | [_, _], _ => rfl
end Pb
open PySem PySem.W PyProof.Rows
set_option maxRecDepth 100000 in
set_option maxHeartbeats 16000000 in
theorem PySem.Challenge.cw_putaway_s01_answers_holds : PySem.Challenge.rw_putaway_s01_answers.Holds := by
  w_on; k_headS; (case hw => exact ⟨[.list [.int 4]], by decide +kernel, by decide +kernel⟩)
  k_fillS
  refine Pb.walk_specT (r := PySem.Challenge.rw_putaway_s01_answers) (k := 12) (CX := L2.CX0) (ps := ["calls"]) (x := "wanted_last") (sp := Pb.spAll) (by decide +kernel) rfl rfl ⟨rfl, by decide, by decide⟩ (fun w h Y => PySem.W.kIn_of Y) rfl ?F ?S (fun _ _ _ _ z => z)
  case F =>
    intro w mg fa h Y KX G hmg
    refine' Pb.all_mk KX G hmg ?aA ?lA ?cA ?kA
      ⟨Pb.dfMk (g := "used") (x := "used") (st := Pb.top 5) (ps := ["step"]) KX G ?a_used ?l_used ?c_used ?k_used Pb.bd_used,
        Pb.dfMk (g := "gives") (x := "gives") (st := Pb.top 6) (ps := ["step"]) KX G ?a_gives ?l_gives ?c_gives ?k_gives Pb.bd_gives,
        Pb.dfMk (g := "values_given") (x := "values_given") (st := Pb.top 7) (ps := ["steps"]) KX G ?a_vals ?l_vals ?c_vals ?k_vals Pb.bd_vals,
        Pb.dfMk (g := "numbers_given") (x := "numbers_given") (st := Pb.top 8) (ps := ["steps"]) KX G ?a_nums ?l_nums ?c_nums ?k_nums Pb.bd_nums,
        Pb.dfMk (g := "first_use") (x := "first_use") (st := Pb.top 9) (ps := ["steps", "value", "start"]) KX G ?a_first ?l_first ?c_first ?k_first Pb.bd_first,
        Pb.dfMk (g := "is_wanted") (x := "is_wanted") (st := Pb.top 10) (ps := ["steps", "value", "start"]) KX G ?a_wantd ?l_wantd ?c_wantd ?k_wantd Pb.bd_wantd,
        Pb.dfMk (g := "there_behind") (x := "there_behind") (st := Pb.top 11) (ps := ["steps", "at"]) KX G ?a_there ?l_there ?c_there ?k_there Pb.bd_there,
        Pb.dfMk (g := "most_at_once") (x := "most_at_once") (st := Pb.top 12) (ps := ["steps"]) KX G ?a_most ?l_most ?c_most ?k_most Pb.bd_most,
        Pb.dfMk (g := "made") (x := "made") (st := Pb.top 25) (ps := ["operation", "first", "second"]) KX G ?a_made ?l_made ?c_made ?k_made Pb.bd_made,
        Pb.dfMk (g := "words_said") (x := "words_said") (st := Pb.top 26) (ps := ["steps"]) KX G ?a_said ?l_said ?c_said ?k_said Pb.bd_said,
        Pb.dfMk (g := "has_room") (x := "has_room") (st := Pb.top 36) (ps := ["course"]) KX G ?a_room ?l_room ?c_room ?k_room Pb.bd_room,
        Pb.dfMk (g := "put") (x := "put") (st := Pb.top 37) (ps := ["course", "value"]) KX G ?a_put ?l_put ?c_put ?k_put Pb.bd_put,
        Pb.dfMk (g := "bring_plans") (x := "bring") (st := Pb.top 38) (ps := ["course", "value", "price"]) KX G ?a_bringP ?l_bringP ?c_bringP ?k_bringP Pb.bd_bringP,
        Pb.dfMk (g := "fetch") (x := "fetch") (st := Pb.top 40) (ps := ["course", "value"]) KX G ?a_fetch ?l_fetch ?c_fetch ?k_fetch Pb.bd_fetch,
        Pb.dfMk (g := "drop") (x := "drop") (st := Pb.top 41) (ps := ["course", "value"]) KX G ?a_drop ?l_drop ?c_drop ?k_drop Pb.bd_drop,
        Pb.dfMk (g := "make_again") (x := "make_again") (st := Pb.top 42) (ps := ["course", "value"]) KX G ?a_again ?l_again ?c_again ?k_again Pb.bd_again,
        Pb.dfMk (g := "is_ready") (x := "is_ready") (st := Pb.top 43) (ps := ["course"]) KX G ?a_ready ?l_ready ?c_ready ?k_ready Pb.bd_ready,
        Pb.dfMk (g := "finish_step") (x := "finish_step") (st := Pb.top 44) (ps := ["course"]) KX G ?a_finish ?l_finish ?c_finish ?k_finish Pb.bd_finish,
        Pb.dfMk (g := "do_next") (x := "do_next") (st := Pb.top 45) (ps := ["course"]) KX G ?a_next ?l_next ?c_next ?k_next Pb.bd_next,
        Pb.dfMk (g := "do_in_place") (x := "do_in_place") (st := Pb.top 46) (ps := ["course", "value"]) KX G ?a_place ?l_place ?c_place ?k_place Pb.bd_place,
        Pb.dfMk (g := "do_act") (x := "do_act") (st := Pb.top 47) (ps := ["course", "act", "value"]) KX G ?a_act ?l_act ?c_act ?k_act Pb.bd_act,
        Pb.dfMk (g := "are_acts") (x := "are_acts") (st := Pb.top 48) (ps := ["plan"]) KX G ?a_acts ?l_acts ?c_acts ?k_acts Pb.bd_acts,
        Pb.dfMk (g := "judge") (x := "judge") (st := Pb.top 49) (ps := ["work", "plan"]) KX G ?a_judge ?l_judge ?c_judge ?k_judge Pb.bd_judge,
        Pb.dfMk (g := "add_act") (x := "add_act") (st := Pb.top 51) (ps := ["course", "plan", "act", "value"]) KX G ?a_addAct ?l_addAct ?c_addAct ?k_addAct Pb.bd_addAct,
        Pb.dfMk (g := "wanted_last") (x := "wanted_last") (st := Pb.top 52) (ps := ["steps", "values", "start"]) KX G ?a_last ?l_last ?c_last ?k_last Pb.bd_last,
        Pb.dfMk (g := "let_go") (x := "let_go") (st := Pb.top 53) (ps := ["course", "plan", "values", "start", "act"]) KX G ?a_letGo ?l_letGo ?c_letGo ?k_letGo Pb.bd_letGo,
        Pb.dfMk (g := "get_used") (x := "get_used") (st := Pb.top 54) (ps := ["course", "plan", "value", "step"]) KX G ?a_getUsed ?l_getUsed ?c_getUsed ?k_getUsed Pb.bd_getUsed,
        Pb.dfMk (g := "add_step") (x := "add_step") (st := Pb.top 55) (ps := ["course", "plan", "step"]) KX G ?a_addStep ?l_addStep ?c_addStep ?k_addStep Pb.bd_addStep,
        Pb.dfMk (g := "far_plan") (x := "far_plan") (st := Pb.top 56) (ps := ["work"]) KX G ?a_far ?l_far ?c_far ?k_far Pb.bd_far,
        Pb.dfMk (g := "cheapest") (x := "cheapest") (st := Pb.top 58) (ps := ["ways"]) KX G ?a_cheap ?l_cheap ?c_cheap ?k_cheap Pb.bd_cheap,
        Pb.dfMk (g := "with_held") (x := "with_held") (st := Pb.top 59) (ps := ["way", "value", "price"]) KX G ?a_withHeld ?l_withHeld ?c_withHeld ?k_withHeld Pb.bd_withHeld,
        Pb.dfMk (g := "without_held") (x := "without_held") (st := Pb.top 60) (ps := ["way", "value"]) KX G ?a_noHeld ?l_noHeld ?c_noHeld ?k_noHeld Pb.bd_noHeld,
        Pb.dfMk (g := "with_away") (x := "with_away") (st := Pb.top 61) (ps := ["way", "value", "price"]) KX G ?a_withAway ?l_withAway ?c_withAway ?k_withAway Pb.bd_withAway,
        Pb.dfMk (g := "still_wanted") (x := "still_wanted") (st := Pb.top 62) (ps := ["steps", "way", "start"]) KX G ?a_still ?l_still ?c_still ?k_still Pb.bd_still,
        Pb.dfMk (g := "ways_to_let_go") (x := "ways_to_let_go") (st := Pb.top 63) (ps := ["work", "way", "value"]) KX G ?a_toLet ?l_toLet ?c_toLet ?k_toLet Pb.bd_toLet,
        Pb.dfMk (g := "with_room") (x := "with_room") (st := Pb.top 64) (ps := ["work", "way", "kept"]) KX G ?a_wroom ?l_wroom ?c_wroom ?k_wroom Pb.bd_wroom,
        Pb.dfMk (g := "price_to_bring") (x := "price_to_bring") (st := Pb.top 65) (ps := ["work", "way", "value"]) KX G ?a_toBring ?l_toBring ?c_toBring ?k_toBring Pb.bd_toBring,
        Pb.dfMk (g := "bring_least") (x := "bring") (st := Pb.top 66) (ps := ["work", "way", "value", "kept"]) KX G ?a_bringL ?l_bringL ?c_bringL ?k_bringL Pb.bd_bringL,
        Pb.dfMk (g := "bring_all") (x := "bring_all") (st := Pb.top 68) (ps := ["work", "ways", "value", "kept"]) KX G ?a_bringAll ?l_bringAll ?c_bringAll ?k_bringAll Pb.bd_bringAll,
        Pb.dfMk (g := "do_step") (x := "do_step") (st := Pb.top 69) (ps := ["work", "way", "at"]) KX G ?a_doStep ?l_doStep ?c_doStep ?k_doStep Pb.bd_doStep,
        Pb.dfMk (g := "do_step_all") (x := "do_step_all") (st := Pb.top 70) (ps := ["work", "ways", "at"]) KX G ?a_stepAll ?l_stepAll ?c_stepAll ?k_stepAll Pb.bd_stepAll,
        Pb.dfMk (g := "least_price") (x := "least_price") (st := Pb.top 71) (ps := ["work"]) KX G ?a_least ?l_least ?c_least ?k_least Pb.bd_least,
        Pb.dfMk (g := "begin") (x := "begin") (st := Pb.top 89) (ps := ["work", "registers", "prices"]) KX G ?a_begin ?l_begin ?c_begin ?k_begin Pb.bd_begin,
        Pb.dfMk (g := "put_behind") (x := "put_behind") (st := Pb.top 90) (ps := ["work", "step"]) KX G ?a_behind ?l_behind ?c_behind ?k_behind Pb.bd_behind,
        Pb.dfMk (g := "num") (x := "num") (st := Pb.top 91) (ps := ["work", "word"]) KX G ?a_num ?l_num ?c_num ?k_num Pb.bd_num,
        Pb.dfMk (g := "two") (x := "two") (st := Pb.top 92) (ps := ["work", "operation", "first", "second"]) KX G ?a_two ?l_two ?c_two ?k_two Pb.bd_two,
        Pb.dfMk (g := "say") (x := "say") (st := Pb.top 93) (ps := ["work", "value"]) KX G ?a_say ?l_say ?c_say ?k_say Pb.bd_say,
        Pb.dfMk (g := "shows") (x := "shows") (st := Pb.top 94) (ps := ["work"]) KX G ?a_shows ?l_shows ?c_shows ?k_shows Pb.bd_shows,
        Pb.dfMk (g := "says") (x := "says") (st := Pb.top 95) (ps := ["work"]) KX G ?a_says ?l_says ?c_says ?k_says Pb.bd_says,
        Pb.dfMk (g := "answer") (x := "answer") (st := Pb.top 96) (ps := ["work", "call", "numbers"]) KX G ?a_answer ?l_answer ?c_answer ?k_answer Pb.bd_answer,
        Pb.dfMk (g := "end_of_call") (x := "end_of_call") (st := Pb.top 97) (ps := ["calls", "at"]) KX G ?a_endc ?l_endc ?c_endc ?k_endc Pb.bd_endc⟩
      (Pb.msMk ?iW ?lW ?cW ?kW ?mkW ?fW ?kcW ?iC ?lC ?cC ?kC ?mkC ?fC ?kcC Pb.bd_WI Pb.bd_CI)
      ⟨⟨?w_pg, ?w_hd, ?w_po, ?w_sa⟩, ?n_nR, ?n_nP, ?n_nG, ?n_nA, ?n_nS, PySem.W.mg_of (n := "Work") KX G ?aC, ⟨?y_pg, ?y_hd, ?y_po, ?y_sa⟩, ?n_cW, ?n_cD, ?n_cH, ?n_cA, ?n_cP, PySem.W.mg_of (n := "Course") KX G ?aCC, PySem.W.mg_none_of (n := "len") KX G ?t_len, PySem.W.mg_none_of (n := "max") KX G ?t_mx, PySem.W.mg_none_of (n := "min") KX G ?t_mn, PySem.W.mg_none_of (n := "range") KX G ?t_rng, PySem.W.mg_none_of (n := "enumerate") KX G ?t_enu, PySem.W.mg_none_of (n := "tuple") KX G ?t_tpl, PySem.W.mg_none_of (n := "sorted") KX G ?t_srt, PySem.W.mg_none_of (n := "all") KX G ?t_all, Pb.gi_of (n := "NUMBER") KX G ?t_gNU, Pb.gi_of (n := "TWO") KX G ?t_gTW, Pb.gi_of (n := "SAY") KX G ?t_gSA, Pb.gi_of (n := "WORDS") KX G ?t_gWO, Pb.gi_of (n := "BITS") KX G ?t_gBI, Pb.gi_of (n := "SUM") KX G ?t_o0, Pb.gi_of (n := "DIFFERENCE") KX G ?t_o1, Pb.gi_of (n := "PRODUCT") KX G ?t_o2, Pb.gi_of (n := "AND") KX G ?t_o3, Pb.gi_of (n := "OR") KX G ?t_o4, Pb.gi_of (n := "EXCLUSIVE_OR") KX G ?t_o5, Pb.gi_of (n := "TIMES_POWER") KX G ?t_o6, Pb.gi_of (n := "DIVIDED_BY_POWER") KX G ?t_o7, Pb.gi_of (n := "IS_LESS") KX G ?t_o8, Pb.gi_of (n := "PUT") KX G ?t_a0, Pb.gi_of (n := "GET") KX G ?t_a1, Pb.gi_of (n := "DROP") KX G ?t_a2, Pb.gi_of (n := "AGAIN") KX G ?t_a3, Pb.gi_of (n := "NEXT") KX G ?t_a4, Pb.gi_of (n := "IN_PLACE") KX G ?t_a5, Pb.gi_of (n := "MOST_NUMBERS") KX G ?t_gMN, Pb.gi_of (n := "FEWEST_REGISTERS") KX G ?t_gFR, Pb.gi_of (n := "MOST_REGISTERS") KX G ?t_gMR, Pb.gi_of (n := "HIGHEST_PRICE") KX G ?t_gHP, Pb.gi_of (n := "MOST_STEPS") KX G ?t_gMS, Pb.gi_of (n := "OPERATIONS") KX G ?t_gOP, Pb.gi_of (n := "CALL_WORK") KX G ?t_k0, Pb.gi_of (n := "CALL_NUM") KX G ?t_k1, Pb.gi_of (n := "CALL_TWO") KX G ?t_k2, Pb.gi_of (n := "CALL_SAY") KX G ?t_k3, Pb.gi_of (n := "CALL_SHOWS") KX G ?t_k4, Pb.gi_of (n := "CALL_SAYS") KX G ?t_k5, Pb.gi_of (n := "CALL_MOST") KX G ?t_k6, Pb.gi_of (n := "CALL_LEAST") KX G ?t_k7, Pb.gi_of (n := "CALL_FAR") KX G ?t_k8, Pb.gi_of (n := "CALL_JUDGE") KX G ?t_k9⟩ (Pb.ln_of KX G ?aL ?lL) ?hco (Pb.tabIn_of ?a_last ?l_last ?hc2 ?lcode ?hv) ?nT
    (case aA => k_is)
    (case lA => k_is)
    (case cA => k_is)
    (case kA => k_is)
    (case aC => k_is)
    (case aCC => k_is)
    (case a_used => k_is)
    (case l_used => k_is)
    (case c_used => k_is)
    (case k_used => k_is)
    (case a_gives => k_is)
    (case l_gives => k_is)
    (case c_gives => k_is)
    (case k_gives => k_is)
    (case a_vals => k_is)
    (case l_vals => k_is)
    (case c_vals => k_is)
    (case k_vals => k_is)
    (case a_nums => k_is)
    (case l_nums => k_is)
    (case c_nums => k_is)
    (case k_nums => k_is)
    (case a_first => k_is)
    (case l_first => k_is)
    (case c_first => k_is)
    (case k_first => k_is)
    (case a_wantd => k_is)
    (case l_wantd => k_is)
    (case c_wantd => k_is)
    (case k_wantd => k_is)
    (case a_there => k_is)
    (case l_there => k_is)
    (case c_there => k_is)
    (case k_there => k_is)
    (case a_most => k_is)
    (case l_most => k_is)
    (case c_most => k_is)
    (case k_most => k_is)
    (case a_made => k_is)
    (case l_made => k_is)
    (case c_made => k_is)
    (case k_made => k_is)
    (case a_said => k_is)
    (case l_said => k_is)
    (case c_said => k_is)
    (case k_said => k_is)
    (case a_room => k_is)
    (case l_room => k_is)
    (case c_room => k_is)
    (case k_room => k_is)
    (case a_put => k_is)
    (case l_put => k_is)
    (case c_put => k_is)
    (case k_put => k_is)
    (case a_bringP => k_is)
    (case l_bringP => k_is)
    (case c_bringP => k_is)
    (case k_bringP => k_is)
    (case a_fetch => k_is)
    (case l_fetch => k_is)
    (case c_fetch => k_is)
    (case k_fetch => k_is)
    (case a_drop => k_is)
    (case l_drop => k_is)
    (case c_drop => k_is)
    (case k_drop => k_is)
    (case a_again => k_is)
    (case l_again => k_is)
    (case c_again => k_is)
    (case k_again => k_is)
    (case a_ready => k_is)
    (case l_ready => k_is)
    (case c_ready => k_is)
    (case k_ready => k_is)
    (case a_finish => k_is)
    (case l_finish => k_is)
    (case c_finish => k_is)
    (case k_finish => k_is)
    (case a_next => k_is)
    (case l_next => k_is)
    (case c_next => k_is)
    (case k_next => k_is)
    (case a_place => k_is)
    (case l_place => k_is)
    (case c_place => k_is)
    (case k_place => k_is)
    (case a_act => k_is)
    (case l_act => k_is)
    (case c_act => k_is)
    (case k_act => k_is)
    (case a_acts => k_is)
    (case l_acts => k_is)
    (case c_acts => k_is)
    (case k_acts => k_is)
    (case a_judge => k_is)
    (case l_judge => k_is)
    (case c_judge => k_is)
    (case k_judge => k_is)
    (case a_addAct => k_is)
    (case l_addAct => k_is)
    (case c_addAct => k_is)
    (case k_addAct => k_is)
    (case a_last => k_is)
    (case l_last => k_is)
    (case c_last => k_is)
    (case k_last => k_is)
    (case a_letGo => k_is)
    (case l_letGo => k_is)
    (case c_letGo => k_is)
    (case k_letGo => k_is)
    (case a_getUsed => k_is)
    (case l_getUsed => k_is)
    (case c_getUsed => k_is)
    (case k_getUsed => k_is)
    (case a_addStep => k_is)
    (case l_addStep => k_is)
    (case c_addStep => k_is)
    (case k_addStep => k_is)
    (case a_far => k_is)
    (case l_far => k_is)
    (case c_far => k_is)
    (case k_far => k_is)
    (case a_cheap => k_is)
    (case l_cheap => k_is)
    (case c_cheap => k_is)
    (case k_cheap => k_is)
    (case a_withHeld => k_is)
    (case l_withHeld => k_is)
    (case c_withHeld => k_is)
    (case k_withHeld => k_is)
    (case a_noHeld => k_is)
    (case l_noHeld => k_is)
    (case c_noHeld => k_is)
    (case k_noHeld => k_is)
    (case a_withAway => k_is)
    (case l_withAway => k_is)
    (case c_withAway => k_is)
    (case k_withAway => k_is)
    (case a_still => k_is)
    (case l_still => k_is)
    (case c_still => k_is)
    (case k_still => k_is)
    (case a_toLet => k_is)
    (case l_toLet => k_is)
    (case c_toLet => k_is)
    (case k_toLet => k_is)
    (case a_wroom => k_is)
    (case l_wroom => k_is)
    (case c_wroom => k_is)
    (case k_wroom => k_is)
    (case a_toBring => k_is)
    (case l_toBring => k_is)
    (case c_toBring => k_is)
    (case k_toBring => k_is)
    (case a_bringL => k_is)
    (case l_bringL => k_is)
    (case c_bringL => k_is)
    (case k_bringL => k_is)
    (case a_bringAll => k_is)
    (case l_bringAll => k_is)
    (case c_bringAll => k_is)
    (case k_bringAll => k_is)
    (case a_doStep => k_is)
    (case l_doStep => k_is)
    (case c_doStep => k_is)
    (case k_doStep => k_is)
    (case a_stepAll => k_is)
    (case l_stepAll => k_is)
    (case c_stepAll => k_is)
    (case k_stepAll => k_is)
    (case a_least => k_is)
    (case l_least => k_is)
    (case c_least => k_is)
    (case k_least => k_is)
    (case a_begin => k_is)
    (case l_begin => k_is)
    (case c_begin => k_is)
    (case k_begin => k_is)
    (case a_behind => k_is)
    (case l_behind => k_is)
    (case c_behind => k_is)
    (case k_behind => k_is)
    (case a_num => k_is)
    (case l_num => k_is)
    (case c_num => k_is)
    (case k_num => k_is)
    (case a_two => k_is)
    (case l_two => k_is)
    (case c_two => k_is)
    (case k_two => k_is)
    (case a_say => k_is)
    (case l_say => k_is)
    (case c_say => k_is)
    (case k_say => k_is)
    (case a_shows => k_is)
    (case l_shows => k_is)
    (case c_shows => k_is)
    (case k_shows => k_is)
    (case a_says => k_is)
    (case l_says => k_is)
    (case c_says => k_is)
    (case k_says => k_is)
    (case a_answer => k_is)
    (case l_answer => k_is)
    (case c_answer => k_is)
    (case k_answer => k_is)
    (case a_endc => k_is)
    (case l_endc => k_is)
    (case c_endc => k_is)
    (case k_endc => k_is)
    (case iW => k_is)
    (case lW => k_is)
    (case cW => k_is)
    (case kW => k_is)
    (case mkW => k_is)
    (case fW => k_is)
    (case kcW => k_is)
    (case iC => k_is)
    (case lC => k_is)
    (case cC => k_is)
    (case kC => k_is)
    (case mkC => k_is)
    (case fC => k_is)
    (case kcC => k_is)
    (case w_pg => k_is)
    (case w_hd => k_is)
    (case w_po => k_is)
    (case w_sa => k_is)
    (case y_pg => k_is)
    (case y_hd => k_is)
    (case y_po => k_is)
    (case y_sa => k_is)
    (case n_nR => show PySem.W.findIn _ (.ref _) _ = some none; k_is)
    (case n_nP => show PySem.W.findIn _ (.ref _) _ = some none; k_is)
    (case n_nG => show PySem.W.findIn _ (.ref _) _ = some none; k_is)
    (case n_nA => show PySem.W.findIn _ (.ref _) _ = some none; k_is)
    (case n_nS => show PySem.W.findIn _ (.ref _) _ = some none; k_is)
    (case n_cW => show PySem.W.findIn _ (.ref _) _ = some none; k_is)
    (case n_cD => show PySem.W.findIn _ (.ref _) _ = some none; k_is)
    (case n_cH => show PySem.W.findIn _ (.ref _) _ = some none; k_is)
    (case n_cA => show PySem.W.findIn _ (.ref _) _ = some none; k_is)
    (case n_cP => show PySem.W.findIn _ (.ref _) _ = some none; k_is)
    (case t_len => k_is)
    (case t_mx => k_is)
    (case t_mn => k_is)
    (case t_rng => k_is)
    (case t_enu => k_is)
    (case t_tpl => k_is)
    (case t_srt => k_is)
    (case t_all => k_is)
    (case t_gNU => k_is)
    (case t_gTW => k_is)
    (case t_gSA => k_is)
    (case t_gWO => k_is)
    (case t_gBI => k_is)
    (case t_o0 => k_is)
    (case t_o1 => k_is)
    (case t_o2 => k_is)
    (case t_o3 => k_is)
    (case t_o4 => k_is)
    (case t_o5 => k_is)
    (case t_o6 => k_is)
    (case t_o7 => k_is)
    (case t_o8 => k_is)
    (case t_a0 => k_is)
    (case t_a1 => k_is)
    (case t_a2 => k_is)
    (case t_a3 => k_is)
    (case t_a4 => k_is)
    (case t_a5 => k_is)
    (case t_gMN => k_is)
    (case t_gFR => k_is)
    (case t_gMR => k_is)
    (case t_gHP => k_is)
    (case t_gMS => k_is)
    (case t_gOP => k_is)
    (case t_k0 => k_is)
    (case t_k1 => k_is)
    (case t_k2 => k_is)
    (case t_k3 => k_is)
    (case t_k4 => k_is)
    (case t_k5 => k_is)
    (case t_k6 => k_is)
    (case t_k7 => k_is)
    (case t_k8 => k_is)
    (case t_k9 => k_is)
    (case aL => k_is)
    (case lL => k_is)
    (case hco => rfl)
    (case hc2 => rfl)
    (case lcode => k_is)
    (case hv => rfl)
    (case nT => kernel_rfl)
  case S =>
    intro K Pt H0 H xs a hO hsm hP hwi hask hx
    cases hx with
    | cons h1 h2 =>
      cases h2
      cases h1 with
      | lst hs ha =>
        have e := L2.ints_dw a.1 _ ha
        subst e
        have q : ((Codec.inLen 0 9700 a.1 && a.1.all (Codec.inInt 0 4294967295)) && true) = true := hwi
        rw [Bool.and_eq_true, Bool.and_eq_true] at q
        have hb : ∀ x ∈ a.1, 0 ≤ x ∧ x ≤ 4294967295 := fun x hx => Codec.inInt_iff.mp (List.all_eq_true.mp q.1.2 x hx)
        obtain ⟨cs, hl, ht, _, hlen⟩ := PaFlat.asked_left hb hask
        refine ⟨_, a.1, cs, rfl, fun H' fz => ?_, hl, hlen, fun p hp => ?_, fun H' p hp => ?_⟩
        · rcases hs with (h | ⟨o, h⟩) | h
          · rcases hO _ with z | ⟨o, u, z⟩
            · rw [z] at h
              cases h
            · rw [z] at h
              cases h
          · exact .inl (.inr ⟨o, fz _ _ _ (hsm _ _ h)⟩)
          · exact .inr h
        · rw [List.mem_singleton.mp hp]
          exact LamX.TabS.nil hP
        · show L2.Dw K H' (.ref p) (.list ((PyCm07.answers a.1).map WData.int))
          rw [ht]
          exact .lst (L2.SqL.of hp) (L2.dw_ints _)

import PyProof.Rows.All
import Wide.All
import OpenK.AllK
import Wide.FinOn
import Open.SpecLaws
import KE.OsGo
import HandS.ForSpec
import HandS.ForMost
import HandS.WideBits
import HandS.Walk
import PySem.Challenge.RW_setfunctions_s01_answers
set_option Elab.async false
namespace Sf
open Dr01
/-! ### The mathematics: what the specification says, as the program's loops go through it -/
structure Good (f : Fun) : Prop where
  lo : 1 ≤ f.many
  hi : f.many ≤ 5
  len : f.vals.length = 2 ^ f.many
structure GoodD (d : Desk) : Prop where
  one : Good d.one
  two : Good d.two
  eq : d.two.many = d.one.many
theorem n_cases {n : Nat} (h1 : 1 ≤ n) (h2 : n ≤ 5) : n = 1 ∨ n = 2 ∨ n = 3 ∨ n = 4 ∨ n = 5 := by omega
theorem pow_le {n : Nat} (h2 : n ≤ 5) : 2 ^ n ≤ 32 := by
  have : n = 0 ∨ n = 1 ∨ n = 2 ∨ n = 3 ∨ n = 4 ∨ n = 5 := by omega
  rcases this with rfl | rfl | rfl | rfl | rfl | rfl <;> decide
theorem with_or : ∀ s, s < 32 → ∀ i, i < 5 → with_ s (i + 1) = s ||| 2 ^ i := by decide
theorem with_or' {s i : Nat} (hs : s < 32) (h1 : 1 ≤ i) (h2 : i ≤ 5) : with_ s i = s ||| 2 ^ (i - 1) := by
  obtain ⟨j, rfl⟩ : ∃ j, i = j + 1 := ⟨i - 1, by omega⟩
  exact with_or s hs j (by omega)
theorem with_lt0 : ∀ n, n < 6 → ∀ s, s < 2 ^ n → ∀ i, i < n → with_ s (i + 1) < 2 ^ n := by decide
theorem with_lt {n s i : Nat} (hn : n ≤ 5) (hs : s < 2 ^ n) (h1 : 1 ≤ i) (h2 : i ≤ n) : with_ s i < 2 ^ n := by
  obtain ⟨j, rfl⟩ : ∃ j, i = j + 1 := ⟨i - 1, by omega⟩
  exact with_lt0 n (by omega) s hs j (by omega)
theorem with_ne {s i : Nat} : with_ s i ≠ s ↔ has s i = false := by
  unfold with_
  have p : 0 < 2 ^ (i - 1) := Nat.pow_pos (by decide)
  cases e : has s i with
  | true => simp
  | false =>
    rw [if_neg (by decide)]
    constructor
    · intro _; rfl
    · intro _ h
      have h' : (s + 2 ^ (i - 1) : Nat) = s := h
      omega
/-- the things that a set has not -/
def outside (n s : Nat) : List Nat := ((List.range n).map fun i => i + 1).filter fun i => !has s i
theorem outside_mem {n s i : Nat} (h : i ∈ outside n s) : 1 ≤ i ∧ i ≤ n ∧ has s i = false := by
  unfold outside at h
  rw [List.mem_filter, List.mem_map] at h
  obtain ⟨⟨j, hj, rfl⟩, e⟩ := h
  rw [List.mem_range] at hj
  refine ⟨by omega, by omega, ?_⟩
  simpa using e
theorem outside_len (n s : Nat) : (outside n s).length ≤ n := by
  unfold outside
  refine Nat.le_trans (List.length_filter_le _ _) ?_
  rw [List.length_map, List.length_range]
  exact Nat.le_refl _
/-- one turn of the walk over a range -/
theorem range_take_filter {n : Nat} {p : Nat → Bool} {i : Nat} (h : i < n) :
    ((((List.range n).map fun i => i + 1).take (i + 1)).filter p) = ((((List.range n).map fun i => i + 1).take i).filter p) ++ (if p (i + 1) = true then [i + 1] else []) := by
  have e : ((List.range n).map fun i => i + 1)[i]? = some (i + 1) := by simp [h]
  rw [List.take_add_one, e, List.filter_append]
  congr 1
  simp only [Option.toList, List.filter_cons, List.filter_nil]
theorem take_more {α : Type} {l : List α} {i : Nat} {x : α} (h : l[i]? = some x) : l.take (i + 1) = l.take i ++ [x] := by
  rw [List.take_add_one, h]
  rfl
/-! #### values -/
theorem val_at {f : Fun} (g : Good f) {s : Nat} (h : s < 2 ^ f.many) : f.vals[s]? = some (val f s) := by
  have h' : s < f.vals.length := by rw [g.len]; exact h
  unfold val
  rw [List.getD_eq_getElem?_getD, List.getElem?_eq_getElem h']
  rfl
theorem good_mapped {f : Fun} (g : Good f) (q : Set_ → Int) : Good (mapped f q) := ⟨g.lo, g.hi, by
  show ((sets f).map q).length = 2 ^ f.many
  rw [List.length_map]
  exact List.length_range⟩
theorem good_zero {n : Nat} (h1 : 1 ≤ n) (h2 : n ≤ 5) : Good (zero n) := ⟨h1, h2, by
  show (List.replicate (2 ^ n) (0 : Int)).length = 2 ^ n
  rw [List.length_replicate]⟩
theorem good_init : GoodD init := ⟨good_zero (by decide) (by decide), good_zero (by decide) (by decide), rfl⟩
/-! #### whole -/
theorem whole_even {z : Nat} (h : z % 2 = 0) : whole z = ((z : Int) / 2) := by
  unfold whole
  rw [if_pos h]
  omega
theorem whole_odd {z : Nat} (h : ¬ z % 2 = 0) : whole z = -(((z : Int) + 1) / 2) := by
  unfold whole
  rw [if_neg h]
  omega
/-! #### tell -/
def thingsOf (m : Nat) : Nat := if m = 2 then 1 else if m = 4 then 2 else if m = 8 then 3 else if m = 16 then 4 else if m = 32 then 5 else 0
theorem log2_things (m : Nat) : log2 m = if thingsOf m = 0 then (if m = 1 then some 0 else none) else some (thingsOf m) := by
  unfold log2 thingsOf
  by_cases h1 : m = 1
  · subst h1; decide
  by_cases h2 : m = 2
  · subst h2; decide
  by_cases h4 : m = 4
  · subst h4; decide
  by_cases h8 : m = 8
  · subst h8; decide
  by_cases h16 : m = 16
  · subst h16; decide
  by_cases h32 : m = 32
  · subst h32; decide
  rw [if_neg h2, if_neg h4, if_neg h8, if_neg h16, if_neg h32, if_pos rfl, if_neg h1]
  rw [List.find?_eq_none]
  intro x hx
  rw [List.mem_range] at hx
  have : x = 0 ∨ x = 1 ∨ x = 2 ∨ x = 3 ∨ x = 4 ∨ x = 5 := by omega
  rcases this with rfl | rfl | rfl | rfl | rfl | rfl <;> simp <;> omega
theorem things_pow {m : Nat} (h : thingsOf m ≠ 0) : 1 ≤ thingsOf m ∧ thingsOf m ≤ 5 ∧ m = 2 ^ thingsOf m := by
  unfold thingsOf at h ⊢
  by_cases h2 : m = 2
  · subst h2; decide
  by_cases h4 : m = 4
  · subst h4; decide
  by_cases h8 : m = 8
  · subst h8; decide
  by_cases h16 : m = 16
  · subst h16; decide
  by_cases h32 : m = 32
  · subst h32; decide
  rw [if_neg h2, if_neg h4, if_neg h8, if_neg h16, if_neg h32] at h
  exact absurd rfl h
/-- the second function when the first becomes one of n things -/
def second (d : Desk) (n : Nat) : Fun := if d.two.many = n then d.two else zero n
theorem good_second {d : Desk} (g : GoodD d) {n : Nat} (h1 : 1 ≤ n) (h2 : n ≤ 5) : Good (second d n) := by
  unfold second
  by_cases e : d.two.many = n
  · rw [if_pos e]; exact g.two
  · rw [if_neg e]; exact good_zero h1 h2
theorem second_many (d : Desk) (n : Nat) : (second d n).many = n := by
  unfold second
  by_cases e : d.two.many = n
  · rw [if_pos e]; exact e
  · rw [if_neg e]; rfl
theorem step_tell_no {d : Desk} {l : List Nat} (h : thingsOf l.length = 0 ∨ ∃ z ∈ l, 20000 < z) : Dr01.step d (.tell l) = (d, [-1]) := by
  show (match log2 l.length with
    | none => (d, [-1])
    | some n => if n = 0 ∨ l.all (fun z => decide (z ≤ 20000)) = false then (d, [-1]) else (⟨⟨n, l.map whole⟩, if d.two.many = n then d.two else zero n⟩, Dr01.ints [n])) = (d, [-1])
  rw [log2_things]
  by_cases e : thingsOf l.length = 0
  · rw [if_pos e]
    by_cases e1 : l.length = 1
    · rw [if_pos e1]
      show (if 0 = 0 ∨ l.all (fun z => decide (z ≤ 20000)) = false then (d, [-1]) else _) = (d, [-1])
      rw [if_pos (Or.inl rfl)]
    · rw [if_neg e1]
  · rw [if_neg e]
    show (if thingsOf l.length = 0 ∨ l.all (fun z => decide (z ≤ 20000)) = false then (d, [-1]) else _) = (d, [-1])
    rw [if_pos]
    right
    rcases h with h | ⟨z, hz, hb⟩
    · exact absurd h e
    · rw [List.all_eq_false]
      exact ⟨z, hz, by simp; omega⟩
theorem step_tell {d : Desk} {l : List Nat} (e : thingsOf l.length ≠ 0) (h : ∀ z ∈ l, z ≤ 20000) :
    Dr01.step d (.tell l) = (⟨⟨thingsOf l.length, l.map whole⟩, second d (thingsOf l.length)⟩, [(thingsOf l.length : Int)]) := by
  show (match log2 l.length with
    | none => (d, [-1])
    | some n => if n = 0 ∨ l.all (fun z => decide (z ≤ 20000)) = false then (d, [-1]) else (⟨⟨n, l.map whole⟩, if d.two.many = n then d.two else zero n⟩, Dr01.ints [n])) = _
  rw [log2_things, if_neg e]
  show (if thingsOf l.length = 0 ∨ l.all (fun z => decide (z ≤ 20000)) = false then (d, [-1]) else _) = _
  rw [if_neg]
  · rfl
  · intro q
    rcases q with q | q
    · exact e q
    · rw [List.all_eq_false] at q
      obtain ⟨z, hz, hb⟩ := q
      exact hb (by simp; exact h z hz)
/-! #### cover -/
def pairsOf : List Nat → List (Nat × Nat)
  | w :: t :: l => (w, t) :: pairsOf l
  | _ => []
theorem pairs_len : ∀ l : List Nat, (pairsOf l).length = l.length / 2
  | [] => rfl
  | [_] => by
    show 0 = 1 / 2
    decide
  | w :: t :: l => by
    show (pairsOf l).length + 1 = (l.length + 1 + 1) / 2
    rw [pairs_len l]
    omega
theorem pairs_at : ∀ (l : List Nat) (i : Nat) (w t : Nat), l[2 * i]? = some w → l[2 * i + 1]? = some t → (pairsOf l)[i]? = some (w, t)
  | [], i, w, t, h, _ => by simp at h
  | [_], i, w, t, _, h => by simp at h
  | a :: b :: l, 0, w, t, h1, h2 => by
    have e1 : a = w := Option.some.inj h1
    have e2 : b = t := Option.some.inj h2
    subst e1 e2
    rfl
  | a :: b :: l, i + 1, w, t, h1, h2 => pairs_at l i w t h1 h2
theorem covered_eq (n : Nat) : ∀ l : List Nat, covered n l = if l.length % 2 = 0 ∧ (∀ x ∈ pairsOf l, x.1 ≤ 1000 ∧ x.2 < 2 ^ n) then some (pairsOf l) else none
  | [] => by
    rw [if_pos ⟨rfl, fun x h => by cases h⟩]
    rfl
  | [a] => by
    rw [if_neg (fun q => by simp at q)]
    rfl
  | w :: t :: l => by
    show (if w ≤ 1000 ∧ t < 2 ^ n then (covered n l).map fun r => (w, t) :: r else none) = if (l.length + 1 + 1) % 2 = 0 ∧ (∀ x ∈ (w, t) :: pairsOf l, x.1 ≤ 1000 ∧ x.2 < 2 ^ n) then some ((w, t) :: pairsOf l) else none
    rw [covered_eq n l]
    by_cases h1 : w ≤ 1000 ∧ t < 2 ^ n
    · rw [if_pos h1]
      by_cases h2 : l.length % 2 = 0 ∧ (∀ x ∈ pairsOf l, x.1 ≤ 1000 ∧ x.2 < 2 ^ n)
      · rw [if_pos h2, if_pos]
        · rfl
        · refine ⟨by omega, fun x hx => ?_⟩
          rw [List.mem_cons] at hx
          rcases hx with rfl | hx
          · exact h1
          · exact h2.2 x hx
      · rw [if_neg h2, if_neg]
        · rfl
        · intro q
          exact h2 ⟨by omega, fun x hx => q.2 x (List.mem_cons_of_mem _ hx)⟩
    · rw [if_neg h1, if_neg]
      intro q
      exact h1 (q.2 (w, t) (List.mem_cons_self))
/-- what points_are_right finds -/
def ptsOk (n : Nat) (l : List Nat) : Prop := l.length % 2 = 0 ∧ l.length ≤ 40 ∧ ∀ x ∈ pairsOf l, x.1 ≤ 1000 ∧ x.2 < 2 ^ n
def weight (c : List (Nat × Nat)) (s : Nat) : Int := ((c.map fun x => if meet x.2 s = 0 then (0 : Int) else (x.1 : Int)).foldr (fun a b => a + b) 0)
theorem weight_nil (s : Nat) : weight [] s = 0 := rfl
theorem weight_more (c : List (Nat × Nat)) (x : Nat × Nat) (s : Nat) : weight (c ++ [x]) s = weight c s + if meet x.2 s = 0 then (0 : Int) else (x.1 : Int) := by
  unfold weight
  induction c with
  | nil =>
    show (if meet x.2 s = 0 then (0 : Int) else (x.1 : Int)) + 0 = 0 + _
    omega
  | cons y r ih =>
    simp only [List.cons_append, List.map_cons, List.foldr_cons]
    rw [ih]
    omega
theorem step_cover_no {d : Desk} {n : Nat} {l : List Nat} (h : n < 1 ∨ 5 < n ∨ ¬ ptsOk n l) : Dr01.step d (.cover n l) = (d, [-1]) := by
  show (if n = 0 ∨ 5 < n then (d, [-1]) else (match covered n l with
    | none => (d, [-1])
    | some c => if 20 < c.length then (d, [-1]) else (⟨ofCover n c, if d.two.many = n then d.two else zero n⟩, shown (ofCover n c)))) = (d, [-1])
  by_cases e : n = 0 ∨ 5 < n
  · rw [if_pos e]
  · rw [if_neg e, covered_eq]
    have h3 : ¬ ptsOk n l := by
      rcases h with h | h | h
      · exact absurd (Or.inl (by omega)) e
      · exact absurd (Or.inr h) e
      · exact h
    by_cases e2 : l.length % 2 = 0 ∧ (∀ x ∈ pairsOf l, x.1 ≤ 1000 ∧ x.2 < 2 ^ n)
    · rw [if_pos e2]
      show (if 20 < (pairsOf l).length then (d, [-1]) else _) = (d, [-1])
      rw [if_pos]
      rw [pairs_len]
      have : ¬ l.length ≤ 40 := fun q => h3 ⟨e2.1, q, e2.2⟩
      omega
    · rw [if_neg e2]
theorem step_cover {d : Desk} {n : Nat} {l : List Nat} (h1 : 1 ≤ n) (h2 : n ≤ 5) (h3 : ptsOk n l) :
    Dr01.step d (.cover n l) = (⟨⟨n, (List.range (2 ^ n)).map (weight (pairsOf l))⟩, second d n⟩, (n : Int) :: (List.range (2 ^ n)).map (weight (pairsOf l))) := by
  show (if n = 0 ∨ 5 < n then (d, [-1]) else (match covered n l with
    | none => (d, [-1])
    | some c => if 20 < c.length then (d, [-1]) else (⟨ofCover n c, if d.two.many = n then d.two else zero n⟩, shown (ofCover n c)))) = _
  rw [if_neg (by omega), covered_eq, if_pos ⟨h3.1, h3.2.2⟩]
  show (if 20 < (pairsOf l).length then (d, [-1]) else _) = _
  rw [if_neg]
  · rfl
  · rw [pairs_len]
    have := h3.2.1
    omega
/-! #### set -/
theorem step_set_no {d : Desk} {s v : Nat} (h : 2 ^ d.one.many ≤ s ∨ 20000 < v) : Dr01.step d (.set s v) = (d, [-1]) := if_pos h
theorem step_set {d : Desk} {s v : Nat} (h : ¬ (2 ^ d.one.many ≤ s ∨ 20000 < v)) : Dr01.step d (.set s v) = ({ d with one := { d.one with vals := d.one.vals.set s (whole v) } }, [0]) := if_neg h
/-! #### kind -/
/-- the first fault with this set -/
def faultAt (f : Fun) (k s : Nat) : Option (Nat × Nat × Nat) := ((things f).flatMap fun i => ((things f).filter fun j => decide (i < j) && (!has s i && !has s j)).map fun j => (s, i, j)).find? (breaks f k)
theorem first_eq (f : Fun) (k : Nat) : first f k = (sets f).findSome? (faultAt f k) := by
  unfold first faults faultAt
  rw [List.find?_flatMap]
/-- of a first thing: the second, if it is a fault -/
def faultIn (f : Fun) (k s i : Nat) : Option (Nat × Nat × Nat) := (outside f.many s).findSome? fun j => if i < j ∧ breaks f k (s, i, j) = true then some (s, i, j) else none
theorem find_map {α β : Type} (q : β → Bool) (g : α → β) : ∀ l : List α, (l.map g).find? q = l.findSome? fun x => if q (g x) = true then some (g x) else none
  | [] => rfl
  | a :: r => by
    rw [List.map_cons, List.find?_cons, List.findSome?_cons, find_map q g r]
    cases e : q (g a) with
    | true => rw [if_pos rfl]
    | false => rw [if_neg (by decide)]
theorem findSome_filter {α β : Type} (p : α → Bool) (g : α → Option β) : ∀ l : List α, (l.filter p).findSome? g = l.findSome? fun x => if p x = true then g x else none
  | [] => rfl
  | a :: r => by
    rw [List.filter_cons, List.findSome?_cons]
    cases e : p a with
    | true =>
      rw [if_pos rfl, List.findSome?_cons, findSome_filter p g r]
      rfl
    | false =>
      rw [if_neg (by decide), findSome_filter p g r]
      rfl
theorem findSome_congr {α β : Type} {g h : α → Option β} : ∀ {l : List α}, (∀ x ∈ l, g x = h x) → l.findSome? g = l.findSome? h
  | [], _ => rfl
  | a :: r, q => by
    rw [List.findSome?_cons, List.findSome?_cons, q a List.mem_cons_self, findSome_congr (fun x hx => q x (List.mem_cons_of_mem _ hx))]
theorem findSome_none {α β : Type} {g : α → Option β} : ∀ {l : List α}, (∀ x ∈ l, g x = none) → l.findSome? g = none
  | [], _ => rfl
  | a :: r, q => by
    rw [List.findSome?_cons, q a List.mem_cons_self]
    exact findSome_none (fun x hx => q x (List.mem_cons_of_mem _ hx))
theorem faultAt_eq (f : Fun) (k s : Nat) : faultAt f k s = (outside f.many s).findSome? (faultIn f k s) := by
  unfold faultAt
  rw [List.find?_flatMap]
  show (things f).findSome? _ = (((List.range f.many).map fun i => i + 1).filter fun i => !has s i).findSome? _
  rw [findSome_filter]
  refine findSome_congr fun i _ => ?_
  rw [find_map]
  unfold faultIn outside
  rw [findSome_filter, findSome_filter]
  by_cases hi : has s i = true
  · rw [if_neg (by rw [hi]; decide)]
    refine findSome_none fun j _ => ?_
    rw [hi]
    simp
  · have hi' : has s i = false := by simpa using hi
    rw [if_pos (by rw [hi']; decide)]
    refine findSome_congr fun j _ => ?_
    rw [hi']
    by_cases hj : has s j = true
    · rw [hj]; simp
    · have hj' : has s j = false := by simpa using hj
      rw [hj']
      by_cases hl : i < j
      · simp [hl]
      · simp [hl]
/-- one more in a search that has found nothing -/
theorem findSome_more {α β : Type} {g : α → Option β} {l : List α} {i : Nat} {x : α} (h : l[i]? = some x) (q : (l.take i).findSome? g = none) (e : g x = none) : (l.take (i + 1)).findSome? g = none := by
  rw [take_more h, List.findSome?_append, q]
  simp [e]
theorem findSome_found {α β : Type} {g : α → Option β} {l : List α} {i : Nat} {x : α} {y : β} (h : l[i]? = some x) (q : (l.take i).findSome? g = none) (e : g x = some y) : l.findSome? g = some y := by
  have z : l = l.take (i + 1) ++ l.drop (i + 1) := (List.take_append_drop _ _).symm
  rw [z, List.findSome?_append, take_more h, List.findSome?_append, q]
  simp [e]
theorem step_kind_no {d : Desk} {k : Nat} (h : 2 < k) : Dr01.step d (.kind k) = (d, [-1]) := by
  show (d, if 2 < k then [-1] else _) = _
  rw [if_pos h]
def told3 : Option (Nat × Nat × Nat) → List Int
  | none => [1]
  | some x => [0, (x.1 : Int), (x.2.1 : Int), (x.2.2 : Int)]
theorem step_kind {d : Desk} {k : Nat} (h : ¬ 2 < k) : Dr01.step d (.kind k) = (d, told3 ((sets d.one).findSome? (faultAt d.one k))) := by
  show (d, if 2 < k then [-1] else match first d.one k with
    | none => [1]
    | some x => Dr01.ints [0, x.1, x.2.1, x.2.2]) = _
  rw [if_neg h, first_eq]
  cases (sets d.one).findSome? (faultAt d.one k) <;> rfl
/-! #### falls -/
def fallAt (f : Fun) (s : Nat) : Option (Nat × Nat) := (outside f.many s).findSome? fun i => if brings f s i < 0 then some (s, i) else none
theorem falls_eq (f : Fun) : Dr01.falls f = (sets f).findSome? (fallAt f) := by
  unfold Dr01.falls
  rw [List.find?_flatMap]
  refine findSome_congr fun s _ => ?_
  rw [find_map]
  unfold fallAt outside
  show (((things f).filter _)).findSome? _ = (((List.range f.many).map fun i => i + 1).filter fun i => !has s i).findSome? _
  refine findSome_congr fun i _ => ?_
  simp
def told2 : Option (Nat × Nat) → List Int
  | none => [1]
  | some x => [0, (x.1 : Int), (x.2 : Int)]
theorem step_falls (d : Desk) : Dr01.step d .falls = (d, told2 ((sets d.one).findSome? (fallAt d.one))) := by
  show (d, match Dr01.falls d.one with
    | none => [1]
    | some x => Dr01.ints [0, x.1, x.2]) = _
  rw [falls_eq]
  cases (sets d.one).findSome? (fallAt d.one) <;> rfl
end Sf
namespace Sf
open Dr01
/-! ### The list of calls, read call by call -/
def wN : List Nat := [0, 1, 2, 0, 1, 0, 0, 0, 1, 1, 0, 0, 0, 0]
def hR : List Bool := [true, true, false, false, false, false, false, true, false, false, false, false, false, false]
theorem ints_app (a b : List Nat) : Dr01.ints (a ++ b) = Dr01.ints a ++ Dr01.ints b := List.map_append
theorem ints_cons (a : Nat) (b : List Nat) : Dr01.ints (a :: b) = (a : Int) :: Dr01.ints b := rfl
theorem ints_len (a : List Nat) : (Dr01.ints a).length = a.length := List.length_map _
theorem ints_take (a : List Nat) (n : Nat) : (Dr01.ints a).take n = Dr01.ints (a.take n) := (List.map_take).symm
theorem ints_drop (a : List Nat) (n : Nat) : (Dr01.ints a).drop n = Dr01.ints (a.drop n) := (List.map_drop).symm
theorem ints_toNat (a : List Nat) : (Dr01.ints a).map Int.toNat = a := by
  unfold Dr01.ints
  rw [List.map_map]
  have e : (Int.toNat ∘ fun (n : Nat) => (n : Int)) = id := by
    funext n
    simp
  rw [e, List.map_id]
theorem ints_nat {a : List Nat} (h : ∀ z ∈ a, z < 2 ^ 32) : (Dr01.ints a).all Dr01Neutral.nat = true := by
  rw [List.all_eq_true]
  intro x hx
  obtain ⟨z, hz, rfl⟩ := List.mem_map.mp hx
  have := h z hz
  unfold Dr01Neutral.nat
  simp
  omega
theorem call_of {l : List Nat} (h : ∀ z ∈ l, z < 2 ^ 32) {c : Dr01.Call} (e : Dr01Neutral.callIn l = some c) (d : Desk) : Dr01Neutral.step d (Dr01.ints l) = Dr01.step d c := by
  have q : Dr01Neutral.callOf (Dr01.ints l) = some c := by
    unfold Dr01Neutral.callOf
    rw [ints_nat h, if_neg (by decide), ints_toNat]
    exact e
  unfold Dr01Neutral.step
  rw [q]
/-- what stands at the list's head: a call's number, its numbers, its row; what stands behind; which call it is -/
structure Head (rest : List Nat) (n : Nat) (ws row t : List Nat) (c : Dr01.Call) : Prop where
  n13 : n ≤ 13
  lw : wN[n]? = some ws.length
  no : hR[n]? = some false → row = [] ∧ rest = n :: (ws ++ t)
  yes : hR[n]? = some true → rest = n :: (ws ++ (row.length :: (row ++ t)))
  call : Dr01Neutral.callIn (n :: (ws ++ row)) = some c
theorem row_nat {r : List Nat} {x s : List Int} (h : PyFlat.row (Dr01.ints r) = some (x, s)) : ∃ y t : List Nat, x = Dr01.ints y ∧ s = Dr01.ints t ∧ r = y.length :: (y ++ t) := by
  match r, h with
  | m :: r, h =>
    have h' : (if 0 ≤ (m : Int) ∧ (m : Int).toNat ≤ (Dr01.ints r).length then some ((Dr01.ints r).take (m : Int).toNat, (Dr01.ints r).drop (m : Int).toNat) else none) = some (x, s) := h
    rw [Int.toNat_natCast, ints_len] at h'
    by_cases q : 0 ≤ (m : Int) ∧ m ≤ r.length
    · rw [if_pos q] at h'
      obtain ⟨e1, e2⟩ := Prod.mk.inj (Option.some.inj h')
      refine ⟨r.take m, r.drop m, by rw [← e1, ints_take], by rw [← e2, ints_drop], ?_⟩
      rw [List.take_append_drop, List.length_take, Nat.min_eq_left q.2]
    · rw [if_neg q] at h'
      cases h'
theorem rows1 {r : List Int} {xs : List (List Int)} {t : List Int} (h : PyFlat.rows 1 r = some (xs, t)) : ∃ x, PyFlat.row r = some (x, t) ∧ xs = [x] := by
  have h' : (match PyFlat.row r with
    | none => none
    | some (x, s) => match PyFlat.rows 0 s with
      | none => none
      | some (xs, t) => some (x :: xs, t)) = some (xs, t) := h
  cases e : PyFlat.row r with
  | none =>
    rw [e] at h'
    cases h'
  | some q =>
    obtain ⟨x, s⟩ := q
    rw [e] at h'
    have h2 : some ([x], s) = some (xs, t) := h'
    obtain ⟨e1, e2⟩ := Prod.mk.inj (Option.some.inj h2)
    exact ⟨x, by rw [e2], e1.symm⟩
/-- one call, by its shape -/
theorem call_shape {p : Nat} {r : List Nat} {x : List (List Int)} {t : List Int} (h : PyFlat.call PyDr01.shape (Dr01.ints (p :: r)) = some (x, t)) : ∃ n k, PyDr01.shape (p : Int) = some (n, k) ∧ n ≤ r.length ∧ ∃ xs, PyFlat.rows k (Dr01.ints (r.drop n)) = some (xs, t) ∧ x = ((p : Int) :: Dr01.ints (r.take n)) :: xs := by
  have h' : (match PyDr01.shape (p : Int) with
    | none => none
    | some (n, k) => if (Dr01.ints r).length < n then none else match PyFlat.rows k ((Dr01.ints r).drop n) with
      | none => none
      | some (xs, t) => some (((p : Int) :: (Dr01.ints r).take n) :: xs, t)) = some (x, t) := h
  cases e : PyDr01.shape (p : Int) with
  | none =>
    rw [e] at h'
    cases h'
  | some q =>
    obtain ⟨n, k⟩ := q
    rw [e] at h'
    have h2 : (if (Dr01.ints r).length < n then none else match PyFlat.rows k ((Dr01.ints r).drop n) with
      | none => none
      | some (xs, t) => some (((p : Int) :: (Dr01.ints r).take n) :: xs, t)) = some (x, t) := h'
    rw [ints_len, ints_drop, ints_take] at h2
    by_cases q : r.length < n
    · rw [if_pos q] at h2
      cases h2
    · rw [if_neg q] at h2
      cases e3 : PyFlat.rows k (Dr01.ints (r.drop n)) with
      | none =>
        rw [e3] at h2
        cases h2
      | some y =>
        obtain ⟨xs, t'⟩ := y
        rw [e3] at h2
        have h3 : some (((p : Int) :: Dr01.ints (r.take n)) :: xs, t') = some (x, t) := h2
        obtain ⟨e1, e2⟩ := Prod.mk.inj (Option.some.inj h3)
        exact ⟨n, k, rfl, by omega, xs, by rw [e3, e2], e1.symm⟩
theorem shape_none {p : Nat} (h : 13 < p) : PyDr01.shape (p : Int) = none := by
  unfold PyDr01.shape
  rw [if_neg (by omega), if_neg (by omega), if_neg (by omega), if_neg (by omega), if_neg (by omega), if_neg (by omega), if_neg (by omega), if_neg (by omega), if_neg (by omega), if_neg (by omega), if_neg (by omega), if_neg (by omega), if_neg (by omega), if_neg (by omega)]
theorem len0 {l : List Nat} (h : l.length = 0) : l = [] := List.length_eq_zero_iff.mp h
theorem take0 (r : List Nat) : r.take 0 = [] := rfl
theorem take1 {r : List Nat} (h : 1 ≤ r.length) : ∃ a s, r = a :: s ∧ r.take 1 = [a] ∧ r.drop 1 = s := by
  match r, h with
  | a :: s, _ => exact ⟨a, s, rfl, rfl, rfl⟩
theorem take2 {r : List Nat} (h : 2 ≤ r.length) : ∃ a b s, r = a :: b :: s ∧ r.take 2 = [a, b] ∧ r.drop 2 = s := by
  match r, h with
  | a :: b :: s, _ => exact ⟨a, b, s, rfl, rfl, rfl⟩
/-- without numbers and rows -/
theorem head00 {p : Nat} {r : List Nat} {x : List (List Int)} {t : List Int} {c : Dr01.Call} (hs : PyDr01.shape (p : Int) = some (0, 0)) (h13 : p ≤ 13) (hw : wN[p]? = some 0) (hr : hR[p]? = some false) (hc : Dr01Neutral.callIn [p] = some c)
    (hx : PyDr01.whole [[(p : Int)]] = [[(p : Int)]]) (h : PyFlat.call PyDr01.shape (Dr01.ints (p :: r)) = some (x, t)) : t = Dr01.ints r ∧ Head (p :: r) p [] [] r c ∧ (PyDr01.whole x).headD [] = Dr01.ints [p] := by
  obtain ⟨n, k, e, hn, xs, hxs, rfl⟩ := call_shape h
  rw [hs] at e
  obtain ⟨e1, e2⟩ := Prod.mk.inj (Option.some.inj e)
  subst e1 e2
  have h2 : some (([] : List (List Int)), Dr01.ints r) = some (xs, t) := hxs
  obtain ⟨e1, e2⟩ := Prod.mk.inj (Option.some.inj h2)
  subst e1 e2
  refine ⟨rfl, ⟨h13, hw, fun _ => ⟨rfl, rfl⟩, fun q => ?_, hc⟩, ?_⟩
  · rw [hr] at q
    cases q
  · show (PyDr01.whole [[(p : Int)]]).headD [] = _
    rw [hx]
    rfl
/-- one number -/
theorem head10 {p : Nat} {r : List Nat} {x : List (List Int)} {t : List Int} {g : Nat → Dr01.Call} (hs : PyDr01.shape (p : Int) = some (1, 0)) (h13 : p ≤ 13) (hw : wN[p]? = some 1) (hr : hR[p]? = some false) (hc : ∀ a, Dr01Neutral.callIn [p, a] = some (g a))
    (hx : ∀ a : Int, PyDr01.whole [[(p : Int), a]] = [[(p : Int), a]]) (h : PyFlat.call PyDr01.shape (Dr01.ints (p :: r)) = some (x, t)) : ∃ a s, t = Dr01.ints s ∧ Head (p :: r) p [a] [] s (g a) ∧ (PyDr01.whole x).headD [] = Dr01.ints [p, a] := by
  obtain ⟨n, k, e, hn, xs, hxs, rfl⟩ := call_shape h
  rw [hs] at e
  obtain ⟨e1, e2⟩ := Prod.mk.inj (Option.some.inj e)
  subst e1 e2
  have h2 : some (([] : List (List Int)), Dr01.ints (r.drop 1)) = some (xs, t) := hxs
  obtain ⟨e1, e2⟩ := Prod.mk.inj (Option.some.inj h2)
  subst e1 e2
  obtain ⟨a, s, rfl, ht, hd⟩ := take1 hn
  refine ⟨a, s, rfl, ⟨h13, hw, fun _ => ⟨rfl, rfl⟩, fun q => ?_, hc a⟩, ?_⟩
  · rw [hr] at q
    cases q
  · show (PyDr01.whole [[(p : Int), (a : Int)]]).headD [] = _
    rw [hx]
    rfl
/-- two numbers -/
theorem head20 {p : Nat} {r : List Nat} {x : List (List Int)} {t : List Int} {g : Nat → Nat → Dr01.Call} (hs : PyDr01.shape (p : Int) = some (2, 0)) (h13 : p ≤ 13) (hw : wN[p]? = some 2) (hr : hR[p]? = some false) (hc : ∀ a b, Dr01Neutral.callIn [p, a, b] = some (g a b))
    (hx : ∀ a b : Int, PyDr01.whole [[(p : Int), a, b]] = [[(p : Int), a, b]]) (h : PyFlat.call PyDr01.shape (Dr01.ints (p :: r)) = some (x, t)) : ∃ a b s, t = Dr01.ints s ∧ Head (p :: r) p [a, b] [] s (g a b) ∧ (PyDr01.whole x).headD [] = Dr01.ints [p, a, b] := by
  obtain ⟨n, k, e, hn, xs, hxs, rfl⟩ := call_shape h
  rw [hs] at e
  obtain ⟨e1, e2⟩ := Prod.mk.inj (Option.some.inj e)
  subst e1 e2
  have h2 : some (([] : List (List Int)), Dr01.ints (r.drop 2)) = some (xs, t) := hxs
  obtain ⟨e1, e2⟩ := Prod.mk.inj (Option.some.inj h2)
  subst e1 e2
  obtain ⟨a, b, s, rfl, ht, hd⟩ := take2 hn
  refine ⟨a, b, s, rfl, ⟨h13, hw, fun _ => ⟨rfl, rfl⟩, fun q => ?_, hc a b⟩, ?_⟩
  · rw [hr] at q
    cases q
  · show (PyDr01.whole [[(p : Int), (a : Int), (b : Int)]]).headD [] = _
    rw [hx]
    rfl
/-- a row -/
theorem head01 {p : Nat} {r : List Nat} {x : List (List Int)} {t : List Int} {g : List Nat → Dr01.Call} (hs : PyDr01.shape (p : Int) = some (0, 1)) (h13 : p ≤ 13) (hw : wN[p]? = some 0) (hr : hR[p]? = some true) (hc : ∀ l, Dr01Neutral.callIn (p :: l) = some (g l))
    (hx : ∀ y : List Int, PyDr01.whole [[(p : Int)], y] = [(p : Int) :: y]) (h : PyFlat.call PyDr01.shape (Dr01.ints (p :: r)) = some (x, t)) : ∃ y s, t = Dr01.ints s ∧ Head (p :: r) p [] y s (g y) ∧ (PyDr01.whole x).headD [] = Dr01.ints (p :: y) := by
  obtain ⟨n, k, e, hn, xs, hxs, rfl⟩ := call_shape h
  rw [hs] at e
  obtain ⟨e1, e2⟩ := Prod.mk.inj (Option.some.inj e)
  subst e1 e2
  obtain ⟨u, hu, rfl⟩ := rows1 hxs
  obtain ⟨y, s, rfl, rfl, hd⟩ := row_nat hu
  refine ⟨y, s, rfl, ⟨h13, hw, fun q => ?_, fun _ => ?_, hc y⟩, ?_⟩
  · rw [hr] at q
    cases q
  · show p :: r = p :: (y.length :: (y ++ s))
    rw [show r = r.drop 0 from rfl, hd]
  · show (PyDr01.whole [[(p : Int)], Dr01.ints y]).headD [] = _
    rw [hx]
    rfl
/-- a number and a row -/
theorem head11 {p : Nat} {r : List Nat} {x : List (List Int)} {t : List Int} {g : Nat → List Nat → Dr01.Call} (hs : PyDr01.shape (p : Int) = some (1, 1)) (h13 : p ≤ 13) (hw : wN[p]? = some 1) (hr : hR[p]? = some true) (hc : ∀ a l, Dr01Neutral.callIn (p :: a :: l) = some (g a l))
    (hx : ∀ (a : Int) (y : List Int), PyDr01.whole [[(p : Int), a], y] = [(p : Int) :: a :: y]) (h : PyFlat.call PyDr01.shape (Dr01.ints (p :: r)) = some (x, t)) : ∃ a y s, t = Dr01.ints s ∧ Head (p :: r) p [a] y s (g a y) ∧ (PyDr01.whole x).headD [] = Dr01.ints (p :: a :: y) := by
  obtain ⟨n, k, e, hn, xs, hxs, rfl⟩ := call_shape h
  rw [hs] at e
  obtain ⟨e1, e2⟩ := Prod.mk.inj (Option.some.inj e)
  subst e1 e2
  obtain ⟨u, hu, rfl⟩ := rows1 hxs
  obtain ⟨y, s, rfl, rfl, hd⟩ := row_nat hu
  obtain ⟨a, r2, rfl, ht, hd2⟩ := take1 hn
  rw [hd2] at hd
  refine ⟨a, y, s, rfl, ⟨h13, hw, fun q => ?_, fun _ => ?_, hc a y⟩, ?_⟩
  · rw [hr] at q
    cases q
  · show p :: a :: r2 = p :: a :: (y.length :: (y ++ s))
    rw [hd]
  · show (PyDr01.whole [[(p : Int), (a : Int)], Dr01.ints y]).headD [] = _
    rw [hx]
    rfl
theorem head_any {p : Nat} {r : List Nat} {x : List (List Int)} {t : List Int} (h : PyFlat.call PyDr01.shape (Dr01.ints (p :: r)) = some (x, t)) : ∃ ws row s c, t = Dr01.ints s ∧ Head (p :: r) p ws row s c ∧ (PyDr01.whole x).headD [] = Dr01.ints (p :: (ws ++ row)) := by
  by_cases hp : 13 < p
  · obtain ⟨n, k, e, _⟩ := call_shape h
    rw [shape_none hp] at e
    cases e
  · have : p = 0 ∨ p = 1 ∨ p = 2 ∨ p = 3 ∨ p = 4 ∨ p = 5 ∨ p = 6 ∨ p = 7 ∨ p = 8 ∨ p = 9 ∨ p = 10 ∨ p = 11 ∨ p = 12 ∨ p = 13 := by omega
    rcases this with rfl | rfl | rfl | rfl | rfl | rfl | rfl | rfl | rfl | rfl | rfl | rfl | rfl | rfl
    · obtain ⟨y, s, a1, a2, a3⟩ := head01 (g := .tell) rfl (by decide) rfl rfl (fun _ => rfl) (fun _ => rfl) h
      exact ⟨_, _, _, _, a1, a2, a3⟩
    · obtain ⟨a, y, s, a1, a2, a3⟩ := head11 (g := .cover) rfl (by decide) rfl rfl (fun _ _ => rfl) (fun _ _ => rfl) h
      exact ⟨_, _, _, _, a1, a2, a3⟩
    · obtain ⟨a, b, s, a1, a2, a3⟩ := head20 (g := .set) rfl (by decide) rfl rfl (fun _ _ => rfl) (fun _ _ => rfl) h
      exact ⟨_, _, _, _, a1, a2, a3⟩
    · obtain ⟨a1, a2, a3⟩ := head00 (c := .vals) rfl (by decide) rfl rfl rfl rfl h
      exact ⟨_, _, _, _, a1, a2, a3⟩
    · obtain ⟨a, s, a1, a2, a3⟩ := head10 (g := .kind) rfl (by decide) rfl rfl (fun _ => rfl) (fun _ => rfl) h
      exact ⟨_, _, _, _, a1, a2, a3⟩
    · obtain ⟨a1, a2, a3⟩ := head00 (c := .falls) rfl (by decide) rfl rfl rfl rfl h
      exact ⟨_, _, _, _, a1, a2, a3⟩
    · obtain ⟨a1, a2, a3⟩ := head00 (c := .least) rfl (by decide) rfl rfl rfl rfl h
      exact ⟨_, _, _, _, a1, a2, a3⟩
    · obtain ⟨y, s, a1, a2, a3⟩ := head01 (g := .less) rfl (by decide) rfl rfl (fun _ => rfl) (fun _ => rfl) h
      exact ⟨_, _, _, _, a1, a2, a3⟩
    · obtain ⟨a, s, a1, a2, a3⟩ := head10 (g := .onto) rfl (by decide) rfl rfl (fun _ => rfl) (fun _ => rfl) h
      exact ⟨_, _, _, _, a1, a2, a3⟩
    · obtain ⟨a, s, a1, a2, a3⟩ := head10 (g := .beyond) rfl (by decide) rfl rfl (fun _ => rfl) (fun _ => rfl) h
      exact ⟨_, _, _, _, a1, a2, a3⟩
    · obtain ⟨a1, a2, a3⟩ := head00 (c := .rest) rfl (by decide) rfl rfl rfl rfl h
      exact ⟨_, _, _, _, a1, a2, a3⟩
    · obtain ⟨a1, a2, a3⟩ := head00 (c := .risen) rfl (by decide) rfl rfl rfl rfl h
      exact ⟨_, _, _, _, a1, a2, a3⟩
    · obtain ⟨a1, a2, a3⟩ := head00 (c := .swap) rfl (by decide) rfl rfl rfl rfl h
      exact ⟨_, _, _, _, a1, a2, a3⟩
    · obtain ⟨a1, a2, a3⟩ := head00 (c := .parted) rfl (by decide) rfl rfl rfl rfl h
      exact ⟨_, _, _, _, a1, a2, a3⟩
/-- what is still to be answered, from a desk, of what is left of the list -/
def due (d : Desk) (raw : List (List (List Int))) : List Int := PyFlat.told (PyFlat.played (fun s c => Dr01Neutral.step s (c.headD [])) d (raw.map PyDr01.whole))
/-- what is left of the list is calls, and this is due -/
def Left (rest : List Nat) (d : Desk) (out : List Int) : Prop := ∃ f raw, PyFlat.calls PyDr01.shape f (Dr01.ints rest) = some raw ∧ out = due d raw
theorem left_nil {d : Desk} {out : List Int} (h : Left [] d out) : out = [] := by
  obtain ⟨f, raw, e, rfl⟩ := h
  have e' : some ([] : List (List (List Int))) = some raw := by
    cases f <;> exact e
  cases e'
  rfl
/-- one call more -/
theorem left_cons {p : Nat} {r : List Nat} {d : Desk} {out : List Int} (hb : ∀ z ∈ p :: r, z < 2 ^ 32) (h : Left (p :: r) d out) :
    ∃ ws row t c out', Head (p :: r) p ws row t c ∧ out = (((Dr01.step d c).2.length : Int) :: (Dr01.step d c).2) ++ out' ∧ Left t (Dr01.step d c).1 out' := by
  obtain ⟨f, raw, e, rfl⟩ := h
  cases f with
  | zero => cases e
  | succ f =>
    have e' : (match PyFlat.call PyDr01.shape (Dr01.ints (p :: r)) with
      | none => none
      | some (c, t) => match PyFlat.calls PyDr01.shape f t with
        | none => none
        | some cs => some (c :: cs)) = some raw := e
    cases e1 : PyFlat.call PyDr01.shape (Dr01.ints (p :: r)) with
    | none =>
      rw [e1] at e'
      cases e'
    | some q =>
      obtain ⟨x, t0⟩ := q
      rw [e1] at e'
      have e2 : (match PyFlat.calls PyDr01.shape f t0 with
        | none => none
        | some cs => some (x :: cs)) = some raw := e'
      cases e3 : PyFlat.calls PyDr01.shape f t0 with
      | none =>
        rw [e3] at e2
        cases e2
      | some cs =>
        rw [e3] at e2
        have e4 : some (x :: cs) = some raw := e2
        cases e4
        obtain ⟨ws, row, t, c, rfl, hh, hx⟩ := head_any e1
        have hb2 : ∀ z ∈ p :: (ws ++ row), z < 2 ^ 32 := by
          intro z hz
          refine hb z ?_
          have hl := hh.lw
          cases eh : hR[p]? with
          | none =>
            have : p < hR.length := by show p < 14; have := hh.n13; omega
            rw [List.getElem?_eq_getElem this] at eh
            cases eh
          | some b =>
            cases b with
            | false =>
              obtain ⟨er, es⟩ := hh.no eh
              rw [es]
              rw [er] at hz
              simp only [List.mem_cons, List.mem_append, List.append_nil] at hz ⊢
              rcases hz with hz | hz
              · exact .inl hz
              · exact .inr (.inl hz)
            | true =>
              have es := hh.yes eh
              rw [es]
              simp only [List.mem_cons, List.mem_append] at hz ⊢
              rcases hz with hz | hz | hz
              · exact .inl hz
              · exact .inr (.inl hz)
              · exact .inr (.inr (.inr (.inl hz)))
        have st : Dr01Neutral.step d ((PyDr01.whole x).headD []) = Dr01.step d c := by
          rw [hx]
          exact call_of hb2 hh.call d
        refine ⟨ws, row, t, c, due (Dr01.step d c).1 cs, hh, ?_, f, cs, e3, rfl⟩
        show PyFlat.told ((Dr01Neutral.step d ((PyDr01.whole x).headD [])).2 :: PyFlat.played (fun s c => Dr01Neutral.step s (c.headD [])) (Dr01Neutral.step d ((PyDr01.whole x).headD [])).1 (cs.map PyDr01.whole)) = _
        rw [st]
        rfl
/-- the whole -/
theorem left_start {l : List Nat} (h : PyDr01.answers_asked (Dr01.ints l) = true) : Left l init (PyDr01.answers (Dr01.ints l)) ∧ (PyDr01.answers (Dr01.ints l)).length ≤ 10000000 := by
  unfold PyDr01.answers_asked at h
  cases e : PyFlat.calls PyDr01.shape (Dr01.ints l).length (Dr01.ints l) with
  | none =>
    rw [e] at h
    cases h
  | some raw =>
    rw [e] at h
    have h' : (!raw.isEmpty && PyFlat.atMost 30 raw && PyInside.calls PyDr01.bound raw && Dr01Neutral.asked ((raw.map PyDr01.whole).map fun c => c.headD []) && PyFlat.short 10000000 (PyDr01.answers (Dr01.ints l))) = true := h
    rw [Bool.and_eq_true] at h'
    refine ⟨⟨_, raw, e, ?_⟩, of_decide_eq_true h'.2⟩
    unfold PyDr01.answers PyDr01.calls
    rw [e]
    rfl
end Sf
namespace Sf
open Dr01
/-! ### The mathematics of less, onto, beyond, rest, risen, swap, parted -/
theorem bit_has : ∀ s, s < 32 → ∀ j, j < 5 → (has s (j + 1) = true ↔ ¬ s &&& 2 ^ j = 0) := by decide
/-- what the things below a thing cost together -/
def cost (ps : List Int) (s : Nat) : Nat → Int
  | 0 => 0
  | j + 1 => cost ps s j + if s &&& 2 ^ j = 0 then 0 else ps.getD j 0
theorem sum_end : ∀ (l : List Int) (x : Int), l.foldr (fun a n => a + n) x = l.foldr (fun a n => a + n) 0 + x
  | [], x => by
    show x = 0 + x
    omega
  | a :: r, x => by
    show a + r.foldr (fun a n => a + n) x = a + r.foldr (fun a n => a + n) 0 + x
    rw [sum_end r x]
    omega
theorem cost_eq {ps : List Int} {s : Nat} (hs : s < 32) : ∀ n, n ≤ 5 → (((List.range n).map fun i => i + 1).map fun i => if has s i = true then ps.getD (i - 1) 0 else 0).foldr (fun a n => a + n) 0 = cost ps s n
  | 0, _ => rfl
  | n + 1, h => by
    rw [List.range_succ, List.map_append, List.map_append, List.foldr_append, sum_end, cost_eq hs n (by omega)]
    show cost ps s n + ((if has s (n + 1) = true then ps.getD (n + 1 - 1) 0 else 0) + 0) = cost ps s n + if s &&& 2 ^ n = 0 then 0 else ps.getD n 0
    have e := bit_has s hs n (by omega)
    by_cases c : s &&& 2 ^ n = 0
    · rw [if_pos c, if_neg (fun z => e.mp z c)]
      omega
    · rw [if_neg c, if_pos (e.mpr c), Nat.add_sub_cancel]
      omega
theorem map_same {α : Type} {n : Nat} {g h : Nat → α} (q : ∀ s, s < n → g s = h s) : (List.range n).map g = (List.range n).map h := List.map_congr_left fun s hs => q s (List.mem_range.mp hs)
/-- a first function that becomes another: the desk and what is told -/
def made (d : Desk) (g : Nat → Int) : Desk × List Int := (⟨⟨d.one.many, (List.range (2 ^ d.one.many)).map g⟩, d.two⟩, (d.one.many : Int) :: (List.range (2 ^ d.one.many)).map g)
theorem become_made {d : Desk} {f : Nat → Int} {g : Nat → Int} (q : ∀ s, s < 2 ^ d.one.many → f s = g s) : become d (mapped d.one f) = made d g := by
  unfold become mapped made shown sets
  rw [map_same q]
theorem step_less_no {d : Desk} {p : List Nat} (h : p.length ≠ d.one.many ∨ ∃ z ∈ p, 20000 < z) : Dr01.step d (.less p) = (d, [-1]) := by
  show (if p.length ≠ d.one.many ∨ p.all (fun z => decide (z ≤ 20000)) = false then (d, [-1]) else _) = _
  rw [if_pos]
  rcases h with h | ⟨z, hz, hb⟩
  · exact .inl h
  · right
    rw [List.all_eq_false]
    exact ⟨z, hz, by simp; omega⟩
theorem step_less {d : Desk} {p : List Nat} (g : Good d.one) (e : p.length = d.one.many) (h : ∀ z ∈ p, z ≤ 20000) : Dr01.step d (.less p) = made d fun s => val d.one s - cost (p.map whole) s d.one.many := by
  show (if p.length ≠ d.one.many ∨ p.all (fun z => decide (z ≤ 20000)) = false then (d, [-1]) else become d (Dr01.less d.one (p.map whole))) = _
  rw [if_neg]
  · unfold Dr01.less
    refine become_made fun s hs => ?_
    have := pow_le g.hi
    rw [← cost_eq (Nat.lt_of_lt_of_le hs this) _ g.hi]
    rfl
  · intro q
    rcases q with q | q
    · exact q e
    · rw [List.all_eq_false] at q
      obtain ⟨z, hz, hb⟩ := q
      exact hb (by simp; exact h z hz)
theorem step_onto_no {d : Desk} {t : Nat} (h : 2 ^ d.one.many ≤ t) : Dr01.step d (.onto t) = (d, [-1]) := if_pos h
theorem step_onto {d : Desk} {t : Nat} (h : ¬ 2 ^ d.one.many ≤ t) : Dr01.step d (.onto t) = made d fun s => val d.one (s &&& t) := (if_neg h).trans (become_made fun _ _ => rfl)
theorem step_beyond_no {d : Desk} {t : Nat} (h : 2 ^ d.one.many ≤ t) : Dr01.step d (.beyond t) = (d, [-1]) := if_pos h
theorem step_beyond {d : Desk} {t : Nat} (h : ¬ 2 ^ d.one.many ≤ t) : Dr01.step d (.beyond t) = made d fun s => val d.one (s ||| t) - val d.one t := (if_neg h).trans (become_made fun _ _ => rfl)
theorem xor_all0 : ∀ n, n < 6 → ∀ s, s < 2 ^ n → (2 ^ n - 1) ^^^ s = 2 ^ n - 1 - s := by decide
theorem step_rest {d : Desk} (g : Good d.one) : Dr01.step d .rest = made d fun s => val d.one (2 ^ d.one.many - 1) - val d.one ((2 ^ d.one.many - 1) ^^^ s) := by
  show become d (Dr01.rest d.one) = _
  unfold Dr01.rest
  refine become_made fun s hs => ?_
  have := g.hi
  rw [xor_all0 d.one.many (by omega) s hs]
theorem step_swap (d : Desk) : Dr01.step d .swap = (⟨d.two, d.one⟩, (d.two.many : Int) :: d.two.vals) := rfl
theorem foldl_min (g : Nat → Int) : ∀ (l : List Nat) (a : Int), (l.foldl (fun m s => min m (g s)) a) ≤ a ∧ (∀ x ∈ l, l.foldl (fun m s => min m (g s)) a ≤ g x) ∧ (l.foldl (fun m s => min m (g s)) a = a ∨ ∃ x ∈ l, l.foldl (fun m s => min m (g s)) a = g x)
  | [], a => ⟨Int.le_refl _, (fun x h => nomatch h), Or.inl rfl⟩
  | y :: r, a => by
    obtain ⟨h1, h2, h3⟩ := foldl_min g r (min a (g y))
    rw [List.foldl_cons]
    refine ⟨by omega, fun x hx => ?_, ?_⟩
    · rcases List.mem_cons.mp hx with rfl | hx
      · omega
      · exact h2 x hx
    · rcases h3 with h3 | ⟨x, hx, e⟩
      · by_cases c : a ≤ g y
        · left
          omega
        · right
          exact ⟨y, List.mem_cons_self, by omega⟩
      · exact .inr ⟨x, List.mem_cons_of_mem _ hx, e⟩
/-- the least of a list that starts at one of its own -/
theorem min_is {g : Nat → Int} {l : List Nat} {z : Nat} (hz : z ∈ l) {m : Int} (hm : ∃ x ∈ l, m = g x) (hle : ∀ x ∈ l, m ≤ g x) : l.foldl (fun m s => min m (g s)) (g z) = m := by
  obtain ⟨h1, h2, h3⟩ := foldl_min g l (g z)
  obtain ⟨x, hx, rfl⟩ := hm
  have a1 := h2 x hx
  rcases h3 with h3 | ⟨y, hy, h3⟩
  · have := hle z hz
    omega
  · have := hle y hy
    omega
/-- the sets that have all of a set, and the parts of one, as the program goes through them -/
def above (n s : Nat) : List Nat := ((List.range (2 ^ n - s)).map fun i => s + i).filter fun t => decide (t &&& s = s)
def parts (s : Nat) : List Nat := (List.range (s + 1)).filter fun t => decide (t &&& s = t)
theorem above_iff {n s t : Nat} : t ∈ above n s ↔ t < 2 ^ n ∧ t &&& s = s := by
  unfold above
  rw [List.mem_filter, List.mem_map, decide_eq_true_eq]
  constructor
  · rintro ⟨⟨i, hi, rfl⟩, e⟩
    rw [List.mem_range] at hi
    exact ⟨by omega, e⟩
  · rintro ⟨h, e⟩
    have hle : s ≤ t := by
      have := @Nat.and_le_left t s
      rw [e] at this
      exact this
    refine ⟨⟨t - s, List.mem_range.mpr (by omega), by omega⟩, e⟩
theorem parts_iff {s t : Nat} : t ∈ parts s ↔ t &&& s = t := by
  unfold parts
  rw [List.mem_filter, decide_eq_true_eq, List.mem_range]
  constructor
  · exact fun h => h.2
  · intro e
    refine ⟨?_, e⟩
    have := @Nat.and_le_right t s
    rw [e] at this
    omega
theorem all_has {n s : Nat} (h : s < 2 ^ n) : (2 ^ n - 1) &&& s = s := by
  rw [Nat.and_comm, Nat.and_two_pow_sub_one_eq_mod, Nat.mod_eq_of_lt h]
/-- the least that it was for any set that has all of this one -/
def lowAbove (f : Fun) (s : Nat) : Int := ((sets f).filter fun t => meet s t == s).foldl (fun m t => min m (val f t)) (val f (2 ^ f.many - 1))
theorem lowAbove_is {f : Fun} {s : Nat} (h : s < 2 ^ f.many) {m : Int} (hm : m ∈ (above f.many s).map (val f)) (hle : ∀ y ∈ (above f.many s).map (val f), m ≤ y) : lowAbove f s = m := by
  have mem : ∀ t, t ∈ ((sets f).filter fun t => meet s t == s) ↔ t ∈ above f.many s := fun t => by
    rw [List.mem_filter, above_iff]
    unfold sets
    rw [List.mem_range, beq_iff_eq]
    show t < 2 ^ f.many ∧ s &&& t = s ↔ _
    rw [Nat.and_comm]
  have hp : 0 < 2 ^ f.many := Nat.pow_pos (by decide)
  refine min_is (g := val f) ((mem _).mpr (above_iff.mpr ⟨by omega, all_has h⟩)) ?_ ?_
  · obtain ⟨x, hx, e⟩ := List.mem_map.mp hm
    exact ⟨x, (mem x).mpr hx, e.symm⟩
  · exact fun x hx => hle _ (List.mem_map.mpr ⟨x, (mem x).mp hx, rfl⟩)
theorem above_some {n s : Nat} (h : s < 2 ^ n) : above n s ≠ [] := fun z => by
  have q : s ∈ above n s := above_iff.mpr ⟨h, Nat.and_self s⟩
  rw [z] at q
  cases q
theorem parts_some (s : Nat) : parts s ≠ [] := fun z => by
  have q : s ∈ parts s := parts_iff.mpr (Nat.and_self s)
  rw [z] at q
  cases q
theorem step_risen (d : Desk) : Dr01.step d .risen = made d (lowAbove d.one) := become_made fun _ _ => rfl
theorem xor_part0 : ∀ s, s < 32 → ∀ t, t < 32 → t &&& s = t → s ^^^ t = s - t := by decide
def lowParted (f g : Fun) (s : Nat) : Int := ((sets f).filter fun t => meet t s == t).foldl (fun m t => min m (val f t + val g (s - t))) (val f 0 + val g s)
theorem lowParted_is {f g : Fun} {s : Nat} (hn : f.many ≤ 5) (h : s < 2 ^ f.many) {m : Int} (hm : m ∈ (parts s).map fun t => val f t + val g (s ^^^ t)) (hle : ∀ y ∈ (parts s).map (fun t => val f t + val g (s ^^^ t)), m ≤ y) : lowParted f g s = m := by
  have h5 := pow_le hn
  have mem : ∀ t, t ∈ ((sets f).filter fun t => meet t s == t) ↔ t ∈ parts s := fun t => by
    rw [List.mem_filter, parts_iff]
    unfold sets
    rw [List.mem_range, beq_iff_eq]
    show t < 2 ^ f.many ∧ t &&& s = t ↔ _
    refine ⟨fun q => q.2, fun q => ⟨?_, q⟩⟩
    have := @Nat.and_le_right t s
    rw [q] at this
    exact Nat.lt_of_le_of_lt this h
  have eq : ∀ t ∈ parts s, val f t + val g (s - t) = val f t + val g (s ^^^ t) := fun t ht => by
    have q := parts_iff.mp ht
    have := @Nat.and_le_right t s
    rw [q] at this
    rw [xor_part0 s (by omega) t (by omega) q]
  refine min_is (g := fun t => val f t + val g (s - t)) (z := 0) ((mem _).mpr (parts_iff.mpr (Nat.zero_and s))) ?_ ?_
  · obtain ⟨x, hx, e⟩ := List.mem_map.mp hm
    exact ⟨x, (mem x).mpr hx, by rw [← e]; exact (eq x hx).symm⟩
  · intro x hx
    have hx' := (mem x).mp hx
    have := hle _ (List.mem_map.mpr ⟨x, hx', rfl⟩)
    show m ≤ val f x + val g (s - x)
    rw [eq x hx']
    exact this
theorem step_parted (d : Desk) : Dr01.step d .parted = made d (lowParted d.one d.two) := become_made fun _ _ => rfl
theorem good_made {d : Desk} (gd : GoodD d) (g : Nat → Int) : GoodD (made d g).1 := ⟨⟨gd.one.lo, gd.one.hi, by
  show ((List.range (2 ^ d.one.many)).map g).length = 2 ^ d.one.many
  rw [List.length_map, List.length_range]⟩, gd.two, gd.eq⟩
/-- one turn of a walk that keeps some -/
theorem filter_more {l : List Nat} {p : Nat → Bool} {i x : Nat} (h : l[i]? = some x) : (l.take (i + 1)).filter p = (l.take i).filter p ++ (if p x = true then [x] else []) := by
  rw [take_more h, List.filter_append]
  congr 1
  simp only [List.filter_cons, List.filter_nil]
end Sf
set_option maxRecDepth 100000
set_option maxHeartbeats 2000000
namespace Sf
open PySem PySem.Spec PyProof.Rows L2
open PySem.W (Codec)
/-! ### The text by places -/
def top (i : Nat) : Stmt := PySem.Challenge.pw_setfunctions_s01_answers.main.body.getD i (.Pass ⟨0, 0, 0, 0⟩)
abbrev sPair : Stmt := top 24
abbrev sInit : Stmt := inClass sPair 0
abbrev sPut : Stmt := inClass sPair 1
abbrev sTold : Stmt := inClass sPair 2
abbrev sWhole : Stmt := top 25
abbrev sWith : Stmt := top 26
abbrev sOutside : Stmt := top 27
abbrev sBrings : Stmt := top 28
abbrev sTell : Stmt := top 29
abbrev sPts : Stmt := top 30
abbrev sMet : Stmt := top 31
abbrev sCover : Stmt := top 32
abbrev sSet : Stmt := top 33
abbrev sBreaks : Stmt := top 34
abbrev sFaultAt : Stmt := top 35
abbrev sKind : Stmt := top 36
abbrev sFalls : Stmt := top 37
abbrev sLeast : Stmt := top 38
abbrev sPrice : Stmt := top 39
abbrev sLess : Stmt := top 40
abbrev sOnto : Stmt := top 41
abbrev sBeyond : Stmt := top 42
abbrev sRest : Stmt := top 43
abbrev sAbove : Stmt := top 44
abbrev sRisen : Stmt := top 45
abbrev sParting : Stmt := top 46
abbrev sParted : Stmt := top 47
abbrev sSwap : Stmt := top 48
abbrev sAnswer : Stmt := top 49
abbrev sAnswers : Stmt := top 50
/-- ints as values -/
abbrev vi (l : List Int) : List V := l.map V.int
def nI (z : Nat) : V := V.int (z : Int)
abbrev vn (l : List Nat) : List V := l.map nI
/-- what the top has written -/
structure Txt (K : PySem.W.Frag) (mg : Str → Option Value) (C aS : Addr) : Prop where
  cl : Cls K C
  nT : NoAttr K C "things"
  nF : NoAttr K C "first"
  nS : NoAttr K C "second"
  gC : mg "Pair" = some (.ref C)
  gS : mg "SETS_OF" = some (.ref aS)
  sS : ∀ H, SqT K H aS (vi [1, 2, 4, 8, 16, 32])
  cRefused : ∃ u, mg "REFUSED" = some u ∧ RelV (.int (-1)) u
  cHanded : ∃ u, mg "MOST_HANDED" = some u ∧ RelV (.int 20000) u
  cThings : ∃ u, mg "MOST_THINGS" = some u ∧ RelV (.int 5) u
  cWeight : ∃ u, mg "MOST_WEIGHT" = some u ∧ RelV (.int 1000) u
  cPoints : ∃ u, mg "MOST_POINTS" = some u ∧ RelV (.int 20) u
  cKind : ∃ u, mg "MOST_KIND" = some u ∧ RelV (.int 2) u
  zLen : mg "len" = none
  zRange : mg "range" = none
  zMax : mg "max" = none
  zMin : mg "min" = none
  zEnum : mg "enumerate" = none
theorem pow_at {n : Nat} (h : n ≤ 5) : (vi [1, 2, 4, 8, 16, 32])[n]? = some (.int ((2 ^ n : Nat) : Int)) := by
  have : n = 0 ∨ n = 1 ∨ n = 2 ∨ n = 3 ∨ n = 4 ∨ n = 5 := by omega
  rcases this with rfl | rfl | rfl | rfl | rfl | rfl <;> rfl
theorem nI_iff {a b : Nat} : nI a = nI b ↔ a = b := ⟨fun h => by have := V.int.inj h; omega, fun h => by rw [h]⟩
theorem nat_bit {a b : Nat} : Builtin.bitOr (a : Int) (b : Int) = ((a ||| b : Nat) : Int) := by
  rw [bitOr_nn (Int.natCast_nonneg _) (Int.natCast_nonneg _), Int.toNat_natCast, Int.toNat_natCast]
theorem nat_and {a b : Nat} : Builtin.bitAnd (a : Int) (b : Int) = ((a &&& b : Nat) : Int) := by
  rw [bitAnd_pp (Int.natCast_nonneg _) (Int.natCast_nonneg _), Int.toNat_natCast, Int.toNat_natCast]
theorem xor_small0 : ∀ a, a < 32 → ∀ b, b < 32 → a ||| b = (a &&& b) + (a ^^^ b) := by decide
theorem nat_xor {a b : Nat} (ha : a < 32) (hb : b < 32) : Builtin.bitXor (a : Int) (b : Int) = ((a ^^^ b : Nat) : Int) := by
  unfold Builtin.bitXor
  rw [nat_bit, nat_and, xor_small0 a ha b hb]
  omega
/-- the calls' numbers -/
structure Nums (mg : Str → Option Value) : Prop where
  cTell : ∃ u, mg "TELL" = some u ∧ RelV (.int 0) u
  cCover : ∃ u, mg "COVER" = some u ∧ RelV (.int 1) u
  cSet : ∃ u, mg "SET_VALUE" = some u ∧ RelV (.int 2) u
  cVals : ∃ u, mg "VALS" = some u ∧ RelV (.int 3) u
  cKind : ∃ u, mg "KIND" = some u ∧ RelV (.int 4) u
  cFalls : ∃ u, mg "FALLS" = some u ∧ RelV (.int 5) u
  cLeast : ∃ u, mg "LEAST" = some u ∧ RelV (.int 6) u
  cLess : ∃ u, mg "LESS" = some u ∧ RelV (.int 7) u
  cOnto : ∃ u, mg "ONTO" = some u ∧ RelV (.int 8) u
  cBeyond : ∃ u, mg "BEYOND" = some u ∧ RelV (.int 9) u
  cRest : ∃ u, mg "REST" = some u ∧ RelV (.int 10) u
  cRisen : ∃ u, mg "RISEN" = some u ∧ RelV (.int 11) u
  cSwap : ∃ u, mg "SWAP" = some u ∧ RelV (.int 12) u
/-! ### heaps -/
theorem Same.new {H : Hp} {p : Addr} {o : HO} (h : H p = none) : Same H (upd H p o) := fun b u e => by
  have hb : b ≠ p := fun z => by
    rw [z, h] at e
    cases e
  rw [upd_ne hb]
  exact e
theorem small32 {n : Nat} (h : n ≤ 100) : n < sizeLine := Nat.lt_of_le_of_lt h (by decide)
theorem small32' {n : Nat} (h : n ≤ 100) : n ≤ sizeLine := Nat.le_of_lt (small32 h)
end Sf
namespace Sf
open PySem PySem.Spec PyProof.Rows L2
section
variable {P : Program} {w : World} {K : PySem.W.Frag} {mg : Str → Option Value} {base : Heap} {C aS : Addr}
/-! ### whole_number -/
def spWhole : Sp := fun vs H Q _ => ∃ z : Nat, vs = [nI z] ∧ Q (.int (Dr01.whole z)) H
theorem scWhole : FnScope ["handed"] ["handed"] (defScope sWhole) := ⟨rfl, rfl, rfl, by decide +kernel, rfl, by decide +kernel, by decide +kernel⟩
theorem ok_whole {f : Addr} {fd : FuncData} (F : Fun K "whole_number" "whole_number" sWhole f fd) : FnOk P w K mg base CX0 1 f fd ["handed"] spWhole := by
  refine F.ok scWhole (fun vs H Q E h => ?_) (fun cdv A outer s H vs Q E hr h => ?_)
  · obtain ⟨z, rfl, _⟩ := h
    rfl
  · obtain ⟨z, rfl, k⟩ := h
    refine ⟨_, pss_cons (ps_if (pt_cmpR op_eq (pe_op op_mod (pv 0) pe_int) pe_int (nomark _)) (pss_one (ps_ret (pe_op op_fdiv (pv 0) pe_int))) pss_nil)
      (pss_one (ps_ret (pe_un un_neg (pe_op op_fdiv (pe_op op_add (pv 0) pe_int) pe_int)))), ?_⟩
    refine ⟨nI z, rfl, (z : Int), 2, rfl, rfl, (by show (0 : Int) < 2; decide), rfl, _, rfl, ite2 (fun e => ?_) (fun e => ?_)⟩
    · refine ⟨nI z, rfl, (z : Int), 2, rfl, rfl, ⟨by decide, by decide⟩, ?_⟩
      have e' : (z : Int) % 2 = 0 := V.int.inj (of_decide_eq_true e)
      rw [whole_even (by omega)] at k
      exact k
    · refine ⟨nI z, rfl, (z : Int), 1, rfl, rfl, (z : Int) + 1, 2, rfl, rfl, ⟨by decide, by decide⟩, _, rfl, ?_⟩
      have e' : ¬ (z : Int) % 2 = 0 := fun q => e (decide_eq_true (congrArg V.int q))
      rw [whole_odd (by omega)] at k
      exact k
/-! ### with_thing -/
def spWith : Sp := fun vs H Q _ => ∃ s i : Nat, vs = [nI s, nI i] ∧ s < 32 ∧ 1 ≤ i ∧ i ≤ 5 ∧ Q (nI (Dr01.with_ s i)) H
theorem scWith : FnScope ["chosen", "thing"] ["chosen", "thing"] (defScope sWith) := ⟨rfl, rfl, rfl, by decide +kernel, rfl, by decide +kernel, by decide +kernel⟩
theorem ok_with {f : Addr} {fd : FuncData} (T : Txt K mg C aS) (F : Fun K "with_thing" "with_thing" sWith f fd) : FnOk P w K mg base CX0 1 f fd ["chosen", "thing"] spWith := by
  refine F.ok scWith (fun vs H Q E h => ?_) (fun cdv A outer s H vs Q E hr h => ?_)
  · obtain ⟨z, i, rfl, _⟩ := h
    rfl
  · obtain ⟨z, i, rfl, hz, h1, h5, k⟩ := h
    refine ⟨_, pss_one (ps_ret (pe_op op_or (pv 0) (pe_ix ix_tup (pe_glob (v := .ref aS) rfl T.gS rfl) (pe_op op_sub (pv 1) pe_int) (fun _ _ => rfl)))), ?_⟩
    refine ⟨nI z, rfl, nI i, rfl, (i : Int), 1, rfl, rfl, aS, _, (i : Int) - 1, _, rfl, rfl, T.sS _, at_of (j := i - 1) (by omega) (pow_at (by omega)), (z : Int), ((2 ^ (i - 1) : Nat) : Int), rfl, rfl, ?_⟩
    rw [with_or' hz h1 h5] at k
    show Q (V.int (Builtin.bitOr (z : Int) ((2 ^ (i - 1) : Nat) : Int))) H
    rw [nat_bit]
    exact k
/-! ### things_outside -/
def spOutside : Sp := fun vs H Q _ => ∃ n s : Nat, vs = [nI n, nI s] ∧ n ≤ 5 ∧ s < 32 ∧ ∀ (H' : Hp) (p : Addr), Same H H' → H p = none → H' p = some (.lst (vn (outside n s))) → Q (.ref p) H'
theorem scOutside : FnScope ["things", "chosen", "thing"] ["things", "chosen"] (defScope sOutside) := ⟨rfl, rfl, rfl, by decide +kernel, rfl, by decide +kernel, by decide +kernel⟩
theorem ok_outside {f fW : Addr} {fd fdW : FuncData} (T : Txt K mg C aS) (F : Fun K "things_outside" "things_outside" sOutside f fd)
    (FW : Fun K "with_thing" "with_thing" sWith fW fdW) (bW : Binds K fdW ["chosen", "thing"] []) (gW : mg "with_thing" = some (.ref fW)) : FnOk P w K mg base CX0 2 f fd ["things", "chosen"] spOutside := by
  have GW : FnOk P w K mg base CX0 1 fW fdW ["chosen", "thing"] spWith := ok_with T FW
  refine F.ok scOutside (fun vs H Q E h => ?_) (fun cdv A outer s H vs Q E hr h => ?_)
  · obtain ⟨n, s, rfl, _⟩ := h
    rfl
  · obtain ⟨n, z, rfl, hn, hz, k⟩ := h
    refine ⟨_, pss_one (ps_ret (pe_lc (own := [("thing", 2)]) (g := gName 2) rfl scOutside.nd (pi_range2 (by rfl) T.zRange (pa_cons pe_int (pa_cons (pe_op op_add (pv 0) pe_int) pa_nil)))
      (blkOk_by (N := ["things", "chosen", "thing"]) (sc := defScope sOutside) (by decide +kernel)) (fun _ _ _ _ _ => pg_name (i := 2) scOutside.nd rfl (Or.inl rfl))
      (fun _ _ _ _ _ => pts_one (pt_cmpR op_ne (pe_call GW hr (by rfl) gW FW.kp bW .nil pass0 (pa_cons (pv 1) (pa_cons (pv 2) pa_nil))) (pv 1) (nomark _)))
      (fun _ _ _ _ _ => pv 2))), ?_⟩
    refine ⟨nI n, rfl, (n : Int), 1, rfl, rfl, 1, (n : Int) + 1, rfl, ⟨by omega, by omega, by omega, by omega⟩, fun D hD => lc_range (lo := 1) (n := ((n : Int) + 1 - 1).toNat) (fun i H' => H' = upd H D (.lst (vn ((((List.range n).map fun i => i + 1).take i).filter fun i => !Dr01.has z i)))) rfl ?_ ?_⟩
    · rintro i H' hi rfl
      have hi' : i < n := by omega
      have ei : (1 : Int) + (i : Int) = ((i + 1 : Nat) : Int) := by omega
      rw [ei]
      refine ⟨rfl, nI z, rfl, nI (i + 1), rfl, z, i + 1, rfl, hz, by omega, by omega, nI z, rfl, rfl, _, rfl, ite2 (fun e => ?_) (fun e => ?_)⟩
      · have e1 : Dr01.has z (i + 1) = false := with_ne.mp fun q => by
          rw [q] at e
          simp at e
        refine ⟨nI (i + 1), rfl, _, upd_same, ?_, ?_⟩
        · rw [List.length_map]
          refine small32 (Nat.le_trans (List.length_filter_le _ _) ?_)
          rw [List.length_take]
          omega
        · rw [upd_upd, range_take_filter hi', e1]
          simp
      · have e1 : Dr01.has z (i + 1) = true := by
          cases q : Dr01.has z (i + 1) with
          | true => rfl
          | false =>
            exact absurd (by simpa [nI_iff] using with_ne.mpr q) e
        show upd H D _ = upd H D _
        rw [range_take_filter hi', e1]
        simp
    · rintro H' rfl
      refine k _ D (Same.new hD) hD ?_
      rw [upd_same]
      have e : ((n : Int) + 1 - 1).toNat = n := by omega
      rw [e, List.take_of_length_le (by simp)]
      rfl
/-! ### brings -/
def spBrings (K : PySem.W.Frag) : Sp := fun vs H Q _ => ∃ (a : Addr) (f : Dr01.Fun) (s i : Nat), vs = [.ref a, nI s, nI i] ∧ SqL K H a (vi f.vals) ∧ Good f ∧ s < 2 ^ f.many ∧ 1 ≤ i ∧ i ≤ f.many ∧ Q (.int (Dr01.brings f s i)) H
theorem scBrings : FnScope ["function", "chosen", "thing"] ["function", "chosen", "thing"] (defScope sBrings) := ⟨rfl, rfl, rfl, by decide +kernel, rfl, by decide +kernel, by decide +kernel⟩
theorem vals_at {f : Dr01.Fun} (g : Good f) {s : Nat} (h : s < 2 ^ f.many) : (vi f.vals)[s]? = some (.int (Dr01.val f s)) := by
  rw [List.getElem?_map, val_at g h]
  rfl
theorem ok_brings {f fW : Addr} {fd fdW : FuncData} (T : Txt K mg C aS) (F : Fun K "brings" "brings" sBrings f fd)
    (FW : Fun K "with_thing" "with_thing" sWith fW fdW) (bW : Binds K fdW ["chosen", "thing"] []) (gW : mg "with_thing" = some (.ref fW)) : FnOk P w K mg base CX0 2 f fd ["function", "chosen", "thing"] (spBrings K) := by
  have GW : FnOk P w K mg base CX0 1 fW fdW ["chosen", "thing"] spWith := ok_with T FW
  refine F.ok scBrings (fun vs H Q E h => ?_) (fun cdv A outer s H vs Q E hr h => ?_)
  · obtain ⟨a, f, s, i, rfl, _⟩ := h
    rfl
  · obtain ⟨a, f, z, i, rfl, hL, g, hz, h1, h2, k⟩ := h
    refine ⟨_, pss_one (ps_ret (pe_op op_sub (pe_ix ix_list (pv 0) (pe_call GW hr (by rfl) gW FW.kp bW .nil pass0 (pa_cons (pv 1) (pa_cons (pv 2) pa_nil))) (fun _ _ => rfl)) (pe_ix ix_list (pv 0) (pv 1) (fun _ _ => rfl)))), ?_⟩
    have hi := g.hi
    have z32 : z < 32 := Nat.lt_of_lt_of_le hz (pow_le hi)
    refine ⟨.ref a, rfl, nI z, rfl, nI i, rfl, z, i, rfl, z32, h1, by omega, a, _, _, _, rfl, rfl, hL, atI_nat (vals_at g (with_lt hi hz h1 h2)), .ref a, rfl, nI z, rfl, a, _, _, _, rfl, rfl, hL, atI_nat (vals_at g hz), _, _, rfl, rfl, k⟩
end
end Sf
namespace Sf
open PySem PySem.Spec PyProof.Rows L2
/-! ### the two functions in the heap -/
def pF (n : Nat) (f1 f2 : Addr) : List (Str × V) := [("things", nI n), ("first", .ref f1), ("second", .ref f2)]
structure PairAt (C : Addr) (H : Hp) (a f1 f2 : Addr) (d : Dr01.Desk) : Prop where
  obj : ∃ dx, H a = some (.ins C dx (pF d.one.many f1 f2))
  l1 : H f1 = some (.lst (vi d.one.vals))
  l2 : H f2 = some (.lst (vi d.two.vals))
  ne : f1 ≠ f2
  good : GoodD d
/-- all that was tracked outside S is as it was, and outside S' -/
def Moved (H H' : Hp) (S S' : List Addr) : Prop := ∀ b o, H b = some o → b ∉ S → H' b = some o ∧ b ∉ S'
theorem Moved.trans {H H1 H2 : Hp} {S S1 S2 : List Addr} (m : Moved H H1 S S1) (n : Moved H1 H2 S1 S2) : Moved H H2 S S2 := fun b o e h => let ⟨e1, h1⟩ := m b o e h; n b o e1 h1
theorem Moved.of_same {H H' : Hp} {S : List Addr} (m : Same H H') : Moved H H' S S := fun b o e h => ⟨m b o e, h⟩
theorem Moved.add {H H' : Hp} {S : List Addr} {q : Addr} (m : Same H H') (n : H q = none) : Moved H H' S (q :: S) := fun b o e h => ⟨m b o e, fun z => by
  rcases List.mem_cons.mp z with rfl | z
  · rw [n] at e
    cases e
  · exact h z⟩
theorem Moved.put {H : Hp} {S : List Addr} {q : Addr} {o : HO} (h : q ∈ S) : Moved H (upd H q o) S S := fun b u e hb => by
  have hq : b ≠ q := fun z => hb (by rw [z]; exact h)
  refine ⟨?_, hb⟩
  rw [upd_ne hq]
  exact e
theorem Moved.less {H H' : Hp} {S S1 S2 : List Addr} (m : Moved H H' S S1) (h : ∀ x ∈ S2, x ∈ S1) : Moved H H' S S2 := fun b o e hb => let ⟨e1, h1⟩ := m b o e hb; ⟨e1, fun z => h1 (h b z)⟩
theorem Moved.more {H H' : Hp} {S S1 S2 : List Addr} (m : Moved H H' S S1) (h : ∀ x ∈ S, x ∈ S2) : Moved H H' S2 S1 := fun b o e hb => m b o e fun z => hb (h b z)
theorem Moved.seq {K : PySem.W.Frag} {H H' : Hp} {S S' : List Addr} {a : Addr} {xs : List V} (m : Moved H H' S S') (ha : a ∉ S) (h : SqL K H a xs) : SqL K H' a xs := by
  rcases h with (h | ⟨o, h⟩) | h
  · exact .inl (.inl (m _ _ h ha).1)
  · exact .inl (.inr ⟨o, (m _ _ h ha).1⟩)
  · exact .inr h
theorem PairAt.same {C : Addr} {H H' : Hp} {a f1 f2 : Addr} {d : Dr01.Desk} (p : PairAt C H a f1 f2 d) (m : Same H H') : PairAt C H' a f1 f2 d := ⟨let ⟨dx, e⟩ := p.obj; ⟨dx, m _ _ e⟩, m _ _ p.l1, m _ _ p.l2, p.ne, p.good⟩
theorem PairAt.n1 {C : Addr} {H : Hp} {a f1 f2 : Addr} {d : Dr01.Desk} (p : PairAt C H a f1 f2 d) : a ≠ f1 := fun z => by
  obtain ⟨dx, e⟩ := p.obj
  rw [z, p.l1] at e
  cases e
theorem PairAt.n2 {C : Addr} {H : Hp} {a f1 f2 : Addr} {d : Dr01.Desk} (p : PairAt C H a f1 f2 d) : a ≠ f2 := fun z => by
  obtain ⟨dx, e⟩ := p.obj
  rw [z, p.l2] at e
  cases e
/-! ### fields -/
theorem lk_here {k : Str} {v : V} {r : List (Str × V)} : List.lookup k ((k, v) :: r) = some v := by
  have e : (k == k) = true := beq_self_eq_true k
  simp only [List.lookup, e]
theorem lk_past {k g : Str} {v : V} {r : List (Str × V)} (h : (k == g) = false) : List.lookup k ((g, v) :: r) = List.lookup k r := by
  simp only [List.lookup, h]
theorem put_here {f : Str} {v x : V} {r : List (Str × V)} : putF f v ((f, x) :: r) = (f, v) :: r := if_pos rfl
theorem put_past {f g : Str} {v x : V} {r : List (Str × V)} (h : ¬ g = f) : putF f v ((g, x) :: r) = (g, x) :: putF f v r := if_neg h
theorem pF_things (n : Nat) (f1 f2 : Addr) : (pF n f1 f2).lookup ("things" : Str) = some (nI n) := lk_here
theorem pF_first (n : Nat) (f1 f2 : Addr) : (pF n f1 f2).lookup ("first" : Str) = some (.ref f1) := (lk_past (by decide +kernel)).trans lk_here
theorem pF_second (n : Nat) (f1 f2 : Addr) : (pF n f1 f2).lookup ("second" : Str) = some (.ref f2) := (lk_past (by decide +kernel)).trans ((lk_past (by decide +kernel)).trans lk_here)
theorem pF_meth {m : Str} (h1 : (m == ("things" : Str)) = false) (h2 : (m == ("first" : Str)) = false) (h3 : (m == ("second" : Str)) = false) (n : Nat) (f1 f2 : Addr) : (pF n f1 f2).lookup m = none := (lk_past h1).trans ((lk_past h2).trans ((lk_past h3).trans rfl))
theorem pF_putT (n m : Nat) (f1 f2 : Addr) : putF "things" (nI m) (pF n f1 f2) = pF m f1 f2 := put_here
theorem pF_putF (n : Nat) (f1 f2 q : Addr) : putF "first" (.ref q) (pF n f1 f2) = pF n q f2 := (put_past (by decide +kernel)).trans (congrArg _ put_here)
theorem pF_putS (n : Nat) (f1 f2 q : Addr) : putF "second" (.ref q) (pF n f1 f2) = pF n f1 q := (put_past (by decide +kernel)).trans (congrArg _ ((put_past (by decide +kernel)).trans (congrArg _ put_here)))
theorem pF_new (n : Nat) (f1 f2 : Addr) : putF "second" (.ref f2) (putF "first" (.ref f1) (putF "things" (nI n) [])) = pF n f1 f2 := by
  show putF "second" (.ref f2) (putF "first" (.ref f1) [("things", nI n)]) = _
  rw [put_past (by decide +kernel)]
  show putF "second" (.ref f2) [("things", nI n), ("first", .ref f1)] = _
  rw [put_past (by decide +kernel), put_past (by decide +kernel)]
  rfl
section
variable {P : Program} {w : World} {K : PySem.W.Frag} {mg : Str → Option Value} {base : Heap} {C aS : Addr}
/-! ### __init__ -/
def spInit (C : Addr) : Sp := fun vs H Q _ => ∃ (p dx : Addr), vs = [.ref p] ∧ H p = some (.ins C dx []) ∧
  ∀ (H' : Hp) (f1 f2 : Addr), PairAt C H' p f1 f2 Dr01.init → (∀ b o, H b = some o → b ≠ p → H' b = some o) → H f1 = none → H f2 = none → Q .non H'
theorem scInit : FnScope ["self"] ["self"] (defScope sInit) := ⟨rfl, rfl, rfl, by decide +kernel, rfl, by decide +kernel, by decide +kernel⟩
theorem ok_init {f : Addr} {fd : FuncData} (T : Txt K mg C aS) (F : Fun K "__init__" "Pair.__init__" sInit f fd) : FnOk P w K mg base CX0 1 f fd ["self"] (spInit C) := by
  refine F.ok scInit (fun vs H Q E h => ?_) (fun cdv A outer s H vs Q E hr h => ?_)
  · obtain ⟨p, dx, rfl, _⟩ := h
    rfl
  · obtain ⟨p, dx, rfl, hp, k⟩ := h
    refine ⟨_, pss_cons (ps_fld (pv 0) pe_int rfl) (pss_cons (ps_fld (pv 0) (pe_lst (pa_cons pe_int (pa_cons pe_int pa_nil))) rfl) (pss_one (ps_fld (pv 0) (pe_lst (pa_cons pe_int (pa_cons pe_int pa_nil))) rfl))), ?_⟩
    refine ⟨_, rfl, p, C, dx, [], rfl, hp, T.cl, T.nT, (by show 0 < 1000; decide), ?_⟩
    refine ⟨(by show 2 ≤ sizeLine; decide), fun f1 h1 => ?_⟩
    have n1 : p ≠ f1 := fun z => by
      rw [← z, upd_same] at h1
      cases h1
    rw [upd_ne n1.symm] at h1
    refine ⟨_, rfl, p, C, dx, _, rfl, (upd_ne n1).trans upd_same, T.cl, T.nF, (by show 1 < 1000; decide), ?_⟩
    refine ⟨(by show 2 ≤ sizeLine; decide), fun f2 h2 => ?_⟩
    have n2 : p ≠ f2 := fun z => by
      rw [← z, upd_same] at h2
      cases h2
    rw [upd_ne n2.symm] at h2
    have n3 : f1 ≠ f2 := fun z => by
      rw [← z, upd_same] at h2
      cases h2
    rw [upd_ne n3.symm, upd_ne n2.symm] at h2
    refine ⟨_, rfl, p, C, dx, _, rfl, (upd_ne n2).trans upd_same, T.cl, T.nS, (by show 2 < 1000; decide), ?_⟩
    refine k _ f1 f2 ⟨⟨dx, ?_⟩, ?_, ?_, n3, good_init⟩ ?_ h1 h2
    · rw [upd_same]
      exact congrArg (fun q => some (HO.ins C dx q)) (pF_new 1 f1 f2)
    · rw [upd_ne n1.symm, upd_ne n3, upd_ne n1.symm, upd_same]
      rfl
    · rw [upd_ne n2.symm, upd_same]
      rfl
    · intro b o e hb
      have b1 : b ≠ f1 := fun z => by
        rw [z, h1] at e
        cases e
      have b2 : b ≠ f2 := fun z => by
        rw [z, h2] at e
        cases e
      rw [upd_ne hb, upd_ne b2, upd_ne hb, upd_ne b1, upd_ne hb]
      exact e
end
end Sf
namespace Sf
open PySem PySem.Spec PyProof.Rows L2
theorem rep_zero : ∀ n : Nat, (List.replicate n (vi [0])).flatten = vi (List.replicate n 0)
  | 0 => rfl
  | n + 1 => by
    rw [List.replicate_succ, List.flatten_cons, rep_zero n]
    rfl
section
variable {P : Program} {w : World} {K : PySem.W.Frag} {mg : Str → Option Value} {base : Heap} {C aS : Addr}
/-! ### put_first -/
def spPut (C : Addr) : Sp := fun vs H Q _ => ∃ (a f1 f2 q : Addr) (d : Dr01.Desk) (n : Nat) (l : List Int), vs = [.ref a, nI n, .ref q] ∧ PairAt C H a f1 f2 d ∧ H q = some (.lst (vi l)) ∧ q ∉ [a, f1, f2] ∧
  1 ≤ n ∧ n ≤ 5 ∧ l.length = 2 ^ n ∧
  ∀ (H' : Hp) (g2 : Addr), PairAt C H' a q g2 ⟨⟨n, l⟩, second d n⟩ → Moved H H' [q, a, f1, f2] [a, q, g2] → Q .non H'
theorem scPut : FnScope ["self", "things", "function"] ["self", "things", "function"] (defScope sPut) := ⟨rfl, rfl, rfl, by decide +kernel, rfl, by decide +kernel, by decide +kernel⟩
theorem ok_put {f : Addr} {fd : FuncData} (T : Txt K mg C aS) (F : Fun K "put_first" "Pair.put_first" sPut f fd) : FnOk P w K mg base CX0 1 f fd ["self", "things", "function"] (spPut C) := by
  refine F.ok scPut (fun vs H Q E h => ?_) (fun cdv A outer s H vs Q E hr h => ?_)
  · obtain ⟨a, f1, f2, q, d, n, l, rfl, _⟩ := h
    rfl
  · obtain ⟨a, f1, f2, q, d, n, l, rfl, p, hq, qn, h1, h5, hl, k⟩ := h
    refine ⟨_, pss_cons (ps_if (pt_cmpR op_ne (pv 1) (pe_fld (pv 0) rfl) (nomark _)) (pss_one (ps_fld (pv 0) (pe_op op_rep (pe_lst (pa_cons pe_int pa_nil)) (pe_ix ix_tup (pe_glob (v := .ref aS) rfl T.gS rfl) (pv 1) (fun _ _ => rfl))) rfl)) pss_nil)
      (pss_cons (ps_fld (pv 0) (pv 1) rfl) (pss_one (ps_fld (pv 0) (pv 2) rfl))), ?_⟩
    obtain ⟨dx, ho⟩ := p.obj
    have g1 : Good ⟨n, l⟩ := ⟨h1, h5, hl⟩
    have g2 : Good (second d n) := good_second p.good h1 h5
    have qa : q ≠ a := fun z => qn (by rw [z]; simp)
    have q1 : q ≠ f1 := fun z => qn (by rw [z]; simp)
    have q2 : q ≠ f2 := fun z => qn (by rw [z]; simp)
    refine ⟨nI n, rfl, .ref a, rfl, a, C, dx, _, _, rfl, ho, T.cl, T.nT, pF_things _ _ _, rfl, _, rfl, ite2 (fun e => ?_) (fun e => ?_)⟩
    · have e1 : ¬ d.two.many = n := fun z => by
        rw [p.good.eq] at z
        rw [z] at e
        simp at e
      have es : second d n = Dr01.zero n := if_neg e1
      refine ⟨(by show 1 ≤ sizeLine; decide), fun t ht => ?_⟩
      refine ⟨nI n, rfl, aS, _, (n : Int), _, rfl, rfl, T.sS _, at_of (j := n) rfl (pow_at h5), t, _, _, rfl, rfl, upd_same, by have := pow_le h5; omega, by have := pow_le h5; omega, ?_, fun b hb => ?_⟩
      · rw [Int.toNat_natCast]
        show 1 * 2 ^ n ≤ sizeLine
        exact small32' (by have := pow_le h5; omega)
      have nt : a ≠ t := fun z => by
        rw [← z, ho] at ht
        cases ht
      have nb : a ≠ b := fun z => by
        rw [← z, upd_ne nt, ho] at hb
        cases hb
      have tb : t ≠ b := fun z => by
        rw [← z, upd_same] at hb
        cases hb
      rw [upd_ne tb.symm] at hb
      have qt : q ≠ t := fun z => by
        rw [← z, hq] at ht
        cases ht
      have qb : q ≠ b := fun z => by
        rw [← z, hq] at hb
        cases hb
      refine ⟨_, rfl, a, C, dx, _, rfl, (upd_ne nb).trans ((upd_ne nt).trans ho), T.cl, T.nS, (by show 3 < 1000; decide), ?_⟩
      rw [pF_putS]
      refine ⟨nI n, rfl, _, rfl, a, C, dx, _, rfl, upd_same, T.cl, T.nT, (by show 3 < 1000; decide), ?_⟩
      rw [pF_putT]
      refine ⟨.ref q, rfl, _, rfl, a, C, dx, _, rfl, upd_same, T.cl, T.nF, (by show 3 < 1000; decide), ?_⟩
      rw [pF_putF]
      refine k _ b ⟨⟨dx, upd_same⟩, ?_, ?_, qb, ⟨g1, g2, second_many d n⟩⟩ ?_
      · rw [upd_ne qa, upd_ne qa, upd_ne qa, upd_ne qb, upd_ne qt]
        exact hq
      · rw [upd_ne nb.symm, upd_ne nb.symm, upd_ne nb.symm, upd_same, Int.toNat_natCast, es]
        exact congrArg (fun x => some (HO.lst x)) (rep_zero (2 ^ n))
      · intro c o ec hc
        have ca : c ≠ a := fun z => hc (by rw [z]; simp)
        have cq : c ≠ q := fun z => hc (by rw [z]; simp)
        have cb : c ≠ b := fun z => by
          rw [z, hb] at ec
          cases ec
        have ct : c ≠ t := fun z => by
          rw [z, ht] at ec
          cases ec
        refine ⟨?_, by simp [ca, cq, cb]⟩
        rw [upd_ne ca, upd_ne ca, upd_ne ca, upd_ne cb, upd_ne ct]
        exact ec
    · have e1 : d.two.many = n := by
        rw [p.good.eq]
        simp only [Bool.not_eq_true, Bool.not_eq_false', decide_eq_true_eq, nI_iff] at e
        exact e.symm
      have es : second d n = d.two := if_pos e1
      refine ⟨nI n, rfl, _, rfl, a, C, dx, _, rfl, ho, T.cl, T.nT, (by show 3 < 1000; decide), ?_⟩
      rw [pF_putT]
      refine ⟨.ref q, rfl, _, rfl, a, C, dx, _, rfl, upd_same, T.cl, T.nF, (by show 3 < 1000; decide), ?_⟩
      rw [pF_putF]
      refine k _ f2 ⟨⟨dx, upd_same⟩, ?_, ?_, q2, ⟨g1, g2, second_many d n⟩⟩ ?_
      · rw [upd_ne qa, upd_ne qa]
        exact hq
      · rw [upd_ne p.n2.symm, upd_ne p.n2.symm, es]
        exact p.l2
      · intro c o ec hc
        have ca : c ≠ a := fun z => hc (by rw [z]; simp)
        have cq : c ≠ q := fun z => hc (by rw [z]; simp)
        have c2 : c ≠ f2 := fun z => hc (by rw [z]; simp)
        refine ⟨?_, by simp [ca, cq, c2]⟩
        rw [upd_ne ca, upd_ne ca]
        exact ec
/-! ### told -/
def spTold (C : Addr) : Sp := fun vs H Q _ => ∃ (a f1 f2 : Addr) (d : Dr01.Desk), vs = [.ref a] ∧ PairAt C H a f1 f2 d ∧
  ∀ (H' : Hp) (p : Addr), Same H H' → H p = none → H' p = some (.lst (vi (Dr01.shown d.one))) → Q (.ref p) H'
theorem scTold : FnScope ["self"] ["self"] (defScope sTold) := ⟨rfl, rfl, rfl, by decide +kernel, rfl, by decide +kernel, by decide +kernel⟩
theorem ok_told {f : Addr} {fd : FuncData} (T : Txt K mg C aS) (F : Fun K "told" "Pair.told" sTold f fd) : FnOk P w K mg base CX0 1 f fd ["self"] (spTold C) := by
  refine F.ok scTold (fun vs H Q E h => ?_) (fun cdv A outer s H vs Q E hr h => ?_)
  · obtain ⟨a, f1, f2, d, rfl, _⟩ := h
    rfl
  · obtain ⟨a, f1, f2, d, rfl, p, k⟩ := h
    refine ⟨_, pss_one (ps_ret (pe_op op_cat (pe_lst (pa_cons (pe_fld (pv 0) rfl) pa_nil)) (pe_fld (pv 0) rfl))), ?_⟩
    obtain ⟨dx, ho⟩ := p.obj
    refine ⟨.ref a, rfl, a, C, dx, _, _, rfl, ho, T.cl, T.nT, pF_things _ _ _, (by show 1 ≤ sizeLine; decide), fun t ht => ?_⟩
    have s1 : Same H (upd H t (.lst [nI d.one.many])) := Same.new ht
    refine ⟨.ref a, rfl, a, C, dx, _, _, rfl, s1 _ _ ho, T.cl, T.nF, pF_first _ _ _, t, f1, _, _, rfl, rfl, upd_same, s1 _ _ p.l1, ?_, fun b hb => ?_⟩
    · rw [List.length_map, p.good.one.len]
      show 1 + 2 ^ d.one.many ≤ sizeLine
      exact small32' (by have := pow_le p.good.one.hi; omega)
    · exact k _ b (s1.trans (Same.new hb)) (s1.free hb) upd_same
end
end Sf
namespace Sf
open PySem PySem.Spec PyProof.Rows L2
/-! ### a written dict with int keys: d.get(k, x) -/
def KDictV (K : PySem.W.Frag) (d : Addr) (g : Int → Option V) : Prop := ∃ (es : Array DictEntry) (n : Nat), K.lookup d = some ⟨.type "dict", none, .dict es n, #[]⟩ ∧ (d == sysModules) = false ∧
  (∀ e ∈ es.toList, ∃ i t, e.key = Value.int i t ∧ e.hash = hashInt i) ∧ ∀ i : Int, RelO (g i) (findBy keyIs es (.inl i))
theorem KDictV.map {K : PySem.W.Frag} {P : Program} {w : World} {h : Heap} {d : Addr} {g : Int → Option V} (D : KDictV K d g) (X : K.In h) :
    ∃ m : Key → Option Value, h.MapOf (mixKind P w) d m ∧ ∀ i : Int, RelO (g i) (m (.inl i)) := by
  obtain ⟨es, n, hl, _, hk, hg⟩ := D
  refine ⟨fun k => findBy keyIs es k, ⟨_, es, n, X _ _ hl, ⟨rfl, rfl, rfl⟩, rfl, fun e he => ?_, fun _ => rfl⟩, hg⟩
  obtain ⟨i, t, e1, e2⟩ := hk e (Array.mem_toList_iff.mpr he)
  refine ⟨.inl i, ?_, e2⟩
  rw [e1]
  exact mixKind_int P w i t
def tKGet2 (K : PySem.W.Frag) (td ty tx : TE) : TE := fun σ H Q => td σ H fun x H1 => ∃ a g, x = .ref a ∧ KDictV K a g ∧ ty σ H1 fun y H2 => tx σ H2 fun z H3 => ∃ i, y = .int i ∧ Q ((g i).getD z) H3
theorem pe_kget2 {X : Cx} {o e f : Expr} {apos cpos : Pos} {td ty tx : TE} (ho : PE X o td) (he : PE X e ty) (hf : PE X f tx) (m : M2 X o "get" apos e f cpos) : PE X (.Call (.Attribute o "get" apos) [e, f] [] cpos) (tKGet2 X.K td ty tx) := by
  refine ⟨fun pins s σ H Q I h => ?_⟩
  refine wpAny_Call_method m.base m.few m.line PySem.F.plainAttrs_dict PySem.F.slot_dict_get PySem.F.type_dict_get (thn (ho.run pins s σ H _ I h) fun u s1 ⟨x, H1, I1, rx, a, g, ex, d, q1⟩ => ?_)
  subst ex
  obtain rfl : u = Value.ref a := rx
  obtain ⟨mm, hm, hg⟩ := d.map (P := X.prog) (w := X.w) I1.kIn
  refine ⟨hm.typeIs, hm.noDict, ?_⟩
  rw [m.trees]
  refine Calls.callWith_builtin rfl (Calls.evalArgs_plain (Calls.spliced_cons (thn (he.run pins s1 σ H1 _ I1 q1) fun iv s2 ⟨y, H2, I2, ry, q2⟩ =>
    Calls.spliced_cons (thn (hf.run pins s2 σ H2 _ I2 q2) fun fv s3 ⟨z, H3, I3, rz, i, ey, q3⟩ => Calls.spliced_nil ?_))))
  subst ey
  obtain ⟨mm3, hm3, hg3⟩ := d.map (P := X.prog) (w := X.w) I3.kIn
  obtain ⟨_, _, _, low, _⟩ := d
  refine call_meetsIn PySem.F.slot_dict_get hm3.typeIs PySem.F.entry_dict_get (PySem.F.args_dict_get_3 _ _ _) (meets_dict_get_default (mixKind X.prog X.w) a (kV_is (k := .inl i) ry) low fv) ⟨_, hm3, ⟨_, H3, I3.tok _, (hg3 i).getD rz, q3⟩⟩
/-- the table of the program: how many things so many sets are of -/
def tThings (i : Int) : Option V := if i = 2 then some (.int 1) else if i = 4 then some (.int 2) else if i = 8 then some (.int 3) else if i = 16 then some (.int 4) else if i = 32 then some (.int 5) else none
theorem tThings_nat (m : Nat) : (tThings (m : Int)).getD (.int 0) = nI (thingsOf m) := by
  unfold tThings thingsOf
  by_cases h2 : m = 2
  · subst h2; rfl
  by_cases h4 : m = 4
  · subst h4; rfl
  by_cases h8 : m = 8
  · subst h8; rfl
  by_cases h16 : m = 16
  · subst h16; rfl
  by_cases h32 : m = 32
  · subst h32; rfl
  rw [if_neg h2, if_neg h4, if_neg h8, if_neg h16, if_neg h32, if_neg (by omega), if_neg (by omega), if_neg (by omega), if_neg (by omega), if_neg (by omega)]
  rfl
theorem things_dict {K : PySem.W.Frag} {d : Addr} {n : Nat} {t1 t2 t3 t4 t5 u1 u2 u3 u4 u5 : Tok} (hl : K.lookup d = some ⟨.type "dict", none, .dict #[⟨2, .int 2 t1, .int 1 u1⟩, ⟨4, .int 4 t2, .int 2 u2⟩, ⟨8, .int 8 t3, .int 3 u3⟩, ⟨16, .int 16 t4, .int 4 u4⟩, ⟨32, .int 32 t5, .int 5 u5⟩] n, #[]⟩)
    (low : (d == sysModules) = false) : KDictV K d tThings := by
  refine ⟨_, n, hl, low, ?_, fun i => ?_⟩
  · intro e he
    simp only [List.mem_cons, List.mem_nil_iff, or_false] at he
    rcases he with rfl | rfl | rfl | rfl | rfl
    · exact ⟨2, t1, rfl, (by show (2 : Int) = hashInt 2; decide +kernel)⟩
    · exact ⟨4, t2, rfl, (by show (4 : Int) = hashInt 4; decide +kernel)⟩
    · exact ⟨8, t3, rfl, (by show (8 : Int) = hashInt 8; decide +kernel)⟩
    · exact ⟨16, t4, rfl, (by show (16 : Int) = hashInt 16; decide +kernel)⟩
    · exact ⟨32, t5, rfl, (by show (32 : Int) = hashInt 32; decide +kernel)⟩
  · unfold tThings findBy
    rw [List.find?_toArray]
    by_cases h2 : i = 2
    · subst h2; exact ⟨u1, rfl⟩
    by_cases h4 : i = 4
    · subst h4; exact ⟨u2, rfl⟩
    by_cases h8 : i = 8
    · subst h8; exact ⟨u3, rfl⟩
    by_cases h16 : i = 16
    · subst h16; exact ⟨u4, rfl⟩
    by_cases h32 : i = 32
    · subst h32; exact ⟨u5, rfl⟩
    rw [if_neg h2, if_neg h4, if_neg h8, if_neg h16, if_neg h32]
    have e : List.find? (fun e : DictEntry => keyIs (.inl i) e.key) [⟨2, .int 2 t1, .int 1 u1⟩, ⟨4, .int 4 t2, .int 2 u2⟩, ⟨8, .int 8 t3, .int 3 u3⟩, ⟨16, .int 16 t4, .int 4 u4⟩, ⟨32, .int 32 t5, .int 5 u5⟩] = none := by
      rw [List.find?_eq_none]
      intro e he
      simp only [List.mem_cons, List.mem_nil_iff, or_false] at he
      rcases he with rfl | rfl | rfl | rfl | rfl <;> simp only [keyIs, Value.isInt] <;> simp <;> omega
    rw [e]
    trivial
end Sf
namespace Sf
open PySem PySem.Spec PyProof.Rows L2
theorem vn_vi (l : List Nat) : vn l = vi (Dr01.ints l) := by
  unfold vn vi Dr01.ints
  rw [List.map_map]
  rfl
theorem vi_app (a b : List Int) : vi (a ++ b) = vi a ++ vi b := List.map_append
theorem vn_app (a b : List Nat) : vn (a ++ b) = vn a ++ vn b := List.map_append
theorem vn_at {l : List Nat} {i z : Nat} (h : l[i]? = some z) : (vn l)[i]? = some (nI z) := by
  rw [List.getElem?_map, h]
  rfl
theorem vn_get {l : List Nat} {i : Nat} {x : V} (h : (vn l)[i]? = some x) : ∃ z, l[i]? = some z ∧ x = nI z := by
  rw [List.getElem?_map] at h
  cases e : l[i]? with
  | none =>
    rw [e] at h
    cases h
  | some z =>
    rw [e] at h
    exact ⟨z, rfl, (Option.some.inj h).symm⟩
theorem yes_of {σ : L2.St} {H : Hp} {Q : Bool → Hp → Prop} (h : Q true H) : tYes σ H Q := h
/-- what a call leaves: the desk as the specification says, the answer in a list of its own -/
def Post (C : Addr) (H : Hp) (a f1 f2 : Addr) (r : Dr01.Desk × List Int) (Q : VK) : Prop :=
  ∀ (H' : Hp) (g1 g2 p : Addr), PairAt C H' a g1 g2 r.1 → Moved H H' [a, f1, f2] [p, a, g1, g2] → H' p = some (.lst (vi r.2)) → Q (.ref p) H'
/-- nothing is changed: a new list -/
theorem Post.new {C : Addr} {H : Hp} {a f1 f2 : Addr} {d : Dr01.Desk} {l : List Int} {Q : VK} (k : Post C H a f1 f2 (d, l) Q) (p : PairAt C H a f1 f2 d) {H' : Hp} {b : Addr} (m : Same H H') (hb : H b = none) (e : H' b = some (.lst (vi l))) : Q (.ref b) H' :=
  k H' f1 f2 b (p.same m) (Moved.add m hb) e
theorem Post.no {C : Addr} {H : Hp} {a f1 f2 : Addr} {d : Dr01.Desk} {r : Dr01.Desk × List Int} {Q : VK} (k : Post C H a f1 f2 r Q) (e : r = (d, [-1])) (p : PairAt C H a f1 f2 d) {H' : Hp} (m : Same H H') {b : Addr} (hb : H' b = none) : Q (.ref b) (upd H' b (.lst [.int (-1)])) := by
  subst e
  exact k.new p (m.trans (Same.new hb)) (m.free hb) upd_same
section
variable {P : Program} {w : World} {K : PySem.W.Frag} {mg : Str → Option Value} {base : Heap} {C aS aT : Addr}
/-! ### tell -/
def spTell (C : Addr) (K : PySem.W.Frag) : Sp := fun vs H Q _ => ∃ (a f1 f2 b : Addr) (d : Dr01.Desk) (l : List Nat), vs = [.ref a, .ref b] ∧ PairAt C H a f1 f2 d ∧ SqL K H b (vn l) ∧ Post C H a f1 f2 (Dr01.step d (.tell l)) Q
theorem scTell : FnScope ["pair", "handed", "things", "number"] ["pair", "handed"] (defScope sTell) := ⟨rfl, rfl, rfl, by decide +kernel, rfl, by decide +kernel, by decide +kernel⟩
theorem ok_tell {f fW fP : Addr} {fd fdW fdP : FuncData} (T : Txt K mg C aS) (gT : mg "THINGS_OF" = some (.ref aT)) (dT : KDictV K aT tThings) (F : Fun K "tell" "tell" sTell f fd)
    (FW : Fun K "whole_number" "whole_number" sWhole fW fdW) (bW : Binds K fdW ["handed"] []) (gW : mg "whole_number" = some (.ref fW))
    (FP : Fun K "put_first" "Pair.put_first" sPut fP fdP) (bP : Binds K fdP ["self", "things", "function"] []) (mP : Meth K C "put_first" fP) : FnOk P w K mg base CX0 2 f fd ["pair", "handed"] (spTell C K) := by
  have GW : FnOk P w K mg base CX0 1 fW fdW ["handed"] spWhole := ok_whole FW
  have GP : FnOk P w K mg base CX0 1 fP fdP ["self", "things", "function"] (spPut C) := ok_put T FP
  refine F.ok scTell (fun vs H Q E h => ?_) (fun cdv A outer s H vs Q E hr h => ?_)
  · obtain ⟨a, f1, f2, b, d, l, rfl, _⟩ := h
    rfl
  · obtain ⟨a, f1, f2, b, d, l, rfl, p, hL, k⟩ := h
    obtain ⟨uR, gR, rR⟩ := T.cRefused
    obtain ⟨uM, gM, rM⟩ := T.cHanded
    refine ⟨_, pss_cons (ps_set (i := 2) scTell.nd rfl (.inl rfl) (pe_kget2 (pe_glob (v := .ref aT) rfl gT rfl) (pe_callB call_len_seq (by rfl) T.zLen PySem.boot_len (pa_cons (pv 1) pa_nil)) pe_int ⟨rfl, rfl, rfl, rfl⟩))
      (pss_cons (ps_if (PW.pt (pw_or (pt_cmpR op_eq (pv 2) pe_int (nomark _)) (pw_or1 (pt_cmpR op_gt (pe_callB (cr_max rfl) (by rfl) T.zMax (by decide +kernel) (pa_cons (pv 1) pa_nil)) (pe_glob (v := .int 20000) rfl gM rM) (nomark _)))))
        (pss_one (ps_ret (pe_lst (pa_cons (pe_glob (v := .int (-1)) rfl gR rR) pa_nil)))) pss_nil)
      (pss_cons (ps_expr (pe_meth (pv 0) T.cl mP GP hr bP .nil pass0 (pa_cons (pv 2) (pa_cons
          (pe_lc (own := [("number", 3)]) (g := gName 3) (tt := tYes) rfl scTell.nd (pi_list (pv 1)) (blkOk_by (N := ["pair", "handed", "things", "number"]) (sc := defScope sTell) (by decide +kernel))
            (fun _ _ _ _ _ => pg_name (i := 3) scTell.nd rfl (Or.inl rfl)) (fun _ _ _ _ _ => pts_nil)
            (fun _ _ _ _ _ => pe_call GW hr (by rfl) gW FW.kp bW .nil pass0 (pa_cons (pv 3) pa_nil))) pa_nil))))
      (pss_one (ps_ret (pe_lst (pa_cons (pv 2) pa_nil)))))), ?_⟩
    refine ⟨aT, _, rfl, dT, .ref b, rfl, b, _, rfl, .inl hL, (l.length : Int), (by rw [List.length_map]), ?_⟩
    rw [show (.int 0 : V) = V.int 0 from rfl, tThings_nat]
    refine ⟨nI (thingsOf l.length), rfl, rfl, _, rfl, ite2 (fun e => ?_) (fun e => ?_)⟩
    · have e0 : thingsOf l.length = 0 := nI_iff.mp (of_decide_eq_true e)
      refine iteT ⟨(by show 1 ≤ sizeLine; decide), fun q hq => ?_⟩
      exact k.no (step_tell_no (.inl e0)) p (Same.refl H) hq
    · have e0 : thingsOf l.length ≠ 0 := fun z => e (by rw [z]; rfl)
      obtain ⟨n1, n5, nl⟩ := things_pow e0
      have hL' := hL
      rw [vn_vi] at hL'
      refine ⟨.ref b, rfl, b, _, rfl, hL', ?_, fun m hm hmx => ?_⟩
      · unfold Dr01.ints
        rw [List.length_map, nl]
        exact Nat.pow_pos (by decide)
      refine ⟨m, 20000, rfl, rfl, _, rfl, ite2 (fun c => ?_) (fun c => ?_)⟩
      · refine ⟨(by show 1 ≤ sizeLine; decide), fun q hq => ?_⟩
        refine k.no (step_tell_no (.inr ?_)) p (Same.refl H) hq
        obtain ⟨z, hz, rfl⟩ := List.mem_map.mp hm
        have c' : (20000 : Int) < (z : Int) := of_decide_eq_true c
        exact ⟨z, hz, by omega⟩
      · have hall : ∀ z ∈ l, z ≤ 20000 := fun z hz => by
          have h1 := hmx (z : Int) (List.mem_map.mpr ⟨z, hz, rfl⟩)
          have h2 : ¬ (20000 : Int) < m := fun q => c (decide_eq_true q)
          omega
        rw [step_tell e0 hall] at k
        obtain ⟨dx, ho⟩ := p.obj
        refine ⟨.ref a, rfl, a, dx, _, rfl, ho, pF_meth (by decide +kernel) (by decide +kernel) (by decide +kernel) _ _ _, nI (thingsOf l.length), rfl, .ref b, rfl, b, rfl, ⟨_, hL⟩, fun D hD =>
          lc_list (K := K) (a := b) (xs := vn l) (fun i H' => H' = upd H D (.lst (vi ((l.take i).map Dr01.whole)))) rfl (fun i H' _ e => e ▸ (Same.new hD).seq hL) ?_ ?_⟩
        · rintro i x H' hx rfl
          obtain ⟨z, hz, rfl⟩ := vn_get hx
          refine ⟨rfl, yes_of ?_⟩
          refine iteT ?_
          refine ⟨nI z, rfl, z, rfl, _, upd_same, ?_, ?_⟩
          · rw [List.length_map, List.length_map, List.length_take]
            have := pow_le n5
            exact small32 (by omega)
          · rw [upd_upd, take_more hz, List.map_append, vi_app]
            rfl
        · rintro H' rfl
          have eD : (vi ((l.take (vn l).length).map Dr01.whole)) = vi (l.map Dr01.whole) := by
            rw [List.length_map, List.take_length]
          rw [eD]
          have p1 := p.same (Same.new (o := .lst (vi (l.map Dr01.whole))) hD)
          have hDn : D ∉ [a, f1, f2] := fun z => by
            simp only [List.mem_cons, List.mem_nil_iff, or_false] at z
            rcases z with rfl | rfl | rfl
            · rw [ho] at hD; cases hD
            · rw [p.l1] at hD; cases hD
            · rw [p.l2] at hD; cases hD
          refine ⟨a, f1, f2, D, d, thingsOf l.length, l.map Dr01.whole, rfl, p1, upd_same, hDn, n1, n5, by rw [List.length_map]; exact nl, fun H2 g2 p2 m2 => ?_⟩
          refine ⟨nI (thingsOf l.length), rfl, (by show 1 ≤ sizeLine; decide), fun q hq => ?_⟩
          refine k _ D g2 q (p2.same (Same.new hq)) ?_ upd_same
          exact ((Moved.add (Same.new hD) hD).trans m2).trans (Moved.add (Same.new hq) hq)
end
end Sf
namespace Sf
open PySem PySem.Spec PyProof.Rows L2
theorem rg_two {m : Nat} (h : m ≤ 1600) : RgC 0 (m : Int) 2 ((m + 1) / 2) := by
  have e : Builtin.Range.rangeSize 0 (m : Int) 2 = (((m + 1) / 2 : Nat) : Int) := by
    unfold Builtin.Range.rangeSize
    rw [if_pos (by decide)]
    by_cases q : (0 : Int) < m
    · rw [if_pos q]
      omega
    · rw [if_neg q]
      omega
  refine ⟨by decide, by decide, ?_, e⟩
  unfold Builtin.Range.small
  rw [e]
  have h1 : Builtin.Range.rangeFitsLong (m : Int) = true := by
    unfold Builtin.Range.rangeFitsLong
    simp
    omega
  have h2 : Builtin.Range.rangeFitsLong (((m + 1) / 2 : Nat) : Int) = true := by
    unfold Builtin.Range.rangeFitsLong
    simp
    omega
  have h3 : Builtin.Range.rangeFitsLong ((m : Int) + (2 - 1)) = true := by
    unfold Builtin.Range.rangeFitsLong
    simp
    omega
  rw [h1, h2, if_pos (by decide), h3]
  simp
  exact ⟨by decide, by decide⟩
theorem pair_get {l : List Nat} (he : l.length % 2 = 0) {i : Nat} (h : i < (l.length + 1) / 2) : ∃ w t, l[2 * i]? = some w ∧ l[2 * i + 1]? = some t ∧ (pairsOf l)[i]? = some (w, t) := by
  have h1 : 2 * i < l.length := by omega
  have h2 : 2 * i + 1 < l.length := by omega
  refine ⟨l[2 * i], l[2 * i + 1], List.getElem?_eq_getElem h1, List.getElem?_eq_getElem h2, pairs_at l i _ _ (List.getElem?_eq_getElem h1) (List.getElem?_eq_getElem h2)⟩
theorem mem_take_more {α : Type} {l : List α} {i : Nat} {x : α} {p : α → Prop} (h : l[i]? = some x) (q : ∀ y ∈ l.take i, p y) (e : p x) : ∀ y ∈ l.take (i + 1), p y := by
  intro y hy
  rw [take_more h, List.mem_append, List.mem_singleton] at hy
  rcases hy with hy | rfl
  · exact q y hy
  · exact e
section
variable {P : Program} {w : World} {K : PySem.W.Frag} {mg : Str → Option Value} {base : Heap} {C aS aT : Addr}
/-! ### points_are_right -/
def spPts (K : PySem.W.Frag) : Sp := fun vs H Q _ => ∃ (n : Nat) (b : Addr) (l : List Nat), vs = [nI n, .ref b] ∧ n ≤ 5 ∧ SqL K H b (vn l) ∧ l.length ≤ 1600 ∧ (ptsOk n l → Q (.bl true) H) ∧ (¬ ptsOk n l → Q (.bl false) H)
theorem scPts : FnScope ["things", "points", "place"] ["things", "points"] (defScope sPts) := ⟨rfl, rfl, rfl, by decide +kernel, rfl, by decide +kernel, by decide +kernel⟩
theorem ok_pts {f : Addr} {fd : FuncData} (T : Txt K mg C aS) (F : Fun K "points_are_right" "points_are_right" sPts f fd) : FnOk P w K mg base CX0 1 f fd ["things", "points"] (spPts K) := by
  refine F.ok scPts (fun vs H Q E h => ?_) (fun cdv A outer s H vs Q E hr h => ?_)
  · obtain ⟨n, b, l, rfl, _⟩ := h
    rfl
  · obtain ⟨n, b, l, rfl, n5, hL, hl, kY, kN⟩ := h
    obtain ⟨uP, gP, rP⟩ := T.cPoints
    obtain ⟨uW, gW, rW⟩ := T.cWeight
    refine ⟨_, pss_cons (ps_if (PW.pt (pw_or (pt_cmpR op_ne (pe_op op_mod (pe_callB call_len_seq (by rfl) T.zLen PySem.boot_len (pa_cons (pv 1) pa_nil)) pe_int) pe_int (nomark _))
        (pw_or1 (pt_cmpR op_gt (pe_callB call_len_seq (by rfl) T.zLen PySem.boot_len (pa_cons (pv 1) pa_nil)) (pe_op op_mul pe_int (pe_glob (v := .int 20) rfl gP rP)) (nomark _))))) (pss_one (ps_ret pe_bl)) pss_nil)
      (pss_cons (ps_for PassesOwn.never rfl (pi_range3 rfl T.zRange (pa_cons pe_int (pa_cons (pe_callB call_len_seq (by rfl) T.zLen PySem.boot_len (pa_cons (pv 1) pa_nil)) (pa_cons pe_int pa_nil)))) (pg_name (i := 2) scPts.nd rfl (.inl rfl))
        (pss_one (ps_if (PW.pt (pw_or (pt_cmpR op_gt (pe_ix ix_list (pv 1) (pv 2) (fun _ _ => rfl)) (pe_glob (v := .int 1000) rfl gW rW) (nomark _))
          (pw_or1 (pt_cmpR op_ge (pe_ix ix_list (pv 1) (pe_op op_add (pv 2) pe_int) (fun _ _ => rfl)) (pe_ix ix_tup (pe_glob (v := .ref aS) rfl T.gS rfl) (pv 0) (fun _ _ => rfl)) (nomark _))))) (pss_one (ps_ret pe_bl)) pss_nil)))
      (pss_one (ps_ret pe_bl))), ?_⟩
    have len : ((vn l).length : Int) = (l.length : Int) := by rw [List.length_map]
    refine ⟨.ref b, rfl, b, _, rfl, .inl hL, ?_⟩
    rw [len]
    refine ⟨(l.length : Int), 2, rfl, rfl, (by show (0 : Int) < 2; decide), rfl, _, rfl, ite2 (fun e => ?_) (fun e => ?_)⟩
    · refine iteT (kN fun q => ?_)
      have q1 := q.1
      have q2 : ((l.length : Int) % 2) = 0 := by omega
      rw [show (fun i j : Int => V.int (i % j)) (l.length : Int) 2 = V.int ((l.length : Int) % 2) from rfl, q2] at e
      simp at e
    have he : l.length % 2 = 0 := by
      rw [show (fun i j : Int => V.int (i % j)) (l.length : Int) 2 = V.int ((l.length : Int) % 2) from rfl] at e
      simp at e
      omega
    refine ⟨.ref b, rfl, b, _, rfl, .inl hL, ?_⟩
    rw [len]
    refine ⟨2, 20, rfl, rfl, .inl ⟨by decide, by decide⟩, (l.length : Int), _, rfl, rfl, _, rfl, ite2 (fun c => ?_) (fun c => ?_)⟩
    · have c' : (2 * 20 : Int) < (l.length : Int) := of_decide_eq_true c
      refine kN fun q => ?_
      have := q.2.1
      omega
    have hc : l.length ≤ 40 := by
      have c' : ¬ (2 * 20 : Int) < (l.length : Int) := fun z => c (decide_eq_true z)
      omega
    refine ⟨.ref b, rfl, b, _, rfl, .inl hL, ?_⟩
    rw [len]
    refine ⟨0, (l.length : Int), 2, (l.length + 1) / 2, rfl, rg_two hl, for_rangeC (lo := 0) (c := 2) (n := (l.length + 1) / 2)
      (fun i σ H' => H' = H ∧ (∃ v, σ = [some (nI n), some (.ref b), v]) ∧ ∀ x ∈ (pairsOf l).take i, x.1 ≤ 1000 ∧ x.2 < 2 ^ n) ⟨rfl, ⟨none, rfl⟩, fun x hx => by cases hx⟩ ?_ ?_⟩
    · rintro i σ H' hi ⟨rfl, ⟨v, rfl⟩, hp⟩
      obtain ⟨w0, t0, g1, g2, g3⟩ := pair_get he hi
      refine ⟨.ref b, rfl, _, rfl, b, _, _, _, rfl, rfl, hL, at_of (j := 2 * i) (by omega) (vn_at g1), (w0 : Int), 1000, rfl, rfl, _, rfl, ite2 (fun c1 => ?_) (fun c1 => ?_)⟩
      · have c1' : (1000 : Int) < (w0 : Int) := of_decide_eq_true c1
        refine iteT (kN fun q => ?_)
        have := (q.2.2 (w0, t0) (List.mem_of_getElem? g3)).1
        simp only at this
        omega
      have c1' : ¬ (1000 : Int) < (w0 : Int) := fun z => c1 (decide_eq_true z)
      refine ⟨.ref b, rfl, _, rfl, _, _, rfl, rfl, b, _, _, _, rfl, rfl, hL, at_of (j := 2 * i + 1) (by omega) (vn_at g2), nI n, rfl, aS, _, (n : Int), _, rfl, rfl, T.sS _, at_of (j := n) rfl (pow_at n5), (t0 : Int), _, rfl, rfl, _, rfl, ite2 (fun c2 => ?_) (fun c2 => ?_)⟩
      · have c2' : ((2 ^ n : Nat) : Int) ≤ (t0 : Int) := of_decide_eq_true c2
        refine kN fun q => ?_
        have := (q.2.2 (w0, t0) (List.mem_of_getElem? g3)).2
        simp only at this
        omega
      · have c2' : ¬ ((2 ^ n : Nat) : Int) ≤ (t0 : Int) := fun z => c2 (decide_eq_true z)
        refine ⟨rfl, ⟨some (.int (0 + (i : Int) * 2)), rfl⟩, mem_take_more g3 hp ⟨?_, ?_⟩⟩
        · show w0 ≤ 1000
          omega
        · show t0 < 2 ^ n
          omega
    · rintro σ H' ⟨rfl, ⟨v, rfl⟩, hp⟩
      refine kY ⟨he, hc, ?_⟩
      rw [List.take_of_length_le (by rw [pairs_len]; omega)] at hp
      exact hp
/-! ### weight_met -/
def spMet (K : PySem.W.Frag) : Sp := fun vs H Q _ => ∃ (s : Nat) (b : Addr) (l : List Nat), vs = [.ref b, nI s] ∧ SqL K H b (vn l) ∧ l.length % 2 = 0 ∧ l.length ≤ 1600 ∧ Q (.int (weight (pairsOf l) s)) H
theorem scMet : FnScope ["points", "chosen", "weight", "place"] ["points", "chosen"] (defScope sMet) := ⟨rfl, rfl, rfl, by decide +kernel, rfl, by decide +kernel, by decide +kernel⟩
theorem ok_met {f : Addr} {fd : FuncData} (T : Txt K mg C aS) (F : Fun K "weight_met" "weight_met" sMet f fd) : FnOk P w K mg base CX0 1 f fd ["points", "chosen"] (spMet K) := by
  refine F.ok scMet (fun vs H Q E h => ?_) (fun cdv A outer s H vs Q E hr h => ?_)
  · obtain ⟨n, b, l, rfl, _⟩ := h
    rfl
  · obtain ⟨z, b, l, rfl, hL, he, hl, k⟩ := h
    refine ⟨_, pss_cons (ps_set (i := 2) scMet.nd rfl (.inl rfl) pe_int)
      (pss_cons (ps_for PassesOwn.never rfl (pi_range3 rfl T.zRange (pa_cons pe_int (pa_cons (pe_callB call_len_seq (by rfl) T.zLen PySem.boot_len (pa_cons (pv 0) pa_nil)) (pa_cons pe_int pa_nil)))) (pg_name (i := 3) scMet.nd rfl (.inl rfl))
        (pss_one (ps_if (pt_cmpR op_ne (pe_op op_and (pe_ix ix_list (pv 0) (pe_op op_add (pv 3) pe_int) (fun _ _ => rfl)) (pv 1)) pe_int (nomark _))
          (pss_one (ps_set (i := 2) scMet.nd rfl (.inl rfl) (pe_op op_add (pv 2) (pe_ix ix_list (pv 0) (pv 3) (fun _ _ => rfl))))) pss_nil)))
      (pss_one (ps_ret (pv 2)))), ?_⟩
    have len : ((vn l).length : Int) = (l.length : Int) := by rw [List.length_map]
    refine ⟨.ref b, rfl, b, _, rfl, .inl hL, ?_⟩
    rw [len]
    refine ⟨0, (l.length : Int), 2, (l.length + 1) / 2, rfl, rg_two hl, for_rangeC (lo := 0) (c := 2) (n := (l.length + 1) / 2)
      (fun i σ H' => H' = H ∧ (∃ v, σ = [some (.ref b), some (nI z), some (.int (weight ((pairsOf l).take i) z)), v])) ⟨rfl, ⟨none, rfl⟩⟩ ?_ ?_⟩
    · rintro i σ H' hi ⟨rfl, ⟨v, rfl⟩⟩
      obtain ⟨w0, t0, g1, g2, g3⟩ := pair_get he hi
      refine ⟨.ref b, rfl, _, rfl, _, _, rfl, rfl, b, _, _, _, rfl, rfl, hL, at_of (j := 2 * i + 1) (by omega) (vn_at g2), nI z, rfl, (t0 : Int), (z : Int), rfl, rfl, rfl, _, rfl, ite2 (fun c => ?_) (fun c => ?_)⟩
      · have c' : ¬ Dr01.meet t0 z = 0 := fun q => by
          rw [show (fun i j : Int => V.int (Builtin.bitAnd i j)) (t0 : Int) (z : Int) = V.int (Builtin.bitAnd (t0 : Int) (z : Int)) from rfl, nat_and, show t0 &&& z = 0 from q] at c
          simp at c
        refine ⟨_, rfl, .ref b, rfl, _, rfl, b, _, _, _, rfl, rfl, hL, at_of (j := 2 * i) (by omega) (vn_at g1), _, (w0 : Int), rfl, rfl, rfl, ⟨some (.int (0 + (i : Int) * 2)), ?_⟩⟩
        rw [take_more g3, weight_more, if_neg c']
        rfl
      · have c' : Dr01.meet t0 z = 0 := by
          rw [show (fun i j : Int => V.int (Builtin.bitAnd i j)) (t0 : Int) (z : Int) = V.int (Builtin.bitAnd (t0 : Int) (z : Int)) from rfl, nat_and] at c
          simp at c
          exact c
        refine ⟨rfl, ⟨some (.int (0 + (i : Int) * 2)), ?_⟩⟩
        rw [take_more g3, weight_more, if_pos c', Int.add_zero]
        rfl
    · rintro σ H' ⟨rfl, ⟨v, rfl⟩⟩
      refine ⟨_, rfl, ?_⟩
      rw [List.take_of_length_le (by rw [pairs_len]; omega)]
      exact k
end
end Sf
namespace Sf
open PySem PySem.Spec PyProof.Rows L2
theorem PairAt.out {C : Addr} {H : Hp} {a f1 f2 D : Addr} {d : Dr01.Desk} (p : PairAt C H a f1 f2 d) (hD : H D = none) : D ∉ [a, f1, f2] := fun z => by
  obtain ⟨dx, ho⟩ := p.obj
  simp only [List.mem_cons, List.mem_nil_iff, or_false] at z
  rcases z with rfl | rfl | rfl
  · rw [ho] at hD; cases hD
  · rw [p.l1] at hD; cases hD
  · rw [p.l2] at hD; cases hD
theorem range_take {n i : Nat} {β : Type} {g : Nat → β} (h : i < n) : (((List.range n).take (i + 1)).map g) = (((List.range n).take i).map g) ++ [g i] := by
  rw [take_more (List.getElem?_range h), List.map_append]
  rfl
section
variable {P : Program} {w : World} {K : PySem.W.Frag} {mg : Str → Option Value} {base : Heap} {C aS aT : Addr}
/-! ### cover -/
def spCover (C : Addr) (K : PySem.W.Frag) : Sp := fun vs H Q _ => ∃ (a f1 f2 b : Addr) (d : Dr01.Desk) (n : Nat) (l : List Nat), vs = [.ref a, nI n, .ref b] ∧ PairAt C H a f1 f2 d ∧ SqL K H b (vn l) ∧ l.length ≤ 1600 ∧ Post C H a f1 f2 (Dr01.step d (.cover n l)) Q
theorem scCover : FnScope ["pair", "things", "points", "chosen"] ["pair", "things", "points"] (defScope sCover) := ⟨rfl, rfl, rfl, by decide +kernel, rfl, by decide +kernel, by decide +kernel⟩
theorem ok_cover {f fR fM fP fT : Addr} {fd fdR fdM fdP fdT : FuncData} (T : Txt K mg C aS) (F : Fun K "cover" "cover" sCover f fd)
    (FR : Fun K "points_are_right" "points_are_right" sPts fR fdR) (bR : Binds K fdR ["things", "points"] []) (gR : mg "points_are_right" = some (.ref fR))
    (FM : Fun K "weight_met" "weight_met" sMet fM fdM) (bM : Binds K fdM ["points", "chosen"] []) (gM : mg "weight_met" = some (.ref fM))
    (FP : Fun K "put_first" "Pair.put_first" sPut fP fdP) (bP : Binds K fdP ["self", "things", "function"] []) (mP : Meth K C "put_first" fP)
    (FT : Fun K "told" "Pair.told" sTold fT fdT) (bT : Binds K fdT ["self"] []) (mT : Meth K C "told" fT) : FnOk P w K mg base CX0 2 f fd ["pair", "things", "points"] (spCover C K) := by
  have GR : FnOk P w K mg base CX0 1 fR fdR ["things", "points"] (spPts K) := ok_pts T FR
  have GM : FnOk P w K mg base CX0 1 fM fdM ["points", "chosen"] (spMet K) := ok_met T FM
  have GP : FnOk P w K mg base CX0 1 fP fdP ["self", "things", "function"] (spPut C) := ok_put T FP
  have GT : FnOk P w K mg base CX0 1 fT fdT ["self"] (spTold C) := ok_told T FT
  refine F.ok scCover (fun vs H Q E h => ?_) (fun cdv A outer s H vs Q E hr h => ?_)
  · obtain ⟨a, f1, f2, b, d, n, l, rfl, _⟩ := h
    rfl
  · obtain ⟨a, f1, f2, b, d, n, l, rfl, p, hL, hl, k⟩ := h
    obtain ⟨uR, gRf, rRf⟩ := T.cRefused
    obtain ⟨uM, gMt, rMt⟩ := T.cThings
    refine ⟨_, pss_cons (ps_if (PW.pt (pw_or (pt_cmpR op_lt (pv 1) pe_int (nomark _)) (pw_or (pt_cmpR op_gt (pv 1) (pe_glob (v := .int 5) rfl gMt rMt) (nomark _))
        (pw_or1 (pt_not (pt_val (pe_call GR hr (by rfl) gR FR.kp bR .nil pass0 (pa_cons (pv 1) (pa_cons (pv 2) pa_nil)))))))))
        (pss_one (ps_ret (pe_lst (pa_cons (pe_glob (v := .int (-1)) rfl gRf rRf) pa_nil)))) pss_nil)
      (pss_cons (ps_expr (pe_meth (pv 0) T.cl mP GP hr bP .nil pass0 (pa_cons (pv 1) (pa_cons
          (pe_lc (own := [("chosen", 3)]) (g := gName 3) (tt := tYes) rfl scCover.nd (pi_range1 rfl T.zRange (pa_cons (pe_ix ix_tup (pe_glob (v := .ref aS) rfl T.gS rfl) (pv 1) (fun _ _ => rfl)) pa_nil)) (blkOk_by (N := ["pair", "things", "points", "chosen"]) (sc := defScope sCover) (by decide +kernel))
            (fun _ _ _ _ _ => pg_name (i := 3) scCover.nd rfl (Or.inl rfl)) (fun _ _ _ _ _ => pts_nil)
            (fun _ _ _ _ _ => pe_call GM hr (by rfl) gM FM.kp bM .nil pass0 (pa_cons (pv 2) (pa_cons (pv 3) pa_nil)))) pa_nil))))
      (pss_one (ps_ret (pe_meth0 (pv 0) T.cl mT GT hr bT .nil pass0)))), ?_⟩
    refine ⟨nI n, rfl, (n : Int), 1, rfl, rfl, _, rfl, ite2 (fun e => ?_) (fun e => ?_)⟩
    · have e' : (n : Int) < 1 := of_decide_eq_true e
      refine iteT ⟨(by show 1 ≤ sizeLine; decide), fun q hq => ?_⟩
      exact k.no (step_cover_no (.inl (by omega))) p (Same.refl H) hq
    have n1 : 1 ≤ n := by
      have e' : ¬ (n : Int) < 1 := fun z => e (decide_eq_true z)
      omega
    refine ⟨nI n, rfl, (n : Int), 5, rfl, rfl, _, rfl, ite2 (fun c => ?_) (fun c => ?_)⟩
    · have c' : (5 : Int) < (n : Int) := of_decide_eq_true c
      refine iteT ⟨(by show 1 ≤ sizeLine; decide), fun q hq => ?_⟩
      exact k.no (step_cover_no (.inr (.inl (by omega)))) p (Same.refl H) hq
    have n5 : n ≤ 5 := by
      have c' : ¬ (5 : Int) < (n : Int) := fun z => c (decide_eq_true z)
      omega
    refine ⟨nI n, rfl, .ref b, rfl, n, b, l, rfl, n5, hL, hl, fun ok => ⟨true, rfl, ?_⟩, fun no => ⟨false, rfl, ?_⟩⟩
    · refine iteF ?_
      rw [step_cover n1 n5 ok] at k
      obtain ⟨dx, ho⟩ := p.obj
      refine ⟨.ref a, rfl, a, dx, _, rfl, ho, pF_meth (by decide +kernel) (by decide +kernel) (by decide +kernel) _ _ _, nI n, rfl, nI n, rfl, aS, _, (n : Int), _, rfl, rfl, T.sS _, at_of (j := n) rfl (pow_at n5), ((2 ^ n : Nat) : Int), rfl, by have h0 := Int.natCast_nonneg (2 ^ n); omega, by have := pow_le n5; omega, fun D hD =>
        lc_range (lo := 0) (n := ((2 ^ n : Nat) : Int).toNat) (fun i H' => H' = upd H D (.lst (vi (((List.range (2 ^ n)).take i).map (weight (pairsOf l)))))) rfl ?_ ?_⟩
      · rintro i H' hi rfl
        rw [Int.toNat_natCast] at hi
        refine ⟨rfl, yes_of ?_⟩
        refine iteT ?_
        refine ⟨.ref b, rfl, .int (0 + (i : Int)), rfl, i, b, l, ?_, (Same.new hD).seq hL, ok.1, hl, _, upd_same, ?_, ?_⟩
        · rw [Int.zero_add]
          rfl
        · rw [List.length_map, List.length_map, List.length_take]
          have := pow_le n5
          exact small32 (by omega)
        · rw [upd_upd, range_take hi, vi_app]
          rfl
      · rintro H' rfl
        rw [Int.toNat_natCast]
        have eD : ((List.range (2 ^ n)).take (2 ^ n)) = List.range (2 ^ n) := List.take_of_length_le (by rw [List.length_range]; exact Nat.le_refl _)
        rw [eD]
        refine ⟨a, f1, f2, D, d, n, (List.range (2 ^ n)).map (weight (pairsOf l)), rfl, p.same (Same.new hD), upd_same, p.out hD, n1, n5, by rw [List.length_map, List.length_range], fun H2 g2 p2 m2 => ?_⟩
        obtain ⟨dx2, ho2⟩ := p2.obj
        refine ⟨.ref a, rfl, a, dx2, _, rfl, ho2, pF_meth (by decide +kernel) (by decide +kernel) (by decide +kernel) _ _ _, a, D, g2, _, rfl, p2, fun H3 q s3 hq e3 => ?_⟩
        refine k _ D g2 q (p2.same s3) ?_ e3
        exact ((Moved.add (Same.new hD) hD).trans m2).trans (Moved.add s3 hq)
    · refine iteT ⟨(by show 1 ≤ sizeLine; decide), fun q hq => ?_⟩
      exact k.no (step_cover_no (.inr (.inr no))) p (Same.refl H) hq
/-! ### set_value -/
def spSet (C : Addr) : Sp := fun vs H Q _ => ∃ (a f1 f2 : Addr) (d : Dr01.Desk) (z v : Nat), vs = [.ref a, nI z, nI v] ∧ PairAt C H a f1 f2 d ∧ Post C H a f1 f2 (Dr01.step d (.set z v)) Q
theorem scSet : FnScope ["pair", "chosen", "handed"] ["pair", "chosen", "handed"] (defScope sSet) := ⟨rfl, rfl, rfl, by decide +kernel, rfl, by decide +kernel, by decide +kernel⟩
theorem vi_set (l : List Int) (i : Nat) (x : Int) : (vi l).set i (.int x) = vi (l.set i x) := by
  unfold vi
  rw [List.map_set]
theorem ok_set {f fW : Addr} {fd fdW : FuncData} (T : Txt K mg C aS) (F : Fun K "set_value" "set_value" sSet f fd)
    (FW : Fun K "whole_number" "whole_number" sWhole fW fdW) (bW : Binds K fdW ["handed"] []) (gW : mg "whole_number" = some (.ref fW)) : FnOk P w K mg base CX0 2 f fd ["pair", "chosen", "handed"] (spSet C) := by
  have GW : FnOk P w K mg base CX0 1 fW fdW ["handed"] spWhole := ok_whole FW
  refine F.ok scSet (fun vs H Q E h => ?_) (fun cdv A outer s H vs Q E hr h => ?_)
  · obtain ⟨a, f1, f2, d, z, v, rfl, _⟩ := h
    rfl
  · obtain ⟨a, f1, f2, d, z, v, rfl, p, k⟩ := h
    obtain ⟨uR, gR, rR⟩ := T.cRefused
    obtain ⟨uM, gM, rM⟩ := T.cHanded
    obtain ⟨dx, ho⟩ := p.obj
    refine ⟨_, pss_cons (ps_if (PW.pt (pw_or (pt_cmpR op_ge (pv 1) (pe_ix ix_tup (pe_glob (v := .ref aS) rfl T.gS rfl) (pe_fld (pv 0) rfl) (fun _ _ => rfl)) (nomark _)) (pw_or1 (pt_cmpR op_gt (pv 2) (pe_glob (v := .int 20000) rfl gM rM) (nomark _)))))
        (pss_one (ps_ret (pe_lst (pa_cons (pe_glob (v := .int (-1)) rfl gR rR) pa_nil)))) pss_nil)
      (pss_cons (ps_asg (pe_call GW hr (by rfl) gW FW.kp bW .nil pass0 (pa_cons (pv 2) pa_nil)) (pg_sub (pe_fld (pv 0) rfl) (pv 1) set_list))
      (pss_one (ps_ret (pe_lst (pa_cons pe_int pa_nil))))), ?_⟩
    have n5 := p.good.one.hi
    refine ⟨nI z, rfl, .ref a, rfl, a, C, dx, _, _, rfl, ho, T.cl, T.nT, pF_things _ _ _, aS, _, _, _, rfl, rfl, T.sS _, at_of (j := d.one.many) rfl (pow_at n5), (z : Int), _, rfl, rfl, _, rfl, ite2 (fun e => ?_) (fun e => ?_)⟩
    · have e' : ((2 ^ d.one.many : Nat) : Int) ≤ (z : Int) := of_decide_eq_true e
      refine iteT ⟨(by show 1 ≤ sizeLine; decide), fun q hq => ?_⟩
      exact k.no (step_set_no (.inl (by omega))) p (Same.refl H) hq
    have e' : ¬ 2 ^ d.one.many ≤ z := fun q => e (decide_eq_true (by omega))
    refine ⟨nI v, rfl, (v : Int), 20000, rfl, rfl, _, rfl, ite2 (fun c => ?_) (fun c => ?_)⟩
    · have c' : (20000 : Int) < (v : Int) := of_decide_eq_true c
      refine ⟨(by show 1 ≤ sizeLine; decide), fun q hq => ?_⟩
      exact k.no (step_set_no (.inr (by omega))) p (Same.refl H) hq
    have c' : ¬ 20000 < v := fun q => c (decide_eq_true (by omega))
    rw [step_set (by omega)] at k
    have hz : z < (vi d.one.vals).length := by rw [List.length_map, p.good.one.len]; omega
    refine ⟨nI v, rfl, v, rfl, .ref a, rfl, a, C, dx, _, _, rfl, ho, T.cl, T.nF, pF_first _ _ _, nI z, rfl, f1, _, (z : Int), z, rfl, rfl, p.l1, ?_, ?_⟩
    · unfold ixN
      rw [if_pos (by omega), if_pos (by omega), Int.toNat_natCast]
    refine ⟨(by show 1 ≤ sizeLine; decide), fun q hq => ?_⟩
    rw [vi_set] at hq ⊢
    have pn : PairAt C (upd H f1 (.lst (vi (d.one.vals.set z (Dr01.whole v))))) a f1 f2 { d with one := { d.one with vals := d.one.vals.set z (Dr01.whole v) } } :=
      ⟨⟨dx, by rw [upd_ne p.n1]; exact ho⟩, upd_same, by rw [upd_ne p.ne.symm]; exact p.l2, p.ne, ⟨⟨p.good.one.lo, p.good.one.hi, by rw [List.length_set]; exact p.good.one.len⟩, p.good.two, p.good.eq⟩⟩
    refine k _ f1 f2 q (pn.same (Same.new hq)) ?_ upd_same
    exact (Moved.put (by simp)).trans (Moved.add (Same.new hq) hq)
end
end Sf
namespace Sf
open PySem PySem.Spec PyProof.Rows L2
def brk (k : Nat) (m : Int) : Bool := if k = 0 then decide (0 < m) else if k = 1 then decide (m < 0) else !decide (m = 0)
theorem breaks_brk (f : Dr01.Fun) (k s i j : Nat) : Dr01.breaks f k (s, i, j) = brk k (Dr01.brings f (Dr01.with_ s i) j - Dr01.brings f s j) := by
  unfold brk
  match k with
  | 0 =>
    rw [if_pos rfl]
    show decide (Dr01.brings f s j < Dr01.brings f (Dr01.with_ s i) j) = _
    exact decide_eq_decide.mpr (by omega)
  | 1 =>
    rw [if_neg (by decide), if_pos rfl]
    show decide (Dr01.brings f (Dr01.with_ s i) j < Dr01.brings f s j) = _
    exact decide_eq_decide.mpr (by omega)
  | k + 2 =>
    rw [if_neg (by omega), if_neg (by omega)]
    show (Dr01.brings f s j != Dr01.brings f (Dr01.with_ s i) j) = _
    by_cases e : Dr01.brings f s j = Dr01.brings f (Dr01.with_ s i) j
    · rw [e]
      simp
    · have e2 : ¬ Dr01.brings f (Dr01.with_ s i) j - Dr01.brings f s j = 0 := by omega
      simp [e, e2]
/-- fault_at's list -/
def told0 : Option (Nat × Nat × Nat) → List Int
  | none => []
  | some x => [0, (x.1 : Int), (x.2.1 : Int), (x.2.2 : Int)]
theorem vn_mem {n s i : Nat} {x : V} (h : (vn (outside n s))[i]? = some x) : ∃ z, (outside n s)[i]? = some z ∧ x = nI z ∧ 1 ≤ z ∧ z ≤ n := by
  obtain ⟨z, hz, rfl⟩ := vn_get h
  obtain ⟨h1, h2, _⟩ := outside_mem (List.mem_of_getElem? hz)
  exact ⟨z, hz, rfl, h1, h2⟩
section
variable {P : Program} {w : World} {K : PySem.W.Frag} {mg : Str → Option Value} {base : Heap} {C aS aT : Addr}
/-! ### breaks -/
def spBreaks : Sp := fun vs H Q _ => ∃ (k : Nat) (m : Int), vs = [nI k, .int m] ∧ Q (.bl (brk k m)) H
theorem scBreaks : FnScope ["asked", "more"] ["asked", "more"] (defScope sBreaks) := ⟨rfl, rfl, rfl, by decide +kernel, rfl, by decide +kernel, by decide +kernel⟩
theorem ok_breaks {f : Addr} {fd : FuncData} (F : Fun K "breaks" "breaks" sBreaks f fd) : FnOk P w K mg base CX0 1 f fd ["asked", "more"] spBreaks := by
  refine F.ok scBreaks (fun vs H Q E h => ?_) (fun cdv A outer s H vs Q E hr h => ?_)
  · obtain ⟨n, m, rfl, _⟩ := h
    rfl
  · obtain ⟨n, m, rfl, k⟩ := h
    refine ⟨_, pss_cons (ps_if (pt_cmpR op_eq (pv 0) pe_int (nomark _)) (pss_one (ps_ret (pe_cmpR op_gt (pv 1) pe_int (nomark _)))) pss_nil)
      (pss_cons (ps_if (pt_cmpR op_eq (pv 0) pe_int (nomark _)) (pss_one (ps_ret (pe_cmpR op_lt (pv 1) pe_int (nomark _)))) pss_nil)
      (pss_one (ps_ret (pe_cmpR op_ne (pv 1) pe_int (nomark _))))), ?_⟩
    refine ⟨nI n, rfl, rfl, _, rfl, ite2 (fun e => ?_) (fun e => ?_)⟩
    · have e0 : n = 0 := nI_iff.mp (of_decide_eq_true e)
      unfold brk at k
      rw [if_pos e0] at k
      exact ⟨.int m, rfl, m, 0, rfl, rfl, k⟩
    have e0 : ¬ n = 0 := fun z => e (by rw [z]; rfl)
    refine ⟨nI n, rfl, rfl, _, rfl, ite2 (fun c => ?_) (fun c => ?_)⟩
    · have e1 : n = 1 := nI_iff.mp (of_decide_eq_true c)
      unfold brk at k
      rw [if_neg e0, if_pos e1] at k
      exact ⟨.int m, rfl, m, 0, rfl, rfl, k⟩
    have e1 : ¬ n = 1 := fun z => c (by rw [z]; rfl)
    unfold brk at k
    rw [if_neg e0, if_neg e1] at k
    refine ⟨.int m, rfl, rfl, ?_⟩
    have q : decide (V.int m = V.int 0) = decide (m = 0) := decide_eq_decide.mpr ⟨fun z => V.int.inj z, fun z => by rw [z]⟩
    show Q (.bl (!decide (V.int m = V.int 0))) H
    rw [q]
    exact k
/-! ### fault_at -/
def spFault (C : Addr) : Sp := fun vs H Q _ => ∃ (a f1 f2 : Addr) (d : Dr01.Desk) (k z : Nat), vs = [.ref a, nI k, nI z] ∧ PairAt C H a f1 f2 d ∧ z < 2 ^ d.one.many ∧
  ∀ (H' : Hp) (p : Addr), Same H H' → H p = none → H' p = some (.lst (vi (told0 (faultAt d.one k z)))) → Q (.ref p) H'
theorem scFault : FnScope ["pair", "asked", "chosen", "outside", "lower", "higher", "alone", "beside"] ["pair", "asked", "chosen"] (defScope sFaultAt) := ⟨rfl, rfl, rfl, by decide +kernel, rfl, by decide +kernel, by decide +kernel⟩
theorem ok_fault {f fO fB fW fK : Addr} {fd fdO fdB fdW fdK : FuncData} (T : Txt K mg C aS) (F : Fun K "fault_at" "fault_at" sFaultAt f fd)
    (FO : Fun K "things_outside" "things_outside" sOutside fO fdO) (bO : Binds K fdO ["things", "chosen"] []) (gO : mg "things_outside" = some (.ref fO))
    (FB : Fun K "brings" "brings" sBrings fB fdB) (bB : Binds K fdB ["function", "chosen", "thing"] []) (gB : mg "brings" = some (.ref fB))
    (FW : Fun K "with_thing" "with_thing" sWith fW fdW) (bW : Binds K fdW ["chosen", "thing"] []) (gW : mg "with_thing" = some (.ref fW))
    (FK : Fun K "breaks" "breaks" sBreaks fK fdK) (bK : Binds K fdK ["asked", "more"] []) (gK : mg "breaks" = some (.ref fK)) : FnOk P w K mg base CX0 3 f fd ["pair", "asked", "chosen"] (spFault C) := by
  have GO : FnOk P w K mg base CX0 2 fO fdO ["things", "chosen"] spOutside := ok_outside T FO FW bW gW
  have GB : FnOk P w K mg base CX0 2 fB fdB ["function", "chosen", "thing"] (spBrings K) := ok_brings T FB FW bW gW
  have GW : FnOk P w K mg base CX0 1 fW fdW ["chosen", "thing"] spWith := ok_with T FW
  have GK : FnOk P w K mg base CX0 1 fK fdK ["asked", "more"] spBreaks := ok_breaks FK
  refine F.ok scFault (fun vs H Q E h => ?_) (fun cdv A outer s H vs Q E hr h => ?_)
  · obtain ⟨a, f1, f2, d, k, z, rfl, _⟩ := h
    rfl
  · obtain ⟨a, f1, f2, d, n, z, rfl, p, hz, k⟩ := h
    have hr1 : Room 1 _ := hr.mono (by decide)
    obtain ⟨dx, ho⟩ := p.obj
    have g1 := p.good.one
    have z32 : z < 32 := Nat.lt_of_lt_of_le hz (pow_le g1.hi)
    refine ⟨_, pss_cons (ps_set (i := 3) scFault.nd rfl (.inl rfl) (pe_call GO hr (by rfl) gO FO.kp bO .nil pass0 (pa_cons (pe_fld (pv 0) rfl) (pa_cons (pv 2) pa_nil))))
      (pss_cons (ps_for PassesOwn.never rfl (pi_list (pv 3)) (pg_name (i := 4) scFault.nd rfl (.inl rfl))
        (pss_one (ps_for PassesOwn.never rfl (pi_list (pv 3)) (pg_name (i := 5) scFault.nd rfl (.inl rfl))
          (pss_one (ps_if (pt_cmpR op_lt (pv 4) (pv 5) (nomark _))
            (pss_cons (ps_set (i := 6) scFault.nd rfl (.inl rfl) (pe_call GB hr (by rfl) gB FB.kp bB .nil pass0 (pa_cons (pe_fld (pv 0) rfl) (pa_cons (pv 2) (pa_cons (pv 5) pa_nil)))))
            (pss_cons (ps_set (i := 7) scFault.nd rfl (.inl rfl) (pe_call GB hr (by rfl) gB FB.kp bB .nil pass0 (pa_cons (pe_fld (pv 0) rfl) (pa_cons (pe_call GW hr1 (by rfl) gW FW.kp bW .nil pass0 (pa_cons (pv 2) (pa_cons (pv 4) pa_nil))) (pa_cons (pv 5) pa_nil)))))
            (pss_one (ps_if (pt_val (pe_call GK hr1 (by rfl) gK FK.kp bK .nil pass0 (pa_cons (pv 1) (pa_cons (pe_op op_sub (pv 7) (pv 6)) pa_nil))))
              (pss_one (ps_ret (pe_lst (pa_cons pe_int (pa_cons (pv 2) (pa_cons (pv 4) (pa_cons (pv 5) pa_nil))))))) pss_nil)))) pss_nil)))))
      (pss_one (ps_ret (pe_lst pa_nil)))), ?_⟩
    refine ⟨.ref a, rfl, a, C, dx, _, _, rfl, ho, T.cl, T.nT, pF_things _ _ _, nI z, rfl, d.one.many, z, rfl, g1.hi, z32, fun H1 o s1 no eo => ?_⟩
    have hO : SqL K H1 o (vn (outside d.one.many z)) := SqL.of eo
    have p1 := p.same s1
    obtain ⟨dx1, ho1⟩ := p1.obj
    have hF : SqL K H1 f1 (vi d.one.vals) := SqL.of p1.l1
    refine ⟨.ref o, rfl, o, rfl, ⟨_, hO⟩, for_list (K := K) (a := o) (xs := vn (outside d.one.many z)) (fun i σ H' => H' = H1 ∧ (∃ v4 v5 v6 v7, σ = [some (.ref a), some (nI n), some (nI z), some (.ref o), v4, v5, v6, v7]) ∧ ((outside d.one.many z).take i).findSome? (faultIn d.one n z) = none)
      ⟨rfl, ⟨none, none, none, none, rfl⟩, rfl⟩ (fun i σ H' _ ⟨e, _⟩ => e ▸ hO) ?_ ?_⟩
    · rintro i x σ H' hx ⟨rfl, ⟨v4, v5, v6, v7, rfl⟩, hn⟩
      obtain ⟨lo, hlo, rfl, l1, l2⟩ := vn_mem hx
      refine ⟨.ref o, rfl, o, rfl, ⟨_, hO⟩, for_list (K := K) (a := o) (xs := vn (outside d.one.many z)) (fun j σ H2 => H2 = H' ∧ (∃ v5 v6 v7, σ = [some (.ref a), some (nI n), some (nI z), some (.ref o), some (nI lo), v5, v6, v7]) ∧
          ((outside d.one.many z).take j).findSome? (fun j => if lo < j ∧ Dr01.breaks d.one n (z, lo, j) = true then some (z, lo, j) else none) = none)
        ⟨rfl, ⟨v5, v6, v7, rfl⟩, rfl⟩ (fun i σ H' _ ⟨e, _⟩ => e ▸ hO) ?_ ?_⟩
      · rintro j y σ H2 hy ⟨rfl, ⟨v5, v6, v7, rfl⟩, hm⟩
        obtain ⟨hi, hhi, rfl, h1, h2⟩ := vn_mem hy
        refine ⟨nI lo, rfl, nI hi, rfl, (lo : Int), (hi : Int), rfl, rfl, _, rfl, ite2 (fun c => ?_) (fun c => ?_)⟩
        · have c' : (lo : Int) < (hi : Int) := of_decide_eq_true c
          refine ⟨.ref a, rfl, a, C, dx1, _, _, rfl, ho1, T.cl, T.nF, pF_first _ _ _, nI z, rfl, nI hi, rfl, f1, d.one, z, hi, rfl, hF, g1, hz, h1, h2, ?_⟩
          refine ⟨.ref a, rfl, a, C, dx1, _, _, rfl, ho1, T.cl, T.nF, pF_first _ _ _, nI z, rfl, nI lo, rfl, z, lo, rfl, z32, l1, Nat.le_trans l2 g1.hi, nI hi, rfl, f1, d.one, Dr01.with_ z lo, hi, rfl, hF, g1, with_lt g1.hi hz l1 l2, h1, h2, ?_⟩
          refine ⟨nI n, rfl, _, rfl, _, rfl, _, _, rfl, rfl, n, _, rfl, ⟨_, rfl, ite2 (fun b => ?_) (fun b => ?_)⟩⟩
          · have b' : Dr01.breaks d.one n (z, lo, hi) = true := by rw [breaks_brk]; exact b
            refine ⟨nI z, rfl, nI lo, rfl, nI hi, rfl, (by show 4 ≤ sizeLine; decide), fun q hq => ?_⟩
            refine k _ q (s1.trans (Same.new hq)) (s1.free hq) ?_
            rw [upd_same, faultAt_eq]
            have e1 : faultIn d.one n z lo = some (z, lo, hi) := findSome_found hhi hm (if_pos ⟨by omega, b'⟩)
            rw [findSome_found hlo hn e1]
            rfl
          · have b' : ¬ Dr01.breaks d.one n (z, lo, hi) = true := by rw [breaks_brk]; exact b
            exact ⟨rfl, ⟨_, _, _, rfl⟩, findSome_more hhi hm (if_neg fun q => b' q.2)⟩
        · have c' : ¬ (lo : Int) < (hi : Int) := fun q => c (decide_eq_true q)
          exact ⟨rfl, ⟨_, _, _, rfl⟩, findSome_more hhi hm (if_neg fun q => by omega)⟩
      · rintro σ H2 ⟨rfl, ⟨v5, v6, v7, rfl⟩, hm⟩
        rw [List.length_map, List.take_length] at hm
        exact ⟨rfl, ⟨_, _, _, _, rfl⟩, findSome_more hlo hn hm⟩
    · rintro σ H' ⟨rfl, ⟨v4, v5, v6, v7, rfl⟩, hn⟩
      rw [List.length_map, List.take_length] at hn
      refine ⟨(by show 0 ≤ sizeLine; decide), fun q hq => ?_⟩
      refine k _ q (s1.trans (Same.new hq)) (s1.free hq) ?_
      rw [upd_same, faultAt_eq, hn]
      rfl
/-! ### kind -/
def spKind (C : Addr) : Sp := fun vs H Q _ => ∃ (a f1 f2 : Addr) (d : Dr01.Desk) (k : Nat), vs = [.ref a, nI k] ∧ PairAt C H a f1 f2 d ∧ Post C H a f1 f2 (Dr01.step d (.kind k)) Q
theorem scKind : FnScope ["pair", "asked", "chosen", "fault"] ["pair", "asked"] (defScope sKind) := ⟨rfl, rfl, rfl, by decide +kernel, rfl, by decide +kernel, by decide +kernel⟩
theorem ok_kind {f fG : Addr} {fd fdG : FuncData} (T : Txt K mg C aS) (F : Fun K "kind" "kind" sKind f fd)
    (FG : Fun K "fault_at" "fault_at" sFaultAt fG fdG) (bG : Binds K fdG ["pair", "asked", "chosen"] []) (gG : mg "fault_at" = some (.ref fG)) (GG : FnOk P w K mg base CX0 3 fG fdG ["pair", "asked", "chosen"] (spFault C)) : FnOk P w K mg base CX0 4 f fd ["pair", "asked"] (spKind C) := by
  refine F.ok scKind (fun vs H Q E h => ?_) (fun cdv A outer s H vs Q E hr h => ?_)
  · obtain ⟨a, f1, f2, d, k, rfl, _⟩ := h
    rfl
  · obtain ⟨a, f1, f2, d, n, rfl, p, k⟩ := h
    obtain ⟨dx, ho⟩ := p.obj
    have g1 := p.good.one
    obtain ⟨uR, gR, rR⟩ := T.cRefused
    obtain ⟨uM, gM, rM⟩ := T.cKind
    refine ⟨_, pss_cons (ps_if (pt_cmpR op_gt (pv 1) (pe_glob (v := .int 2) rfl gM rM) (nomark _)) (pss_one (ps_ret (pe_lst (pa_cons (pe_glob (v := .int (-1)) rfl gR rR) pa_nil)))) pss_nil)
      (pss_cons (ps_for PassesOwn.never rfl (pi_range1 rfl T.zRange (pa_cons (pe_ix ix_tup (pe_glob (v := .ref aS) rfl T.gS rfl) (pe_fld (pv 0) rfl) (fun _ _ => rfl)) pa_nil)) (pg_name (i := 2) scKind.nd rfl (.inl rfl))
        (pss_cons (ps_set (i := 3) scKind.nd rfl (.inl rfl) (pe_call GG hr (by rfl) gG FG.kp bG .nil pass0 (pa_cons (pv 0) (pa_cons (pv 1) (pa_cons (pv 2) pa_nil)))))
        (pss_one (ps_if (pt_cmpR op_gt (pe_callB call_len_seq (by rfl) T.zLen PySem.boot_len (pa_cons (pv 3) pa_nil)) pe_int (nomark _)) (pss_one (ps_ret (pv 3))) pss_nil))))
      (pss_one (ps_ret (pe_lst (pa_cons pe_int pa_nil))))), ?_⟩
    refine ⟨nI n, rfl, (n : Int), 2, rfl, rfl, _, rfl, ite2 (fun e => ?_) (fun e => ?_)⟩
    · have e' : (2 : Int) < (n : Int) := of_decide_eq_true e
      refine ⟨(by show 1 ≤ sizeLine; decide), fun q hq => ?_⟩
      exact k.no (step_kind_no (by omega)) p (Same.refl H) hq
    have e' : ¬ 2 < n := fun q => e (decide_eq_true (by omega))
    rw [step_kind e'] at k
    refine ⟨.ref a, rfl, a, C, dx, _, _, rfl, ho, T.cl, T.nT, pF_things _ _ _, aS, _, _, _, rfl, rfl, T.sS _, at_of (j := d.one.many) rfl (pow_at g1.hi), ((2 ^ d.one.many : Nat) : Int), rfl, by have h0 := Int.natCast_nonneg (2 ^ d.one.many); omega, by have := pow_le g1.hi; omega,
      for_range (lo := 0) (n := ((2 ^ d.one.many : Nat) : Int).toNat) (fun i σ H' => Same H H' ∧ (∃ v2 v3, σ = [some (.ref a), some (nI n), v2, v3]) ∧ ((Dr01.sets d.one).take i).findSome? (faultAt d.one n) = none) ⟨Same.refl H, ⟨none, none, rfl⟩, rfl⟩ ?_ ?_⟩
    · rintro i σ H' hi ⟨s1, ⟨v2, v3, rfl⟩, hn⟩
      rw [Int.toNat_natCast] at hi
      have hi2 : (Dr01.sets d.one)[i]? = some i := List.getElem?_range hi
      rw [Int.zero_add]
      refine ⟨.ref a, rfl, nI n, rfl, nI i, rfl, a, f1, f2, d, n, i, rfl, p.same s1, hi, fun H2 q s2 nq eq => ?_⟩
      refine ⟨.ref q, rfl, q, _, rfl, .inl (SqL.of eq), _, 0, rfl, rfl, _, rfl, ite2 (fun c => ?_) (fun c => ?_)⟩
      · have c' : (0 : Int) < ((vi (told0 (faultAt d.one n i))).length : Int) := of_decide_eq_true c
        refine ⟨.ref q, rfl, ?_⟩
        cases ef : faultAt d.one n i with
        | none =>
          rw [ef] at c'
          exact absurd c' (by decide)
        | some x =>
          refine k.new p (s1.trans s2) (s1.free nq) ?_
          rw [eq, findSome_found hi2 hn ef, ef]
          rfl
      · have c' : ¬ (0 : Int) < ((vi (told0 (faultAt d.one n i))).length : Int) := fun z => c (decide_eq_true z)
        refine ⟨s1.trans s2, ⟨_, _, rfl⟩, findSome_more hi2 hn ?_⟩
        cases ef : faultAt d.one n i with
        | none => rfl
        | some x =>
          rw [ef] at c'
          exact absurd (by show (0 : Int) < 4; decide) c'
    · rintro σ H' ⟨s1, ⟨v2, v3, rfl⟩, hn⟩
      rw [Int.toNat_natCast, List.take_of_length_le (by unfold Dr01.sets; rw [List.length_range]; exact Nat.le_refl _)] at hn
      rw [hn] at k
      refine ⟨(by show 1 ≤ sizeLine; decide), fun q hq => ?_⟩
      exact k.new p (s1.trans (Same.new hq)) (s1.free hq) upd_same
/-! ### falls -/
def spCmd (C : Addr) (c : Dr01.Call) : Sp := fun vs H Q _ => ∃ (a f1 f2 : Addr) (d : Dr01.Desk), vs = [.ref a] ∧ PairAt C H a f1 f2 d ∧ Post C H a f1 f2 (Dr01.step d c) Q
theorem scFalls : FnScope ["pair", "chosen", "thing"] ["pair"] (defScope sFalls) := ⟨rfl, rfl, rfl, by decide +kernel, rfl, by decide +kernel, by decide +kernel⟩
theorem ok_falls {f fO fB : Addr} {fd fdO fdB : FuncData} (T : Txt K mg C aS) (F : Fun K "falls" "falls" sFalls f fd)
    (FO : Fun K "things_outside" "things_outside" sOutside fO fdO) (bO : Binds K fdO ["things", "chosen"] []) (gO : mg "things_outside" = some (.ref fO)) (GO : FnOk P w K mg base CX0 2 fO fdO ["things", "chosen"] spOutside)
    (FB : Fun K "brings" "brings" sBrings fB fdB) (bB : Binds K fdB ["function", "chosen", "thing"] []) (gB : mg "brings" = some (.ref fB)) (GB : FnOk P w K mg base CX0 2 fB fdB ["function", "chosen", "thing"] (spBrings K)) : FnOk P w K mg base CX0 3 f fd ["pair"] (spCmd C .falls) := by
  refine F.ok scFalls (fun vs H Q E h => ?_) (fun cdv A outer s H vs Q E hr h => ?_)
  · obtain ⟨a, f1, f2, d, rfl, _⟩ := h
    rfl
  · obtain ⟨a, f1, f2, d, rfl, p, k⟩ := h
    obtain ⟨dx, ho⟩ := p.obj
    have g1 := p.good.one
    rw [step_falls] at k
    refine ⟨_, pss_cons (ps_for PassesOwn.never rfl (pi_range1 rfl T.zRange (pa_cons (pe_ix ix_tup (pe_glob (v := .ref aS) rfl T.gS rfl) (pe_fld (pv 0) rfl) (fun _ _ => rfl)) pa_nil)) (pg_name (i := 1) scFalls.nd rfl (.inl rfl))
        (pss_one (ps_for PassesOwn.never rfl (pi_list (pe_call GO hr (by rfl) gO FO.kp bO .nil pass0 (pa_cons (pe_fld (pv 0) rfl) (pa_cons (pv 1) pa_nil)))) (pg_name (i := 2) scFalls.nd rfl (.inl rfl))
          (pss_one (ps_if (pt_cmpR op_lt (pe_call GB hr (by rfl) gB FB.kp bB .nil pass0 (pa_cons (pe_fld (pv 0) rfl) (pa_cons (pv 1) (pa_cons (pv 2) pa_nil)))) pe_int (nomark _))
            (pss_one (ps_ret (pe_lst (pa_cons pe_int (pa_cons (pv 1) (pa_cons (pv 2) pa_nil)))))) pss_nil)))))
      (pss_one (ps_ret (pe_lst (pa_cons pe_int pa_nil)))), ?_⟩
    refine ⟨.ref a, rfl, a, C, dx, _, _, rfl, ho, T.cl, T.nT, pF_things _ _ _, aS, _, _, _, rfl, rfl, T.sS _, at_of (j := d.one.many) rfl (pow_at g1.hi), ((2 ^ d.one.many : Nat) : Int), rfl, by have h0 := Int.natCast_nonneg (2 ^ d.one.many); omega, by have := pow_le g1.hi; omega,
      for_range (lo := 0) (n := ((2 ^ d.one.many : Nat) : Int).toNat) (fun i σ H' => Same H H' ∧ (∃ v1 v2, σ = [some (.ref a), v1, v2]) ∧ ((Dr01.sets d.one).take i).findSome? (fallAt d.one) = none) ⟨Same.refl H, ⟨none, none, rfl⟩, rfl⟩ ?_ ?_⟩
    · rintro i σ H' hi ⟨s1, ⟨v1, v2, rfl⟩, hn⟩
      rw [Int.toNat_natCast] at hi
      have hi2 : (Dr01.sets d.one)[i]? = some i := List.getElem?_range hi
      have z32 : i < 32 := Nat.lt_of_lt_of_le hi (pow_le g1.hi)
      have p1 := p.same s1
      obtain ⟨dx1, ho1⟩ := p1.obj
      rw [Int.zero_add]
      refine ⟨.ref a, rfl, a, C, dx1, _, _, rfl, ho1, T.cl, T.nT, pF_things _ _ _, nI i, rfl, d.one.many, i, rfl, g1.hi, z32, fun H2 o s2 no eo => ?_⟩
      have p2 := p1.same s2
      obtain ⟨dx2, ho2⟩ := p2.obj
      have hO : SqL K H2 o (vn (outside d.one.many i)) := SqL.of eo
      refine ⟨o, rfl, ⟨_, hO⟩, for_list (K := K) (a := o) (xs := vn (outside d.one.many i)) (fun j σ H3 => H3 = H2 ∧ (∃ v2, σ = [some (.ref a), some (nI i), v2]) ∧
          ((outside d.one.many i).take j).findSome? (fun j => if Dr01.brings d.one i j < 0 then some (i, j) else none) = none)
        ⟨rfl, ⟨v2, rfl⟩, rfl⟩ (fun i σ H' _ ⟨e, _⟩ => e ▸ hO) ?_ ?_⟩
      · rintro j y σ H3 hy ⟨rfl, ⟨v2, rfl⟩, hm⟩
        obtain ⟨t, ht, rfl, h1, h2⟩ := vn_mem hy
        refine ⟨.ref a, rfl, a, C, dx2, _, _, rfl, ho2, T.cl, T.nF, pF_first _ _ _, nI i, rfl, nI t, rfl, f1, d.one, i, t, rfl, SqL.of p2.l1, g1, hi, h1, h2, _, 0, rfl, rfl, _, rfl, ite2 (fun c => ?_) (fun c => ?_)⟩
        · have c' : Dr01.brings d.one i t < 0 := of_decide_eq_true c
          refine ⟨nI i, rfl, nI t, rfl, (by show 3 ≤ sizeLine; decide), fun q hq => ?_⟩
          refine k.new p ((s1.trans s2).trans (Same.new hq)) ((s1.trans s2).free hq) ?_
          have e1 : fallAt d.one i = some (i, t) := findSome_found ht hm (if_pos c')
          rw [upd_same, findSome_found hi2 hn e1]
          rfl
        · have c' : ¬ Dr01.brings d.one i t < 0 := fun q => c (decide_eq_true q)
          exact ⟨rfl, ⟨_, rfl⟩, findSome_more ht hm (if_neg c')⟩
      · rintro σ H3 ⟨rfl, ⟨v2, rfl⟩, hm⟩
        rw [List.length_map, List.take_length] at hm
        exact ⟨s1.trans s2, ⟨_, _, rfl⟩, findSome_more hi2 hn hm⟩
    · rintro σ H' ⟨s1, ⟨v1, v2, rfl⟩, hn⟩
      rw [Int.toNat_natCast, List.take_of_length_le (by unfold Dr01.sets; rw [List.length_range]; exact Nat.le_refl _)] at hn
      rw [hn] at k
      refine ⟨(by show 1 ≤ sizeLine; decide), fun q hq => ?_⟩
      exact k.new p (s1.trans (Same.new hq)) (s1.free hq) upd_same
end
end Sf
namespace Sf
open PySem PySem.Spec PyProof.Rows L2
/-! #### least: the mathematics -/
theorem val_mem {f : Dr01.Fun} (g : Good f) {s : Nat} (h : s < 2 ^ f.many) : Dr01.val f s ∈ f.vals := List.mem_of_getElem? (val_at g h)
theorem mem_val {f : Dr01.Fun} (g : Good f) {x : Int} (h : x ∈ f.vals) : ∃ s, s < 2 ^ f.many ∧ x = Dr01.val f s := by
  obtain ⟨s, hs, e⟩ := List.mem_iff_getElem.mp h
  rw [g.len] at hs
  refine ⟨s, hs, ?_⟩
  have q := val_at g hs
  rw [List.getElem?_eq_getElem (by rw [g.len]; exact hs), e] at q
  exact Option.some.inj q
theorem least_is {f : Dr01.Fun} (g : Good f) {m : Int} (hm : m ∈ f.vals) (hle : ∀ y ∈ f.vals, m ≤ y) : Dr01.least f = m := by
  obtain ⟨h1, h2, h3⟩ := foldl_min (Dr01.val f) (Dr01.sets f) (Dr01.val f 0)
  have hp : 0 < 2 ^ f.many := Nat.pow_pos (by decide)
  obtain ⟨s, hs, e⟩ := mem_val g hm
  have a1 : Dr01.least f ≤ m := by
    rw [e]
    exact h2 s (List.mem_range.mpr hs)
  have a2 : m ≤ Dr01.least f := by
    rcases h3 with h3 | ⟨x, hx, h3⟩
    · have := hle _ (val_mem g hp)
      show m ≤ (Dr01.sets f).foldl (fun m s => min m (Dr01.val f s)) (Dr01.val f 0)
      rw [h3]
      exact this
    · have := hle _ (val_mem g (List.mem_range.mp hx))
      show m ≤ (Dr01.sets f).foldl (fun m s => min m (Dr01.val f s)) (Dr01.val f 0)
      rw [h3]
      exact this
  omega
theorem range_filter {n i : Nat} {p : Nat → Bool} (h : i < n) : (((List.range n).take (i + 1)).filter p) = (((List.range n).take i).filter p) ++ (if p i = true then [i] else []) := by
  rw [take_more (List.getElem?_range h), List.filter_append]
  congr 1
  simp only [List.filter_cons, List.filter_nil]
theorem step_least (d : Dr01.Desk) : Dr01.step d .least = (d, [Dr01.least d.one, ((Dr01.leastSets d.one).length : Int), (Dr01.core d.one : Int), (Dr01.hull d.one : Int)]) := rfl
theorem fold_more {l : List Nat} {g : Nat → Nat → Nat} {a i x : Nat} (h : l[i]? = some x) : (l.take (i + 1)).foldl g a = g ((l.take i).foldl g a) x := by
  rw [take_more h, List.foldl_append]
  rfl
section
variable {P : Program} {w : World} {K : PySem.W.Frag} {mg : Str → Option Value} {base : Heap} {C aS aT : Addr}
theorem scLeast : FnScope ["pair", "lowest", "least_sets", "in_each", "in_some", "chosen", "number"] ["pair"] (defScope sLeast) := ⟨rfl, rfl, rfl, by decide +kernel, rfl, by decide +kernel, by decide +kernel⟩
theorem ok_least {f : Addr} {fd : FuncData} (T : Txt K mg C aS) (F : Fun K "least" "least" sLeast f fd) : FnOk P w K mg base CX0 1 f fd ["pair"] (spCmd C .least) := by
  refine F.ok scLeast (fun vs H Q E h => ?_) (fun cdv A outer s H vs Q E hr h => ?_)
  · obtain ⟨a, f1, f2, d, rfl, _⟩ := h
    rfl
  · obtain ⟨a, f1, f2, d, rfl, p, k⟩ := h
    obtain ⟨dx, ho⟩ := p.obj
    have g1 := p.good.one
    have hp : 0 < 2 ^ d.one.many := Nat.pow_pos (by decide)
    rw [step_least] at k
    refine ⟨_, pss_cons (ps_set (i := 1) scLeast.nd rfl (.inr rfl) (pe_callB (cr_min rfl) (by rfl) T.zMin (by decide +kernel) (pa_cons (pe_fld (pv 0) rfl) pa_nil)))
      (pss_cons (ps_setLc (i := 2) (own := [("chosen", 5), ("number", 6)]) (g := gTup K 2 (gCons (gName 5) (gCons (gName 6) gNil))) rfl scLeast.nd rfl rfl (sw_true rfl rfl rfl (by decide +kernel)) (pi_enum (by rfl) T.zEnum (pa_cons (pe_fld (pv 0) rfl) pa_nil))
          (blkOk_by (N := ["pair", "lowest", "least_sets", "in_each", "in_some", "chosen", "number"]) (sc := defScope sLeast) (by decide +kernel))
          (fun _ _ _ _ _ => pg_tup rfl (pgs_cons (pg_name (i := 5) scLeast.nd rfl (Or.inl rfl)) (pgs_cons (pg_name (i := 6) scLeast.nd rfl (Or.inl rfl)) pgs_nil)))
          (fun _ _ _ _ _ => pts_one (pt_cmpR op_eq (pv 6) (pv 1) (nomark _))) (fun _ _ _ _ _ => pv 5))
      (pss_cons (ps_set (i := 3) scLeast.nd rfl (.inl rfl) (pe_op op_sub (pe_ix ix_tup (pe_glob (v := .ref aS) rfl T.gS rfl) (pe_fld (pv 0) rfl) (fun _ _ => rfl)) pe_int))
      (pss_cons (ps_set (i := 4) scLeast.nd rfl (.inl rfl) pe_int)
      (pss_cons (ps_for PassesOwn.never rfl (pi_list (pv 2)) (pg_name (i := 5) scLeast.nd rfl (.inl rfl))
        (pss_cons (ps_set (i := 3) scLeast.nd rfl (.inl rfl) (pe_op op_and (pv 3) (pv 5)))
        (pss_one (ps_set (i := 4) scLeast.nd rfl (.inl rfl) (pe_op op_or (pv 4) (pv 5))))))
      (pss_one (ps_ret (pe_lst (pa_cons (pv 1) (pa_cons (pe_callB call_len_seq (by rfl) T.zLen PySem.boot_len (pa_cons (pv 2) pa_nil)) (pa_cons (pv 3) (pa_cons (pv 4) pa_nil))))))))))), ?_⟩
    refine ⟨.ref a, rfl, a, C, dx, _, _, rfl, ho, T.cl, T.nF, pF_first _ _ _, f1, d.one.vals, rfl, SqL.of p.l1, by rw [g1.len]; exact hp, fun m hm hle => ?_⟩
    have em : Dr01.least d.one = m := least_is g1 hm hle
    have hL : SqL K H f1 (vi d.one.vals) := SqL.of p.l1
    refine ⟨.ref a, rfl, a, C, dx, _, _, rfl, ho, T.cl, T.nF, pF_first _ _ _, f1, _, rfl, hL, fun D hD => ?_⟩
    refine lc_it (walk_enum (K := K) (a := f1) (xs := vi d.one.vals)) (fun i H' => Same H H' ∧ H' D = some (.lst (vn (((List.range (2 ^ d.one.many)).take i).filter fun s => Dr01.val d.one s == Dr01.least d.one)))) ⟨Same.new hD, upd_same⟩ (fun i H' _ ⟨s1, _⟩ => s1.seq hL) ?_ ?_
    · rintro i x H1 H2 hi ⟨s1, e1⟩ ⟨t, u, v, rfl, ht, rfl, eu, ev⟩
      have hi' : i < 2 ^ d.one.many := by
        rw [List.length_map, g1.len] at hi
        exact hi
      have ev' := (vals_at g1 hi').symm.trans ev
      cases eu
      cases ev'
      have nt : D ≠ t := fun z => by
        rw [← z, e1] at ht
        cases ht
      refine ⟨t, _, rfl, SqT.of upd_same, rfl, _, _, rfl, _, _, rfl, rfl, rfl, ?_⟩
      refine ⟨.int (Dr01.val d.one i), rfl, .int m, rfl, rfl, _, rfl, ite2 (fun c => ?_) (fun c => ?_)⟩
      · have c' : (Dr01.val d.one i == Dr01.least d.one) = true := by
          rw [em]
          exact beq_iff_eq.mpr (V.int.inj (of_decide_eq_true c))
        refine ⟨_, rfl, _, (upd_ne nt).trans e1, ?_, ?_⟩
        · rw [List.length_map]
          refine small32 (Nat.le_trans (List.length_filter_le _ _) ?_)
          rw [List.length_take, List.length_range]
          have := pow_le g1.hi
          omega
        · refine ⟨fun b o e => ?_, ?_⟩
          · have nb : b ≠ D := fun z => by
              rw [z, hD] at e
              cases e
            rw [upd_ne nb]
            exact Same.new ht _ _ (s1 _ _ e)
          · rw [upd_same, range_filter hi', c', vn_app]
            rfl
      · have c' : (Dr01.val d.one i == Dr01.least d.one) = false := by
          rw [em]
          exact beq_eq_false_iff_ne.mpr fun z => c (decide_eq_true (by rw [z]))
        refine ⟨s1.trans (Same.new ht), ?_⟩
        rw [upd_ne nt, e1, range_filter hi', c']
        simp
    · rintro H1 ⟨s1, e1⟩
      rw [List.length_map, g1.len, List.take_of_length_le (by rw [List.length_range]; exact Nat.le_refl _)] at e1
      have p1 := p.same s1
      obtain ⟨dx1, ho1⟩ := p1.obj
      have hS : SqL K H1 D (vn (Dr01.leastSets d.one)) := SqL.of e1
      refine ⟨.ref a, rfl, a, C, dx1, _, _, rfl, ho1, T.cl, T.nT, pF_things _ _ _, aS, _, _, _, rfl, rfl, T.sS _, at_of (j := d.one.many) rfl (pow_at g1.hi), _, 1, rfl, rfl, ?_⟩
      have e2 : ((2 ^ d.one.many : Nat) : Int) - 1 = ((2 ^ d.one.many - 1 : Nat) : Int) := by omega
      refine ⟨.ref D, rfl, D, rfl, ⟨_, hS⟩, for_list (K := K) (a := D) (xs := vn (Dr01.leastSets d.one)) (fun i σ H' => H' = H1 ∧ ∃ v5 v6, σ = [some (.ref a), some (.int m), some (.ref D),
          some (nI (((Dr01.leastSets d.one).take i).foldl Dr01.meet (2 ^ d.one.many - 1))), some (nI (((Dr01.leastSets d.one).take i).foldl Dr01.join 0)), v5, v6]) ?_ (fun i σ H' _ ⟨e, _⟩ => e ▸ hS) ?_ ?_⟩
      · refine ⟨rfl, none, none, ?_⟩
        show [some (V.ref a), some (V.int m), some (V.ref D), some (V.int (((2 ^ d.one.many : Nat) : Int) - 1)), some (V.int 0), none, none] = _
        rw [e2]
        rfl
      · rintro i x σ H' hx ⟨rfl, v5, v6, rfl⟩
        obtain ⟨z, hz, rfl⟩ := vn_get hx
        refine ⟨_, rfl, nI z, rfl, _, _, rfl, rfl, ?_⟩
        refine ⟨_, rfl, nI z, rfl, _, _, rfl, rfl, rfl, some (nI z), v6, ?_⟩
        rw [fold_more hz, fold_more hz]
        show [some (V.ref a), some (V.int m), some (V.ref D), some (V.int (Builtin.bitAnd _ _)), some (V.int (Builtin.bitOr _ _)), some (nI z), v6] = _
        rw [nat_and, nat_bit]
        rfl
      · rintro σ H' ⟨rfl, v5, v6, rfl⟩
        rw [List.length_map, List.take_length]
        refine ⟨.int m, rfl, .ref D, rfl, D, _, rfl, .inl hS, _, rfl, _, rfl, (by show 4 ≤ sizeLine; decide), fun q hq => ?_⟩
        refine k.new p (s1.trans (Same.new hq)) (s1.free hq) ?_
        rw [upd_same, em, List.length_map]
        rfl
end
end Sf
namespace Sf
open PySem PySem.Spec PyProof.Rows L2
/-- the list that is handed in: it stands outside what is changed, or is written -/
def Seen (K : PySem.W.Frag) (H : Hp) (S : List Addr) (c : Addr) (xs : List V) : Prop := (c ∉ S ∧ Rd H c (.lst xs)) ∨ ∀ H', SqL K H' c xs
theorem Seen.seq {K : PySem.W.Frag} {H : Hp} {S : List Addr} {c : Addr} {xs : List V} (h : Seen K H S c xs) : SqL K H c xs := by
  rcases h with ⟨_, h⟩ | h
  · exact .inl h
  · exact h H
theorem Seen.move {K : PySem.W.Frag} {H H' : Hp} {S S' : List Addr} {c : Addr} {xs : List V} (h : Seen K H S c xs) (m : Moved H H' S S') : Seen K H' S' c xs := by
  rcases h with ⟨n, h⟩ | h
  · rcases h with h | ⟨o, h⟩
    · obtain ⟨e, n'⟩ := m _ _ h n
      exact .inl ⟨n', .inl e⟩
    · obtain ⟨e, n'⟩ := m _ _ h n
      exact .inl ⟨n', .inr ⟨o, e⟩⟩
  · exact .inr h
theorem Seen.start {K : PySem.W.Frag} {H : Hp} {c : Addr} {xs : List V} (h : SqL K H c xs) : Seen K H [] c xs := by
  rcases h with h | h
  · exact .inl ⟨by simp, h⟩
  · exact .inr fun _ => .inr h
theorem PairAt.put {C : Addr} {H : Hp} {a f1 f2 g : Addr} {d : Dr01.Desk} {o : HO} (p : PairAt C H a f1 f2 d) (h : g ∉ [a, f1, f2]) : PairAt C (upd H g o) a f1 f2 d := by
  have ga : a ≠ g := fun z => h (by rw [← z]; simp)
  have g1 : f1 ≠ g := fun z => h (by rw [← z]; simp)
  have g2 : f2 ≠ g := fun z => h (by rw [← z]; simp)
  refine ⟨let ⟨dx, e⟩ := p.obj; ⟨dx, ?_⟩, ?_, ?_, p.ne, p.good⟩
  · rw [upd_ne ga]; exact e
  · rw [upd_ne g1]; exact p.l1
  · rw [upd_ne g2]; exact p.l2
theorem cut_nat {zs a b : List Nat} {i : Nat} (h : zs.drop i = a ++ b) : cutV (vn zs) (some (i : Int)) (some ((i + a.length : Nat) : Int)) = vn a := by
  unfold cutV
  rw [HT.sIx_nat, HT.sIx_nat, List.length_map]
  have hl : (zs.drop i).length = a.length + b.length := by rw [h, List.length_append]
  rw [List.length_drop] at hl
  by_cases q : i ≤ zs.length
  · rw [Nat.min_eq_left q, Nat.min_eq_left (by omega : i + a.length ≤ zs.length)]
    have e : i + a.length - i = a.length := by omega
    rw [e, ← List.map_drop, h, ← List.map_take, List.take_left]
  · have ea : a = [] := len0 (by omega)
    rw [ea, Nat.min_eq_right (by omega : zs.length ≤ i), Nat.min_eq_right (by show zs.length ≤ i + 0; omega), Nat.sub_self, List.take_zero]
    rfl
theorem drop_more {zs a b : List Nat} {i : Nat} (h : zs.drop i = a ++ b) : zs.drop (i + a.length) = b := by
  rw [← List.drop_drop, h, List.drop_left]
theorem drop_at {zs b : List Nat} {i x : Nat} (h : zs.drop i = x :: b) : zs[i]? = some x := by
  have e : (zs.drop i)[0]? = some x := by rw [h]; rfl
  rw [List.getElem?_drop] at e
  exact e
theorem drop_len {zs b : List Nat} {i x : Nat} (h : zs.drop i = x :: b) : i < zs.length := by
  have e : (zs.drop i).length = b.length + 1 := by rw [h]; rfl
  rw [List.length_drop] at e
  omega
theorem drop_cons {zs : List Nat} {i : Nat} (h : i < zs.length) : ∃ x b, zs.drop i = x :: b := by
  cases e : zs.drop i with
  | nil =>
    have := List.drop_eq_nil_iff.mp e
    omega
  | cons x b => exact ⟨x, b, rfl⟩
section
variable {P : Program} {w : World} {K : PySem.W.Frag} {mg : Str → Option Value} {base : Heap} {C aS aT aW aH : Addr}
/-! ### answer's promise -/
def spAnswer (C : Addr) (K : PySem.W.Frag) : Sp := fun vs H Q _ => ∃ (a f1 f2 bw br : Addr) (d : Dr01.Desk) (n : Nat) (ws row : List Nat) (c : Dr01.Call), vs = [.ref a, nI n, .ref bw, .ref br] ∧ PairAt C H a f1 f2 d ∧ SqL K H bw (vn ws) ∧ SqL K H br (vn row) ∧ row.length ≤ 1600 ∧
  n ≤ 13 ∧ wN[n]? = some ws.length ∧ (hR[n]? = some false → row = []) ∧ Dr01Neutral.callIn (n :: (ws ++ row)) = some c ∧ Post C H a f1 f2 (Dr01.step d c) Q
/-! ### answers -/
def spAnswers (K : PySem.W.Frag) : Sp := fun vs H Q _ => ∃ (a : Addr) (ns : List Int), vs = [.ref a] ∧ SqL K H a (vi ns) ∧ ns.length ≤ 1600 ∧ (∀ z ∈ ns, 0 ≤ z ∧ z ≤ 4294967295) ∧ PyDr01.answers_asked ns = true ∧
  ∀ (H' : Hp) (p : Addr), H' p = some (.lst (vi (PyDr01.answers ns))) → Q (.ref p) H'
theorem as_nats : ∀ ns : List Int, (∀ z ∈ ns, 0 ≤ z ∧ z ≤ 4294967295) → ∃ zs : List Nat, ns = Dr01.ints zs ∧ ∀ z ∈ zs, z < 2 ^ 32
  | [], _ => ⟨[], rfl, fun z h => by cases h⟩
  | x :: r, h => by
    obtain ⟨zs, e, hz⟩ := as_nats r fun z q => h z (List.mem_cons_of_mem _ q)
    obtain ⟨h1, h2⟩ := h x List.mem_cons_self
    refine ⟨x.toNat :: zs, ?_, fun z q => ?_⟩
    · rw [ints_cons, ← e, Int.toNat_of_nonneg h1]
    · rcases List.mem_cons.mp q with rfl | q
      · omega
      · exact hz z q
theorem scAnswers : FnScope ["calls", "pair", "given", "place", "number", "end", "wholes", "row", "start", "numbers"] ["calls"] (defScope sAnswers) := ⟨rfl, rfl, rfl, by decide +kernel, rfl, by decide +kernel, by decide +kernel⟩
/-- what holds between two turns -/
def TurnInv (C : Addr) (K : PySem.W.Frag) (c0 : Addr) (zs : List Nat) (total : List Int) (m : Nat) (σ : L2.St) (H : Hp) : Prop :=
  ∃ (x f1 f2 g : Addr) (d : Dr01.Desk) (place : Nat) (out todo : List Int) (v4 v5 v6 v7 v8 v9 : Option V), m = zs.length - place ∧ place ≤ zs.length ∧ σ = [some (.ref c0), some (.ref x), some (.ref g), some (nI place), v4, v5, v6, v7, v8, v9] ∧
    PairAt C H x f1 f2 d ∧ H g = some (.lst (vi out)) ∧ g ∉ [x, f1, f2] ∧ Seen K H [g, x, f1, f2] c0 (vn zs) ∧ Left (zs.drop place) d todo ∧ out ++ todo = total
/-- from the call of answer to the turn's end -/
def tTail (C : Addr) (K : PySem.W.Frag) : TS := tSeq (tAsg (tCall (spAnswer C K) [] E0 (tCons (tVar 1) (tCons (tVar 4) (tCons (tVar 6) (tCons (tVar 7) tNil))))) (gName 9))
  (tSeq (tDrop (tBM K "list" rAppend (tVar 2) (tCons (tCB (fun xs H Q => ∃ p ys, xs = [.ref p] ∧ (SqL K H p ys ∨ SqT K H p ys) ∧ Q (.int ys.length) H) (tCons (tVar 9) tNil)) tNil)))
  (tSeq (tDrop (tBM K "list" rExtend (tVar 2) (tCons (tVar 9) tNil)))
  (tAsg (tVar 5) (gName 3))))
theorem pure_tail {c0 x f1 f2 g bw br : Addr} {d : Dr01.Desk} {zs ws row : List Nat} {n e place : Nat} {out todo' total : List Int} {c : Dr01.Call} {H : Hp} {D : Ends} {v8 v9 : Option V}
    (p : PairAt C H x f1 f2 d) (eg : H g = some (.lst (vi out))) (ng : g ∉ [x, f1, f2]) (hs : Seen K H [g, x, f1, f2] c0 (vn zs)) (hw : SqL K H bw (vn ws)) (hrw : SqL K H br (vn row)) (lr : row.length ≤ 1600)
    (n13 : n ≤ 13) (lw : wN[n]? = some ws.length) (no : hR[n]? = some false → row = []) (hc : Dr01Neutral.callIn (n :: (ws ++ row)) = some c)
    (htot : total.length ≤ 10000000) (ht : out ++ ((((Dr01.step d c).2.length : Int) :: (Dr01.step d c).2) ++ todo') = total) (hl : Left (zs.drop e) (Dr01.step d c).1 todo') (he : e ≤ zs.length)
    (k : ∀ σ' H', TurnInv C K c0 zs total (zs.length - e) σ' H' → D.nx σ' H') :
    tTail C K D [some (.ref c0), some (.ref x), some (.ref g), some (nI place), some (nI n), some (nI e), some (.ref bw), some (.ref br), v8, v9] H := by
  have len := congrArg List.length ht
  rw [List.length_append, List.length_append, List.length_cons] at len
  refine ⟨.ref x, rfl, nI n, rfl, .ref bw, rfl, .ref br, rfl, x, f1, f2, bw, br, d, n, ws, row, c, rfl, p, hw, hrw, lr, n13, lw, no, hc, fun H1 g1 g2 q p1 m1 eq => ?_⟩
  obtain ⟨eg1, ng1⟩ := m1 _ _ eg ng
  have gq : g ≠ q := fun z => ng1 (by rw [z]; simp)
  have ng2 : g ∉ [x, g1, g2] := fun z => ng1 (List.mem_cons_of_mem _ z)
  -- given.append(len(numbers))
  refine ⟨.ref g, rfl, .inl ⟨rfl, _, SqL.of eg1⟩, .ref q, rfl, q, _, rfl, .inl (SqL.of eq), g, _, _, rfl, rfl, eg1, ?_, ?_⟩
  · rw [List.length_map]
    exact Nat.lt_of_le_of_lt (by omega) (by decide : 10000000 < sizeLine)
  -- given.extend(numbers)
  refine ⟨.ref g, rfl, .inl ⟨rfl, _, SqL.of upd_same⟩, .ref q, rfl, g, q, _, _, rfl, rfl, upd_same, (upd_ne gq.symm).trans eq, ?_, ?_⟩
  · rw [List.length_append, List.length_map, List.length_map]
    exact Nat.le_trans (by show out.length + 1 + (Dr01.step d c).2.length ≤ 10000000; omega) (by decide : 10000000 ≤ sizeLine)
  -- place = end
  refine ⟨nI e, rfl, k _ _ ⟨x, g1, g2, g, (Dr01.step d c).1, e, out ++ (((Dr01.step d c).2.length : Int) :: (Dr01.step d c).2), todo', _, _, _, _, _, _, rfl, he, rfl, (p1.put ng2).put ng2, ?_, ng2, ?_, hl, ?_⟩⟩
  · rw [upd_same, List.length_map, vi_app]
    show some (HO.lst ((vi out ++ [V.int ((Dr01.step d c).2.length : Int)]) ++ vi (Dr01.step d c).2)) = some (HO.lst (vi out ++ (V.int ((Dr01.step d c).2.length : Int) :: vi (Dr01.step d c).2)))
    rw [List.append_assoc]
    rfl
  · refine hs.move fun b o eb nb => ?_
    have b1 : b ∉ [x, f1, f2] := fun z => nb (List.mem_cons_of_mem _ z)
    have bg : b ≠ g := fun z => nb (by rw [z]; simp)
    obtain ⟨e1, n1⟩ := m1 b o eb b1
    refine ⟨?_, fun z => ?_⟩
    · rw [upd_ne bg, upd_ne bg]
      exact e1
    · rcases List.mem_cons.mp z with z | z
      · exact bg z
      · exact n1 (List.mem_cons_of_mem _ z)
  · rw [List.append_assoc]
    exact ht
theorem ok_answers {f fI fA : Addr} {fd fdI fdA : FuncData} {k : Nat} (hk : 2 ≤ k) (T : Txt K mg C aS) (gW : mg "WHOLE_NUMBERS" = some (.ref aW)) (sW : ∀ H, SqT K H aW (vn wN)) (gH : mg "HAS_ROW" = some (.ref aH)) (sH : ∀ H, SqT K H aH (hR.map V.bl))
    (F : Fun K "answers" "answers" sAnswers f fd) (M : Mk K C fI) (FI : Fun K "__init__" "Pair.__init__" sInit fI fdI) (bI : Binds K fdI ["self"] [])
    (FA : Fun K "answer" "answer" sAnswer fA fdA) (bA : Binds K fdA ["pair", "number", "wholes", "row"] []) (gA : mg "answer" = some (.ref fA)) (GA : FnOk P w K mg base CX0 k fA fdA ["pair", "number", "wholes", "row"] (spAnswer C K)) :
    FnOk P w K mg base CX0 (k + 1) f fd ["calls"] (spAnswers K) := by
  have GI : FnOk P w K mg base CX0 1 fI fdI ["self"] (spInit C) := ok_init T FI
  refine F.ok scAnswers (fun vs H Q E h => ?_) (fun cdv A outer s H vs Q E hr h => ?_)
  · obtain ⟨a, ns, rfl, _⟩ := h
    rfl
  · obtain ⟨c0, ns, rfl, hL, hlen, hb, hask, kq⟩ := h
    obtain ⟨zs, rfl, hz⟩ := as_nats ns hb
    obtain ⟨hleft, htot⟩ := left_start hask
    rw [← vn_vi] at hL
    rw [ints_len] at hlen
    have hr2 : Room 2 _ := hr.mono hk
    refine ⟨_, pss_cons (ps_set (i := 1) scAnswers.nd rfl (.inl rfl) (pe_make0 M GI hr2 rfl T.gC bI .nil pass0))
      (pss_cons (ps_set (i := 2) scAnswers.nd rfl (.inl rfl) (pe_lst pa_nil))
      (pss_cons (ps_set (i := 3) scAnswers.nd rfl (.inl rfl) pe_int)
      (pss_cons (ps_while PassesOwn.never (pt_cmpR op_lt (pv 3) (pe_callB call_len_seq (by rfl) T.zLen PySem.boot_len (pa_cons (pv 0) pa_nil)) (nomark _))
        (pss_cons (ps_set (i := 4) scAnswers.nd rfl (.inl rfl) (pe_ix ix_list (pv 0) (pv 3) (fun _ _ => rfl)))
        (pss_cons (ps_set (i := 5) scAnswers.nd rfl (.inl rfl) (pe_op op_add (pe_op op_add (pv 3) pe_int) (pe_ix ix_tup (pe_glob (v := .ref aW) rfl gW rfl) (pv 4) (fun _ _ => rfl))))
        (pss_cons (ps_set (i := 6) scAnswers.nd rfl (.inl rfl) (pe_slice sl_list (pv 0) (po_some (pe_op op_add (pv 3) pe_int)) (po_some (pv 5))))
        (pss_cons (ps_set (i := 7) scAnswers.nd rfl (.inl rfl) (pe_lst pa_nil))
        (pss_cons (ps_if (pt_val (pe_ix ix_tup (pe_glob (v := .ref aH) rfl gH rfl) (pv 4) (fun _ _ => rfl)))
          (pss_cons (ps_set (i := 8) scAnswers.nd rfl (.inl rfl) (pe_op op_add (pv 5) pe_int))
          (pss_cons (ps_set (i := 5) scAnswers.nd rfl (.inl rfl) (pe_op op_add (pv 8) (pe_ix ix_list (pv 0) (pv 5) (fun _ _ => rfl))))
          (pss_one (ps_set (i := 7) scAnswers.nd rfl (.inl rfl) (pe_slice sl_list (pv 0) (po_some (pv 8)) (po_some (pv 5))))))) pss_nil)
        (pss_cons (ps_set (i := 9) scAnswers.nd rfl (.inl rfl) (pe_call GA hr (by rfl) gA FA.kp bA .nil pass0 (pa_cons (pv 1) (pa_cons (pv 4) (pa_cons (pv 6) (pa_cons (pv 7) pa_nil))))))
        (pss_cons (ps_expr (pe_bm PySem.F.plainAttrs_list PySem.F.slot_list_append PySem.F.type_list_append mt_append (pv 2) (pa_cons (pe_callB call_len_seq (by rfl) T.zLen PySem.boot_len (pa_cons (pv 9) pa_nil)) pa_nil)))
        (pss_cons (ps_expr (pe_bm PySem.F.plainAttrs_list PySem.F.slot_list_extend PySem.F.type_list_extend mt_extend (pv 2) (pa_cons (pv 9) pa_nil)))
        (pss_one (ps_set (i := 3) scAnswers.nd rfl (.inl rfl) (pv 5))))))))))))
      (pss_one (ps_ret (pv 2)))))), ?_⟩
    -- pair = Pair()
    intro x dx nx nd ne
    refine ⟨x, dx, rfl, upd_same, fun H1 f1 f2 p1 keep n1 n2 => ⟨rfl, ?_⟩⟩
    have s1 : Same H H1 := Same.made nx nd keep
    -- given = []
    refine ⟨(by show 0 ≤ sizeLine; decide), fun g hg => ?_⟩
    have sg : Same H1 (upd H1 g (.lst [])) := Same.new hg
    refine ⟨fun m σ H' => TurnInv C K c0 zs (PyDr01.answers (Dr01.ints zs)) m σ H', ⟨zs.length, x, f1, f2, g, Dr01.init, 0, [], PyDr01.answers (Dr01.ints zs), none, none, none, none, none, none, rfl, Nat.zero_le _, rfl, p1.same sg, upd_same, p1.out hg, ?_, hleft, rfl⟩, ?_⟩
    · -- the list that was handed in
      have n1' : H f1 = none := by
        have := n1
        have a1 : f1 ≠ x := fun z => p1.n1 z.symm
        rw [upd_ne a1] at this
        by_cases z : f1 = dx
        · rw [z]; exact nd
        · rw [upd_ne z] at this; exact this
      have n2' : H f2 = none := by
        have := n2
        have a1 : f2 ≠ x := fun z => p1.n2 z.symm
        rw [upd_ne a1] at this
        by_cases z : f2 = dx
        · rw [z]; exact nd
        · rw [upd_ne z] at this; exact this
      refine (Seen.start hL).move fun b o eb _ => ⟨sg _ _ (s1 _ _ eb), fun z => ?_⟩
      simp only [List.mem_cons, List.mem_nil_iff, or_false] at z
      rcases z with rfl | rfl | rfl | rfl
      · rw [s1 _ _ eb] at hg; cases hg
      · rw [nx] at eb; cases eb
      · rw [n1'] at eb; cases eb
      · rw [n2'] at eb; cases eb
    · rintro m σ H2 ⟨x, f1, f2, g, d, place, out, todo, v4, v5, v6, v7, v8, v9, rfl, hp, rfl, p2, eg, ng, hs, hl, ht⟩
      have len : ((vn zs).length : Int) = (zs.length : Int) := by rw [List.length_map]
      refine ⟨nI place, rfl, .ref c0, rfl, c0, _, rfl, .inl hs.seq, ?_⟩
      rw [len]
      refine ⟨(place : Int), (zs.length : Int), rfl, rfl, _, rfl, ite2 (fun c => ?_) (fun c => ?_)⟩
      · have hpl : place < zs.length := by
          have c' : (place : Int) < (zs.length : Int) := of_decide_eq_true c
          omega
        obtain ⟨n, r, er⟩ := drop_cons hpl
        rw [er] at hl
        have hzr : ∀ z ∈ n :: r, z < 2 ^ 32 := fun z hz2 => hz z (List.mem_of_mem_drop (by rw [er]; exact hz2))
        obtain ⟨ws, row, t, cc, todo', hh, et, hl'⟩ := left_cons hzr hl
        rw [et] at ht
        refine ⟨fun σ' H' => ∃ m', m' < zs.length - place ∧ TurnInv C K c0 zs (PyDr01.answers (Dr01.ints zs)) m' σ' H', fun σ' H' z => z, ?_⟩
        have kk : ∀ (e : Nat), place < e → ∀ σ' H', TurnInv C K c0 zs (PyDr01.answers (Dr01.ints zs)) (zs.length - e) σ' H' → ∃ m', m' < zs.length - place ∧ TurnInv C K c0 zs (PyDr01.answers (Dr01.ints zs)) m' σ' H' := fun e he σ' H' z => ⟨zs.length - e, by omega, z⟩
        -- number, end
        have ew : (vn wN)[n]? = some (nI ws.length) := vn_at hh.lw
        refine ⟨.ref c0, rfl, nI place, rfl, c0, _, (place : Int), _, rfl, rfl, hs.seq, atI_nat (vn_at (drop_at er)), ?_⟩
        refine ⟨nI place, rfl, (place : Int), 1, rfl, rfl, nI n, rfl, aW, _, (n : Int), _, rfl, rfl, sW _, atI_nat ew, (place : Int) + 1, (ws.length : Int), rfl, rfl, ?_⟩
        have e1 : (place : Int) + 1 + (ws.length : Int) = ((place + 1 + ws.length : Nat) : Int) := by omega
        have e0 : (place : Int) + 1 = ((place + 1 : Nat) : Int) := by omega
        show gName 5 (V.int ((place : Int) + 1 + (ws.length : Int))) _ _ _
        rw [e1]
        -- wholes
        refine ⟨.ref c0, rfl, nI place, rfl, (place : Int), 1, rfl, rfl, (place : Int) + 1, rfl, nI (place + 1 + ws.length), rfl, ((place + 1 + ws.length : Nat) : Int), rfl, c0, _, rfl, hs.seq, fun bw nbw => ?_⟩
        rw [e0]
        have er1 : zs.drop (place + 1) = r := by rw [← List.drop_drop, er]; rfl
        obtain ⟨b, eb⟩ : ∃ b, hR[n]? = some b := ⟨hR[n]'(by show n < 14; have := hh.n13; omega), List.getElem?_eq_getElem _⟩
        obtain ⟨u, eu⟩ : ∃ u, r = ws ++ u := by
          cases b with
          | false => exact ⟨t, (List.cons.inj (hh.no eb).2).2⟩
          | true => exact ⟨_, (List.cons.inj (hh.yes eb)).2⟩
        rw [eu] at er1
        rw [cut_nat er1]
        have s2 : Same H2 (upd H2 bw (.lst (vn ws))) := Same.new nbw
        -- row = []
        refine ⟨(by show 0 ≤ sizeLine; decide), fun br nbr => ?_⟩
        have s3 : Same H2 (upd (upd H2 bw (.lst (vn ws))) br (.lst [])) := s2.trans (Same.new nbr)
        have hw : SqL K (upd (upd H2 bw (.lst (vn ws))) br (.lst [])) bw (vn ws) := (Same.new nbr).seq (SqL.of upd_same)
        have ebl : (hR.map V.bl)[n]? = some (.bl b) := by rw [List.getElem?_map, eb]; rfl
        have er2 := drop_more er1
        refine ⟨nI n, rfl, aH, _, (n : Int), _, rfl, rfl, sH _, atI_nat ebl, b, rfl, ?_⟩
        cases b with
        | false =>
          refine iteF ?_
          obtain ⟨rfl, et2⟩ := hh.no eb
          have eu2 : u = t := by
            have q := (List.cons.inj et2).2
            rw [eu] at q
            exact List.append_cancel_left q
          rw [eu2] at er2
          rw [← er2] at hl'
          have he : place + 1 + ws.length ≤ zs.length := by
            have q := congrArg List.length er1
            rw [List.length_drop, List.length_append] at q
            omega
          exact pure_tail (p2.same s3) (s3 _ _ eg) ng (hs.move (Moved.of_same s3)) hw (SqL.of upd_same) (by show 0 ≤ 1600; decide) hh.n13 hh.lw (fun _ => rfl) hh.call htot ht hl' he (kk _ (by omega))
        | true =>
          refine iteT ?_
          have eu2 : u = row.length :: (row ++ t) := by
            have q := (List.cons.inj (hh.yes eb)).2
            rw [eu] at q
            exact List.append_cancel_left q
          rw [eu2] at er2
          have er3 : zs.drop (place + 1 + ws.length + 1) = row ++ t := by rw [← List.drop_drop, er2]; rfl
          have er4 := drop_more er3
          rw [← er4] at hl'
          have hs3 := hs.move (Moved.of_same s3)
          have hE : place + 1 + ws.length < zs.length := drop_len er2
          have he : place + 1 + ws.length + 1 + row.length ≤ zs.length := by
            have q := congrArg List.length er3
            rw [List.length_drop, List.length_append] at q
            omega
          -- start = end + 1
          refine ⟨nI (place + 1 + ws.length), rfl, ((place + 1 + ws.length : Nat) : Int), 1, rfl, rfl, ?_⟩
          have e2 : ((place + 1 + ws.length : Nat) : Int) + 1 = ((place + 1 + ws.length + 1 : Nat) : Int) := by omega
          show gName 8 (V.int (((place + 1 + ws.length : Nat) : Int) + 1)) _ _ _
          rw [e2]
          -- end = start + calls[end]
          refine ⟨nI (place + 1 + ws.length + 1), rfl, .ref c0, rfl, nI (place + 1 + ws.length), rfl, c0, _, ((place + 1 + ws.length : Nat) : Int), _, rfl, rfl, hs3.seq, atI_nat (vn_at (drop_at er2)), ((place + 1 + ws.length + 1 : Nat) : Int), (row.length : Int), rfl, rfl, ?_⟩
          have e3 : ((place + 1 + ws.length + 1 : Nat) : Int) + (row.length : Int) = ((place + 1 + ws.length + 1 + row.length : Nat) : Int) := by omega
          show gName 5 (V.int (((place + 1 + ws.length + 1 : Nat) : Int) + (row.length : Int))) _ _ _
          rw [e3]
          -- row = calls[start:end]
          refine ⟨.ref c0, rfl, nI (place + 1 + ws.length + 1), rfl, ((place + 1 + ws.length + 1 : Nat) : Int), rfl, nI (place + 1 + ws.length + 1 + row.length), rfl, ((place + 1 + ws.length + 1 + row.length : Nat) : Int), rfl, c0, _, rfl, hs3.seq, fun br2 nbr2 => ?_⟩
          rw [cut_nat er3]
          have s4 := s3.trans (Same.new (o := .lst (vn row)) nbr2)
          exact pure_tail (p2.same s4) (s4 _ _ eg) ng (hs.move (Moved.of_same s4)) ((Same.new nbr2).seq hw) (SqL.of upd_same) (by omega) hh.n13 hh.lw (fun q => by rw [eb] at q; cases q) hh.call htot ht hl' he (kk _ (by omega))
      · have hpl : place = zs.length := by
          have c' : ¬ (place : Int) < (zs.length : Int) := fun z => c (decide_eq_true z)
          omega
        rw [hpl, List.drop_length] at hl
        rw [left_nil hl, List.append_nil] at ht
        refine ⟨.ref g, rfl, kq _ g ?_⟩
        rw [eg, ht]
end
end Sf
namespace Sf
open PySem PySem.Spec PyProof.Rows L2
theorem Same.put {H H' : Hp} {D : Addr} {o : HO} (s : Same H H') (hD : H D = none) : Same H (upd H' D o) := fun b u e => by
  have hb : b ≠ D := fun z => by
    rw [z, hD] at e
    cases e
  rw [upd_ne hb]
  exact s _ _ e
/-- the first function is another list now -/
theorem PairAt.become {C : Addr} {H H1 : Hp} {a f1 f2 D dx : Addr} {d : Dr01.Desk} {l : List Int} (p : PairAt C H a f1 f2 d) (s1 : Same H H1) (hD : H D = none) (e1 : H1 D = some (.lst (vi l))) (hl : l.length = 2 ^ d.one.many) :
    PairAt C (upd H1 a (.ins C dx (pF d.one.many D f2))) a D f2 ⟨⟨d.one.many, l⟩, d.two⟩ ∧ Moved H (upd H1 a (.ins C dx (pF d.one.many D f2))) [a, f1, f2] [a, D, f2] := by
  have out := p.out hD
  have na : D ≠ a := fun z => out (by rw [z]; simp)
  have n2 : D ≠ f2 := fun z => out (by rw [z]; simp)
  refine ⟨⟨⟨dx, upd_same⟩, (upd_ne na).trans e1, (upd_ne p.n2.symm).trans (s1 _ _ p.l2), n2, ⟨⟨p.good.one.lo, p.good.one.hi, hl⟩, p.good.two, p.good.eq⟩⟩, fun b o eb hb => ?_⟩
  have ba : b ≠ a := fun z => hb (by rw [z]; simp)
  have b2 : b ≠ f2 := fun z => hb (by rw [z]; simp)
  have bD : b ≠ D := fun z => by
    rw [z, hD] at eb
    cases eb
  refine ⟨(upd_ne ba).trans (s1 _ _ eb), ?_⟩
  simp [ba, b2, bD]
/-- within a comprehension: what is written is what is written outside -/
theorem ix_listK {X : Cx} {K : PySem.W.Frag} (h : X.K = K) : IxR X (rIxL K) := h ▸ ix_list
theorem pe_fldK {X : Cx} {K : PySem.W.Frag} {e : Expr} {f : Str} {pos : Pos} {ta : TE} (h : X.K = K) (he : PE X e ta) (hb : attributeBase e f X.env (eval e X.env) = eval e X.env) : PE X (.Attribute e f pos) (tFld K ta f) := h ▸ pe_fld he hb
theorem land_lt {n s t : Nat} (h : s < 2 ^ n) : s &&& t < 2 ^ n := Nat.lt_of_le_of_lt Nat.and_le_left h
section
variable {P : Program} {w : World} {K : PySem.W.Frag} {mg : Str → Option Value} {base : Heap} {C aS aT : Addr}
/-! ### onto -/
def spT (C : Addr) (c : Nat → Dr01.Call) : Sp := fun vs H Q _ => ∃ (a f1 f2 : Addr) (d : Dr01.Desk) (t : Nat), vs = [.ref a, nI t] ∧ PairAt C H a f1 f2 d ∧ Post C H a f1 f2 (Dr01.step d (c t)) Q
theorem scOnto : FnScope ["pair", "kept", "chosen"] ["pair", "kept"] (defScope sOnto) := ⟨rfl, rfl, rfl, by decide +kernel, rfl, by decide +kernel, by decide +kernel⟩
theorem ok_onto {f fT : Addr} {fd fdT : FuncData} (T : Txt K mg C aS) (F : Fun K "onto" "onto" sOnto f fd) (FT : Fun K "told" "Pair.told" sTold fT fdT) (bT : Binds K fdT ["self"] []) (mT : Meth K C "told" fT) : FnOk P w K mg base CX0 2 f fd ["pair", "kept"] (spT C .onto) := by
  have GT : FnOk P w K mg base CX0 1 fT fdT ["self"] (spTold C) := ok_told T FT
  refine F.ok scOnto (fun vs H Q E h => ?_) (fun cdv A outer s H vs Q E hr h => ?_)
  · obtain ⟨a, f1, f2, d, t, rfl, _⟩ := h
    rfl
  · obtain ⟨a, f1, f2, d, t, rfl, p, k⟩ := h
    obtain ⟨dx, ho⟩ := p.obj
    have g1 := p.good.one
    have n5 := g1.hi
    obtain ⟨uR, gR, rR⟩ := T.cRefused
    refine ⟨_, pss_cons (ps_if (pt_cmpR op_ge (pv 1) (pe_ix ix_tup (pe_glob (v := .ref aS) rfl T.gS rfl) (pe_fld (pv 0) rfl) (fun _ _ => rfl)) (nomark _)) (pss_one (ps_ret (pe_lst (pa_cons (pe_glob (v := .int (-1)) rfl gR rR) pa_nil)))) pss_nil) (pss_cons (ps_fld (pv 0) (pe_lc (own := [("chosen", 2)]) (g := gName 2) (tt := tYes) rfl scOnto.nd (pi_range1 rfl T.zRange (pa_cons (pe_ix ix_tup (pe_glob (v := .ref aS) rfl T.gS rfl) (pe_fld (pv 0) rfl) (fun _ _ => rfl)) pa_nil)) (blkOk_by (N := ["pair", "kept", "chosen"]) (sc := defScope sOnto) (by decide +kernel)) (fun _ _ _ _ _ => pg_name (i := 2) scOnto.nd rfl (Or.inl rfl)) (fun _ _ _ _ _ => pts_nil) (fun _ _ _ _ _ => pe_ix (ix_listK (K := K) rfl) (pe_fldK (K := K) rfl (pv 0) rfl) (pe_op op_and (pv 2) (pv 1)) (fun _ _ => rfl))) rfl) (pss_one (ps_ret (pe_meth0 (pv 0) T.cl mT GT hr bT .nil pass0)))), ?_⟩
    refine ⟨nI t, rfl, .ref a, rfl, a, C, dx, _, _, rfl, ho, T.cl, T.nT, pF_things _ _ _, aS, _, _, _, rfl, rfl, T.sS _, at_of (j := d.one.many) rfl (pow_at n5), (t : Int), _, rfl, rfl, _, rfl, ite2 (fun e => ?_) (fun e => ?_)⟩
    · have e' : ((2 ^ d.one.many : Nat) : Int) ≤ (t : Int) := of_decide_eq_true e
      refine ⟨(by show 1 ≤ sizeLine; decide), fun q hq => ?_⟩
      exact k.no (step_onto_no (by omega)) p (Same.refl H) hq
    have e' : ¬ 2 ^ d.one.many ≤ t := fun q => e (decide_eq_true (by omega))
    rw [step_onto e'] at k
    have ht : t < 2 ^ d.one.many := by omega
    refine ⟨.ref a, rfl, a, C, dx, _, _, rfl, ho, T.cl, T.nT, pF_things _ _ _, aS, _, _, _, rfl, rfl, T.sS _, at_of (j := d.one.many) rfl (pow_at n5), ((2 ^ d.one.many : Nat) : Int), rfl, by have h0 := Int.natCast_nonneg (2 ^ d.one.many); omega, by have := pow_le n5; omega, fun D hD => lc_range (lo := 0) (n := ((2 ^ d.one.many : Nat) : Int).toNat) (fun i H' => Same H H' ∧ H' D = some (.lst (vi (((List.range (2 ^ d.one.many)).take i).map (fun s => Dr01.val d.one (s &&& t)))))) ⟨Same.new hD, upd_same⟩ ?_ ?_⟩
    · rintro i H' hi ⟨s1, e1⟩
      rw [Int.toNat_natCast] at hi
      rw [Int.zero_add]
      obtain ⟨dx1, ho1⟩ := (p.same s1).obj
      have l1 : SqL K H' f1 (vi d.one.vals) := SqL.of (s1 _ _ p.l1)
      refine ⟨rfl, yes_of ?_⟩
      refine iteT ?_
      refine ⟨.ref a, rfl, a, C, dx1, _, _, rfl, ho1, T.cl, T.nF, pF_first _ _ _, nI i, rfl, nI t, rfl, (i : Int), (t : Int), rfl, rfl, f1, _, _, .int (Dr01.val d.one (i &&& t)), rfl, rfl, l1, (by rw [nat_and]; exact atI_nat (vals_at g1 (land_lt hi))), ?_⟩
      refine ⟨_, e1, ?_, ⟨Same.put s1 hD, ?_⟩⟩
      · rw [List.length_map, List.length_map, List.length_take, List.length_range]
        have := pow_le n5
        exact small32 (by omega)
      · rw [upd_same, range_take hi, vi_app]
        rfl
    · rintro H1 ⟨s1, e1⟩
      rw [Int.toNat_natCast, List.take_of_length_le (by rw [List.length_range]; exact Nat.le_refl _)] at e1
      obtain ⟨dx1, ho1⟩ := (p.same s1).obj
      obtain ⟨pb, mb⟩ := p.become (dx := dx1) s1 hD e1 (by rw [List.length_map, List.length_range])
      refine ⟨.ref a, rfl, a, C, dx1, _, rfl, ho1, T.cl, T.nF, (by show 3 < 1000; decide), ?_⟩
      rw [pF_putF]
      obtain ⟨dx2, ho2⟩ := pb.obj
      refine ⟨.ref a, rfl, a, dx2, _, rfl, ho2, pF_meth (by decide +kernel) (by decide +kernel) (by decide +kernel) _ _ _, a, D, f2, _, rfl, pb, fun H3 q s3 hq e3 => ?_⟩
      exact k _ D f2 q (pb.same s3) (mb.trans (Moved.add s3 hq)) e3
/-! ### beyond -/
theorem scBeyond : FnScope ["pair", "joined", "already", "chosen"] ["pair", "joined"] (defScope sBeyond) := ⟨rfl, rfl, rfl, by decide +kernel, rfl, by decide +kernel, by decide +kernel⟩
theorem ok_beyond {f fT : Addr} {fd fdT : FuncData} (T : Txt K mg C aS) (F : Fun K "beyond" "beyond" sBeyond f fd) (FT : Fun K "told" "Pair.told" sTold fT fdT) (bT : Binds K fdT ["self"] []) (mT : Meth K C "told" fT) : FnOk P w K mg base CX0 2 f fd ["pair", "joined"] (spT C .beyond) := by
  have GT : FnOk P w K mg base CX0 1 fT fdT ["self"] (spTold C) := ok_told T FT
  refine F.ok scBeyond (fun vs H Q E h => ?_) (fun cdv A outer s H vs Q E hr h => ?_)
  · obtain ⟨a, f1, f2, d, t, rfl, _⟩ := h
    rfl
  · obtain ⟨a, f1, f2, d, t, rfl, p, k⟩ := h
    obtain ⟨dx, ho⟩ := p.obj
    have g1 := p.good.one
    have n5 := g1.hi
    obtain ⟨uR, gR, rR⟩ := T.cRefused
    refine ⟨_, pss_cons (ps_if (pt_cmpR op_ge (pv 1) (pe_ix ix_tup (pe_glob (v := .ref aS) rfl T.gS rfl) (pe_fld (pv 0) rfl) (fun _ _ => rfl)) (nomark _)) (pss_one (ps_ret (pe_lst (pa_cons (pe_glob (v := .int (-1)) rfl gR rR) pa_nil)))) pss_nil) (pss_cons (ps_set (i := 2) scBeyond.nd rfl (.inr rfl) (pe_ix ix_list (pe_fld (pv 0) rfl) (pv 1) (fun _ _ => rfl))) (pss_cons (ps_fld (pv 0) (pe_lc (own := [("chosen", 3)]) (g := gName 3) (tt := tYes) rfl scBeyond.nd (pi_range1 rfl T.zRange (pa_cons (pe_ix ix_tup (pe_glob (v := .ref aS) rfl T.gS rfl) (pe_fld (pv 0) rfl) (fun _ _ => rfl)) pa_nil)) (blkOk_by (N := ["pair", "joined", "already", "chosen"]) (sc := defScope sBeyond) (by decide +kernel)) (fun _ _ _ _ _ => pg_name (i := 3) scBeyond.nd rfl (Or.inl rfl)) (fun _ _ _ _ _ => pts_nil) (fun _ _ _ _ _ => pe_op op_sub (pe_ix (ix_listK (K := K) rfl) (pe_fldK (K := K) rfl (pv 0) rfl) (pe_op op_or (pv 3) (pv 1)) (fun _ _ => rfl)) (pv 2))) rfl) (pss_one (ps_ret (pe_meth0 (pv 0) T.cl mT GT hr bT .nil pass0))))), ?_⟩
    refine ⟨nI t, rfl, .ref a, rfl, a, C, dx, _, _, rfl, ho, T.cl, T.nT, pF_things _ _ _, aS, _, _, _, rfl, rfl, T.sS _, at_of (j := d.one.many) rfl (pow_at n5), (t : Int), _, rfl, rfl, _, rfl, ite2 (fun e => ?_) (fun e => ?_)⟩
    · have e' : ((2 ^ d.one.many : Nat) : Int) ≤ (t : Int) := of_decide_eq_true e
      refine ⟨(by show 1 ≤ sizeLine; decide), fun q hq => ?_⟩
      exact k.no (step_beyond_no (by omega)) p (Same.refl H) hq
    have e' : ¬ 2 ^ d.one.many ≤ t := fun q => e (decide_eq_true (by omega))
    rw [step_beyond e'] at k
    have ht : t < 2 ^ d.one.many := by omega
    refine ⟨.ref a, rfl, a, C, dx, _, _, rfl, ho, T.cl, T.nF, pF_first _ _ _, nI t, rfl, f1, _, _, _, rfl, rfl, SqL.of p.l1, atI_nat (vals_at g1 ht), ?_⟩
    refine ⟨.ref a, rfl, a, C, dx, _, _, rfl, ho, T.cl, T.nT, pF_things _ _ _, aS, _, _, _, rfl, rfl, T.sS _, at_of (j := d.one.many) rfl (pow_at n5), ((2 ^ d.one.many : Nat) : Int), rfl, by have h0 := Int.natCast_nonneg (2 ^ d.one.many); omega, by have := pow_le n5; omega, fun D hD => lc_range (lo := 0) (n := ((2 ^ d.one.many : Nat) : Int).toNat) (fun i H' => Same H H' ∧ H' D = some (.lst (vi (((List.range (2 ^ d.one.many)).take i).map (fun s => Dr01.val d.one (s ||| t) - Dr01.val d.one t))))) ⟨Same.new hD, upd_same⟩ ?_ ?_⟩
    · rintro i H' hi ⟨s1, e1⟩
      rw [Int.toNat_natCast] at hi
      rw [Int.zero_add]
      obtain ⟨dx1, ho1⟩ := (p.same s1).obj
      have l1 : SqL K H' f1 (vi d.one.vals) := SqL.of (s1 _ _ p.l1)
      refine ⟨rfl, yes_of ?_⟩
      refine iteT ?_
      refine ⟨.ref a, rfl, a, C, dx1, _, _, rfl, ho1, T.cl, T.nF, pF_first _ _ _, nI i, rfl, nI t, rfl, (i : Int), (t : Int), rfl, rfl, f1, _, _, .int (Dr01.val d.one (i ||| t)), rfl, rfl, l1, (by rw [nat_bit]; exact atI_nat (vals_at g1 (Nat.or_lt_two_pow hi ht))), _, rfl, _, _, rfl, rfl, ?_⟩
      refine ⟨_, e1, ?_, ⟨Same.put s1 hD, ?_⟩⟩
      · rw [List.length_map, List.length_map, List.length_take, List.length_range]
        have := pow_le n5
        exact small32 (by omega)
      · rw [upd_same, range_take hi, vi_app]
        rfl
    · rintro H1 ⟨s1, e1⟩
      rw [Int.toNat_natCast, List.take_of_length_le (by rw [List.length_range]; exact Nat.le_refl _)] at e1
      obtain ⟨dx1, ho1⟩ := (p.same s1).obj
      obtain ⟨pb, mb⟩ := p.become (dx := dx1) s1 hD e1 (by rw [List.length_map, List.length_range])
      refine ⟨.ref a, rfl, a, C, dx1, _, rfl, ho1, T.cl, T.nF, (by show 3 < 1000; decide), ?_⟩
      rw [pF_putF]
      obtain ⟨dx2, ho2⟩ := pb.obj
      refine ⟨.ref a, rfl, a, dx2, _, rfl, ho2, pF_meth (by decide +kernel) (by decide +kernel) (by decide +kernel) _ _ _, a, D, f2, _, rfl, pb, fun H3 q s3 hq e3 => ?_⟩
      exact k _ D f2 q (pb.same s3) (mb.trans (Moved.add s3 hq)) e3
/-! ### rest -/
theorem scRest : FnScope ["pair", "everything", "whole", "chosen"] ["pair"] (defScope sRest) := ⟨rfl, rfl, rfl, by decide +kernel, rfl, by decide +kernel, by decide +kernel⟩
theorem ok_rest {f fT : Addr} {fd fdT : FuncData} (T : Txt K mg C aS) (F : Fun K "rest" "rest" sRest f fd) (FT : Fun K "told" "Pair.told" sTold fT fdT) (bT : Binds K fdT ["self"] []) (mT : Meth K C "told" fT) : FnOk P w K mg base CX0 2 f fd ["pair"] (spCmd C .rest) := by
  have GT : FnOk P w K mg base CX0 1 fT fdT ["self"] (spTold C) := ok_told T FT
  refine F.ok scRest (fun vs H Q E h => ?_) (fun cdv A outer s H vs Q E hr h => ?_)
  · obtain ⟨a, f1, f2, d, rfl, _⟩ := h
    rfl
  · obtain ⟨a, f1, f2, d, rfl, p, k⟩ := h
    obtain ⟨dx, ho⟩ := p.obj
    have g1 := p.good.one
    have n5 := g1.hi
    rw [step_rest g1] at k
    refine ⟨_, pss_cons (ps_set (i := 1) scRest.nd rfl (.inr rfl) (pe_op op_sub (pe_ix ix_tup (pe_glob (v := .ref aS) rfl T.gS rfl) (pe_fld (pv 0) rfl) (fun _ _ => rfl)) pe_int)) (pss_cons (ps_set (i := 2) scRest.nd rfl (.inr rfl) (pe_ix ix_list (pe_fld (pv 0) rfl) (pv 1) (fun _ _ => rfl))) (pss_cons (ps_fld (pv 0) (pe_lc (own := [("chosen", 3)]) (g := gName 3) (tt := tYes) rfl scRest.nd (pi_range1 rfl T.zRange (pa_cons (pe_ix ix_tup (pe_glob (v := .ref aS) rfl T.gS rfl) (pe_fld (pv 0) rfl) (fun _ _ => rfl)) pa_nil)) (blkOk_by (N := ["pair", "everything", "whole", "chosen"]) (sc := defScope sRest) (by decide +kernel)) (fun _ _ _ _ _ => pg_name (i := 3) scRest.nd rfl (Or.inl rfl)) (fun _ _ _ _ _ => pts_nil) (fun _ _ _ _ _ => pe_op op_sub (pv 2) (pe_ix (ix_listK (K := K) rfl) (pe_fldK (K := K) rfl (pv 0) rfl) (pe_op op_xor (pv 1) (pv 3)) (fun _ _ => rfl)))) rfl) (pss_one (ps_ret (pe_meth0 (pv 0) T.cl mT GT hr bT .nil pass0))))), ?_⟩
    have hp : 0 < 2 ^ d.one.many := Nat.pow_pos (by decide)
    have e2 : ((2 ^ d.one.many : Nat) : Int) - 1 = ((2 ^ d.one.many - 1 : Nat) : Int) := by omega
    refine ⟨.ref a, rfl, a, C, dx, _, _, rfl, ho, T.cl, T.nT, pF_things _ _ _, aS, _, _, _, rfl, rfl, T.sS _, at_of (j := d.one.many) rfl (pow_at n5), _, 1, rfl, rfl, ?_⟩
    show gName 1 (V.int (((2 ^ d.one.many : Nat) : Int) - 1)) _ _ _
    rw [e2]
    refine ⟨.ref a, rfl, a, C, dx, _, _, rfl, ho, T.cl, T.nF, pF_first _ _ _, nI (2 ^ d.one.many - 1), rfl, f1, _, _, _, rfl, rfl, SqL.of p.l1, atI_nat (vals_at g1 (by omega)), ?_⟩
    refine ⟨.ref a, rfl, a, C, dx, _, _, rfl, ho, T.cl, T.nT, pF_things _ _ _, aS, _, _, _, rfl, rfl, T.sS _, at_of (j := d.one.many) rfl (pow_at n5), ((2 ^ d.one.many : Nat) : Int), rfl, by have h0 := Int.natCast_nonneg (2 ^ d.one.many); omega, by have := pow_le n5; omega, fun D hD => lc_range (lo := 0) (n := ((2 ^ d.one.many : Nat) : Int).toNat) (fun i H' => Same H H' ∧ H' D = some (.lst (vi (((List.range (2 ^ d.one.many)).take i).map (fun s => Dr01.val d.one (2 ^ d.one.many - 1) - Dr01.val d.one ((2 ^ d.one.many - 1) ^^^ s)))))) ⟨Same.new hD, upd_same⟩ ?_ ?_⟩
    · rintro i H' hi ⟨s1, e1⟩
      rw [Int.toNat_natCast] at hi
      rw [Int.zero_add]
      obtain ⟨dx1, ho1⟩ := (p.same s1).obj
      have l1 : SqL K H' f1 (vi d.one.vals) := SqL.of (s1 _ _ p.l1)
      refine ⟨rfl, yes_of ?_⟩
      refine iteT ?_
      have h32 := pow_le n5
      have lt : (2 ^ d.one.many - 1) ^^^ i < 2 ^ d.one.many := Nat.xor_lt_two_pow (by omega) hi
      refine ⟨_, rfl, .ref a, rfl, a, C, dx1, _, _, rfl, ho1, T.cl, T.nF, pF_first _ _ _, nI (2 ^ d.one.many - 1), rfl, nI i, rfl, ((2 ^ d.one.many - 1 : Nat) : Int), (i : Int), rfl, rfl, f1, _, _, .int (Dr01.val d.one ((2 ^ d.one.many - 1) ^^^ i)), rfl, rfl, l1, (by rw [nat_xor (by omega) (by omega)]; exact atI_nat (vals_at g1 lt)), _, _, rfl, rfl, ?_⟩
      refine ⟨_, e1, ?_, ⟨Same.put s1 hD, ?_⟩⟩
      · rw [List.length_map, List.length_map, List.length_take, List.length_range]
        have := pow_le n5
        exact small32 (by omega)
      · rw [upd_same, range_take hi, vi_app]
        rfl
    · rintro H1 ⟨s1, e1⟩
      rw [Int.toNat_natCast, List.take_of_length_le (by rw [List.length_range]; exact Nat.le_refl _)] at e1
      obtain ⟨dx1, ho1⟩ := (p.same s1).obj
      obtain ⟨pb, mb⟩ := p.become (dx := dx1) s1 hD e1 (by rw [List.length_map, List.length_range])
      refine ⟨.ref a, rfl, a, C, dx1, _, rfl, ho1, T.cl, T.nF, (by show 3 < 1000; decide), ?_⟩
      rw [pF_putF]
      obtain ⟨dx2, ho2⟩ := pb.obj
      refine ⟨.ref a, rfl, a, dx2, _, rfl, ho2, pF_meth (by decide +kernel) (by decide +kernel) (by decide +kernel) _ _ _, a, D, f2, _, rfl, pb, fun H3 q s3 hq e3 => ?_⟩
      exact k _ D f2 q (pb.same s3) (mb.trans (Moved.add s3 hq)) e3
/-! ### swap -/
theorem scSwap : FnScope ["pair", "former"] ["pair"] (defScope sSwap) := ⟨rfl, rfl, rfl, by decide +kernel, rfl, by decide +kernel, by decide +kernel⟩
theorem ok_swap {f fT : Addr} {fd fdT : FuncData} (T : Txt K mg C aS) (F : Fun K "swap" "swap" sSwap f fd) (FT : Fun K "told" "Pair.told" sTold fT fdT) (bT : Binds K fdT ["self"] []) (mT : Meth K C "told" fT) : FnOk P w K mg base CX0 2 f fd ["pair"] (spCmd C .swap) := by
  have GT : FnOk P w K mg base CX0 1 fT fdT ["self"] (spTold C) := ok_told T FT
  refine F.ok scSwap (fun vs H Q E h => ?_) (fun cdv A outer s H vs Q E hr h => ?_)
  · obtain ⟨a, f1, f2, d, rfl, _⟩ := h
    rfl
  · obtain ⟨a, f1, f2, d, rfl, p, k⟩ := h
    obtain ⟨dx, ho⟩ := p.obj
    have g1 := p.good.one
    have n5 := g1.hi
    rw [step_swap] at k
    refine ⟨_, pss_cons (ps_set (i := 1) scSwap.nd rfl (.inl rfl) (pe_fld (pv 0) rfl)) (pss_cons (ps_fld (pv 0) (pe_fld (pv 0) rfl) rfl) (pss_cons (ps_fld (pv 0) (pv 1) rfl) (pss_one (ps_ret (pe_meth0 (pv 0) T.cl mT GT hr bT .nil pass0))))), ?_⟩
    refine ⟨.ref a, rfl, a, C, dx, _, _, rfl, ho, T.cl, T.nF, pF_first _ _ _, ?_⟩
    refine ⟨.ref a, rfl, a, C, dx, _, _, rfl, ho, T.cl, T.nS, pF_second _ _ _, _, rfl, a, C, dx, _, rfl, ho, T.cl, T.nF, (by show 3 < 1000; decide), ?_⟩
    rw [pF_putF]
    refine ⟨.ref f1, rfl, _, rfl, a, C, dx, _, rfl, upd_same, T.cl, T.nS, (by show 3 < 1000; decide), ?_⟩
    rw [pF_putS, upd_upd]
    have pb : PairAt C (upd H a (.ins C dx (pF d.one.many f2 f1))) a f2 f1 ⟨d.two, d.one⟩ := by
      refine ⟨⟨dx, ?_⟩, (upd_ne p.n2.symm).trans p.l2, (upd_ne p.n1.symm).trans p.l1, p.ne.symm, ⟨p.good.two, p.good.one, p.good.eq.symm⟩⟩
      show _ = some (HO.ins C dx (pF d.two.many f2 f1))
      rw [upd_same, p.good.eq]
    obtain ⟨dx2, ho2⟩ := pb.obj
    refine ⟨.ref a, rfl, a, dx2, _, rfl, ho2, pF_meth (by decide +kernel) (by decide +kernel) (by decide +kernel) _ _ _, a, f2, f1, _, rfl, pb, fun H3 q s3 hq e3 => ?_⟩
    refine k _ f2 f1 q (pb.same s3) ?_ e3
    refine Moved.trans (Moved.put (S := [a, f1, f2]) (by simp)) (Moved.less (Moved.add s3 hq) ?_)
    simp
end
end Sf
namespace Sf
open PySem PySem.Spec PyProof.Rows L2
theorem band_eq {a b c : Nat} : (V.int (Builtin.bitAnd (a : Int) (b : Int)) = nI c) ↔ a &&& b = c := by
  rw [nat_and]
  exact nI_iff
section
variable {P : Program} {w : World} {K : PySem.W.Frag} {mg : Str → Option Value} {base : Heap} {C aS aT : Addr}
/-! ### least_above -/
def spAbove (K : PySem.W.Frag) : Sp := fun vs H Q _ => ∃ (b : Addr) (f : Dr01.Fun) (z : Nat), vs = [.ref b, nI z] ∧ SqL K H b (vi f.vals) ∧ Good f ∧ z < 2 ^ f.many ∧ ∀ H', Same H H' → Q (.int (lowAbove f z)) H'
theorem scAbove : FnScope ["function", "chosen", "wider"] ["function", "chosen"] (defScope sAbove) := ⟨rfl, rfl, rfl, by decide +kernel, rfl, by decide +kernel, by decide +kernel⟩
theorem ok_above {f : Addr} {fd : FuncData} (T : Txt K mg C aS) (F : Fun K "least_above" "least_above" sAbove f fd) : FnOk P w K mg base CX0 1 f fd ["function", "chosen"] (spAbove K) := by
  refine F.ok scAbove (fun vs H Q E h => ?_) (fun cdv A outer s H vs Q E hr h => ?_)
  · obtain ⟨b, f, z, rfl, _⟩ := h
    rfl
  · obtain ⟨b, f, z, rfl, hL, g1, hz, k⟩ := h
    have h32 := pow_le g1.hi
    refine ⟨_, pss_one (ps_ret (pe_callB (cr_min rfl) (by rfl) T.zMin (by decide +kernel) (pa_cons (pe_lc (own := [("wider", 2)]) (g := gName 2) rfl scAbove.nd (pi_range2 (by rfl) T.zRange (pa_cons (pv 1) (pa_cons (pe_callB call_len_seq (by rfl) T.zLen PySem.boot_len (pa_cons (pv 0) pa_nil)) pa_nil))) (blkOk_by (N := ["function", "chosen", "wider"]) (sc := defScope sAbove) (by decide +kernel)) (fun _ _ _ _ _ => pg_name (i := 2) scAbove.nd rfl (Or.inl rfl)) (fun _ _ _ _ _ => pts_one (pt_cmpR op_eq (pe_op op_and (pv 2) (pv 1)) (pv 1) (nomark _))) (fun _ _ _ _ _ => pe_ix (ix_listK (K := K) rfl) (pv 0) (pv 2) (fun _ _ => rfl))) pa_nil))), ?_⟩
    have len : ((vi f.vals).length : Int) = ((2 ^ f.many : Nat) : Int) := by rw [List.length_map, g1.len]
    refine ⟨nI z, rfl, .ref b, rfl, b, _, rfl, .inl hL, ?_⟩
    rw [len]
    refine ⟨(z : Int), ((2 ^ f.many : Nat) : Int), rfl, ⟨by omega, by omega, by omega, by omega⟩, fun D hD => lc_range (lo := (z : Int)) (n := (((2 ^ f.many : Nat) : Int) - (z : Int)).toNat)
      (fun i H' => H' = upd H D (.lst (vi (((((List.range (2 ^ f.many - z)).map fun i => z + i).take i).filter fun t => decide (t &&& z = z)).map (Dr01.val f))))) rfl ?_ ?_⟩
    · rintro i H' hi rfl
      have hi' : i < 2 ^ f.many - z := by omega
      have ei : (z : Int) + (i : Int) = ((z + i : Nat) : Int) := by omega
      have at1 : ((List.range (2 ^ f.many - z)).map fun i => z + i)[i]? = some (z + i) := by
        rw [List.getElem?_map, List.getElem?_range hi']
        rfl
      rw [ei]
      refine ⟨rfl, nI (z + i), rfl, nI z, rfl, ((z + i : Nat) : Int), (z : Int), rfl, rfl, nI z, rfl, rfl, _, rfl, ite2 (fun c => ?_) (fun c => ?_)⟩
      · have c' : (z + i) &&& z = z := band_eq.mp (of_decide_eq_true c)
        refine ⟨.ref b, rfl, nI (z + i), rfl, b, _, _, _, rfl, rfl, (Same.new hD).seq hL, atI_nat (vals_at g1 (by omega)), _, upd_same, ?_, ?_⟩
        · rw [List.length_map, List.length_map]
          refine small32 (Nat.le_trans (List.length_filter_le _ _) ?_)
          rw [List.length_take, List.length_map, List.length_range]
          omega
        · rw [upd_upd, filter_more at1, if_pos (decide_eq_true c'), List.map_append, vi_app]
          rfl
      · have c' : ¬ (z + i) &&& z = z := fun y => c (decide_eq_true (band_eq.mpr y))
        show upd H D _ = upd H D _
        rw [filter_more at1, if_neg (fun y => c' (of_decide_eq_true y)), List.append_nil]
    · rintro H' rfl
      have en : (((2 ^ f.many : Nat) : Int) - (z : Int)).toNat = 2 ^ f.many - z := by omega
      rw [en, List.take_of_length_le (by rw [List.length_map, List.length_range]; exact Nat.le_refl _)]
      refine ⟨D, (above f.many z).map (Dr01.val f), rfl, SqL.of upd_same, ?_, fun m hm hle => ?_⟩
      · rw [List.length_map]
        exact List.length_pos_iff.mpr (above_some hz)
      · have := k _ (Same.new (o := .lst (vi ((above f.many z).map (Dr01.val f)))) hD)
        rw [lowAbove_is hz hm hle] at this
        exact this
/-! ### risen -/
theorem scRisen : FnScope ["pair", "chosen"] ["pair"] (defScope sRisen) := ⟨rfl, rfl, rfl, by decide +kernel, rfl, by decide +kernel, by decide +kernel⟩
theorem ok_risen {f fA fT : Addr} {fd fdA fdT : FuncData} (T : Txt K mg C aS) (F : Fun K "risen" "risen" sRisen f fd) (FA : Fun K "least_above" "least_above" sAbove fA fdA) (bA : Binds K fdA ["function", "chosen"] []) (gA : mg "least_above" = some (.ref fA)) (FT : Fun K "told" "Pair.told" sTold fT fdT) (bT : Binds K fdT ["self"] []) (mT : Meth K C "told" fT) : FnOk P w K mg base CX0 2 f fd ["pair"] (spCmd C .risen) := by
  have GT : FnOk P w K mg base CX0 1 fT fdT ["self"] (spTold C) := ok_told T FT
  have GA : FnOk P w K mg base CX0 1 fA fdA ["function", "chosen"] (spAbove K) := ok_above T FA
  refine F.ok scRisen (fun vs H Q E h => ?_) (fun cdv A outer s H vs Q E hr h => ?_)
  · obtain ⟨a, f1, f2, d, rfl, _⟩ := h
    rfl
  · obtain ⟨a, f1, f2, d, rfl, p, k⟩ := h
    obtain ⟨dx, ho⟩ := p.obj
    have g1 := p.good.one
    have n5 := g1.hi
    rw [step_risen] at k
    refine ⟨_, pss_cons (ps_fld (pv 0) (pe_lc (own := [("chosen", 1)]) (g := gName 1) (tt := tYes) rfl scRisen.nd (pi_range1 rfl T.zRange (pa_cons (pe_ix ix_tup (pe_glob (v := .ref aS) rfl T.gS rfl) (pe_fld (pv 0) rfl) (fun _ _ => rfl)) pa_nil)) (blkOk_by (N := ["pair", "chosen"]) (sc := defScope sRisen) (by decide +kernel)) (fun _ _ _ _ _ => pg_name (i := 1) scRisen.nd rfl (Or.inl rfl)) (fun _ _ _ _ _ => pts_nil) (fun _ _ _ _ _ => pe_call GA hr (by rfl) gA FA.kp bA .nil pass0 (pa_cons (pe_fldK (K := K) rfl (pv 0) rfl) (pa_cons (pv 1) pa_nil)))) rfl) (pss_one (ps_ret (pe_meth0 (pv 0) T.cl mT GT hr bT .nil pass0))), ?_⟩
    refine ⟨.ref a, rfl, a, C, dx, _, _, rfl, ho, T.cl, T.nT, pF_things _ _ _, aS, _, _, _, rfl, rfl, T.sS _, at_of (j := d.one.many) rfl (pow_at n5), ((2 ^ d.one.many : Nat) : Int), rfl, by have h0 := Int.natCast_nonneg (2 ^ d.one.many); omega, by have := pow_le n5; omega, fun D hD => lc_range (lo := 0) (n := ((2 ^ d.one.many : Nat) : Int).toNat) (fun i H' => Same H H' ∧ H' D = some (.lst (vi (((List.range (2 ^ d.one.many)).take i).map (lowAbove d.one))))) ⟨Same.new hD, upd_same⟩ ?_ ?_⟩
    · rintro i H' hi ⟨s1, e1⟩
      rw [Int.toNat_natCast] at hi
      rw [Int.zero_add]
      obtain ⟨dx1, ho1⟩ := (p.same s1).obj
      have l1 : SqL K H' f1 (vi d.one.vals) := SqL.of (s1 _ _ p.l1)
      refine ⟨rfl, yes_of ?_⟩
      refine iteT ?_
      refine ⟨.ref a, rfl, a, C, dx1, _, _, rfl, ho1, T.cl, T.nF, pF_first _ _ _, nI i, rfl, f1, d.one, i, rfl, l1, g1, hi, fun H2 s2 => ?_⟩
      refine ⟨_, s2 _ _ e1, ?_, ⟨Same.put (s1.trans s2) hD, ?_⟩⟩
      · rw [List.length_map, List.length_map, List.length_take, List.length_range]
        have := pow_le n5
        exact small32 (by omega)
      · rw [upd_same, range_take hi, vi_app]
        rfl
    · rintro H1 ⟨s1, e1⟩
      rw [Int.toNat_natCast, List.take_of_length_le (by rw [List.length_range]; exact Nat.le_refl _)] at e1
      obtain ⟨dx1, ho1⟩ := (p.same s1).obj
      obtain ⟨pb, mb⟩ := p.become (dx := dx1) s1 hD e1 (by rw [List.length_map, List.length_range])
      refine ⟨.ref a, rfl, a, C, dx1, _, rfl, ho1, T.cl, T.nF, (by show 3 < 1000; decide), ?_⟩
      rw [pF_putF]
      obtain ⟨dx2, ho2⟩ := pb.obj
      refine ⟨.ref a, rfl, a, dx2, _, rfl, ho2, pF_meth (by decide +kernel) (by decide +kernel) (by decide +kernel) _ _ _, a, D, f2, _, rfl, pb, fun H3 q s3 hq e3 => ?_⟩
      exact k _ D f2 q (pb.same s3) (mb.trans (Moved.add s3 hq)) e3
/-! ### least_parting -/
def spParting (C : Addr) : Sp := fun vs H Q _ => ∃ (a f1 f2 : Addr) (d : Dr01.Desk) (z : Nat), vs = [.ref a, nI z] ∧ PairAt C H a f1 f2 d ∧ z < 2 ^ d.one.many ∧ ∀ H', Same H H' → Q (.int (lowParted d.one d.two z)) H'
theorem scParting : FnScope ["pair", "chosen", "part"] ["pair", "chosen"] (defScope sParting) := ⟨rfl, rfl, rfl, by decide +kernel, rfl, by decide +kernel, by decide +kernel⟩
theorem ok_parting {f : Addr} {fd : FuncData} (T : Txt K mg C aS) (F : Fun K "least_parting" "least_parting" sParting f fd) : FnOk P w K mg base CX0 1 f fd ["pair", "chosen"] (spParting C) := by
  refine F.ok scParting (fun vs H Q E h => ?_) (fun cdv A outer s H vs Q E hr h => ?_)
  · obtain ⟨a, f1, f2, d, z, rfl, _⟩ := h
    rfl
  · obtain ⟨a, f1, f2, d, z, rfl, p, hz, k⟩ := h
    obtain ⟨dx, ho⟩ := p.obj
    have g1 := p.good.one
    have g2 := p.good.two
    have em := p.good.eq
    have h32 := pow_le g1.hi
    refine ⟨_, pss_one (ps_ret (pe_callB (cr_min rfl) (by rfl) T.zMin (by decide +kernel) (pa_cons (pe_lc (own := [("part", 2)]) (g := gName 2) rfl scParting.nd (pi_range1 rfl T.zRange (pa_cons (pe_op op_add (pv 1) pe_int) pa_nil)) (blkOk_by (N := ["pair", "chosen", "part"]) (sc := defScope sParting) (by decide +kernel)) (fun _ _ _ _ _ => pg_name (i := 2) scParting.nd rfl (Or.inl rfl)) (fun _ _ _ _ _ => pts_one (pt_cmpR op_eq (pe_op op_and (pv 2) (pv 1)) (pv 2) (nomark _))) (fun _ _ _ _ _ => pe_op op_add (pe_ix (ix_listK (K := K) rfl) (pe_fldK (K := K) rfl (pv 0) rfl) (pv 2) (fun _ _ => rfl)) (pe_ix (ix_listK (K := K) rfl) (pe_fldK (K := K) rfl (pv 0) rfl) (pe_op op_xor (pv 1) (pv 2)) (fun _ _ => rfl)))) pa_nil))), ?_⟩
    refine ⟨nI z, rfl, (z : Int), 1, rfl, rfl, (z : Int) + 1, rfl, by omega, by omega, fun D hD => lc_range (lo := 0) (n := ((z : Int) + 1).toNat)
      (fun i H' => H' = upd H D (.lst (vi ((((List.range (z + 1)).take i).filter fun t => decide (t &&& z = t)).map fun t => Dr01.val d.one t + Dr01.val d.two (z ^^^ t))))) rfl ?_ ?_⟩
    · rintro i H' hi rfl
      have hi' : i < z + 1 := by omega
      have at1 : (List.range (z + 1))[i]? = some i := List.getElem?_range hi'
      have sD : Same H (upd H D (.lst (vi ((((List.range (z + 1)).take i).filter fun t => decide (t &&& z = t)).map fun t => Dr01.val d.one t + Dr01.val d.two (z ^^^ t))))) := Same.new hD
      rw [Int.zero_add]
      refine ⟨rfl, nI i, rfl, nI z, rfl, (i : Int), (z : Int), rfl, rfl, nI i, rfl, rfl, _, rfl, ite2 (fun c => ?_) (fun c => ?_)⟩
      · have c' : i &&& z = i := band_eq.mp (of_decide_eq_true c)
        have lx : z ^^^ i < 2 ^ d.two.many := by
          rw [em]
          exact Nat.xor_lt_two_pow hz (by omega)
        refine ⟨.ref a, rfl, a, C, dx, _, _, rfl, sD _ _ ho, T.cl, T.nF, pF_first _ _ _, nI i, rfl, f1, _, _, _, rfl, rfl, SqL.of (sD _ _ p.l1), atI_nat (vals_at g1 (by omega)),
          .ref a, rfl, a, C, dx, _, _, rfl, sD _ _ ho, T.cl, T.nS, pF_second _ _ _, nI z, rfl, nI i, rfl, (z : Int), (i : Int), rfl, rfl, f2, _, _, .int (Dr01.val d.two (z ^^^ i)), rfl, rfl, SqL.of (sD _ _ p.l2), (by rw [nat_xor (by omega) (by omega)]; exact atI_nat (vals_at g2 lx)), _, _, rfl, rfl, _, upd_same, ?_, ?_⟩
        · rw [List.length_map, List.length_map]
          refine small32 (Nat.le_trans (List.length_filter_le _ _) ?_)
          rw [List.length_take, List.length_range]
          omega
        · rw [upd_upd, filter_more at1, if_pos (decide_eq_true c'), List.map_append, vi_app]
          rfl
      · have c' : ¬ i &&& z = i := fun y => c (decide_eq_true (band_eq.mpr y))
        show upd H D _ = upd H D _
        rw [filter_more at1, if_neg (fun y => c' (of_decide_eq_true y)), List.append_nil]
    · rintro H' rfl
      have en : ((z : Int) + 1).toNat = z + 1 := by omega
      rw [en, List.take_of_length_le (by rw [List.length_range]; exact Nat.le_refl _)]
      refine ⟨D, (parts z).map (fun t => Dr01.val d.one t + Dr01.val d.two (z ^^^ t)), rfl, SqL.of upd_same, ?_, fun m hm hle => ?_⟩
      · rw [List.length_map]
        exact List.length_pos_iff.mpr (parts_some z)
      · have := k _ (Same.new (o := .lst (vi ((parts z).map (fun t => Dr01.val d.one t + Dr01.val d.two (z ^^^ t))))) hD)
        rw [lowParted_is g1.hi hz hm hle] at this
        exact this
/-! ### parted -/
theorem scParted : FnScope ["pair", "chosen"] ["pair"] (defScope sParted) := ⟨rfl, rfl, rfl, by decide +kernel, rfl, by decide +kernel, by decide +kernel⟩
theorem ok_parted {f fA fT : Addr} {fd fdA fdT : FuncData} (T : Txt K mg C aS) (F : Fun K "parted" "parted" sParted f fd) (FA : Fun K "least_parting" "least_parting" sParting fA fdA) (bA : Binds K fdA ["pair", "chosen"] []) (gA : mg "least_parting" = some (.ref fA)) (FT : Fun K "told" "Pair.told" sTold fT fdT) (bT : Binds K fdT ["self"] []) (mT : Meth K C "told" fT) : FnOk P w K mg base CX0 2 f fd ["pair"] (spCmd C .parted) := by
  have GT : FnOk P w K mg base CX0 1 fT fdT ["self"] (spTold C) := ok_told T FT
  have GA : FnOk P w K mg base CX0 1 fA fdA ["pair", "chosen"] (spParting C) := ok_parting T FA
  refine F.ok scParted (fun vs H Q E h => ?_) (fun cdv A outer s H vs Q E hr h => ?_)
  · obtain ⟨a, f1, f2, d, rfl, _⟩ := h
    rfl
  · obtain ⟨a, f1, f2, d, rfl, p, k⟩ := h
    obtain ⟨dx, ho⟩ := p.obj
    have g1 := p.good.one
    have n5 := g1.hi
    rw [step_parted] at k
    refine ⟨_, pss_cons (ps_fld (pv 0) (pe_lc (own := [("chosen", 1)]) (g := gName 1) (tt := tYes) rfl scParted.nd (pi_range1 rfl T.zRange (pa_cons (pe_ix ix_tup (pe_glob (v := .ref aS) rfl T.gS rfl) (pe_fld (pv 0) rfl) (fun _ _ => rfl)) pa_nil)) (blkOk_by (N := ["pair", "chosen"]) (sc := defScope sParted) (by decide +kernel)) (fun _ _ _ _ _ => pg_name (i := 1) scParted.nd rfl (Or.inl rfl)) (fun _ _ _ _ _ => pts_nil) (fun _ _ _ _ _ => pe_call GA hr (by rfl) gA FA.kp bA .nil pass0 (pa_cons (pv 0) (pa_cons (pv 1) pa_nil)))) rfl) (pss_one (ps_ret (pe_meth0 (pv 0) T.cl mT GT hr bT .nil pass0))), ?_⟩
    refine ⟨.ref a, rfl, a, C, dx, _, _, rfl, ho, T.cl, T.nT, pF_things _ _ _, aS, _, _, _, rfl, rfl, T.sS _, at_of (j := d.one.many) rfl (pow_at n5), ((2 ^ d.one.many : Nat) : Int), rfl, by have h0 := Int.natCast_nonneg (2 ^ d.one.many); omega, by have := pow_le n5; omega, fun D hD => lc_range (lo := 0) (n := ((2 ^ d.one.many : Nat) : Int).toNat) (fun i H' => Same H H' ∧ H' D = some (.lst (vi (((List.range (2 ^ d.one.many)).take i).map (lowParted d.one d.two))))) ⟨Same.new hD, upd_same⟩ ?_ ?_⟩
    · rintro i H' hi ⟨s1, e1⟩
      rw [Int.toNat_natCast] at hi
      rw [Int.zero_add]
      obtain ⟨dx1, ho1⟩ := (p.same s1).obj
      have l1 : SqL K H' f1 (vi d.one.vals) := SqL.of (s1 _ _ p.l1)
      refine ⟨rfl, yes_of ?_⟩
      refine iteT ?_
      refine ⟨.ref a, rfl, nI i, rfl, a, f1, f2, d, i, rfl, p.same s1, hi, fun H2 s2 => ?_⟩
      refine ⟨_, s2 _ _ e1, ?_, ⟨Same.put (s1.trans s2) hD, ?_⟩⟩
      · rw [List.length_map, List.length_map, List.length_take, List.length_range]
        have := pow_le n5
        exact small32 (by omega)
      · rw [upd_same, range_take hi, vi_app]
        rfl
    · rintro H1 ⟨s1, e1⟩
      rw [Int.toNat_natCast, List.take_of_length_le (by rw [List.length_range]; exact Nat.le_refl _)] at e1
      obtain ⟨dx1, ho1⟩ := (p.same s1).obj
      obtain ⟨pb, mb⟩ := p.become (dx := dx1) s1 hD e1 (by rw [List.length_map, List.length_range])
      refine ⟨.ref a, rfl, a, C, dx1, _, rfl, ho1, T.cl, T.nF, (by show 3 < 1000; decide), ?_⟩
      rw [pF_putF]
      obtain ⟨dx2, ho2⟩ := pb.obj
      refine ⟨.ref a, rfl, a, dx2, _, rfl, ho2, pF_meth (by decide +kernel) (by decide +kernel) (by decide +kernel) _ _ _, a, D, f2, _, rfl, pb, fun H3 q s3 hq e3 => ?_⟩
      exact k _ D f2 q (pb.same s3) (mb.trans (Moved.add s3 hq)) e3
/-! ### price_of -/
def spPrice (K : PySem.W.Frag) : Sp := fun vs H Q _ => ∃ (b : Addr) (ps : List Int) (z : Nat), vs = [.ref b, nI z] ∧ SqL K H b (vi ps) ∧ ps.length ≤ 5 ∧ ∀ H', Same H H' → Q (.int (cost ps z ps.length)) H'
theorem scPrice : FnScope ["prices", "chosen", "price", "things_below", "price_of_one"] ["prices", "chosen"] (defScope sPrice) := ⟨rfl, rfl, rfl, by decide +kernel, rfl, by decide +kernel, by decide +kernel⟩
theorem ok_price {f : Addr} {fd : FuncData} (T : Txt K mg C aS) (F : Fun K "price_of" "price_of" sPrice f fd) : FnOk P w K mg base CX0 1 f fd ["prices", "chosen"] (spPrice K) := by
  refine F.ok scPrice (fun vs H Q E h => ?_) (fun cdv A outer s H vs Q E hr h => ?_)
  · obtain ⟨b, ps, z, rfl, _⟩ := h
    rfl
  · obtain ⟨b, ps, z, rfl, hL, h5, k⟩ := h
    refine ⟨_, pss_cons (ps_set (i := 2) scPrice.nd rfl (.inl rfl) pe_int)
      (pss_cons (ps_for PassesOwn.never rfl (pi_enum (by rfl) T.zEnum (pa_cons (pv 0) pa_nil)) (pg_tup rfl (pgs_cons (pg_name (i := 3) scPrice.nd rfl (Or.inl rfl)) (pgs_cons (pg_name (i := 4) scPrice.nd rfl (Or.inl rfl)) pgs_nil)))
        (pss_one (ps_if (pt_cmpR op_ne (pe_op op_and (pv 1) (pe_ix ix_tup (pe_glob (v := .ref aS) rfl T.gS rfl) (pv 3) (fun _ _ => rfl))) pe_int (nomark _)) (pss_one (ps_set (i := 2) scPrice.nd rfl (.inl rfl) (pe_op op_add (pv 2) (pv 4)))) pss_nil)))
      (pss_one (ps_ret (pv 2)))), ?_⟩
    refine ⟨.ref b, rfl, b, _, rfl, hL, ?_⟩
    refine for_it (walk_enum (K := K) (a := b) (xs := vi ps)) (fun i σ H' => Same H H' ∧ ∃ v3 v4, σ = [some (.ref b), some (nI z), some (.int (cost ps z i)), v3, v4]) ⟨Same.refl H, none, none, rfl⟩ (fun i σ H' _ ⟨s1, _⟩ => s1.seq hL) ?_ ?_
    · rintro i x σ H1 H2 hi ⟨s1, v3, v4, rfl⟩ ⟨t, u, v, rfl, ht, rfl, eu, ev⟩
      have hi' : i < ps.length := by
        rw [List.length_map] at hi
        exact hi
      have ev' : v = .int (ps.getD i 0) := by
        have ev2 : (vi ps)[i]? = some v := ev
        rw [List.getElem?_map, List.getElem?_eq_getElem hi'] at ev2
        rw [List.getD_eq_getElem?_getD, List.getElem?_eq_getElem hi']
        exact (Option.some.inj ev2).symm
      cases eu
      subst ev'
      have s2 := s1.trans (Same.new (o := .tup [.int ((i : Nat) : Int), .int (ps.getD i 0)]) ht)
      refine ⟨t, _, rfl, SqT.of upd_same, rfl, _, _, rfl, _, _, rfl, rfl, ?_⟩
      refine ⟨nI z, rfl, nI i, rfl, aS, _, (i : Int), _, rfl, rfl, T.sS _, at_of (j := i) rfl (pow_at (by omega)), (z : Int), ((2 ^ i : Nat) : Int), rfl, rfl, rfl, _, rfl, ite2 (fun c => ?_) (fun c => ?_)⟩
      · have c' : ¬ z &&& 2 ^ i = 0 := fun y => by
          have e0 : V.int (Builtin.bitAnd (z : Int) ((2 ^ i : Nat) : Int)) = V.int 0 := band_eq.mpr y
          rw [show (fun i j : Int => V.int (Builtin.bitAnd i j)) (z : Int) ((2 ^ i : Nat) : Int) = V.int (Builtin.bitAnd (z : Int) ((2 ^ i : Nat) : Int)) from rfl, e0] at c
          simp at c
        refine ⟨_, rfl, _, rfl, _, _, rfl, rfl, s2, some (.int ((i : Nat) : Int)), some (.int (ps.getD i 0)), ?_⟩
        rw [show cost ps z (i + 1) = cost ps z i + ps.getD i 0 from congrArg (fun x => cost ps z i + x) (if_neg c')]
        rfl
      · have c' : z &&& 2 ^ i = 0 := by
          rw [show (fun i j : Int => V.int (Builtin.bitAnd i j)) (z : Int) ((2 ^ i : Nat) : Int) = V.int (Builtin.bitAnd (z : Int) ((2 ^ i : Nat) : Int)) from rfl, nat_and] at c
          simp at c
          exact c
        refine ⟨s2, some (.int ((i : Nat) : Int)), some (.int (ps.getD i 0)), ?_⟩
        rw [show cost ps z (i + 1) = cost ps z i from (congrArg (fun x => cost ps z i + x) (if_pos c')).trans (Int.add_zero _)]
        rfl
    · rintro σ H' ⟨s1, v3, v4, rfl⟩
      rw [List.length_map]
      exact ⟨_, rfl, k _ s1⟩
/-! ### less -/
def spLess (C : Addr) (K : PySem.W.Frag) : Sp := fun vs H Q _ => ∃ (a f1 f2 b : Addr) (d : Dr01.Desk) (l : List Nat), vs = [.ref a, .ref b] ∧ PairAt C H a f1 f2 d ∧ SqL K H b (vn l) ∧ Post C H a f1 f2 (Dr01.step d (.less l)) Q
theorem scLess : FnScope ["pair", "handed", "prices", "number", "chosen"] ["pair", "handed"] (defScope sLess) := ⟨rfl, rfl, rfl, by decide +kernel, rfl, by decide +kernel, by decide +kernel⟩
theorem ok_less {f fW fR fT : Addr} {fd fdW fdR fdT : FuncData} (T : Txt K mg C aS) (F : Fun K "less" "less" sLess f fd) (FW : Fun K "whole_number" "whole_number" sWhole fW fdW) (bW : Binds K fdW ["handed"] []) (gW : mg "whole_number" = some (.ref fW)) (FR : Fun K "price_of" "price_of" sPrice fR fdR) (bR : Binds K fdR ["prices", "chosen"] []) (gP : mg "price_of" = some (.ref fR)) (FT : Fun K "told" "Pair.told" sTold fT fdT) (bT : Binds K fdT ["self"] []) (mT : Meth K C "told" fT) : FnOk P w K mg base CX0 2 f fd ["pair", "handed"] (spLess C K) := by
  have GT : FnOk P w K mg base CX0 1 fT fdT ["self"] (spTold C) := ok_told T FT
  have GW : FnOk P w K mg base CX0 1 fW fdW ["handed"] spWhole := ok_whole FW
  have GR : FnOk P w K mg base CX0 1 fR fdR ["prices", "chosen"] (spPrice K) := ok_price T FR
  refine F.ok scLess (fun vs H Q E h => ?_) (fun cdv A outer s H vs Q E hr h => ?_)
  · obtain ⟨a, f1, f2, b, d, l, rfl, _⟩ := h
    rfl
  · obtain ⟨a, f1, f2, b, d, l, rfl, p0, hL, k0⟩ := h
    obtain ⟨dx, ho⟩ := p0.obj
    have g1 := p0.good.one
    have n5 := g1.hi
    obtain ⟨uR, gR, rR⟩ := T.cRefused
    obtain ⟨uM, gM, rM⟩ := T.cHanded
    refine ⟨_, pss_cons (ps_if (PW.pt (pw_or (pt_cmpR op_ne (pe_callB call_len_seq (by rfl) T.zLen PySem.boot_len (pa_cons (pv 1) pa_nil)) (pe_fld (pv 0) rfl) (nomark _)) (pw_or1 (pt_cmpR op_gt (pe_callB (cr_max rfl) (by rfl) T.zMax (by decide +kernel) (pa_cons (pv 1) pa_nil)) (pe_glob (v := .int 20000) rfl gM rM) (nomark _))))) (pss_one (ps_ret (pe_lst (pa_cons (pe_glob (v := .int (-1)) rfl gR rR) pa_nil)))) pss_nil)
      (pss_cons (ps_set (i := 2) scLess.nd rfl (.inr rfl) (pe_lc (own := [("number", 3)]) (g := gName 3) (tt := tYes) rfl scLess.nd (pi_list (pv 1)) (blkOk_by (N := ["pair", "handed", "prices", "number", "chosen"]) (sc := defScope sLess) (by decide +kernel)) (fun _ _ _ _ _ => pg_name (i := 3) scLess.nd rfl (Or.inl rfl)) (fun _ _ _ _ _ => pts_nil) (fun _ _ _ _ _ => pe_call GW hr (by rfl) gW FW.kp bW .nil pass0 (pa_cons (pv 3) pa_nil))))
      (pss_cons (ps_fld (pv 0) (pe_lc (own := [("chosen", 4)]) (g := gName 4) (tt := tYes) rfl scLess.nd (pi_range1 rfl T.zRange (pa_cons (pe_ix ix_tup (pe_glob (v := .ref aS) rfl T.gS rfl) (pe_fld (pv 0) rfl) (fun _ _ => rfl)) pa_nil)) (blkOk_by (N := ["pair", "handed", "prices", "number", "chosen"]) (sc := defScope sLess) (by decide +kernel)) (fun _ _ _ _ _ => pg_name (i := 4) scLess.nd rfl (Or.inl rfl)) (fun _ _ _ _ _ => pts_nil) (fun _ _ _ _ _ => pe_op op_sub (pe_ix (ix_listK (K := K) rfl) (pe_fldK (K := K) rfl (pv 0) rfl) (pv 4) (fun _ _ => rfl)) (pe_call GR hr (by rfl) gP FR.kp bR .nil pass0 (pa_cons (pv 2) (pa_cons (pv 4) pa_nil))))) rfl) (pss_one (ps_ret (pe_meth0 (pv 0) T.cl mT GT hr bT .nil pass0))))), ?_⟩
    refine ⟨.ref b, rfl, b, _, rfl, .inl hL, .ref a, rfl, a, C, dx, _, _, rfl, ho, T.cl, T.nT, pF_things _ _ _, rfl, _, rfl, ?_⟩
    rw [show V.int (((vn l).length : Nat) : Int) = nI l.length from by rw [List.length_map]; rfl]
    refine ite2 (fun e => ?_) (fun e => ?_)
    · have e0 : l.length ≠ d.one.many := fun y => by
        rw [y] at e
        simp at e
      refine iteT ⟨(by show 1 ≤ sizeLine; decide), fun q hq => ?_⟩
      exact k0.no (step_less_no (.inl e0)) p0 (Same.refl H) hq
    have e0 : l.length = d.one.many := by
      simp only [Bool.not_eq_true, Bool.not_eq_false', decide_eq_true_eq, nI_iff] at e
      exact e
    have hL' := hL
    rw [vn_vi] at hL'
    refine ⟨.ref b, rfl, b, _, rfl, hL', ?_, fun m hm hmx => ?_⟩
    · unfold Dr01.ints
      rw [List.length_map, e0]
      exact g1.lo
    refine ⟨m, 20000, rfl, rfl, _, rfl, ite2 (fun c => ?_) (fun c => ?_)⟩
    · refine ⟨(by show 1 ≤ sizeLine; decide), fun q hq => ?_⟩
      refine k0.no (step_less_no (.inr ?_)) p0 (Same.refl H) hq
      obtain ⟨z, hz, rfl⟩ := List.mem_map.mp hm
      have c' : (20000 : Int) < (z : Int) := of_decide_eq_true c
      exact ⟨z, hz, by omega⟩
    have hall : ∀ z ∈ l, z ≤ 20000 := fun z hz => by
      have h1 := hmx (z : Int) (List.mem_map.mpr ⟨z, hz, rfl⟩)
      have h2 : ¬ (20000 : Int) < m := fun q => c (decide_eq_true q)
      omega
    rw [step_less g1 e0 hall] at k0
    refine ⟨.ref b, rfl, b, rfl, ⟨_, hL⟩, fun R hR => lc_list (K := K) (a := b) (xs := vn l) (fun i H' => H' = upd H R (.lst (vi ((l.take i).map Dr01.whole)))) rfl (fun i H' _ e => e ▸ (Same.new hR).seq hL) ?_ ?_⟩
    · rintro i x H' hx rfl
      obtain ⟨z, hz, rfl⟩ := vn_get hx
      refine ⟨rfl, yes_of ?_⟩
      refine iteT ?_
      refine ⟨nI z, rfl, z, rfl, _, upd_same, ?_, ?_⟩
      · rw [List.length_map, List.length_map, List.length_take]
        exact small32 (by omega)
      · rw [upd_upd, take_more hz, List.map_append, vi_app]
        rfl
    rintro HH rfl
    have eD : (vi ((l.take (vn l).length).map Dr01.whole)) = vi (l.map Dr01.whole) := by
      rw [List.length_map, List.take_length]
    rw [eD]
    have sR : Same H (upd H R (.lst (vi (l.map Dr01.whole)))) := Same.new hR
    have p := p0.same sR
    have hP : (upd H R (.lst (vi (l.map Dr01.whole)))) R = some (.lst (vi (l.map Dr01.whole))) := upd_same
    have k : Post C (upd H R (.lst (vi (l.map Dr01.whole)))) a f1 f2 (made d fun s => Dr01.val d.one s - cost (l.map Dr01.whole) s d.one.many) Q := fun H' g1 g2 q pp mm e => k0 H' g1 g2 q pp ((Moved.of_same sR).trans mm) e
    replace ho := sR _ _ ho
    have hlen : (l.map Dr01.whole).length = d.one.many := by rw [List.length_map]; exact e0
    generalize upd H R (.lst (vi (l.map Dr01.whole))) = H0 at p hP k ho ⊢
    refine ⟨.ref a, rfl, a, C, dx, _, _, rfl, ho, T.cl, T.nT, pF_things _ _ _, aS, _, _, _, rfl, rfl, T.sS _, at_of (j := d.one.many) rfl (pow_at n5), ((2 ^ d.one.many : Nat) : Int), rfl, by have h0 := Int.natCast_nonneg (2 ^ d.one.many); omega, by have := pow_le n5; omega, fun D hD => lc_range (lo := 0) (n := ((2 ^ d.one.many : Nat) : Int).toNat) (fun i H' => Same H0 H' ∧ H' D = some (.lst (vi (((List.range (2 ^ d.one.many)).take i).map (fun s => Dr01.val d.one s - cost (l.map Dr01.whole) s d.one.many))))) ⟨Same.new hD, upd_same⟩ ?_ ?_⟩
    · rintro i H' hi ⟨s1, e1⟩
      rw [Int.toNat_natCast] at hi
      rw [Int.zero_add]
      obtain ⟨dx1, ho1⟩ := (p.same s1).obj
      have l1 : SqL K H' f1 (vi d.one.vals) := SqL.of (s1 _ _ p.l1)
      refine ⟨rfl, yes_of ?_⟩
      refine iteT ?_
      refine ⟨.ref a, rfl, a, C, dx1, _, _, rfl, ho1, T.cl, T.nF, pF_first _ _ _, nI i, rfl, f1, _, _, _, rfl, rfl, l1, atI_nat (vals_at g1 hi), .ref R, rfl, nI i, rfl, R, l.map Dr01.whole, i, rfl, SqL.of (s1 _ _ hP), by omega, fun H2 s2 => ?_⟩
      rw [hlen]
      refine ⟨_, _, rfl, rfl, ?_⟩
      refine ⟨_, s2 _ _ e1, ?_, ⟨Same.put (s1.trans s2) hD, ?_⟩⟩
      · rw [List.length_map, List.length_map, List.length_take, List.length_range]
        have := pow_le n5
        exact small32 (by omega)
      · rw [upd_same, range_take hi, vi_app]
        rfl
    · rintro H1 ⟨s1, e1⟩
      rw [Int.toNat_natCast, List.take_of_length_le (by rw [List.length_range]; exact Nat.le_refl _)] at e1
      obtain ⟨dx1, ho1⟩ := (p.same s1).obj
      obtain ⟨pb, mb⟩ := p.become (dx := dx1) s1 hD e1 (by rw [List.length_map, List.length_range])
      refine ⟨.ref a, rfl, a, C, dx1, _, rfl, ho1, T.cl, T.nF, (by show 3 < 1000; decide), ?_⟩
      rw [pF_putF]
      obtain ⟨dx2, ho2⟩ := pb.obj
      refine ⟨.ref a, rfl, a, dx2, _, rfl, ho2, pF_meth (by decide +kernel) (by decide +kernel) (by decide +kernel) _ _ _, a, D, f2, _, rfl, pb, fun H3 q s3 hq e3 => ?_⟩
      exact k _ D f2 q (pb.same s3) (mb.trans (Moved.add s3 hq)) e3
end
end Sf
namespace Sf
open PySem PySem.Spec PyProof.Rows L2
theorem two_of {l : List Nat} (h : l.length = 2) : ∃ a b, l = [a, b] := by
  match l, h with
  | [a, b], _ => exact ⟨a, b, rfl⟩
section
variable {P : Program} {w : World} {K : PySem.W.Frag} {mg : Str → Option Value} {base : Heap} {C aS aT : Addr}
/-! ### answer -/
theorem scAnswer : FnScope ["pair", "number", "wholes", "row"] ["pair", "number", "wholes", "row"] (defScope sAnswer) := ⟨rfl, rfl, rfl, by decide +kernel, rfl, by decide +kernel, by decide +kernel⟩
theorem ok_answer {f : Addr} {fd : FuncData} (T : Txt K mg C aS) (N : Nums mg) (F : Fun K "answer" "answer" sAnswer f fd)
    {fTell : Addr} {fdTell : FuncData} (FTell : Fun K "tell" "tell" sTell fTell fdTell) (bTell : Binds K fdTell ["pair", "handed"] []) (gTell : mg "tell" = some (.ref fTell)) (GTell : FnOk P w K mg base CX0 2 fTell fdTell ["pair", "handed"] (spTell C K))
    {fCover : Addr} {fdCover : FuncData} (FCover : Fun K "cover" "cover" sCover fCover fdCover) (bCover : Binds K fdCover ["pair", "things", "points"] []) (gCover : mg "cover" = some (.ref fCover)) (GCover : FnOk P w K mg base CX0 2 fCover fdCover ["pair", "things", "points"] (spCover C K))
    {fSet : Addr} {fdSet : FuncData} (FSet : Fun K "set_value" "set_value" sSet fSet fdSet) (bSet : Binds K fdSet ["pair", "chosen", "handed"] []) (gSet : mg "set_value" = some (.ref fSet)) (GSet : FnOk P w K mg base CX0 2 fSet fdSet ["pair", "chosen", "handed"] (spSet C))
    {fTold : Addr} {fdTold : FuncData} (FTold : Fun K "told" "Pair.told" sTold fTold fdTold) (bTold : Binds K fdTold ["self"] []) (mTold : Meth K C "told" fTold) (GTold : FnOk P w K mg base CX0 1 fTold fdTold ["self"] (spTold C))
    {fKind : Addr} {fdKind : FuncData} (FKind : Fun K "kind" "kind" sKind fKind fdKind) (bKind : Binds K fdKind ["pair", "asked"] []) (gKind : mg "kind" = some (.ref fKind)) (GKind : FnOk P w K mg base CX0 4 fKind fdKind ["pair", "asked"] (spKind C))
    {fFalls : Addr} {fdFalls : FuncData} (FFalls : Fun K "falls" "falls" sFalls fFalls fdFalls) (bFalls : Binds K fdFalls ["pair"] []) (gFalls : mg "falls" = some (.ref fFalls)) (GFalls : FnOk P w K mg base CX0 3 fFalls fdFalls ["pair"] (spCmd C .falls))
    {fLeast : Addr} {fdLeast : FuncData} (FLeast : Fun K "least" "least" sLeast fLeast fdLeast) (bLeast : Binds K fdLeast ["pair"] []) (gLeast : mg "least" = some (.ref fLeast)) (GLeast : FnOk P w K mg base CX0 1 fLeast fdLeast ["pair"] (spCmd C .least))
    {fLess : Addr} {fdLess : FuncData} (FLess : Fun K "less" "less" sLess fLess fdLess) (bLess : Binds K fdLess ["pair", "handed"] []) (gLess : mg "less" = some (.ref fLess)) (GLess : FnOk P w K mg base CX0 2 fLess fdLess ["pair", "handed"] (spLess C K))
    {fOnto : Addr} {fdOnto : FuncData} (FOnto : Fun K "onto" "onto" sOnto fOnto fdOnto) (bOnto : Binds K fdOnto ["pair", "kept"] []) (gOnto : mg "onto" = some (.ref fOnto)) (GOnto : FnOk P w K mg base CX0 2 fOnto fdOnto ["pair", "kept"] (spT C .onto))
    {fBeyond : Addr} {fdBeyond : FuncData} (FBeyond : Fun K "beyond" "beyond" sBeyond fBeyond fdBeyond) (bBeyond : Binds K fdBeyond ["pair", "joined"] []) (gBeyond : mg "beyond" = some (.ref fBeyond)) (GBeyond : FnOk P w K mg base CX0 2 fBeyond fdBeyond ["pair", "joined"] (spT C .beyond))
    {fRest : Addr} {fdRest : FuncData} (FRest : Fun K "rest" "rest" sRest fRest fdRest) (bRest : Binds K fdRest ["pair"] []) (gRest : mg "rest" = some (.ref fRest)) (GRest : FnOk P w K mg base CX0 2 fRest fdRest ["pair"] (spCmd C .rest))
    {fRisen : Addr} {fdRisen : FuncData} (FRisen : Fun K "risen" "risen" sRisen fRisen fdRisen) (bRisen : Binds K fdRisen ["pair"] []) (gRisen : mg "risen" = some (.ref fRisen)) (GRisen : FnOk P w K mg base CX0 2 fRisen fdRisen ["pair"] (spCmd C .risen))
    {fSwap : Addr} {fdSwap : FuncData} (FSwap : Fun K "swap" "swap" sSwap fSwap fdSwap) (bSwap : Binds K fdSwap ["pair"] []) (gSwap : mg "swap" = some (.ref fSwap)) (GSwap : FnOk P w K mg base CX0 2 fSwap fdSwap ["pair"] (spCmd C .swap))
    {fParted : Addr} {fdParted : FuncData} (FParted : Fun K "parted" "parted" sParted fParted fdParted) (bParted : Binds K fdParted ["pair"] []) (gParted : mg "parted" = some (.ref fParted)) (GParted : FnOk P w K mg base CX0 2 fParted fdParted ["pair"] (spCmd C .parted))
    : FnOk P w K mg base CX0 5 f fd ["pair", "number", "wholes", "row"] (spAnswer C K) := by
  refine F.ok scAnswer (fun vs H Q E h => ?_) (fun cdv A outer s H vs Q E hr h => ?_)
  · obtain ⟨a, f1, f2, bw, br, d, n, ws, row, c, rfl, _⟩ := h
    rfl
  · obtain ⟨a, f1, f2, bw, br, d, n, ws, row, c, rfl, p, hw, hrw, lr, n13, lw, no, hc, k⟩ := h
    have r1 : Room 1 _ := hr.mono (by decide)
    have r2 : Room 2 _ := hr.mono (by decide)
    have r3 : Room 3 _ := hr.mono (by decide)
    obtain ⟨u0, gc0, rc0⟩ := N.cTell
    obtain ⟨u1, gc1, rc1⟩ := N.cCover
    obtain ⟨u2, gc2, rc2⟩ := N.cSet
    obtain ⟨u3, gc3, rc3⟩ := N.cVals
    obtain ⟨u4, gc4, rc4⟩ := N.cKind
    obtain ⟨u5, gc5, rc5⟩ := N.cFalls
    obtain ⟨u6, gc6, rc6⟩ := N.cLeast
    obtain ⟨u7, gc7, rc7⟩ := N.cLess
    obtain ⟨u8, gc8, rc8⟩ := N.cOnto
    obtain ⟨u9, gc9, rc9⟩ := N.cBeyond
    obtain ⟨u10, gc10, rc10⟩ := N.cRest
    obtain ⟨u11, gc11, rc11⟩ := N.cRisen
    obtain ⟨u12, gc12, rc12⟩ := N.cSwap
    refine ⟨_, pss_cons (ps_if (pt_cmpR op_eq (pv 1) (pe_glob (v := .int 0) rfl gc0 rc0) (nomark _)) (pss_one (ps_ret (pe_call GTell r2 (by rfl) gTell FTell.kp bTell .nil pass0 (pa_cons (pv 0) (pa_cons (pv 3) pa_nil))))) pss_nil)
      (pss_cons (ps_if (pt_cmpR op_eq (pv 1) (pe_glob (v := .int 1) rfl gc1 rc1) (nomark _)) (pss_one (ps_ret (pe_call GCover r2 (by rfl) gCover FCover.kp bCover .nil pass0 (pa_cons (pv 0) (pa_cons (pe_ix ix_list (pv 2) pe_int (fun _ _ => rfl)) (pa_cons (pv 3) pa_nil)))))) pss_nil)
      (pss_cons (ps_if (pt_cmpR op_eq (pv 1) (pe_glob (v := .int 2) rfl gc2 rc2) (nomark _)) (pss_one (ps_ret (pe_call GSet r2 (by rfl) gSet FSet.kp bSet .nil pass0 (pa_cons (pv 0) (pa_cons (pe_ix ix_list (pv 2) pe_int (fun _ _ => rfl)) (pa_cons (pe_ix ix_list (pv 2) pe_int (fun _ _ => rfl)) pa_nil)))))) pss_nil)
      (pss_cons (ps_if (pt_cmpR op_eq (pv 1) (pe_glob (v := .int 3) rfl gc3 rc3) (nomark _)) (pss_one (ps_ret (pe_meth0 (pv 0) T.cl mTold GTold r1 bTold .nil pass0))) pss_nil)
      (pss_cons (ps_if (pt_cmpR op_eq (pv 1) (pe_glob (v := .int 4) rfl gc4 rc4) (nomark _)) (pss_one (ps_ret (pe_call GKind hr (by rfl) gKind FKind.kp bKind .nil pass0 (pa_cons (pv 0) (pa_cons (pe_ix ix_list (pv 2) pe_int (fun _ _ => rfl)) pa_nil))))) pss_nil)
      (pss_cons (ps_if (pt_cmpR op_eq (pv 1) (pe_glob (v := .int 5) rfl gc5 rc5) (nomark _)) (pss_one (ps_ret (pe_call GFalls r3 (by rfl) gFalls FFalls.kp bFalls .nil pass0 (pa_cons (pv 0) pa_nil)))) pss_nil)
      (pss_cons (ps_if (pt_cmpR op_eq (pv 1) (pe_glob (v := .int 6) rfl gc6 rc6) (nomark _)) (pss_one (ps_ret (pe_call GLeast r1 (by rfl) gLeast FLeast.kp bLeast .nil pass0 (pa_cons (pv 0) pa_nil)))) pss_nil)
      (pss_cons (ps_if (pt_cmpR op_eq (pv 1) (pe_glob (v := .int 7) rfl gc7 rc7) (nomark _)) (pss_one (ps_ret (pe_call GLess r2 (by rfl) gLess FLess.kp bLess .nil pass0 (pa_cons (pv 0) (pa_cons (pv 3) pa_nil))))) pss_nil)
      (pss_cons (ps_if (pt_cmpR op_eq (pv 1) (pe_glob (v := .int 8) rfl gc8 rc8) (nomark _)) (pss_one (ps_ret (pe_call GOnto r2 (by rfl) gOnto FOnto.kp bOnto .nil pass0 (pa_cons (pv 0) (pa_cons (pe_ix ix_list (pv 2) pe_int (fun _ _ => rfl)) pa_nil))))) pss_nil)
      (pss_cons (ps_if (pt_cmpR op_eq (pv 1) (pe_glob (v := .int 9) rfl gc9 rc9) (nomark _)) (pss_one (ps_ret (pe_call GBeyond r2 (by rfl) gBeyond FBeyond.kp bBeyond .nil pass0 (pa_cons (pv 0) (pa_cons (pe_ix ix_list (pv 2) pe_int (fun _ _ => rfl)) pa_nil))))) pss_nil)
      (pss_cons (ps_if (pt_cmpR op_eq (pv 1) (pe_glob (v := .int 10) rfl gc10 rc10) (nomark _)) (pss_one (ps_ret (pe_call GRest r2 (by rfl) gRest FRest.kp bRest .nil pass0 (pa_cons (pv 0) pa_nil)))) pss_nil)
      (pss_cons (ps_if (pt_cmpR op_eq (pv 1) (pe_glob (v := .int 11) rfl gc11 rc11) (nomark _)) (pss_one (ps_ret (pe_call GRisen r2 (by rfl) gRisen FRisen.kp bRisen .nil pass0 (pa_cons (pv 0) pa_nil)))) pss_nil)
      (pss_cons (ps_if (pt_cmpR op_eq (pv 1) (pe_glob (v := .int 12) rfl gc12 rc12) (nomark _)) (pss_one (ps_ret (pe_call GSwap r2 (by rfl) gSwap FSwap.kp bSwap .nil pass0 (pa_cons (pv 0) pa_nil)))) pss_nil)
      (pss_one (ps_ret (pe_call GParted r2 (by rfl) gParted FParted.kp bParted .nil pass0 (pa_cons (pv 0) pa_nil)))))))))))))))), ?_⟩
    refine ⟨nI n, rfl, rfl, _, rfl, ite2 (fun e => ?_) (fun e => ?_)⟩
    · obtain rfl : n = 0 := nI_iff.mp (of_decide_eq_true e)
      obtain rfl : ws = [] := len0 (Option.some.inj lw).symm
      have hc' : some (Dr01.Call.tell row) = some c := hc
      cases hc'
      exact ⟨.ref a, rfl, .ref br, rfl, a, f1, f2, br, d, row, rfl, p, hrw, k⟩
    have e0 : ¬ n = 0 := fun z => e (by rw [z]; rfl)
    refine ⟨nI n, rfl, rfl, _, rfl, ite2 (fun e => ?_) (fun e => ?_)⟩
    · obtain rfl : n = 1 := nI_iff.mp (of_decide_eq_true e)
      obtain ⟨w0, rfl⟩ := List.length_eq_one_iff.mp (Option.some.inj lw).symm
      have hc' : some (Dr01.Call.cover w0 row) = some c := hc
      cases hc'
      exact ⟨.ref a, rfl, .ref bw, rfl, bw, _, 0, nI w0, rfl, rfl, hw, atI_nat (j := 0) rfl, .ref br, rfl, a, f1, f2, br, d, w0, row, rfl, p, hrw, lr, k⟩
    have e1 : ¬ n = 1 := fun z => e (by rw [z]; rfl)
    refine ⟨nI n, rfl, rfl, _, rfl, ite2 (fun e => ?_) (fun e => ?_)⟩
    · obtain rfl : n = 2 := nI_iff.mp (of_decide_eq_true e)
      obtain ⟨w0, w1, rfl⟩ := two_of (Option.some.inj lw).symm
      obtain rfl : row = [] := no rfl
      have hc' : some (Dr01.Call.set w0 w1) = some c := hc
      cases hc'
      exact ⟨.ref a, rfl, .ref bw, rfl, bw, _, 0, nI w0, rfl, rfl, hw, atI_nat (j := 0) rfl, .ref bw, rfl, bw, _, 1, nI w1, rfl, rfl, hw, atI_nat (j := 1) rfl, a, f1, f2, d, w0, w1, rfl, p, k⟩
    have e2 : ¬ n = 2 := fun z => e (by rw [z]; rfl)
    refine ⟨nI n, rfl, rfl, _, rfl, ite2 (fun e => ?_) (fun e => ?_)⟩
    · obtain rfl : n = 3 := nI_iff.mp (of_decide_eq_true e)
      obtain rfl : ws = [] := len0 (Option.some.inj lw).symm
      obtain rfl : row = [] := no rfl
      have hc' : some (Dr01.Call.vals) = some c := hc
      cases hc'
      obtain ⟨dx, ho⟩ := p.obj
      refine ⟨.ref a, rfl, a, dx, _, rfl, ho, pF_meth (by decide +kernel) (by decide +kernel) (by decide +kernel) _ _ _, a, f1, f2, d, rfl, p, fun H' q s1 hq e1 => ?_⟩
      exact k.new p s1 hq e1
    have e3 : ¬ n = 3 := fun z => e (by rw [z]; rfl)
    refine ⟨nI n, rfl, rfl, _, rfl, ite2 (fun e => ?_) (fun e => ?_)⟩
    · obtain rfl : n = 4 := nI_iff.mp (of_decide_eq_true e)
      obtain ⟨w0, rfl⟩ := List.length_eq_one_iff.mp (Option.some.inj lw).symm
      obtain rfl : row = [] := no rfl
      have hc' : some (Dr01.Call.kind w0) = some c := hc
      cases hc'
      exact ⟨.ref a, rfl, .ref bw, rfl, bw, _, 0, nI w0, rfl, rfl, hw, atI_nat (j := 0) rfl, a, f1, f2, d, w0, rfl, p, k⟩
    have e4 : ¬ n = 4 := fun z => e (by rw [z]; rfl)
    refine ⟨nI n, rfl, rfl, _, rfl, ite2 (fun e => ?_) (fun e => ?_)⟩
    · obtain rfl : n = 5 := nI_iff.mp (of_decide_eq_true e)
      obtain rfl : ws = [] := len0 (Option.some.inj lw).symm
      obtain rfl : row = [] := no rfl
      have hc' : some (Dr01.Call.falls) = some c := hc
      cases hc'
      exact ⟨.ref a, rfl, a, f1, f2, d, rfl, p, k⟩
    have e5 : ¬ n = 5 := fun z => e (by rw [z]; rfl)
    refine ⟨nI n, rfl, rfl, _, rfl, ite2 (fun e => ?_) (fun e => ?_)⟩
    · obtain rfl : n = 6 := nI_iff.mp (of_decide_eq_true e)
      obtain rfl : ws = [] := len0 (Option.some.inj lw).symm
      obtain rfl : row = [] := no rfl
      have hc' : some (Dr01.Call.least) = some c := hc
      cases hc'
      exact ⟨.ref a, rfl, a, f1, f2, d, rfl, p, k⟩
    have e6 : ¬ n = 6 := fun z => e (by rw [z]; rfl)
    refine ⟨nI n, rfl, rfl, _, rfl, ite2 (fun e => ?_) (fun e => ?_)⟩
    · obtain rfl : n = 7 := nI_iff.mp (of_decide_eq_true e)
      obtain rfl : ws = [] := len0 (Option.some.inj lw).symm
      have hc' : some (Dr01.Call.less row) = some c := hc
      cases hc'
      exact ⟨.ref a, rfl, .ref br, rfl, a, f1, f2, br, d, row, rfl, p, hrw, k⟩
    have e7 : ¬ n = 7 := fun z => e (by rw [z]; rfl)
    refine ⟨nI n, rfl, rfl, _, rfl, ite2 (fun e => ?_) (fun e => ?_)⟩
    · obtain rfl : n = 8 := nI_iff.mp (of_decide_eq_true e)
      obtain ⟨w0, rfl⟩ := List.length_eq_one_iff.mp (Option.some.inj lw).symm
      obtain rfl : row = [] := no rfl
      have hc' : some (Dr01.Call.onto w0) = some c := hc
      cases hc'
      exact ⟨.ref a, rfl, .ref bw, rfl, bw, _, 0, nI w0, rfl, rfl, hw, atI_nat (j := 0) rfl, a, f1, f2, d, w0, rfl, p, k⟩
    have e8 : ¬ n = 8 := fun z => e (by rw [z]; rfl)
    refine ⟨nI n, rfl, rfl, _, rfl, ite2 (fun e => ?_) (fun e => ?_)⟩
    · obtain rfl : n = 9 := nI_iff.mp (of_decide_eq_true e)
      obtain ⟨w0, rfl⟩ := List.length_eq_one_iff.mp (Option.some.inj lw).symm
      obtain rfl : row = [] := no rfl
      have hc' : some (Dr01.Call.beyond w0) = some c := hc
      cases hc'
      exact ⟨.ref a, rfl, .ref bw, rfl, bw, _, 0, nI w0, rfl, rfl, hw, atI_nat (j := 0) rfl, a, f1, f2, d, w0, rfl, p, k⟩
    have e9 : ¬ n = 9 := fun z => e (by rw [z]; rfl)
    refine ⟨nI n, rfl, rfl, _, rfl, ite2 (fun e => ?_) (fun e => ?_)⟩
    · obtain rfl : n = 10 := nI_iff.mp (of_decide_eq_true e)
      obtain rfl : ws = [] := len0 (Option.some.inj lw).symm
      obtain rfl : row = [] := no rfl
      have hc' : some (Dr01.Call.rest) = some c := hc
      cases hc'
      exact ⟨.ref a, rfl, a, f1, f2, d, rfl, p, k⟩
    have e10 : ¬ n = 10 := fun z => e (by rw [z]; rfl)
    refine ⟨nI n, rfl, rfl, _, rfl, ite2 (fun e => ?_) (fun e => ?_)⟩
    · obtain rfl : n = 11 := nI_iff.mp (of_decide_eq_true e)
      obtain rfl : ws = [] := len0 (Option.some.inj lw).symm
      obtain rfl : row = [] := no rfl
      have hc' : some (Dr01.Call.risen) = some c := hc
      cases hc'
      exact ⟨.ref a, rfl, a, f1, f2, d, rfl, p, k⟩
    have e11 : ¬ n = 11 := fun z => e (by rw [z]; rfl)
    refine ⟨nI n, rfl, rfl, _, rfl, ite2 (fun e => ?_) (fun e => ?_)⟩
    · obtain rfl : n = 12 := nI_iff.mp (of_decide_eq_true e)
      obtain rfl : ws = [] := len0 (Option.some.inj lw).symm
      obtain rfl : row = [] := no rfl
      have hc' : some (Dr01.Call.swap) = some c := hc
      cases hc'
      exact ⟨.ref a, rfl, a, f1, f2, d, rfl, p, k⟩
    have e12 : ¬ n = 12 := fun z => e (by rw [z]; rfl)
    obtain rfl : n = 13 := by omega
    obtain rfl : ws = [] := len0 (Option.some.inj lw).symm
    obtain rfl : row = [] := no rfl
    have hc' : some (Dr01.Call.parted) = some c := hc
    cases hc'
    exact ⟨.ref a, rfl, a, f1, f2, d, rfl, p, k⟩
end
end Sf
namespace Sf
open PySem PySem.Spec PyProof.Rows L2
theorem all_mk {P : Program} {w : World} {K : PySem.W.Frag} {h : Heap} {mg : Str → Option Value} {fa : Addr} (X : K.In h) (G : h.Ns mainGlobals mg) (hfa : mg "answers" = some (.ref fa))
    {C aS aT : Addr}
    {fInit : Addr} {odInit anInit : Option Addr} {slInit : Array (Option Value)} {ocInit kVInit dcInit pmInit cdInit ctInit : Value}
    {fPut : Addr} {odPut anPut : Option Addr} {slPut : Array (Option Value)} {ocPut kVPut dcPut pmPut cdPut ctPut : Value}
    {fTold : Addr} {odTold anTold : Option Addr} {slTold : Array (Option Value)} {ocTold kVTold dcTold pmTold cdTold ctTold : Value}
    {fWhole : Addr} {odWhole anWhole : Option Addr} {slWhole : Array (Option Value)} {ocWhole kVWhole dcWhole pmWhole cdWhole ctWhole : Value}
    {fWith : Addr} {odWith anWith : Option Addr} {slWith : Array (Option Value)} {ocWith kVWith dcWith pmWith cdWith ctWith : Value}
    {fOutside : Addr} {odOutside anOutside : Option Addr} {slOutside : Array (Option Value)} {ocOutside kVOutside dcOutside pmOutside cdOutside ctOutside : Value}
    {fBrings : Addr} {odBrings anBrings : Option Addr} {slBrings : Array (Option Value)} {ocBrings kVBrings dcBrings pmBrings cdBrings ctBrings : Value}
    {fTell : Addr} {odTell anTell : Option Addr} {slTell : Array (Option Value)} {ocTell kVTell dcTell pmTell cdTell ctTell : Value}
    {fPts : Addr} {odPts anPts : Option Addr} {slPts : Array (Option Value)} {ocPts kVPts dcPts pmPts cdPts ctPts : Value}
    {fMet : Addr} {odMet anMet : Option Addr} {slMet : Array (Option Value)} {ocMet kVMet dcMet pmMet cdMet ctMet : Value}
    {fCover : Addr} {odCover anCover : Option Addr} {slCover : Array (Option Value)} {ocCover kVCover dcCover pmCover cdCover ctCover : Value}
    {fSet : Addr} {odSet anSet : Option Addr} {slSet : Array (Option Value)} {ocSet kVSet dcSet pmSet cdSet ctSet : Value}
    {fBreaks : Addr} {odBreaks anBreaks : Option Addr} {slBreaks : Array (Option Value)} {ocBreaks kVBreaks dcBreaks pmBreaks cdBreaks ctBreaks : Value}
    {fFault : Addr} {odFault anFault : Option Addr} {slFault : Array (Option Value)} {ocFault kVFault dcFault pmFault cdFault ctFault : Value}
    {fKind : Addr} {odKind anKind : Option Addr} {slKind : Array (Option Value)} {ocKind kVKind dcKind pmKind cdKind ctKind : Value}
    {fFalls : Addr} {odFalls anFalls : Option Addr} {slFalls : Array (Option Value)} {ocFalls kVFalls dcFalls pmFalls cdFalls ctFalls : Value}
    {fLeast : Addr} {odLeast anLeast : Option Addr} {slLeast : Array (Option Value)} {ocLeast kVLeast dcLeast pmLeast cdLeast ctLeast : Value}
    {fPrice : Addr} {odPrice anPrice : Option Addr} {slPrice : Array (Option Value)} {ocPrice kVPrice dcPrice pmPrice cdPrice ctPrice : Value}
    {fLess : Addr} {odLess anLess : Option Addr} {slLess : Array (Option Value)} {ocLess kVLess dcLess pmLess cdLess ctLess : Value}
    {fOnto : Addr} {odOnto anOnto : Option Addr} {slOnto : Array (Option Value)} {ocOnto kVOnto dcOnto pmOnto cdOnto ctOnto : Value}
    {fBeyond : Addr} {odBeyond anBeyond : Option Addr} {slBeyond : Array (Option Value)} {ocBeyond kVBeyond dcBeyond pmBeyond cdBeyond ctBeyond : Value}
    {fRest : Addr} {odRest anRest : Option Addr} {slRest : Array (Option Value)} {ocRest kVRest dcRest pmRest cdRest ctRest : Value}
    {fAbove : Addr} {odAbove anAbove : Option Addr} {slAbove : Array (Option Value)} {ocAbove kVAbove dcAbove pmAbove cdAbove ctAbove : Value}
    {fRisen : Addr} {odRisen anRisen : Option Addr} {slRisen : Array (Option Value)} {ocRisen kVRisen dcRisen pmRisen cdRisen ctRisen : Value}
    {fParting : Addr} {odParting anParting : Option Addr} {slParting : Array (Option Value)} {ocParting kVParting dcParting pmParting cdParting ctParting : Value}
    {fParted : Addr} {odParted anParted : Option Addr} {slParted : Array (Option Value)} {ocParted kVParted dcParted pmParted cdParted ctParted : Value}
    {fSwap : Addr} {odSwap anSwap : Option Addr} {slSwap : Array (Option Value)} {ocSwap kVSwap dcSwap pmSwap cdSwap ctSwap : Value}
    {fAnswer : Addr} {odAnswer anAnswer : Option Addr} {slAnswer : Array (Option Value)} {ocAnswer kVAnswer dcAnswer pmAnswer cdAnswer ctAnswer : Value}
    {fAnswers : Addr} {odAnswers anAnswers : Option Addr} {slAnswers : Array (Option Value)} {ocAnswers kVAnswers dcAnswers pmAnswers cdAnswers ctAnswers : Value}
    {tkRefused : Tok}
    {tkHanded : Tok}
    {tkThings : Tok}
    {tkWeight : Tok}
    {tkPoints : Tok}
    {tkKind : Tok}
    {tkN0 : Tok}
    {tkN1 : Tok}
    {tkN2 : Tok}
    {tkN3 : Tok}
    {tkN4 : Tok}
    {tkN5 : Tok}
    {tkN6 : Tok}
    {tkN7 : Tok}
    {tkN8 : Tok}
    {tkN9 : Tok}
    {tkN10 : Tok}
    {tkN11 : Tok}
    {tkN12 : Tok}
    {odS : Option Addr} {slS : Array (Option Value)} {cntS : Nat} {tS0 tS1 tS2 tS3 tS4 tS5 : Tok}
    {cntT : Nat} {tT1 tT2 tT3 tT4 tT5 uT1 uT2 uT3 uT4 uT5 : Tok}
    {aWn aHr : Addr}
    {odWn : Option Addr} {slWn : Array (Option Value)} {cntWn : Nat} {tWn0 tWn1 tWn2 tWn3 tWn4 tWn5 tWn6 tWn7 tWn8 tWn9 tWn10 tWn11 tWn12 tWn13 : Tok}
    {odHr : Option Addr} {slHr : Array (Option Value)} {cntHr : Nat} 
    (aC : PySem.W.nsIn K mainGlobals "Pair" = some (some (.ref C))) (pg : PySem.W.plainGet K C Str.empty = true) (hd : PySem.W.hasDictIn K C = true) (po : PySem.W.plainOver K C = true) (sa : PySem.W.findIn K (.ref C) "__setattr__" = some (some (.builtin "object.__setattr__"))) (mk : PySem.W.makesIn K C = true) (kc : PySem.W.keepIn K (.ref C) = true)
    (aInit : PySem.W.findIn K (.ref C) "__init__" = some (some (.ref fInit))) (iInit : PySem.W.isFn K (.ref fInit) = true)
    (lInit : K.lookup fInit = some ⟨ocInit, odInit, .func (PySem.W.fnOf "__init__" "Pair.__init__" (defArgs sInit) (defBody sInit) (defScope sInit) .none kVInit dcInit pmInit anInit cdInit ctInit), slInit⟩) (cInit : PySem.W.codeIn K cdInit "Pair.__init__" = true) (kInit : PySem.W.keepIn K (.ref fInit) = true)
    (aPut : PySem.W.findIn K (.ref C) "put_first" = some (some (.ref fPut))) (iPut : PySem.W.isFn K (.ref fPut) = true)
    (lPut : K.lookup fPut = some ⟨ocPut, odPut, .func (PySem.W.fnOf "put_first" "Pair.put_first" (defArgs sPut) (defBody sPut) (defScope sPut) .none kVPut dcPut pmPut anPut cdPut ctPut), slPut⟩) (cPut : PySem.W.codeIn K cdPut "Pair.put_first" = true) (kPut : PySem.W.keepIn K (.ref fPut) = true)
    (aTold : PySem.W.findIn K (.ref C) "told" = some (some (.ref fTold))) (iTold : PySem.W.isFn K (.ref fTold) = true)
    (lTold : K.lookup fTold = some ⟨ocTold, odTold, .func (PySem.W.fnOf "told" "Pair.told" (defArgs sTold) (defBody sTold) (defScope sTold) .none kVTold dcTold pmTold anTold cdTold ctTold), slTold⟩) (cTold : PySem.W.codeIn K cdTold "Pair.told" = true) (kTold : PySem.W.keepIn K (.ref fTold) = true)
    (aWhole : PySem.W.nsIn K mainGlobals "whole_number" = some (some (.ref fWhole)))
    (lWhole : K.lookup fWhole = some ⟨ocWhole, odWhole, .func (PySem.W.fnOf "whole_number" "whole_number" (defArgs sWhole) (defBody sWhole) (defScope sWhole) .none kVWhole dcWhole pmWhole anWhole cdWhole ctWhole), slWhole⟩) (cWhole : PySem.W.codeIn K cdWhole "whole_number" = true) (kWhole : PySem.W.keepIn K (.ref fWhole) = true)
    (aWith : PySem.W.nsIn K mainGlobals "with_thing" = some (some (.ref fWith)))
    (lWith : K.lookup fWith = some ⟨ocWith, odWith, .func (PySem.W.fnOf "with_thing" "with_thing" (defArgs sWith) (defBody sWith) (defScope sWith) .none kVWith dcWith pmWith anWith cdWith ctWith), slWith⟩) (cWith : PySem.W.codeIn K cdWith "with_thing" = true) (kWith : PySem.W.keepIn K (.ref fWith) = true)
    (aOutside : PySem.W.nsIn K mainGlobals "things_outside" = some (some (.ref fOutside)))
    (lOutside : K.lookup fOutside = some ⟨ocOutside, odOutside, .func (PySem.W.fnOf "things_outside" "things_outside" (defArgs sOutside) (defBody sOutside) (defScope sOutside) .none kVOutside dcOutside pmOutside anOutside cdOutside ctOutside), slOutside⟩) (cOutside : PySem.W.codeIn K cdOutside "things_outside" = true) (kOutside : PySem.W.keepIn K (.ref fOutside) = true)
    (aBrings : PySem.W.nsIn K mainGlobals "brings" = some (some (.ref fBrings)))
    (lBrings : K.lookup fBrings = some ⟨ocBrings, odBrings, .func (PySem.W.fnOf "brings" "brings" (defArgs sBrings) (defBody sBrings) (defScope sBrings) .none kVBrings dcBrings pmBrings anBrings cdBrings ctBrings), slBrings⟩) (cBrings : PySem.W.codeIn K cdBrings "brings" = true) (kBrings : PySem.W.keepIn K (.ref fBrings) = true)
    (aTell : PySem.W.nsIn K mainGlobals "tell" = some (some (.ref fTell)))
    (lTell : K.lookup fTell = some ⟨ocTell, odTell, .func (PySem.W.fnOf "tell" "tell" (defArgs sTell) (defBody sTell) (defScope sTell) .none kVTell dcTell pmTell anTell cdTell ctTell), slTell⟩) (cTell : PySem.W.codeIn K cdTell "tell" = true) (kTell : PySem.W.keepIn K (.ref fTell) = true)
    (aPts : PySem.W.nsIn K mainGlobals "points_are_right" = some (some (.ref fPts)))
    (lPts : K.lookup fPts = some ⟨ocPts, odPts, .func (PySem.W.fnOf "points_are_right" "points_are_right" (defArgs sPts) (defBody sPts) (defScope sPts) .none kVPts dcPts pmPts anPts cdPts ctPts), slPts⟩) (cPts : PySem.W.codeIn K cdPts "points_are_right" = true) (kPts : PySem.W.keepIn K (.ref fPts) = true)
    (aMet : PySem.W.nsIn K mainGlobals "weight_met" = some (some (.ref fMet)))
    (lMet : K.lookup fMet = some ⟨ocMet, odMet, .func (PySem.W.fnOf "weight_met" "weight_met" (defArgs sMet) (defBody sMet) (defScope sMet) .none kVMet dcMet pmMet anMet cdMet ctMet), slMet⟩) (cMet : PySem.W.codeIn K cdMet "weight_met" = true) (kMet : PySem.W.keepIn K (.ref fMet) = true)
    (aCover : PySem.W.nsIn K mainGlobals "cover" = some (some (.ref fCover)))
    (lCover : K.lookup fCover = some ⟨ocCover, odCover, .func (PySem.W.fnOf "cover" "cover" (defArgs sCover) (defBody sCover) (defScope sCover) .none kVCover dcCover pmCover anCover cdCover ctCover), slCover⟩) (cCover : PySem.W.codeIn K cdCover "cover" = true) (kCover : PySem.W.keepIn K (.ref fCover) = true)
    (aSet : PySem.W.nsIn K mainGlobals "set_value" = some (some (.ref fSet)))
    (lSet : K.lookup fSet = some ⟨ocSet, odSet, .func (PySem.W.fnOf "set_value" "set_value" (defArgs sSet) (defBody sSet) (defScope sSet) .none kVSet dcSet pmSet anSet cdSet ctSet), slSet⟩) (cSet : PySem.W.codeIn K cdSet "set_value" = true) (kSet : PySem.W.keepIn K (.ref fSet) = true)
    (aBreaks : PySem.W.nsIn K mainGlobals "breaks" = some (some (.ref fBreaks)))
    (lBreaks : K.lookup fBreaks = some ⟨ocBreaks, odBreaks, .func (PySem.W.fnOf "breaks" "breaks" (defArgs sBreaks) (defBody sBreaks) (defScope sBreaks) .none kVBreaks dcBreaks pmBreaks anBreaks cdBreaks ctBreaks), slBreaks⟩) (cBreaks : PySem.W.codeIn K cdBreaks "breaks" = true) (kBreaks : PySem.W.keepIn K (.ref fBreaks) = true)
    (aFault : PySem.W.nsIn K mainGlobals "fault_at" = some (some (.ref fFault)))
    (lFault : K.lookup fFault = some ⟨ocFault, odFault, .func (PySem.W.fnOf "fault_at" "fault_at" (defArgs sFaultAt) (defBody sFaultAt) (defScope sFaultAt) .none kVFault dcFault pmFault anFault cdFault ctFault), slFault⟩) (cFault : PySem.W.codeIn K cdFault "fault_at" = true) (kFault : PySem.W.keepIn K (.ref fFault) = true)
    (aKind : PySem.W.nsIn K mainGlobals "kind" = some (some (.ref fKind)))
    (lKind : K.lookup fKind = some ⟨ocKind, odKind, .func (PySem.W.fnOf "kind" "kind" (defArgs sKind) (defBody sKind) (defScope sKind) .none kVKind dcKind pmKind anKind cdKind ctKind), slKind⟩) (cKind : PySem.W.codeIn K cdKind "kind" = true) (kKind : PySem.W.keepIn K (.ref fKind) = true)
    (aFalls : PySem.W.nsIn K mainGlobals "falls" = some (some (.ref fFalls)))
    (lFalls : K.lookup fFalls = some ⟨ocFalls, odFalls, .func (PySem.W.fnOf "falls" "falls" (defArgs sFalls) (defBody sFalls) (defScope sFalls) .none kVFalls dcFalls pmFalls anFalls cdFalls ctFalls), slFalls⟩) (cFalls : PySem.W.codeIn K cdFalls "falls" = true) (kFalls : PySem.W.keepIn K (.ref fFalls) = true)
    (aLeast : PySem.W.nsIn K mainGlobals "least" = some (some (.ref fLeast)))
    (lLeast : K.lookup fLeast = some ⟨ocLeast, odLeast, .func (PySem.W.fnOf "least" "least" (defArgs sLeast) (defBody sLeast) (defScope sLeast) .none kVLeast dcLeast pmLeast anLeast cdLeast ctLeast), slLeast⟩) (cLeast : PySem.W.codeIn K cdLeast "least" = true) (kLeast : PySem.W.keepIn K (.ref fLeast) = true)
    (aPrice : PySem.W.nsIn K mainGlobals "price_of" = some (some (.ref fPrice)))
    (lPrice : K.lookup fPrice = some ⟨ocPrice, odPrice, .func (PySem.W.fnOf "price_of" "price_of" (defArgs sPrice) (defBody sPrice) (defScope sPrice) .none kVPrice dcPrice pmPrice anPrice cdPrice ctPrice), slPrice⟩) (cPrice : PySem.W.codeIn K cdPrice "price_of" = true) (kPrice : PySem.W.keepIn K (.ref fPrice) = true)
    (aLess : PySem.W.nsIn K mainGlobals "less" = some (some (.ref fLess)))
    (lLess : K.lookup fLess = some ⟨ocLess, odLess, .func (PySem.W.fnOf "less" "less" (defArgs sLess) (defBody sLess) (defScope sLess) .none kVLess dcLess pmLess anLess cdLess ctLess), slLess⟩) (cLess : PySem.W.codeIn K cdLess "less" = true) (kLess : PySem.W.keepIn K (.ref fLess) = true)
    (aOnto : PySem.W.nsIn K mainGlobals "onto" = some (some (.ref fOnto)))
    (lOnto : K.lookup fOnto = some ⟨ocOnto, odOnto, .func (PySem.W.fnOf "onto" "onto" (defArgs sOnto) (defBody sOnto) (defScope sOnto) .none kVOnto dcOnto pmOnto anOnto cdOnto ctOnto), slOnto⟩) (cOnto : PySem.W.codeIn K cdOnto "onto" = true) (kOnto : PySem.W.keepIn K (.ref fOnto) = true)
    (aBeyond : PySem.W.nsIn K mainGlobals "beyond" = some (some (.ref fBeyond)))
    (lBeyond : K.lookup fBeyond = some ⟨ocBeyond, odBeyond, .func (PySem.W.fnOf "beyond" "beyond" (defArgs sBeyond) (defBody sBeyond) (defScope sBeyond) .none kVBeyond dcBeyond pmBeyond anBeyond cdBeyond ctBeyond), slBeyond⟩) (cBeyond : PySem.W.codeIn K cdBeyond "beyond" = true) (kBeyond : PySem.W.keepIn K (.ref fBeyond) = true)
    (aRest : PySem.W.nsIn K mainGlobals "rest" = some (some (.ref fRest)))
    (lRest : K.lookup fRest = some ⟨ocRest, odRest, .func (PySem.W.fnOf "rest" "rest" (defArgs sRest) (defBody sRest) (defScope sRest) .none kVRest dcRest pmRest anRest cdRest ctRest), slRest⟩) (cRest : PySem.W.codeIn K cdRest "rest" = true) (kRest : PySem.W.keepIn K (.ref fRest) = true)
    (aAbove : PySem.W.nsIn K mainGlobals "least_above" = some (some (.ref fAbove)))
    (lAbove : K.lookup fAbove = some ⟨ocAbove, odAbove, .func (PySem.W.fnOf "least_above" "least_above" (defArgs sAbove) (defBody sAbove) (defScope sAbove) .none kVAbove dcAbove pmAbove anAbove cdAbove ctAbove), slAbove⟩) (cAbove : PySem.W.codeIn K cdAbove "least_above" = true) (kAbove : PySem.W.keepIn K (.ref fAbove) = true)
    (aRisen : PySem.W.nsIn K mainGlobals "risen" = some (some (.ref fRisen)))
    (lRisen : K.lookup fRisen = some ⟨ocRisen, odRisen, .func (PySem.W.fnOf "risen" "risen" (defArgs sRisen) (defBody sRisen) (defScope sRisen) .none kVRisen dcRisen pmRisen anRisen cdRisen ctRisen), slRisen⟩) (cRisen : PySem.W.codeIn K cdRisen "risen" = true) (kRisen : PySem.W.keepIn K (.ref fRisen) = true)
    (aParting : PySem.W.nsIn K mainGlobals "least_parting" = some (some (.ref fParting)))
    (lParting : K.lookup fParting = some ⟨ocParting, odParting, .func (PySem.W.fnOf "least_parting" "least_parting" (defArgs sParting) (defBody sParting) (defScope sParting) .none kVParting dcParting pmParting anParting cdParting ctParting), slParting⟩) (cParting : PySem.W.codeIn K cdParting "least_parting" = true) (kParting : PySem.W.keepIn K (.ref fParting) = true)
    (aParted : PySem.W.nsIn K mainGlobals "parted" = some (some (.ref fParted)))
    (lParted : K.lookup fParted = some ⟨ocParted, odParted, .func (PySem.W.fnOf "parted" "parted" (defArgs sParted) (defBody sParted) (defScope sParted) .none kVParted dcParted pmParted anParted cdParted ctParted), slParted⟩) (cParted : PySem.W.codeIn K cdParted "parted" = true) (kParted : PySem.W.keepIn K (.ref fParted) = true)
    (aSwap : PySem.W.nsIn K mainGlobals "swap" = some (some (.ref fSwap)))
    (lSwap : K.lookup fSwap = some ⟨ocSwap, odSwap, .func (PySem.W.fnOf "swap" "swap" (defArgs sSwap) (defBody sSwap) (defScope sSwap) .none kVSwap dcSwap pmSwap anSwap cdSwap ctSwap), slSwap⟩) (cSwap : PySem.W.codeIn K cdSwap "swap" = true) (kSwap : PySem.W.keepIn K (.ref fSwap) = true)
    (aAnswer : PySem.W.nsIn K mainGlobals "answer" = some (some (.ref fAnswer)))
    (lAnswer : K.lookup fAnswer = some ⟨ocAnswer, odAnswer, .func (PySem.W.fnOf "answer" "answer" (defArgs sAnswer) (defBody sAnswer) (defScope sAnswer) .none kVAnswer dcAnswer pmAnswer anAnswer cdAnswer ctAnswer), slAnswer⟩) (cAnswer : PySem.W.codeIn K cdAnswer "answer" = true) (kAnswer : PySem.W.keepIn K (.ref fAnswer) = true)
    (aAnswers : PySem.W.nsIn K mainGlobals "answers" = some (some (.ref fAnswers)))
    (lAnswers : K.lookup fAnswers = some ⟨ocAnswers, odAnswers, .func (PySem.W.fnOf "answers" "answers" (defArgs sAnswers) (defBody sAnswers) (defScope sAnswers) .none kVAnswers dcAnswers pmAnswers anAnswers cdAnswers ctAnswers), slAnswers⟩) (cAnswers : PySem.W.codeIn K cdAnswers "answers" = true) (kAnswers : PySem.W.keepIn K (.ref fAnswers) = true)
    (nT : PySem.W.findIn K (.ref C) "things" = some none) (nF : PySem.W.findIn K (.ref C) "first" = some none) (nS : PySem.W.findIn K (.ref C) "second" = some none)
    (vRefused : PySem.W.nsIn K mainGlobals "REFUSED" = some (some (.int (-1) tkRefused)))
    (vHanded : PySem.W.nsIn K mainGlobals "MOST_HANDED" = some (some (.int (20000) tkHanded)))
    (vThings : PySem.W.nsIn K mainGlobals "MOST_THINGS" = some (some (.int (5) tkThings)))
    (vWeight : PySem.W.nsIn K mainGlobals "MOST_WEIGHT" = some (some (.int (1000) tkWeight)))
    (vPoints : PySem.W.nsIn K mainGlobals "MOST_POINTS" = some (some (.int (20) tkPoints)))
    (vKind : PySem.W.nsIn K mainGlobals "MOST_KIND" = some (some (.int (2) tkKind)))
    (vN0 : PySem.W.nsIn K mainGlobals "TELL" = some (some (.int (0) tkN0)))
    (vN1 : PySem.W.nsIn K mainGlobals "COVER" = some (some (.int (1) tkN1)))
    (vN2 : PySem.W.nsIn K mainGlobals "SET_VALUE" = some (some (.int (2) tkN2)))
    (vN3 : PySem.W.nsIn K mainGlobals "VALS" = some (some (.int (3) tkN3)))
    (vN4 : PySem.W.nsIn K mainGlobals "KIND" = some (some (.int (4) tkN4)))
    (vN5 : PySem.W.nsIn K mainGlobals "FALLS" = some (some (.int (5) tkN5)))
    (vN6 : PySem.W.nsIn K mainGlobals "LEAST" = some (some (.int (6) tkN6)))
    (vN7 : PySem.W.nsIn K mainGlobals "LESS" = some (some (.int (7) tkN7)))
    (vN8 : PySem.W.nsIn K mainGlobals "ONTO" = some (some (.int (8) tkN8)))
    (vN9 : PySem.W.nsIn K mainGlobals "BEYOND" = some (some (.int (9) tkN9)))
    (vN10 : PySem.W.nsIn K mainGlobals "REST" = some (some (.int (10) tkN10)))
    (vN11 : PySem.W.nsIn K mainGlobals "RISEN" = some (some (.int (11) tkN11)))
    (vN12 : PySem.W.nsIn K mainGlobals "SWAP" = some (some (.int (12) tkN12)))
    (zLen : PySem.W.nsIn K mainGlobals "len" = some none)
    (zRange : PySem.W.nsIn K mainGlobals "range" = some none)
    (zMax : PySem.W.nsIn K mainGlobals "max" = some none)
    (zMin : PySem.W.nsIn K mainGlobals "min" = some none)
    (zEnum : PySem.W.nsIn K mainGlobals "enumerate" = some none)
    (gS : PySem.W.nsIn K mainGlobals "SETS_OF" = some (some (.ref aS))) (hS : K.lookup aS = some ⟨.type "tuple", odS, .seq #[.int 1 tS0, .int 2 tS1, .int 4 tS2, .int 8 tS3, .int 16 tS4, .int 32 tS5] cntS, slS⟩)
    (gT : PySem.W.nsIn K mainGlobals "THINGS_OF" = some (some (.ref aT))) (hT : K.lookup aT = some ⟨.type "dict", none, .dict #[⟨2, .int 2 tT1, .int 1 uT1⟩, ⟨4, .int 4 tT2, .int 2 uT2⟩, ⟨8, .int 8 tT3, .int 3 uT3⟩, ⟨16, .int 16 tT4, .int 4 uT4⟩, ⟨32, .int 32 tT5, .int 5 uT5⟩] cntT, #[]⟩) (eT : (aT == sysModules) = false)
    (gWn : PySem.W.nsIn K mainGlobals "WHOLE_NUMBERS" = some (some (.ref aWn))) (hWn : K.lookup aWn = some ⟨.type "tuple", odWn, .seq #[.int 0 tWn0, .int 1 tWn1, .int 2 tWn2, .int 0 tWn3, .int 1 tWn4, .int 0 tWn5, .int 0 tWn6, .int 0 tWn7, .int 1 tWn8, .int 1 tWn9, .int 0 tWn10, .int 0 tWn11, .int 0 tWn12, .int 0 tWn13] cntWn, slWn⟩)
    (gHr : PySem.W.nsIn K mainGlobals "HAS_ROW" = some (some (.ref aHr))) (hHr : K.lookup aHr = some ⟨.type "tuple", odHr, .seq #[.bool true, .bool true, .bool false, .bool false, .bool false, .bool false, .bool false, .bool true, .bool false, .bool false, .bool false, .bool false, .bool false, .bool false] cntHr, slHr⟩)
    : ∃ fd : FuncData, (∀ (s : Shared) (us : List Value), us.length = (["calls"] : List Str).length → BindsTo s fd ⟨us, []⟩ ((["calls"] : List Str).zip us)) ∧ ∀ base : Heap, K.In base → base.Ns mainGlobals mg → FnOk P w K mg base CX0 6 fa fd ["calls"] (spAnswers K) := by
  have e := hfa.symm.trans (PySem.W.mg_of X G aAnswers)
  cases e
  have FInit := fun_mk (st := sInit) lInit cInit kInit
  have bInit := FInit.binds (ps := ["self"]) fun _ _ _ _ _ _ us hl => match us, hl with | [_], _ => rfl
  have FPut := fun_mk (st := sPut) lPut cPut kPut
  have bPut := FPut.binds (ps := ["self", "things", "function"]) fun _ _ _ _ _ _ us hl => match us, hl with | [_, _, _], _ => rfl
  have mPut : Meth K C "put_first" fPut := ⟨aPut, iPut, kPut⟩
  have FTold := fun_mk (st := sTold) lTold cTold kTold
  have bTold := FTold.binds (ps := ["self"]) fun _ _ _ _ _ _ us hl => match us, hl with | [_], _ => rfl
  have mTold : Meth K C "told" fTold := ⟨aTold, iTold, kTold⟩
  have FWhole := fun_mk (st := sWhole) lWhole cWhole kWhole
  have bWhole := FWhole.binds (ps := ["handed"]) fun _ _ _ _ _ _ us hl => match us, hl with | [_], _ => rfl
  have gWhole := PySem.W.mg_of X G aWhole
  have FWith := fun_mk (st := sWith) lWith cWith kWith
  have bWith := FWith.binds (ps := ["chosen", "thing"]) fun _ _ _ _ _ _ us hl => match us, hl with | [_, _], _ => rfl
  have gWith := PySem.W.mg_of X G aWith
  have FOutside := fun_mk (st := sOutside) lOutside cOutside kOutside
  have bOutside := FOutside.binds (ps := ["things", "chosen"]) fun _ _ _ _ _ _ us hl => match us, hl with | [_, _], _ => rfl
  have gOutside := PySem.W.mg_of X G aOutside
  have FBrings := fun_mk (st := sBrings) lBrings cBrings kBrings
  have bBrings := FBrings.binds (ps := ["function", "chosen", "thing"]) fun _ _ _ _ _ _ us hl => match us, hl with | [_, _, _], _ => rfl
  have gBrings := PySem.W.mg_of X G aBrings
  have FTell := fun_mk (st := sTell) lTell cTell kTell
  have bTell := FTell.binds (ps := ["pair", "handed"]) fun _ _ _ _ _ _ us hl => match us, hl with | [_, _], _ => rfl
  have gTell := PySem.W.mg_of X G aTell
  have FPts := fun_mk (st := sPts) lPts cPts kPts
  have bPts := FPts.binds (ps := ["things", "points"]) fun _ _ _ _ _ _ us hl => match us, hl with | [_, _], _ => rfl
  have gPts := PySem.W.mg_of X G aPts
  have FMet := fun_mk (st := sMet) lMet cMet kMet
  have bMet := FMet.binds (ps := ["points", "chosen"]) fun _ _ _ _ _ _ us hl => match us, hl with | [_, _], _ => rfl
  have gMet := PySem.W.mg_of X G aMet
  have FCover := fun_mk (st := sCover) lCover cCover kCover
  have bCover := FCover.binds (ps := ["pair", "things", "points"]) fun _ _ _ _ _ _ us hl => match us, hl with | [_, _, _], _ => rfl
  have gCover := PySem.W.mg_of X G aCover
  have FSet := fun_mk (st := sSet) lSet cSet kSet
  have bSet := FSet.binds (ps := ["pair", "chosen", "handed"]) fun _ _ _ _ _ _ us hl => match us, hl with | [_, _, _], _ => rfl
  have gSet := PySem.W.mg_of X G aSet
  have FBreaks := fun_mk (st := sBreaks) lBreaks cBreaks kBreaks
  have bBreaks := FBreaks.binds (ps := ["asked", "more"]) fun _ _ _ _ _ _ us hl => match us, hl with | [_, _], _ => rfl
  have gBreaks := PySem.W.mg_of X G aBreaks
  have FFault := fun_mk (st := sFaultAt) lFault cFault kFault
  have bFault := FFault.binds (ps := ["pair", "asked", "chosen"]) fun _ _ _ _ _ _ us hl => match us, hl with | [_, _, _], _ => rfl
  have gFault := PySem.W.mg_of X G aFault
  have FKind := fun_mk (st := sKind) lKind cKind kKind
  have bKind := FKind.binds (ps := ["pair", "asked"]) fun _ _ _ _ _ _ us hl => match us, hl with | [_, _], _ => rfl
  have gKind := PySem.W.mg_of X G aKind
  have FFalls := fun_mk (st := sFalls) lFalls cFalls kFalls
  have bFalls := FFalls.binds (ps := ["pair"]) fun _ _ _ _ _ _ us hl => match us, hl with | [_], _ => rfl
  have gFalls := PySem.W.mg_of X G aFalls
  have FLeast := fun_mk (st := sLeast) lLeast cLeast kLeast
  have bLeast := FLeast.binds (ps := ["pair"]) fun _ _ _ _ _ _ us hl => match us, hl with | [_], _ => rfl
  have gLeast := PySem.W.mg_of X G aLeast
  have FPrice := fun_mk (st := sPrice) lPrice cPrice kPrice
  have bPrice := FPrice.binds (ps := ["prices", "chosen"]) fun _ _ _ _ _ _ us hl => match us, hl with | [_, _], _ => rfl
  have gPrice := PySem.W.mg_of X G aPrice
  have FLess := fun_mk (st := sLess) lLess cLess kLess
  have bLess := FLess.binds (ps := ["pair", "handed"]) fun _ _ _ _ _ _ us hl => match us, hl with | [_, _], _ => rfl
  have gLess := PySem.W.mg_of X G aLess
  have FOnto := fun_mk (st := sOnto) lOnto cOnto kOnto
  have bOnto := FOnto.binds (ps := ["pair", "kept"]) fun _ _ _ _ _ _ us hl => match us, hl with | [_, _], _ => rfl
  have gOnto := PySem.W.mg_of X G aOnto
  have FBeyond := fun_mk (st := sBeyond) lBeyond cBeyond kBeyond
  have bBeyond := FBeyond.binds (ps := ["pair", "joined"]) fun _ _ _ _ _ _ us hl => match us, hl with | [_, _], _ => rfl
  have gBeyond := PySem.W.mg_of X G aBeyond
  have FRest := fun_mk (st := sRest) lRest cRest kRest
  have bRest := FRest.binds (ps := ["pair"]) fun _ _ _ _ _ _ us hl => match us, hl with | [_], _ => rfl
  have gRest := PySem.W.mg_of X G aRest
  have FAbove := fun_mk (st := sAbove) lAbove cAbove kAbove
  have bAbove := FAbove.binds (ps := ["function", "chosen"]) fun _ _ _ _ _ _ us hl => match us, hl with | [_, _], _ => rfl
  have gAbove := PySem.W.mg_of X G aAbove
  have FRisen := fun_mk (st := sRisen) lRisen cRisen kRisen
  have bRisen := FRisen.binds (ps := ["pair"]) fun _ _ _ _ _ _ us hl => match us, hl with | [_], _ => rfl
  have gRisen := PySem.W.mg_of X G aRisen
  have FParting := fun_mk (st := sParting) lParting cParting kParting
  have bParting := FParting.binds (ps := ["pair", "chosen"]) fun _ _ _ _ _ _ us hl => match us, hl with | [_, _], _ => rfl
  have gParting := PySem.W.mg_of X G aParting
  have FParted := fun_mk (st := sParted) lParted cParted kParted
  have bParted := FParted.binds (ps := ["pair"]) fun _ _ _ _ _ _ us hl => match us, hl with | [_], _ => rfl
  have gParted := PySem.W.mg_of X G aParted
  have FSwap := fun_mk (st := sSwap) lSwap cSwap kSwap
  have bSwap := FSwap.binds (ps := ["pair"]) fun _ _ _ _ _ _ us hl => match us, hl with | [_], _ => rfl
  have gSwap := PySem.W.mg_of X G aSwap
  have FAnswer := fun_mk (st := sAnswer) lAnswer cAnswer kAnswer
  have bAnswer := FAnswer.binds (ps := ["pair", "number", "wholes", "row"]) fun _ _ _ _ _ _ us hl => match us, hl with | [_, _, _, _], _ => rfl
  have gAnswer := PySem.W.mg_of X G aAnswer
  have FAnswers := fun_mk (st := sAnswers) lAnswers cAnswers kAnswers
  have bAnswers := FAnswers.binds (ps := ["calls"]) fun _ _ _ _ _ _ us hl => match us, hl with | [_], _ => rfl
  have gAnswers := PySem.W.mg_of X G aAnswers
  have T : Txt K mg C aS := ⟨⟨pg, hd, po, sa⟩, nT, nF, nS, PySem.W.mg_of X G aC, PySem.W.mg_of X G gS, fun H => .inr ⟨_, _, _, hS, rfl, rfl, (by show 6 ≤ sizeLine; decide), .cons ⟨_, rfl⟩ (.cons ⟨_, rfl⟩ (.cons ⟨_, rfl⟩ (.cons ⟨_, rfl⟩ (.cons ⟨_, rfl⟩ (.cons ⟨_, rfl⟩ .nil)))))⟩,
    ⟨_, PySem.W.mg_of X G vRefused, _, rfl⟩, ⟨_, PySem.W.mg_of X G vHanded, _, rfl⟩, ⟨_, PySem.W.mg_of X G vThings, _, rfl⟩, ⟨_, PySem.W.mg_of X G vWeight, _, rfl⟩, ⟨_, PySem.W.mg_of X G vPoints, _, rfl⟩, ⟨_, PySem.W.mg_of X G vKind, _, rfl⟩,
    PySem.W.mg_none_of X G zLen, PySem.W.mg_none_of X G zRange, PySem.W.mg_none_of X G zMax, PySem.W.mg_none_of X G zMin, PySem.W.mg_none_of X G zEnum⟩
  have dT : KDictV K aT tThings := things_dict hT eT
  have N : Nums mg := ⟨⟨_, PySem.W.mg_of X G vN0, _, rfl⟩, ⟨_, PySem.W.mg_of X G vN1, _, rfl⟩, ⟨_, PySem.W.mg_of X G vN2, _, rfl⟩, ⟨_, PySem.W.mg_of X G vN3, _, rfl⟩, ⟨_, PySem.W.mg_of X G vN4, _, rfl⟩, ⟨_, PySem.W.mg_of X G vN5, _, rfl⟩, ⟨_, PySem.W.mg_of X G vN6, _, rfl⟩, ⟨_, PySem.W.mg_of X G vN7, _, rfl⟩, ⟨_, PySem.W.mg_of X G vN8, _, rfl⟩, ⟨_, PySem.W.mg_of X G vN9, _, rfl⟩, ⟨_, PySem.W.mg_of X G vN10, _, rfl⟩, ⟨_, PySem.W.mg_of X G vN11, _, rfl⟩, ⟨_, PySem.W.mg_of X G vN12, _, rfl⟩⟩
  have sW : ∀ H, SqT K H aWn (vn wN) := fun H => .inr ⟨_, _, _, hWn, rfl, rfl, (by show 14 ≤ sizeLine; decide), .cons ⟨_, rfl⟩ (.cons ⟨_, rfl⟩ (.cons ⟨_, rfl⟩ (.cons ⟨_, rfl⟩ (.cons ⟨_, rfl⟩ (.cons ⟨_, rfl⟩ (.cons ⟨_, rfl⟩ (.cons ⟨_, rfl⟩ (.cons ⟨_, rfl⟩ (.cons ⟨_, rfl⟩ (.cons ⟨_, rfl⟩ (.cons ⟨_, rfl⟩ (.cons ⟨_, rfl⟩ (.cons ⟨_, rfl⟩ .nil)))))))))))))⟩
  have sH : ∀ H, SqT K H aHr (hR.map V.bl) := fun H => .inr ⟨_, _, _, hHr, rfl, rfl, (by show 14 ≤ sizeLine; decide), .cons rfl (.cons rfl (.cons rfl (.cons rfl (.cons rfl (.cons rfl (.cons rfl (.cons rfl (.cons rfl (.cons rfl (.cons rfl (.cons rfl (.cons rfl (.cons rfl .nil)))))))))))))⟩
  refine ⟨PySem.W.fnOf "answers" "answers" (defArgs sAnswers) (defBody sAnswers) (defScope sAnswers) .none kVAnswers dcAnswers pmAnswers anAnswers cdAnswers ctAnswers, fun s us hu => match us, hu with | [_], _ => .of_eq rfl, fun base _ _ => ?_⟩
  have GOutside : FnOk P w K mg base CX0 2 fOutside _ _ spOutside := ok_outside T FOutside FWith bWith gWith
  have GBrings : FnOk P w K mg base CX0 2 fBrings _ _ (spBrings K) := ok_brings T FBrings FWith bWith gWith
  have GFault : FnOk P w K mg base CX0 3 fFault _ _ (spFault C) := ok_fault T FFault FOutside bOutside gOutside FBrings bBrings gBrings FWith bWith gWith FBreaks bBreaks gBreaks
  have GAnswer : FnOk P w K mg base CX0 5 fAnswer _ _ (spAnswer C K) := ok_answer T N FAnswer FTell bTell gTell (ok_tell T (PySem.W.mg_of X G gT) dT FTell FWhole bWhole gWhole FPut bPut mPut) FCover bCover gCover (ok_cover T FCover FPts bPts gPts FMet bMet gMet FPut bPut mPut FTold bTold mTold) FSet bSet gSet (ok_set T FSet FWhole bWhole gWhole) FTold bTold mTold (ok_told T FTold) FKind bKind gKind (ok_kind T FKind FFault bFault gFault GFault) FFalls bFalls gFalls (ok_falls T FFalls FOutside bOutside gOutside GOutside FBrings bBrings gBrings GBrings) FLeast bLeast gLeast (ok_least T FLeast) FLess bLess gLess (ok_less T FLess FWhole bWhole gWhole FPrice bPrice gPrice FTold bTold mTold) FOnto bOnto gOnto (ok_onto T FOnto FTold bTold mTold) FBeyond bBeyond gBeyond (ok_beyond T FBeyond FTold bTold mTold) FRest bRest gRest (ok_rest T FRest FTold bTold mTold) FRisen bRisen gRisen (ok_risen T FRisen FAbove bAbove gAbove FTold bTold mTold) FSwap bSwap gSwap (ok_swap T FSwap FTold bTold mTold) FParted bParted gParted (ok_parted T FParted FParting bParting gParting FTold bTold mTold)
  exact ok_answers (k := 5) (by decide) T (PySem.W.mg_of X G gWn) sW (PySem.W.mg_of X G gHr) sH FAnswers ⟨mk, aInit, iInit, kc⟩ FInit bInit FAnswer bAnswer gAnswer GAnswer
end Sf
open PySem PySem.W PyProof.Rows
set_option maxRecDepth 100000 in
set_option maxHeartbeats 8000000 in
theorem PySem.Challenge.cw_setfunctions_s01_answers_holds : PySem.Challenge.rw_setfunctions_s01_answers.Holds := by
  w_on; k_headS; (case hw => exact ⟨[.list [.int 3]], by decide +kernel, by decide +kernel⟩)
  k_fillS
  refine L2.walk_specK (r := PySem.Challenge.rw_setfunctions_s01_answers) (k := 6) (CX := L2.CX0) (ps := ["calls"]) (sp := Sf.spAnswers) (by decide +kernel) rfl rfl ⟨rfl, by decide, by decide⟩ (fun w h Y => PySem.W.kIn_of Y) ?F ?S (fun _ _ _ _ z => z)
  case F =>
    intro w mg fa h Y KX G hmg
    refine' Sf.all_mk KX G hmg ?aC ?pg ?hd ?po ?sa ?mk ?kc ?aInit ?iInit ?lInit ?cInit ?kInit ?aPut ?iPut ?lPut ?cPut ?kPut ?aTold ?iTold ?lTold ?cTold ?kTold ?aWhole ?lWhole ?cWhole ?kWhole ?aWith ?lWith ?cWith ?kWith ?aOutside ?lOutside ?cOutside ?kOutside ?aBrings ?lBrings ?cBrings ?kBrings ?aTell ?lTell ?cTell ?kTell ?aPts ?lPts ?cPts ?kPts ?aMet ?lMet ?cMet ?kMet ?aCover ?lCover ?cCover ?kCover ?aSet ?lSet ?cSet ?kSet ?aBreaks ?lBreaks ?cBreaks ?kBreaks ?aFault ?lFault ?cFault ?kFault ?aKind ?lKind ?cKind ?kKind ?aFalls ?lFalls ?cFalls ?kFalls ?aLeast ?lLeast ?cLeast ?kLeast ?aPrice ?lPrice ?cPrice ?kPrice ?aLess ?lLess ?cLess ?kLess ?aOnto ?lOnto ?cOnto ?kOnto ?aBeyond ?lBeyond ?cBeyond ?kBeyond ?aRest ?lRest ?cRest ?kRest ?aAbove ?lAbove ?cAbove ?kAbove ?aRisen ?lRisen ?cRisen ?kRisen ?aParting ?lParting ?cParting ?kParting ?aParted ?lParted ?cParted ?kParted ?aSwap ?lSwap ?cSwap ?kSwap ?aAnswer ?lAnswer ?cAnswer ?kAnswer ?aAnswers ?lAnswers ?cAnswers ?kAnswers ?nT ?nF ?nS ?vRefused ?vHanded ?vThings ?vWeight ?vPoints ?vKind ?vN0 ?vN1 ?vN2 ?vN3 ?vN4 ?vN5 ?vN6 ?vN7 ?vN8 ?vN9 ?vN10 ?vN11 ?vN12 ?zLen ?zRange ?zMax ?zMin ?zEnum ?gS ?hS ?gT ?hT ?eT ?gWn ?hWn ?gHr ?hHr
    (case aC => k_is)
    (case pg => k_is)
    (case hd => k_is)
    (case po => k_is)
    (case sa => k_is)
    (case mk => k_is)
    (case kc => k_is)
    (case aInit => k_is)
    (case iInit => k_is)
    (case lInit => k_is)
    (case cInit => k_is)
    (case kInit => k_is)
    (case aPut => k_is)
    (case iPut => k_is)
    (case lPut => k_is)
    (case cPut => k_is)
    (case kPut => k_is)
    (case aTold => k_is)
    (case iTold => k_is)
    (case lTold => k_is)
    (case cTold => k_is)
    (case kTold => k_is)
    (case aWhole => k_is)
    (case lWhole => k_is)
    (case cWhole => k_is)
    (case kWhole => k_is)
    (case aWith => k_is)
    (case lWith => k_is)
    (case cWith => k_is)
    (case kWith => k_is)
    (case aOutside => k_is)
    (case lOutside => k_is)
    (case cOutside => k_is)
    (case kOutside => k_is)
    (case aBrings => k_is)
    (case lBrings => k_is)
    (case cBrings => k_is)
    (case kBrings => k_is)
    (case aTell => k_is)
    (case lTell => k_is)
    (case cTell => k_is)
    (case kTell => k_is)
    (case aPts => k_is)
    (case lPts => k_is)
    (case cPts => k_is)
    (case kPts => k_is)
    (case aMet => k_is)
    (case lMet => k_is)
    (case cMet => k_is)
    (case kMet => k_is)
    (case aCover => k_is)
    (case lCover => k_is)
    (case cCover => k_is)
    (case kCover => k_is)
    (case aSet => k_is)
    (case lSet => k_is)
    (case cSet => k_is)
    (case kSet => k_is)
    (case aBreaks => k_is)
    (case lBreaks => k_is)
    (case cBreaks => k_is)
    (case kBreaks => k_is)
    (case aFault => k_is)
    (case lFault => k_is)
    (case cFault => k_is)
    (case kFault => k_is)
    (case aKind => k_is)
    (case lKind => k_is)
    (case cKind => k_is)
    (case kKind => k_is)
    (case aFalls => k_is)
    (case lFalls => k_is)
    (case cFalls => k_is)
    (case kFalls => k_is)
    (case aLeast => k_is)
    (case lLeast => k_is)
    (case cLeast => k_is)
    (case kLeast => k_is)
    (case aPrice => k_is)
    (case lPrice => k_is)
    (case cPrice => k_is)
    (case kPrice => k_is)
    (case aLess => k_is)
    (case lLess => k_is)
    (case cLess => k_is)
    (case kLess => k_is)
    (case aOnto => k_is)
    (case lOnto => k_is)
    (case cOnto => k_is)
    (case kOnto => k_is)
    (case aBeyond => k_is)
    (case lBeyond => k_is)
    (case cBeyond => k_is)
    (case kBeyond => k_is)
    (case aRest => k_is)
    (case lRest => k_is)
    (case cRest => k_is)
    (case kRest => k_is)
    (case aAbove => k_is)
    (case lAbove => k_is)
    (case cAbove => k_is)
    (case kAbove => k_is)
    (case aRisen => k_is)
    (case lRisen => k_is)
    (case cRisen => k_is)
    (case kRisen => k_is)
    (case aParting => k_is)
    (case lParting => k_is)
    (case cParting => k_is)
    (case kParting => k_is)
    (case aParted => k_is)
    (case lParted => k_is)
    (case cParted => k_is)
    (case kParted => k_is)
    (case aSwap => k_is)
    (case lSwap => k_is)
    (case cSwap => k_is)
    (case kSwap => k_is)
    (case aAnswer => k_is)
    (case lAnswer => k_is)
    (case cAnswer => k_is)
    (case kAnswer => k_is)
    (case aAnswers => k_is)
    (case lAnswers => k_is)
    (case cAnswers => k_is)
    (case kAnswers => k_is)
    (case nT => k_is)
    (case nF => k_is)
    (case nS => k_is)
    (case vRefused => k_is)
    (case vHanded => k_is)
    (case vThings => k_is)
    (case vWeight => k_is)
    (case vPoints => k_is)
    (case vKind => k_is)
    (case vN0 => k_is)
    (case vN1 => k_is)
    (case vN2 => k_is)
    (case vN3 => k_is)
    (case vN4 => k_is)
    (case vN5 => k_is)
    (case vN6 => k_is)
    (case vN7 => k_is)
    (case vN8 => k_is)
    (case vN9 => k_is)
    (case vN10 => k_is)
    (case vN11 => k_is)
    (case vN12 => k_is)
    (case zLen => k_is)
    (case zRange => k_is)
    (case zMax => k_is)
    (case zMin => k_is)
    (case zEnum => k_is)
    (case gS => k_is)
    (case hS => k_is)
    (case gT => k_is)
    (case hT => k_is)
    (case eT => first | rfl | decide | k_is)
    (case gWn => k_is)
    (case hWn => k_is)
    (case gHr => k_is)
    (case hHr => k_is)
  case S =>
    intro K H xs a hO hwi hask hx
    cases hx with
    | cons h1 h2 =>
      cases h2
      cases h1 with
      | lst hs ha =>
        have e := L2.ints_dw a.1 _ ha
        subst e
        have q : ((Codec.inLen 0 1600 a.1 && a.1.all (Codec.inInt 0 4294967295)) && true) = true := hwi
        rw [Bool.and_eq_true, Bool.and_eq_true] at q
        exact ⟨_, a.1, rfl, hs, (Codec.inNat_iff.mp q.1.1).2, fun z hz => Codec.inInt_iff.mp (List.all_eq_true.mp q.1.2 z hz), hask, fun H' p hp => .lst (L2.SqL.of hp) (L2.dw_ints _)⟩

import PyProof.Rows.All
import Wide.All
import OpenK.AllK
import Wide.FinOn
import Open.SpecLaws
import KE.OsGo
import HandS.ForSpec
import HandS.ForMost
import HandS.Conv
import HandS.Rev
import HandS.Zip
import HandS.TupLen
import HandS.TupSets
import KE.KDictDisplayH
import PySem.Challenge.RW_regionnets_s01_answers
set_option Elab.async false
set_option linter.all false
set_option maxRecDepth 100000
set_option maxHeartbeats 4000000
namespace Rn
open Sq64
/-! ### A. all choices of states in order, and the regions -/
def lowOf (row : List Nat) : Nat := match row.getLast? with
  | some x => x + 1
  | none => 0
def withOne (rows : List (List Nat)) (n : Nat) : List (List Nat) := rows.flatMap fun row => (List.range (n - lowOf row)).map fun i => row ++ [lowOf row + i]
def lev (n : Nat) : Nat → List (List Nat)
  | 0 => [[]]
  | j + 1 => withOne (lev n j) n
def upTo (n : Nat) : Nat → List (List Nat)
  | 0 => []
  | j + 1 => upTo n j ++ lev n (j + 1)
def choices (n : Nat) : List (List Nat) := upTo n (n - 1)
def allPut (n : Nat) : List (List Nat) := (((List.range (2 ^ n)).map (some_ n)).filter fun r => !r.isEmpty && r.length != n).foldl (fun m r => put r m) []

theorem firstOf_trans : ∀ {a b c : List Nat}, firstOf a b = true → firstOf b c = true → firstOf a c = true
  | x :: l, y :: m, z :: k, h1, h2 => by
    simp only [firstOf, Bool.or_eq_true, Bool.and_eq_true, decide_eq_true_eq, beq_iff_eq] at h1 h2 ⊢
    rcases h1 with h1 | ⟨h1, h1'⟩ <;> rcases h2 with h2 | ⟨h2, h2'⟩
    · left; omega
    · left; omega
    · left; omega
    · right; exact ⟨by omega, firstOf_trans h1' h2'⟩
  | [], _, _, h1, _ => by simp [firstOf] at h1
  | _ :: _, [], _, h1, _ => by simp [firstOf] at h1
  | _ :: _, _ :: _, [], _, h2 => by simp [firstOf] at h2
theorem firstOf_neg : ∀ {w x y : List Nat}, x.length = y.length → firstOf w y = true → firstOf x y = false → firstOf w x = true
  | a :: l, c :: k, b :: m, hl, h1, h2 => by
    have h3 : ¬ firstOf (c :: k) (b :: m) = true := by rw [h2]; exact Bool.false_ne_true
    simp only [firstOf, Bool.or_eq_true, Bool.and_eq_true, decide_eq_true_eq, beq_iff_eq] at h1 h3 ⊢
    by_cases e : c = b
    · subst e
      rcases h1 with h1 | ⟨h1, h1'⟩
      · left; exact h1
      · right
        refine ⟨h1, firstOf_neg (by simpa using hl) h1' ?_⟩
        cases q : firstOf k m with
        | false => rfl
        | true => exact absurd (Or.inr ⟨rfl, q⟩) h3
    · left
      have : ¬ c < b := fun q => h3 (Or.inl q)
      omega
  | [], _, _, _, h1, _ => by simp [firstOf] at h1
  | _ :: _, _, [], _, h1, _ => by simp [firstOf] at h1
  | _ :: _, [], _ :: _, hl, _, _ => by simp at hl
theorem before_trans {a b c : List Nat} (h1 : before a b = true) (h2 : before b c = true) : before a c = true := by
  simp only [before, Bool.or_eq_true, Bool.and_eq_true, decide_eq_true_eq, beq_iff_eq] at h1 h2 ⊢
  rcases h1 with h1 | ⟨h1, h1'⟩ <;> rcases h2 with h2 | ⟨h2, h2'⟩
  · left; omega
  · left; omega
  · left; omega
  · right; exact ⟨by omega, firstOf_trans h1' h2'⟩
theorem before_neg {w x y : List Nat} (h1 : before w y = true) (h2 : ¬ before x y = true) : before w x = true := by
  simp only [before, Bool.or_eq_true, Bool.and_eq_true, decide_eq_true_eq, beq_iff_eq] at h1 h2 ⊢
  by_cases e : x.length = y.length
  · have h3 : firstOf x y = false := by
      cases q : firstOf x y with
      | false => rfl
      | true => exact absurd (Or.inr ⟨e, q⟩) h2
    rcases h1 with h1 | ⟨h1, h1'⟩
    · left; omega
    · right; exact ⟨by omega, firstOf_neg e h1' h3⟩
  · left
    have : ¬ x.length < y.length := fun q => h2 (Or.inl q)
    rcases h1 with h1 | ⟨h1, _⟩ <;> omega
def Mono (l : List (List Nat)) : Prop := l.Pairwise fun y z => ∀ x, before x y = true → before x z = true
theorem put_all {x : List Nat} : ∀ {l : List (List Nat)}, (∀ z ∈ l, before x z = true) → put x l = x :: l
  | [], _ => rfl
  | y :: l, h => by
    show (if before x y = true then x :: y :: l else y :: put x l) = _
    rw [if_pos (h y (List.mem_cons_self ..))]
theorem mem_put {x z : List Nat} : ∀ {l : List (List Nat)}, z ∈ put x l → z = x ∨ z ∈ l
  | [], h => by
    have : z ∈ [x] := h
    left; simpa using this
  | y :: l, h => by
    have h' : z ∈ (if before x y = true then x :: y :: l else y :: put x l) := h
    by_cases q : before x y = true
    · rw [if_pos q] at h'
      rcases List.mem_cons.mp h' with e | e
      · exact Or.inl e
      · exact Or.inr e
    · rw [if_neg q] at h'
      rcases List.mem_cons.mp h' with e | e
      · exact Or.inr (e ▸ List.mem_cons_self ..)
      · rcases mem_put e with e | e
        · exact Or.inl e
        · exact Or.inr (List.mem_cons_of_mem _ e)
theorem put_mono {x : List Nat} : ∀ {l : List (List Nat)}, Mono l → Mono (put x l)
  | [], _ => by
    show Mono [x]
    exact List.pairwise_singleton ..
  | y :: l, h => by
    have h1 := List.pairwise_cons.mp h
    show Mono (if before x y = true then x :: y :: l else y :: put x l)
    by_cases q : before x y = true
    · rw [if_pos q]
      refine List.pairwise_cons.mpr ⟨fun z hz w hw => ?_, h⟩
      have hy := before_trans hw q
      rcases List.mem_cons.mp hz with e | e
      · exact e ▸ hy
      · exact h1.1 z e w hy
    · rw [if_neg q]
      refine List.pairwise_cons.mpr ⟨fun z hz w hw => ?_, put_mono h1.2⟩
      rcases mem_put hz with e | e
      · exact e ▸ before_neg hw q
      · exact h1.1 z e w hw
theorem put_filter {x : List Nat} (p : List Nat → Bool) : ∀ {l : List (List Nat)}, Mono l → (put x l).filter p = if p x = true then put x (l.filter p) else l.filter p
  | [], _ => by
    show [x].filter p = if p x = true then [x] else []
    by_cases q : p x = true
    · rw [if_pos q, List.filter_cons_of_pos q]; rfl
    · rw [if_neg q, List.filter_cons_of_neg q]; rfl
  | y :: l, h => by
    have h1 := List.pairwise_cons.mp h
    show (if before x y = true then x :: y :: l else y :: put x l).filter p = _
    by_cases q : before x y = true
    · rw [if_pos q]
      by_cases r : p x = true
      · rw [if_pos r, List.filter_cons_of_pos r, put_all]
        intro z hz
        have hz' := (List.mem_filter.mp hz).1
        rcases List.mem_cons.mp hz' with e | e
        · exact e ▸ q
        · exact h1.1 z e x q
      · rw [if_neg r, List.filter_cons_of_neg r]
    · rw [if_neg q]
      by_cases r : p y = true
      · rw [List.filter_cons_of_pos r, List.filter_cons_of_pos r, put_filter p h1.2]
        by_cases u : p x = true
        · rw [if_pos u, if_pos u]
          show _ = if before x y = true then x :: y :: l.filter p else y :: put x (l.filter p)
          rw [if_neg q]
        · rw [if_neg u, if_neg u]
      · rw [List.filter_cons_of_neg r, List.filter_cons_of_neg r, put_filter p h1.2]
theorem fold_filter (p : List Nat → Bool) : ∀ (L acc : List (List Nat)), Mono acc → (L.filter p).foldl (fun m r => put r m) (acc.filter p) = (L.foldl (fun m r => put r m) acc).filter p
  | [], _, _ => rfl
  | x :: L, acc, h => by
    show _ = (L.foldl (fun m r => put r m) (put x acc)).filter p
    rw [← fold_filter p L (put x acc) (put_mono h), put_filter p h]
    by_cases q : p x = true
    · rw [List.filter_cons_of_pos q, if_pos q]; rfl
    · rw [List.filter_cons_of_neg q, if_neg q]
theorem allPut_eq : ∀ n, n < 10 → 1 ≤ n → allPut n = choices n
  | 0, _, h => absurd h (by decide)
  | 1, _, _ => by decide +kernel
  | 2, _, _ => by decide +kernel
  | 3, _, _ => by decide +kernel
  | 4, _, _ => by decide +kernel
  | 5, _, _ => by decide +kernel
  | 6, _, _ => by decide +kernel
  | 7, _, _ => by decide +kernel
  | 8, _, _ => by decide +kernel
  | 9, _, _ => by decide +kernel
  | n + 10, h, _ => absurd h (by omega)
theorem regions_eq (g : Seen) (h1 : 1 ≤ g.n) (h9 : g.n ≤ 9) : g.regions = (choices g.n).filter g.region := by
  have e := fold_filter g.region (((List.range (2 ^ g.n)).map (some_ g.n)).filter fun r => !r.isEmpty && r.length != g.n) [] List.Pairwise.nil
  have e2 : allPut g.n = choices g.n := allPut_eq g.n (by omega) h1
  unfold allPut at e2
  rw [e2] at e
  rw [← e, List.filter_filter]
  unfold Seen.regions
  refine congrArg (fun l => List.foldl (fun m r => put r m) [] l) (List.filter_congr fun r _ => ?_)
  cases r.isEmpty <;> cases (r.length != g.n) <;> cases g.region r <;> rfl
/-- what the loop that makes the choices needs -/
def levOk (n : Nat) : Bool := (List.range n).all fun j => (match lev n j with
  | [] => false
  | r :: _ => r.length == j) && (decide ((lev n j).length ≤ 200) && (lev n j).all fun r => r.length == j && (r.all fun x => decide (x < n)) && decide (lowOf r ≤ n))
theorem levOk_all : ∀ n, n < 10 → levOk n = true
  | 0, _ => by decide +kernel
  | 1, _ => by decide +kernel
  | 2, _ => by decide +kernel
  | 3, _ => by decide +kernel
  | 4, _ => by decide +kernel
  | 5, _ => by decide +kernel
  | 6, _ => by decide +kernel
  | 7, _ => by decide +kernel
  | 8, _ => by decide +kernel
  | 9, _ => by decide +kernel
  | n + 10, h => absurd h (by omega)
theorem lev_head {n j : Nat} (hn : n < 10) (hj : j < n) : ∃ r l, lev n j = r :: l ∧ r.length = j := by
  have h := List.all_eq_true.mp (levOk_all n hn) j (List.mem_range.mpr hj)
  rw [Bool.and_eq_true] at h
  cases e : lev n j with
  | nil => rw [e] at h; exact absurd h.1 Bool.false_ne_true
  | cons r l => rw [e] at h; exact ⟨r, l, rfl, by simpa using h.1⟩
theorem lev_few {n j : Nat} (hn : n < 10) (hj : j < n) : (lev n j).length ≤ 200 := by
  have h := List.all_eq_true.mp (levOk_all n hn) j (List.mem_range.mpr hj)
  rw [Bool.and_eq_true, Bool.and_eq_true] at h
  exact of_decide_eq_true h.2.1
theorem lev_rows {n j : Nat} (hn : n < 10) (hj : j < n) : ∀ r ∈ lev n j, r.length = j ∧ ∀ x ∈ r, x < n := by
  have h := List.all_eq_true.mp (levOk_all n hn) j (List.mem_range.mpr hj)
  rw [Bool.and_eq_true, Bool.and_eq_true] at h
  intro r hr
  have h2 := List.all_eq_true.mp h.2.2 r hr
  rw [Bool.and_eq_true, Bool.and_eq_true] at h2
  exact ⟨by simpa using h2.1.1, fun x hx => by simpa using List.all_eq_true.mp h2.1.2 x hx⟩
theorem upTo_few {n : Nat} (hn : n < 10) : ∀ {j : Nat}, j < n → (upTo n j).length ≤ 200 * j
  | 0, _ => Nat.le_refl _
  | j + 1, h => by
    show (upTo n j ++ lev n (j + 1)).length ≤ _
    rw [List.length_append]
    have h1 := upTo_few hn (j := j) (by omega)
    have h2 := lev_few hn (j := j + 1) h
    omega
theorem choices_rows {n : Nat} (hn : n < 10) : ∀ {j : Nat}, j < n → ∀ r ∈ upTo n j, r.length ≤ j ∧ ∀ x ∈ r, x < n
  | 0, _, r, hr => absurd hr (by simp [upTo])
  | j + 1, h, r, hr => by
    rcases List.mem_append.mp (show r ∈ upTo n j ++ lev n (j + 1) from hr) with q | q
    · have z := choices_rows hn (j := j) (by omega) r q
      exact ⟨by omega, z.2⟩
    · have z := lev_rows hn h r q
      exact ⟨by omega, z.2⟩
theorem regions_few (g : Seen) (h1 : 1 ≤ g.n) (h9 : g.n ≤ 9) : g.regions.length ≤ 1600 := by
  rw [regions_eq g h1 h9]
  refine Nat.le_trans (List.length_filter_le ..) ?_
  have := upTo_few (n := g.n) (by omega) (j := g.n - 1) (by omega)
  show (upTo g.n (g.n - 1)).length ≤ _
  omega
end Rn
namespace Rn
open Sq64
/-! ### B. ways, questions, told apart -/
def arcsBy (g : Seen) (e : Nat) : List (Nat × Nat) := (g.arcs.filter fun a => a.2.1 == e).map fun a => (a.1, a.2.2)
def wayO : Option Nat → Int
  | none => -1
  | some x => (x : Int)
def wayI (g : Seen) (r : List Nat) (e : Nat) : Int := wayO (g.crosses r e)
def wArc (p q : Bool) : Int := if p = q then 0 else if q = true then 1 else 2
def wAt (r : List Nat) (a : Nat × Nat) : Int := wArc (r.contains a.1) (r.contains a.2)
theorem all_mapC {α β : Type} (f : α → β) (p : β → Bool) (l : List α) : (l.map f).all p = l.all fun a => p (f a) := by
  induction l with
  | nil => rfl
  | cons a l ih => rw [List.map_cons, List.all_cons, List.all_cons, ih]
theorem crosses_all (g : Seen) (r : List Nat) (e : Nat) : g.crosses r e = if ((arcsBy g e).all fun a => r.contains a.1 == r.contains a.2) = true then some 0
    else if ((arcsBy g e).all fun a => !r.contains a.1 && r.contains a.2) = true then some 1
    else if ((arcsBy g e).all fun a => r.contains a.1 && !r.contains a.2) = true then some 2 else none := by
  unfold Seen.crosses arcsBy
  simp only [all_mapC]
theorem all_congrM {α : Type} {p q : α → Bool} {l : List α} (h : ∀ a ∈ l, p a = q a) : l.all p = l.all q := by
  induction l with
  | nil => rfl
  | cons a l ih => rw [List.all_cons, List.all_cons, h a (List.mem_cons_self ..), ih fun b hb => h b (List.mem_cons_of_mem _ hb)]
theorem way_first (g : Seen) (r : List Nat) (e : Nat) {a : Nat × Nat} {l : List (Nat × Nat)} (h : arcsBy g e = a :: l) :
    wayI g r e = if ((arcsBy g e).all fun b => wAt r b == wAt r a) = true then wAt r a else -1 := by
  unfold wayI
  rw [crosses_all]
  have c0 : ∀ b : Nat × Nat, (r.contains b.1 == r.contains b.2) = (wAt r b == 0) := fun b => by
    unfold wAt wArc; cases r.contains b.1 <;> cases r.contains b.2 <;> rfl
  have c1 : ∀ b : Nat × Nat, (!r.contains b.1 && r.contains b.2) = (wAt r b == 1) := fun b => by
    unfold wAt wArc; cases r.contains b.1 <;> cases r.contains b.2 <;> rfl
  have c2 : ∀ b : Nat × Nat, (r.contains b.1 && !r.contains b.2) = (wAt r b == 2) := fun b => by
    unfold wAt wArc; cases r.contains b.1 <;> cases r.contains b.2 <;> rfl
  simp only [c0, c1, c2]
  have w : wAt r a = 0 ∨ wAt r a = 1 ∨ wAt r a = 2 := by
    unfold wAt wArc; cases r.contains a.1 <;> cases r.contains a.2 <;> decide
  have no : ∀ z : Int, wAt r a ≠ z → ((arcsBy g e).all fun b => wAt r b == z) = false := fun z hz => by
    rw [h, List.all_cons]
    have : (wAt r a == z) = false := by simpa using hz
    rw [this, Bool.false_and]
  rcases w with w | w | w
  · rw [w]
    by_cases q : ((arcsBy g e).all fun b => wAt r b == 0) = true
    · rw [if_pos q, if_pos q]; rfl
    · rw [if_neg q, if_neg q, no 1 (by rw [w]; decide), no 2 (by rw [w]; decide)]; rfl
  · rw [no 0 (by rw [w]; decide), w]
    by_cases q : ((arcsBy g e).all fun b => wAt r b == 1) = true
    · rw [if_pos q, if_pos q]; rfl
    · rw [if_neg q, if_neg q, no 2 (by rw [w]; decide)]; rfl
  · rw [no 0 (by rw [w]; decide), no 1 (by rw [w]; decide), w]
    by_cases q : ((arcsBy g e).all fun b => wAt r b == 2) = true
    · rw [if_pos q, if_pos q]; rfl
    · rw [if_neg q, if_neg q]; rfl
def waysOf (g : Seen) (r : List Nat) : List Int := (List.range g.k).map fun e => wayI g r e
theorem way_vals (g : Seen) (r : List Nat) (e : Nat) : (g.crosses r e = none ∧ wayI g r e = -1) ∨ (g.crosses r e = some 0 ∧ wayI g r e = 0) ∨ (g.crosses r e = some 1 ∧ wayI g r e = 1) ∨ (g.crosses r e = some 2 ∧ wayI g r e = 2) := by
  unfold wayI
  rw [crosses_all]
  split
  · exact Or.inr (Or.inl ⟨rfl, rfl⟩)
  · split
    · exact Or.inr (Or.inr (Or.inl ⟨rfl, rfl⟩))
    · split
      · exact Or.inr (Or.inr (Or.inr ⟨rfl, rfl⟩))
      · exact Or.inl ⟨rfl, rfl⟩
/-- NO_WAY not in ways -/
theorem region_ways (g : Seen) (r : List Nat) : g.region r = !(waysOf g r).any fun x => x == -1 := by
  unfold Seen.region waysOf
  rw [List.any_map, List.not_any_eq_all_not]
  refine all_congrM fun e _ => ?_
  rcases way_vals g r e with ⟨h1, h2⟩ | ⟨h1, h2⟩ | ⟨h1, h2⟩ | ⟨h1, h2⟩ <;> simp [h1, h2]
theorem answers_event (g : Seen) (r : List Nat) (s e : Nat) : g.answers r (.event s e) = (wayI g r e == if r.contains s = true then 1 else 2) := by
  unfold Seen.answers
  rcases way_vals g r e with ⟨h1, h2⟩ | ⟨h1, h2⟩ | ⟨h1, h2⟩ | ⟨h1, h2⟩ <;> simp only [h1, h2] <;> cases r.contains s <;> rfl
/-! questions -/
def twoStates (n : Nat) : List Question := (List.range n).flatMap fun s => (List.range (n - (s + 1))).map fun i => Question.states s (s + 1 + i)
def stateEvents (g : Seen) : List Question := (List.range g.n).flatMap fun s => ((List.range g.k).filter fun e => !((arcsBy g e).any fun a => a.1 == s)).map fun e => Question.event s e
theorem range_above (s : Nat) : ∀ n, (List.range n).filter (fun t => decide (s < t)) = (List.range (n - (s + 1))).map fun i => s + 1 + i
  | 0 => by simp
  | n + 1 => by
    rw [List.range_succ, List.filter_append, range_above s n]
    by_cases h : s < n
    · have e : n + 1 - (s + 1) = (n - (s + 1)) + 1 := by omega
      rw [e, List.range_succ, List.map_append]
      have e2 : s + 1 + (n - (s + 1)) = n := by omega
      simp [h, e2]
    · have e : n + 1 - (s + 1) = 0 := by omega
      have e2 : n - (s + 1) = 0 := by omega
      rw [e, e2]; simp [h]
theorem next_none (g : Seen) (s e : Nat) : (g.next s e).isNone = !((arcsBy g e).any fun a => a.1 == s) := by
  unfold Seen.next arcsBy
  rw [Option.isNone_map, List.any_map, List.any_filter]
  have : ∀ l : List Arc, (l.find? fun a => a.1 == s && a.2.1 == e).isNone = !(l.any fun a => a.2.1 == e && (a.1 == s)) := by
    intro l
    induction l with
    | nil => rfl
    | cons a l ih =>
      rw [List.find?_cons, List.any_cons]
      cases h1 : a.1 == s <;> cases h2 : a.2.1 == e <;> simp [ih]
  exact this g.arcs
theorem questions_eq (g : Seen) : g.questions = twoStates g.n ++ stateEvents g := by
  unfold Seen.questions twoStates stateEvents
  congr 1
  · refine congrArg (fun f => List.flatMap f (List.range g.n)) ?_
    funext s
    rw [range_above, List.map_map]; rfl
  · refine congrArg (fun f => List.flatMap f (List.range g.n)) ?_
    funext s
    congr 1
    refine List.filter_congr fun e _ => next_none g s e
theorem length_flatMap_le {α β : Type} (f : α → List β) (b : Nat) : ∀ (l : List α), (∀ a ∈ l, (f a).length ≤ b) → (l.flatMap f).length ≤ l.length * b
  | [], _ => by simp
  | a :: l, h => by
    rw [List.flatMap_cons, List.length_append, List.length_cons, Nat.succ_mul]
    have h1 := h a (List.mem_cons_self ..)
    have h2 := length_flatMap_le f b l fun c hc => h c (List.mem_cons_of_mem _ hc)
    omega
theorem two_few {n : Nat} (h : n ≤ 9) : (twoStates n).length ≤ 81 := by
  have := length_flatMap_le (fun s => (List.range (n - (s + 1))).map fun i => Question.states s (s + 1 + i)) 9 (List.range n) (fun s _ => by simp; omega)
  rw [List.length_range] at this
  exact Nat.le_trans this (by omega)
theorem events_few {g : Seen} (h : g.n ≤ 9) (hk : g.k ≤ 6) : (stateEvents g).length ≤ 54 := by
  have := length_flatMap_le (fun s => ((List.range g.k).filter fun e => !((arcsBy g e).any fun a => a.1 == s)).map fun e => Question.event s e) 6 (List.range g.n)
    (fun s _ => by rw [List.length_map]; exact Nat.le_trans (List.length_filter_le ..) (by rw [List.length_range]; exact hk))
  rw [List.length_range] at this
  exact Nat.le_trans this (by omega)
theorem questions_few {g : Seen} (h : g.n ≤ 9) (hk : g.k ≤ 6) : g.questions.length ≤ 135 := by
  rw [questions_eq, List.length_append]
  have := two_few h
  have := events_few h hk
  omega
/-- a question's numbers -/
def qN : Question → List Nat
  | .states s t => [0, s, t]
  | .event s e => [1, s, e]
theorem qN_inj : ∀ {p q : Question}, qN p = qN q → p = q
  | .states _ _, .states _ _, h => by simp [qN] at h; simp [h]
  | .states _ _, .event _ _, h => by simp [qN] at h
  | .event _ _, .states _ _, h => by simp [qN] at h
  | .event _ _, .event _ _, h => by simp [qN] at h; simp [h]
/-- a question about what there is -/
def qOk (g : Seen) : Question → Prop
  | .states s t => s < g.n ∧ t < g.n
  | .event s e => s < g.n ∧ e < g.k
theorem questions_ok (g : Seen) : ∀ q ∈ g.questions, qOk g q := by
  intro q hq
  rw [questions_eq] at hq
  rcases List.mem_append.mp hq with h | h
  · unfold twoStates at h
    simp only [List.mem_flatMap, List.mem_map, List.mem_range] at h
    obtain ⟨s, hs, i, hi, rfl⟩ := h
    exact ⟨hs, by omega⟩
  · unfold stateEvents at h
    simp only [List.mem_flatMap, List.mem_map, List.mem_filter, List.mem_range] at h
    obtain ⟨s, hs, e, ⟨he, _⟩, rfl⟩ := h
    exact ⟨hs, he⟩
/-! which stay -/
def tellersN (g : Seen) (l : List States) (q : Question) : Nat := l.countP fun r => g.answers r q
theorem lean_cond (g : Seen) (kept l : List States) (r : States) : (g.questions.all fun q => !g.answers r q || (kept ++ l).any fun x => g.answers x q) = ((g.questions.filter fun q => g.answers r q).all fun q => decide (1 < tellersN g (kept ++ r :: l) q)) := by
  rw [List.all_filter]
  refine all_congrM fun q _ => ?_
  cases h : g.answers r q with
  | false => rfl
  | true =>
    have e : tellersN g (kept ++ r :: l) q = tellersN g (kept ++ l) q + 1 := by
      unfold tellersN
      rw [List.countP_append, List.countP_append, List.countP_cons_of_pos (p := fun r => g.answers r q) h]
      omega
    rw [e]
    have e2 : ((kept ++ l).any fun x => g.answers x q) = decide (1 < tellersN g (kept ++ l) q + 1) := by
      rw [Bool.eq_iff_iff, List.any_eq_true, decide_eq_true_eq]
      unfold tellersN
      have z : 0 < List.countP (fun r => g.answers r q) (kept ++ l) ↔ ∃ a, a ∈ kept ++ l ∧ g.answers a q = true := by
        rw [List.countP_pos_iff]
      constructor
      · rintro ⟨x, hx, hp⟩
        have := z.mpr ⟨x, hx, hp⟩
        omega
      · intro hlt
        obtain ⟨x, hx, hp⟩ := z.mp (by omega)
        exact ⟨x, hx, hp⟩
    rw [e2]
theorem lean_go (g : Seen) (kept l : List States) (r : States) (h : ((g.questions.filter fun q => g.answers r q).all fun q => decide (1 < tellersN g (kept ++ r :: l) q)) = true) : g.lean kept (r :: l) = g.lean kept l := by
  show (if _ = true then _ else _) = _
  rw [lean_cond, if_pos h]
theorem lean_stay (g : Seen) (kept l : List States) (r : States) (h : ((g.questions.filter fun q => g.answers r q).all fun q => decide (1 < tellersN g (kept ++ r :: l) q)) = false) : g.lean kept (r :: l) = g.lean (r :: kept) l := by
  show (if _ = true then _ else _) = _
  rw [lean_cond, if_neg (by rw [h]; exact Bool.false_ne_true)]
theorem tellers_go (g : Seen) (kept l : List States) (r : States) (q : Question) : tellersN g (kept ++ l) q = if g.answers r q = true then tellersN g (kept ++ r :: l) q - 1 else tellersN g (kept ++ r :: l) q := by
  unfold tellersN
  rw [List.countP_append, List.countP_append]
  by_cases h : g.answers r q = true
  · rw [if_pos h, List.countP_cons_of_pos (p := fun r => g.answers r q) h]; omega
  · rw [if_neg h, List.countP_cons_of_neg (p := fun r => g.answers r q) h]
theorem tellers_stay (g : Seen) (kept l : List States) (r : States) (q : Question) : tellersN g ((r :: kept) ++ l) q = tellersN g (kept ++ r :: l) q := by
  unfold tellersN
  rw [List.countP_append, List.countP_append]
  by_cases h : g.answers r q = true
  · rw [List.countP_cons_of_pos (p := fun r => g.answers r q) h, List.countP_cons_of_pos (p := fun r => g.answers r q) h]; omega
  · rw [List.countP_cons_of_neg (p := fun r => g.answers r q) h, List.countP_cons_of_neg (p := fun r => g.answers r q) h]
theorem lean_len (g : Seen) : ∀ (l kept : List States), (g.lean kept l).length ≤ kept.length + l.length
  | [], kept => Nat.le_add_right ..
  | r :: l, kept => by
    show (if _ = true then _ else _ : List States).length ≤ _
    split
    · have := lean_len g l kept
      simp only [List.length_cons]; omega
    · have := lean_len g l (r :: kept)
      simp only [List.length_cons] at this ⊢; omega
theorem lean_sub (g : Seen) : ∀ (l kept : List States) (x : States), x ∈ g.lean kept l → x ∈ kept ∨ x ∈ l
  | [], kept, x, h => Or.inl h
  | r :: l, kept, x, h => by
    have h' : x ∈ (if (g.questions.all fun q => !g.answers r q || (kept ++ l).any fun x => g.answers x q) = true then g.lean kept l else g.lean (r :: kept) l) := h
    split at h'
    · rcases lean_sub g l kept x h' with q | q
      · exact Or.inl q
      · exact Or.inr (List.mem_cons_of_mem _ q)
    · rcases lean_sub g l (r :: kept) x h' with q | q
      · rcases List.mem_cons.mp q with e | e
        · exact Or.inr (e ▸ List.mem_cons_self ..)
        · exact Or.inl e
      · exact Or.inr (List.mem_cons_of_mem _ q)
theorem places_len (g : Seen) : g.places.length ≤ g.regions.length := by
  have := lean_len g g.regions.reverse []
  rw [List.length_reverse, List.length_nil, Nat.zero_add] at this
  exact this
theorem open_eq (g : Seen) (rs : List States) : g.open_ rs = g.questions.filter fun q => !rs.any fun r => g.answers r q := rfl
end Rn
namespace Rn
open Sq64
/-! ### C. the net -/
/-- the places that an event crosses in a way, by their numbers -/
def crossedN (g : Seen) (ps : List States) (e : Nat) (x : Int) : List Nat := (List.range ps.length).filter fun i => wayI g (ps.getD i []) e == x
theorem way_is (g : Seen) (r : List Nat) (e : Nat) (x : Nat) : (wayI g r e == (x : Int)) = (g.crosses r e == some x) := by
  unfold wayI
  cases h : g.crosses r e with
  | none =>
    have : ((-1 : Int) == (x : Int)) = false := by
      rw [beq_eq_false_iff_ne]; omega
    exact this
  | some y =>
    show ((y : Int) == (x : Int)) = (some y == some x)
    rw [Bool.eq_iff_iff]
    simp
    omega
theorem crossed_spec (g : Seen) (ps : List States) (e x : Nat) : (List.range ps.length).filter (fun i => g.crosses ((ps[i]?).getD []) e == some x) = crossedN g ps e (x : Int) := by
  unfold crossedN
  refine List.filter_congr fun i _ => ?_
  rw [way_is]; rfl
/-- an event may happen, read off the places that it leaves and enters -/
theorem may_eq (g : Seen) (m : Marking) (e : Nat) (h : m.length = g.places.length) :
    g.may m e = ((crossedN g g.places e 2).all (fun i => m.getD i false) && (crossedN g g.places e 1).all fun i => !m.getD i false) := by
  rw [Bool.eq_iff_iff]
  simp only [Seen.may, Bool.and_eq_true, List.all_eq_true]
  constructor
  · intro hz
    have key : ∀ i, i < g.places.length → (match g.crosses (g.places.getD i []) e with
        | some 1 => !m.getD i false
        | some 2 => m.getD i false
        | _ => true) = true := by
      intro i hi
      have hm : i < m.length := by omega
      have := hz (g.places[i], m[i]) (by
        rw [List.mem_iff_getElem]
        exact ⟨i, by rw [List.length_zip]; omega, by rw [List.getElem_zip]⟩)
      rw [List.getD_eq_getElem?_getD, List.getD_eq_getElem?_getD, List.getElem?_eq_getElem hi, List.getElem?_eq_getElem hm]
      exact this
    constructor
    · intro i hi
      simp only [crossedN, List.mem_filter, List.mem_range] at hi
      have z := key i hi.1
      have q : g.crosses (g.places.getD i []) e = some 2 := by
        have := hi.2
        rw [show (2 : Int) = ((2 : Nat) : Int) from rfl, way_is] at this
        simpa using this
      rw [q] at z; exact z
    · intro i hi
      simp only [crossedN, List.mem_filter, List.mem_range] at hi
      have z := key i hi.1
      have q : g.crosses (g.places.getD i []) e = some 1 := by
        have := hi.2
        rw [show (1 : Int) = ((1 : Nat) : Int) from rfl, way_is] at this
        simpa using this
      rw [q] at z; exact z
  · rintro ⟨h2, h1⟩ x hx
    obtain ⟨i, hi, rfl⟩ := List.mem_iff_getElem.mp hx
    rw [List.length_zip] at hi
    have hp : i < g.places.length := by omega
    have hm : i < m.length := by omega
    rw [List.getElem_zip]
    show (match g.crosses g.places[i] e with
        | some 1 => !m[i]
        | some 2 => m[i]
        | _ => true) = true
    have gd : g.places.getD i [] = g.places[i] := by rw [List.getD_eq_getElem?_getD, List.getElem?_eq_getElem hp]; rfl
    have md : m.getD i false = m[i] := by rw [List.getD_eq_getElem?_getD, List.getElem?_eq_getElem hm]; rfl
    rcases way_vals g g.places[i] e with ⟨c, w⟩ | ⟨c, w⟩ | ⟨c, w⟩ | ⟨c, w⟩
    · rw [c]
    · rw [c]; rfl
    · rw [c]
      have := h1 i (by simp only [crossedN, List.mem_filter, List.mem_range]; exact ⟨hp, by rw [gd, w]; rfl⟩)
      rw [md] at this; exact this
    · rw [c]
      have := h2 i (by simp only [crossedN, List.mem_filter, List.mem_range]; exact ⟨hp, by rw [gd, w]; rfl⟩)
      rw [md] at this; exact this
/-- some places set -/
def setAll (m : List Bool) (l : List Nat) (b : Bool) : List Bool := l.foldl (fun m i => m.set i b) m
theorem setAll_len : ∀ (l : List Nat) (m : List Bool) (b : Bool), (setAll m l b).length = m.length
  | [], _, _ => rfl
  | i :: l, m, b => by
    show (setAll (m.set i b) l b).length = _
    rw [setAll_len l, List.length_set]
theorem setAll_get : ∀ (l : List Nat) (m : List Bool) (b : Bool) (j : Nat), j < m.length → (setAll m l b)[j]? = if j ∈ l then some b else m[j]?
  | [], m, b, j, _ => by simp [setAll]
  | i :: l, m, b, j, h => by
    show (setAll (m.set i b) l b)[j]? = _
    rw [setAll_get l (m.set i b) b j (by rw [List.length_set]; exact h)]
    by_cases e : j ∈ l
    · rw [if_pos e, if_pos (List.mem_cons_of_mem _ e)]
    · rw [if_neg e]
      by_cases e2 : i = j
      · subst e2
        rw [if_pos (List.mem_cons_self ..), List.getElem?_set_self h]
      · rw [if_neg (fun z => (List.mem_cons.mp z).elim (fun z => e2 z.symm) e), List.getElem?_set_ne e2]
theorem fired_len (g : Seen) (m : Marking) (e : Nat) (h : m.length = g.places.length) : (g.fired m e).length = g.places.length := by
  unfold Seen.fired; rw [List.length_map, List.length_zip]; omega
theorem fired_get (g : Seen) (m : Marking) (e : Nat) (h : m.length = g.places.length) (i : Nat) (hi : i < g.places.length) :
    (g.fired m e)[i]? = some (match g.crosses (g.places.getD i []) e with
      | some 1 => true
      | some 2 => false
      | _ => m.getD i false) := by
  have hm : i < m.length := by omega
  have hz : (g.places.zip m)[i]? = some (g.places[i], m[i]) := by
    rw [List.getElem?_eq_getElem (by rw [List.length_zip]; omega), List.getElem_zip]
  unfold Seen.fired
  rw [List.getElem?_map, hz, List.getD_eq_getElem?_getD, List.getD_eq_getElem?_getD, List.getElem?_eq_getElem hi, List.getElem?_eq_getElem hm]
  rfl
theorem mem_crossed (g : Seen) (ps : List States) (e x i : Nat) : i ∈ crossedN g ps e (x : Int) ↔ i < ps.length ∧ g.crosses (ps.getD i []) e = some x := by
  simp only [crossedN, List.mem_filter, List.mem_range, way_is, beq_iff_eq]
theorem fired_eq (g : Seen) (m : Marking) (e : Nat) (h : m.length = g.places.length) :
    g.fired m e = setAll (setAll m (crossedN g g.places e 2) false) (crossedN g g.places e 1) true := by
  apply List.ext_getElem?
  intro i
  by_cases hi : i < g.places.length
  · rw [fired_get g m e h i hi, setAll_get _ _ _ _ (by rw [setAll_len]; omega), setAll_get _ _ _ _ (by omega)]
    have m1 : i ∈ crossedN g g.places e 1 ↔ _ := mem_crossed g g.places e 1 i
    have m2 : i ∈ crossedN g g.places e 2 ↔ _ := mem_crossed g g.places e 2 i
    have gd : m[i]? = some (m.getD i false) := by
      rw [List.getD_eq_getElem?_getD, List.getElem?_eq_getElem (by omega : i < m.length)]; rfl
    rcases way_vals g (g.places.getD i []) e with ⟨c, w⟩ | ⟨c, w⟩ | ⟨c, w⟩ | ⟨c, w⟩
    · rw [if_neg (fun z => by have := (m1.mp z).2; rw [c] at this; cases this), if_neg (fun z => by have := (m2.mp z).2; rw [c] at this; cases this), c, gd]
    · rw [if_neg (fun z => by have := (m1.mp z).2; rw [c] at this; cases this), if_neg (fun z => by have := (m2.mp z).2; rw [c] at this; cases this), c, gd]; rfl
    · rw [if_pos (m1.mpr ⟨hi, c⟩), c]; rfl
    · rw [if_neg (fun z => by have := (m1.mp z).2; rw [c] at this; cases this), if_pos (m2.mpr ⟨hi, c⟩), c]; rfl
  · rw [List.getElem?_eq_none (by rw [fired_len g m e h]; omega), List.getElem?_eq_none (by rw [setAll_len, setAll_len]; omega)]
/-- where an event has just happened it may not happen again, or changes nothing -/
theorem again (g : Seen) (m : Marking) (e : Nat) (h : m.length = g.places.length) : g.fired (g.fired m e) e = g.fired m e := by
  have hl := fired_len g m e h
  apply List.ext_getElem?
  intro i
  by_cases hi : i < g.places.length
  · rw [fired_get g _ e hl i hi, fired_get g m e h i hi]
    have q := fired_get g m e h i hi
    congr 1
    rcases way_vals g (g.places.getD i []) e with ⟨c, w⟩ | ⟨c, w⟩ | ⟨c, w⟩ | ⟨c, w⟩ <;> rw [c] <;> rw [c] at q <;> simp only [List.getD_eq_getElem?_getD] <;> try rfl
    all_goals rw [q]; simp only [List.getD_eq_getElem?_getD]; rfl
  · rw [List.getElem?_eq_none (by rw [fired_len g _ e hl]; omega), List.getElem?_eq_none (by omega)]
theorem marking_len (g : Seen) (s : Nat) : (g.marking s).length = g.places.length := by
  unfold Seen.marking; rw [List.length_map]
/-! the markings that it comes to -/
def addM (s : List Marking) (m : Marking) : List Marking := if s.contains m then s else s ++ [m]
def succs (g : Seen) (m : Marking) : List Marking := ((List.range g.k).filter (g.may m)).map (g.fired m)
theorem comes_eq (g : Seen) (f : Nat) (l : List Marking) : g.comes (f + 1) l = g.comes f ((l.flatMap (succs g)).foldl addM l) := rfl
theorem addM_mem {s : List Marking} {m x : Marking} (h : x ∈ s) : x ∈ addM s m := by
  unfold addM; split
  · exact h
  · exact List.mem_append_left _ h
theorem fold_mem : ∀ (l s : List Marking) (x : Marking), x ∈ s → x ∈ l.foldl addM s
  | [], _, _, h => h
  | m :: l, s, x, h => fold_mem l (addM s m) x (addM_mem h)
theorem addM_self (s : List Marking) (m : Marking) : m ∈ addM s m := by
  unfold addM; split
  · rename_i h; simpa using h
  · simp
theorem fold_all : ∀ (l s : List Marking) (x : Marking), x ∈ l → x ∈ l.foldl addM s
  | m :: l, s, x, h => by
    rcases List.mem_cons.mp h with e | e
    · subst e; exact fold_mem l _ _ (addM_self s x)
    · exact fold_all l (addM s m) x e
theorem fold_skip : ∀ (l s : List Marking), (∀ x ∈ l, x ∈ s) → l.foldl addM s = s
  | [], _, _ => rfl
  | m :: l, s, h => by
    show l.foldl addM (addM s m) = s
    have e : addM s m = s := by
      unfold addM; rw [if_pos]; simpa using h m (List.mem_cons_self ..)
    rw [e]; exact fold_skip l s fun x hx => h x (List.mem_cons_of_mem _ hx)
/-- old ones lead to nothing new: only the newest are gone on from -/
theorem comes_new (g : Seen) (f : Nat) (old new : List Marking) (h : ∀ m ∈ old, ∀ x ∈ succs g m, x ∈ old ++ new) :
    g.comes (f + 1) (old ++ new) = g.comes f ((new.flatMap (succs g)).foldl addM (old ++ new)) := by
  rw [comes_eq, List.flatMap_append, List.foldl_append, fold_skip (old.flatMap (succs g)) (old ++ new)]
  intro x hx
  obtain ⟨m, hm, hx⟩ := List.mem_flatMap.mp hx
  exact h m hm x hx
end Rn
namespace Rn
open Sq64
/-! ### D. what begin asks -/
theorem nodup_len {α : Type} [DecidableEq α] : ∀ {l m : List α}, l.Nodup → (∀ x ∈ l, x ∈ m) → l.length ≤ m.length
  | [], m, _, _ => Nat.zero_le _
  | a :: l, m, hn, h => by
    have hn' := List.nodup_cons.mp hn
    have ha := h a (List.mem_cons_self ..)
    have e := List.length_erase_of_mem ha
    have hpos : 0 < m.length := List.length_pos_of_mem ha
    have := nodup_len (l := l) (m := m.erase a) hn'.2 fun x hx => (List.mem_erase_of_ne (a := x) (b := a) (fun q => hn'.1 (q ▸ hx))).mpr (h x (List.mem_cons_of_mem _ hx))
    rw [List.length_cons]; omega
/-- the numbers below n that stand in a list without repeats: as many as n only if all do -/
theorem nodup_full {l : List Nat} {n : Nat} (hn : l.Nodup) (h : ∀ x ∈ l, x < n) : l.length = n ↔ ∀ x, x < n → x ∈ l := by
  constructor
  · intro e x hx
    refine Decidable.byContradiction fun hx' => ?_
    have := nodup_len (l := x :: l) (m := List.range n) (List.nodup_cons.mpr ⟨hx', hn⟩) fun y hy => by
      rcases List.mem_cons.mp hy with q | q
      · exact List.mem_range.mpr (q ▸ hx)
      · exact List.mem_range.mpr (h y q)
    rw [List.length_cons, List.length_range] at this; omega
  · intro hall
    have h1 := nodup_len (l := l) (m := List.range n) hn fun y hy => List.mem_range.mpr (h y hy)
    have h2 := nodup_len (l := List.range n) (m := l) List.nodup_range fun y hy => hall y (List.mem_range.mp hy)
    rw [List.length_range] at h1 h2; omega
/-- how many different ones -/
def distinct {α : Type} [DecidableEq α] : List α → List α
  | [] => []
  | a :: l => if a ∈ l then distinct l else a :: distinct l
theorem mem_distinct {α : Type} [DecidableEq α] {x : α} : ∀ {l : List α}, x ∈ distinct l ↔ x ∈ l
  | [] => Iff.rfl
  | a :: l => by
    show x ∈ (if a ∈ l then distinct l else a :: distinct l) ↔ _
    split
    · rename_i h
      rw [mem_distinct (l := l), List.mem_cons]
      constructor
      · exact Or.inr
      · rintro (e | e)
        · exact e ▸ h
        · exact e
    · rw [List.mem_cons, mem_distinct (l := l), List.mem_cons]
theorem distinct_nodup {α : Type} [DecidableEq α] : ∀ {l : List α}, (distinct l).Nodup
  | [] => List.nodup_nil
  | a :: l => by
    show (if a ∈ l then distinct l else a :: distinct l).Nodup
    split
    · exact distinct_nodup
    · rename_i h
      exact List.nodup_cons.mpr ⟨fun q => h (mem_distinct.mp q), distinct_nodup⟩
theorem distinct_le {α : Type} [DecidableEq α] : ∀ (l : List α), (distinct l).length ≤ l.length
  | [] => Nat.le_refl _
  | a :: l => by
    show (if a ∈ l then distinct l else a :: distinct l).length ≤ _
    have := distinct_le l
    split <;> simp only [List.length_cons] <;> omega
theorem distinct_lt {α : Type} [DecidableEq α] : ∀ (l : List α), (distinct l).length < l.length ↔ ¬ l.Nodup
  | [] => by simp [distinct]
  | a :: l => by
    show (if a ∈ l then distinct l else a :: distinct l).length < _ ↔ _
    have h1 := distinct_le l
    have h2 := distinct_lt l
    rw [List.nodup_cons]
    split
    · rename_i h
      simp only [List.length_cons]
      exact ⟨fun _ q => q.1 h, fun _ => by omega⟩
    · rename_i h
      simp only [List.length_cons, Nat.add_lt_add_iff_right, h2]
      exact ⟨fun z q => z q.2, fun z q => z ⟨h, q⟩⟩
/-- any list with the same members and no repeats is as long -/
theorem distinct_len {α : Type} [DecidableEq α] {l m : List α} (hn : m.Nodup) (h : ∀ x, x ∈ m ↔ x ∈ l) : m.length = (distinct l).length := by
  have h1 := nodup_len hn fun x hx => mem_distinct.mpr ((h x).mp hx)
  have h2 := nodup_len (distinct_nodup (l := l)) fun x hx => (h x).mpr (mem_distinct.mp hx)
  omega
theorem fork_fold : ∀ (l s : List (Nat × Nat)) (b : Bool), (l.foldl (fun (s : List (Nat × Nat) × Bool) x => (x :: s.1, s.2 && !s.1.contains x)) (s, b)).2 = (b && decide (l.Nodup ∧ ∀ x ∈ l, x ∉ s))
  | [], s, b => by simp
  | a :: l, s, b => by
    show (l.foldl _ (a :: s, b && !s.contains a)).2 = _
    rw [fork_fold l (a :: s) (b && !s.contains a)]
    rw [Bool.eq_iff_iff]
    simp only [Bool.and_eq_true, Bool.not_eq_true', decide_eq_true_eq, List.contains_eq_mem, decide_eq_false_iff_not, List.nodup_cons, List.mem_cons]
    constructor
    · rintro ⟨⟨hb, ha⟩, hn, hx⟩
      refine ⟨hb, ⟨fun q => hx a q (Or.inl rfl), hn⟩, ?_⟩
      rintro x (e | e)
      · exact e ▸ ha
      · exact fun q => hx x e (Or.inr q)
    · rintro ⟨hb, ⟨hal, hn⟩, hx⟩
      refine ⟨⟨hb, hx a (Or.inl rfl)⟩, hn, fun x hxl => ?_⟩
      rintro (e | e)
      · exact hal (e ▸ hxl)
      · exact hx x (Or.inr hxl) e
/-! states come to -/
inductive Reach (arcs : List Arc) : Nat → Prop
  | zero : Reach arcs 0
  | step {a : Arc} : a ∈ arcs → Reach arcs a.1 → Reach arcs a.2.2
def addS (l m : List Nat) (s : Nat) : List Nat := if l.contains s || m.contains s then m else m ++ [s]
theorem addS_fold (l : List Nat) : ∀ (xs m : List Nat), (m.Nodup ∧ ∀ x ∈ m, x ∉ l) → ((xs.foldl (addS l) m).Nodup ∧ (∀ x ∈ xs.foldl (addS l) m, x ∉ l) ∧ (∀ x, x ∈ xs.foldl (addS l) m ↔ x ∈ m ∨ (x ∈ xs ∧ x ∉ l)))
  | [], m, h => ⟨h.1, h.2, fun x => ⟨Or.inl, fun q => q.elim id fun z => absurd z.1 (by simp)⟩⟩
  | a :: xs, m, h => by
    by_cases q : a ∈ l ∨ a ∈ m
    · have e : addS l m a = m := by
        unfold addS; rw [if_pos]
        simp only [List.contains_eq_mem, Bool.or_eq_true, decide_eq_true_eq]; exact q
      have ih := addS_fold l xs m h
      have e2 : List.foldl (addS l) m (a :: xs) = List.foldl (addS l) m xs := by rw [List.foldl_cons, e]
      rw [e2]
      refine ⟨ih.1, ih.2.1, fun x => ?_⟩
      rw [ih.2.2 x, List.mem_cons]
      constructor
      · rintro (z | z)
        · exact Or.inl z
        · exact Or.inr ⟨Or.inr z.1, z.2⟩
      · rintro (z | ⟨z | z, z2⟩)
        · exact Or.inl z
        · subst z
          rcases q with q | q
          · exact absurd q z2
          · exact Or.inl q
        · exact Or.inr ⟨z, z2⟩
    · have qa : a ∉ l := fun z => q (Or.inl z)
      have qm : a ∉ m := fun z => q (Or.inr z)
      have e : addS l m a = m ++ [a] := by
        unfold addS; rw [if_neg]
        simp only [List.contains_eq_mem, Bool.or_eq_true, decide_eq_true_eq]; exact q
      have ih := addS_fold l xs (m ++ [a]) ⟨by
        rw [List.nodup_append]
        refine ⟨h.1, (List.nodup_cons.mpr ⟨List.not_mem_nil, List.nodup_nil⟩), fun x hx y hy => ?_⟩
        rw [List.mem_singleton] at hy
        subst hy
        exact fun z => qm (z ▸ hx), fun x hx => by
          rcases List.mem_append.mp hx with z | z
          · exact h.2 x z
          · rw [List.mem_singleton] at z; exact z ▸ qa⟩
      have e2 : List.foldl (addS l) m (a :: xs) = List.foldl (addS l) (m ++ [a]) xs := by rw [List.foldl_cons, e]
      rw [e2]
      refine ⟨ih.1, ih.2.1, fun x => ?_⟩
      rw [ih.2.2 x, List.mem_append, List.mem_singleton, List.mem_cons]
      constructor
      · rintro ((z | z) | z)
        · exact Or.inl z
        · exact Or.inr ⟨Or.inl z, z ▸ qa⟩
        · exact Or.inr ⟨Or.inr z.1, z.2⟩
      · rintro (z | ⟨z | z, z2⟩)
        · exact Or.inl (Or.inl z)
        · exact Or.inl (Or.inr z)
        · exact Or.inr ⟨z, z2⟩
def newOnes (g : Seen) (l : List Nat) : List Nat := ((g.arcs.filter fun a => l.contains a.1).map fun a => a.2.2).foldl (addS l) []
theorem reached_succ (g : Seen) (f : Nat) : g.reached (f + 1) = g.reached f ++ newOnes g (g.reached f) := rfl
theorem newOnes_mem (g : Seen) (l : List Nat) (x : Nat) : x ∈ newOnes g l ↔ (∃ a ∈ g.arcs, a.1 ∈ l ∧ a.2.2 = x) ∧ x ∉ l := by
  have h := (addS_fold l ((g.arcs.filter fun a => l.contains a.1).map fun a => a.2.2) [] ⟨List.nodup_nil, by simp⟩).2.2 x
  unfold newOnes
  rw [h]
  simp only [List.not_mem_nil, false_or, List.mem_map, List.mem_filter, List.contains_eq_mem, decide_eq_true_eq, and_assoc]
theorem reached_nodup (g : Seen) : ∀ f, (g.reached f).Nodup
  | 0 => List.nodup_cons.mpr ⟨List.not_mem_nil, List.nodup_nil⟩
  | f + 1 => by
    rw [reached_succ, List.nodup_append]
    have h := addS_fold (g.reached f) ((g.arcs.filter fun a => (g.reached f).contains a.1).map fun a => a.2.2) [] ⟨List.nodup_nil, by simp⟩
    refine ⟨reached_nodup g f, h.1, fun x hx y hy => ?_⟩
    exact fun z => h.2.1 y hy (z ▸ hx)
theorem reached_sound (g : Seen) : ∀ f x, x ∈ g.reached f → Reach g.arcs x
  | 0, x, h => by
    have : x ∈ [0] := h
    rw [List.mem_singleton] at this
    exact this ▸ .zero
  | f + 1, x, h => by
    rw [reached_succ] at h
    rcases List.mem_append.mp h with q | q
    · exact reached_sound g f x q
    · obtain ⟨⟨a, ha, h1, rfl⟩, _⟩ := (newOnes_mem g _ x).mp q
      exact .step ha (reached_sound g f _ h1)
theorem reach_lt {g : Seen} (h0 : 1 ≤ g.n) (h : ∀ a ∈ g.arcs, a.2.2 < g.n) {x : Nat} (r : Reach g.arcs x) : x < g.n := by
  cases r with
  | zero => omega
  | step ha _ => exact h _ ha
theorem reached_closed (g : Seen) : ∀ f, (newOnes g (g.reached f) = [] ∨ f + 1 ≤ (g.reached f).length)
  | 0 => Or.inr (Nat.le_refl _)
  | f + 1 => by
    rcases reached_closed g f with h | h
    · left
      have e : g.reached (f + 1) = g.reached f := by rw [reached_succ, h, List.append_nil]
      rw [e]; exact h
    · by_cases q : newOnes g (g.reached f) = []
      · left
        have e : g.reached (f + 1) = g.reached f := by rw [reached_succ, q, List.append_nil]
        rw [e]; exact q
      · right
        rw [reached_succ, List.length_append]
        have := List.length_pos_iff.mpr q
        omega
theorem zero_reached (g : Seen) : ∀ f, 0 ∈ g.reached f
  | 0 => List.mem_singleton.mpr rfl
  | f + 1 => by rw [reached_succ]; exact List.mem_append_left _ (zero_reached g f)
theorem reached_all {g : Seen} (h0 : 1 ≤ g.n) (h : ∀ a ∈ g.arcs, a.2.2 < g.n) (x : Nat) : x ∈ g.reached g.n ↔ Reach g.arcs x := by
  constructor
  · exact reached_sound g _ x
  · intro r
    have hc : newOnes g (g.reached g.n) = [] := by
      rcases reached_closed g g.n with q | q
      · exact q
      · have := nodup_len (l := g.reached g.n) (m := List.range g.n) (reached_nodup g _) fun y hy => List.mem_range.mpr (reach_lt h0 h (reached_sound g _ y hy))
        rw [List.length_range] at this; omega
    induction r with
    | zero => exact zero_reached g _
    | step ha _ ih =>
      refine Decidable.byContradiction fun q => ?_
      have := (newOnes_mem g (g.reached g.n) _).mpr ⟨⟨_, ha, ih, rfl⟩, q⟩
      rw [hc] at this; cases this
/-- sound, by its three parts -/
theorem sound_iff (g : Seen) (h0 : 1 ≤ g.n) (h : ∀ a ∈ g.arcs, a.2.2 < g.n) : sound g = true ↔ (g.arcs.map fun a => (a.1, a.2.1)).Nodup ∧ (∀ e, e < g.k → e ∈ g.arcs.map fun a => a.2.1) ∧ ∀ s, s < g.n → Reach g.arcs s := by
  unfold sound
  rw [Bool.and_eq_true, Bool.and_eq_true, fork_fold, Bool.true_and, decide_eq_true_eq, List.all_eq_true, List.all_eq_true]
  refine and_congr ⟨fun z => z.1, fun z => ⟨z, fun x _ => by simp⟩⟩ (and_congr ⟨fun z e he => ?_, fun z e he => ?_⟩ ⟨fun z s hs => ?_, fun z s hs => ?_⟩)
  · obtain ⟨a, ha, hp⟩ := List.any_eq_true.mp (z e (List.mem_range.mpr he))
    exact List.mem_map.mpr ⟨a, ha, by simpa using hp⟩
  · obtain ⟨a, ha, hp⟩ := List.mem_map.mp (z e (List.mem_range.mp he))
    exact List.any_eq_true.mpr ⟨a, ha, by simpa using hp⟩
  · have := z s (List.mem_range.mpr hs)
    rw [List.contains_eq_mem, decide_eq_true_eq] at this
    exact (reached_all h0 h s).mp this
  · rw [List.contains_eq_mem, decide_eq_true_eq]
    exact (reached_all h0 h s).mpr (z s (List.mem_range.mp hs))
/-- a list of truth values that marks what is come to: sound, closed -/
theorem marks_reach {arcs : List Arc} {n : Nat} {c : List Bool} (hl : c.length = n) (h0 : c[0]? = some true) (hs : ∀ s, c[s]? = some true → Reach arcs s)
    (hc : ∀ a ∈ arcs, c[a.1]? = some true → c[a.2.2]? = some true) : c.all id = true ↔ ∀ s, s < n → Reach arcs s := by
  have key : ∀ s, Reach arcs s → c[s]? = some true := fun s r => by
    induction r with
    | zero => exact h0
    | step hm _ ih => exact hc _ hm ih
  rw [List.all_eq_true]
  constructor
  · intro z s hs'
    have e : c[s]? = some c[s] := List.getElem?_eq_getElem (by omega)
    refine hs s ?_
    rw [e, show c[s] = true from z _ (List.getElem_mem ..)]
  · intro z b hb
    obtain ⟨i, hi, rfl⟩ := List.mem_iff_getElem.mp hb
    have e := key i (z i (by omega))
    rw [List.getElem?_eq_getElem hi] at e
    exact Option.some.inj e
theorem triples_len : ∀ (l : List Nat), (triples l).isSome = true ↔ l.length % 3 = 0
  | [] => by simp [triples]
  | [_] => by simp [triples]
  | [_, _] => by simp [triples]
  | a :: b :: c :: l => by
    have := triples_len l
    simp only [triples, Option.isSome_map, List.length_cons, this]
    omega
/-- the arcs told, arc by arc -/
def arcsOf : List Nat → List Arc
  | a :: b :: c :: l => (a, (b, c)) :: arcsOf l
  | _ => []
theorem triples_arcs : ∀ (l : List Nat), l.length % 3 = 0 → triples l = some (arcsOf l)
  | [], _ => rfl
  | [_], h => by simp at h
  | [_, _], h => by simp at h
  | a :: b :: c :: l, h => by
    have := triples_arcs l (by simp only [List.length_cons] at h; omega)
    simp [triples, arcsOf, this]
theorem triples_none {l : List Nat} (h : ¬ l.length % 3 = 0) : triples l = none := by
  cases q : triples l with
  | none => rfl
  | some m => exact absurd ((triples_len l).mp (by rw [q]; rfl)) h
theorem arcsOf_len : ∀ (l : List Nat), (arcsOf l).length = l.length / 3
  | [] => rfl
  | [_] => by simp [arcsOf]
  | [_, _] => by simp [arcsOf]
  | a :: b :: c :: l => by
    show (arcsOf l).length + 1 = _
    rw [arcsOf_len l]; simp only [List.length_cons]; omega
theorem arcsOf_get : ∀ (l : List Nat) (i : Nat), i < l.length / 3 → ∃ a b c, l[3 * i]? = some a ∧ l[3 * i + 1]? = some b ∧ l[3 * i + 2]? = some c ∧ (arcsOf l)[i]? = some (a, (b, c))
  | [], i, h => by simp at h
  | [_], i, h => by simp at h
  | [_, _], i, h => by simp at h
  | a :: b :: c :: l, 0, _ => ⟨a, b, c, rfl, rfl, rfl, rfl⟩
  | a :: b :: c :: l, i + 1, h => by
    obtain ⟨x, y, z, h1, h2, h3, h4⟩ := arcsOf_get l i (by simp only [List.length_cons] at h; omega)
    refine ⟨x, y, z, ?_, ?_, ?_, h4⟩
    · rw [show 3 * (i + 1) = 3 * i + 1 + 1 + 1 by omega]; exact h1
    · rw [show 3 * (i + 1) + 1 = 3 * i + 1 + 1 + 1 + 1 by omega]; exact h2
    · rw [show 3 * (i + 1) + 2 = 3 * i + 2 + 1 + 1 + 1 by omega]; exact h3
theorem rising_all : ∀ (l : List Nat), rising l = (List.range (l.length - 1)).all fun i => decide (l.getD i 0 < l.getD (i + 1) 0)
  | [] => rfl
  | [_] => rfl
  | a :: b :: l => by
    have e : (a :: b :: l).length - 1 = (b :: l).length - 1 + 1 := by simp
    rw [e, List.range_succ_eq_map, List.all_cons, List.all_map]
    show (decide (a < b) && rising (b :: l)) = _
    rw [rising_all (b :: l)]
    rfl
end Rn
namespace Rn
open Sq64
/-! ### E. the list of calls, call by call -/
theorem whole_id (c : List (List Int)) : PySq64.whole c = c := by
  unfold PySq64.whole
  split <;> rfl
theorem map_whole (cs : List (List (List Int))) : cs.map PySq64.whole = cs := by
  have : PySq64.whole = id := funext whole_id
  rw [this, List.map_id]
theorem row_inv {r : List Int} {x t : List Int} (h : PyFlat.row r = some (x, t)) : ∃ s r', r = s :: r' ∧ 0 ≤ s ∧ s.toNat ≤ r'.length ∧ x = r'.take s.toNat ∧ t = r'.drop s.toNat := by
  cases r with
  | nil => cases h
  | cons s r' =>
    simp only [PyFlat.row] at h
    split at h
    · rename_i q
      cases h
      exact ⟨s, r', rfl, q.1, q.2, rfl, rfl⟩
    · cases h
theorem rows1_inv {r : List Int} {xs : List (List Int)} {t : List Int} (h : PyFlat.rows 1 r = some (xs, t)) : ∃ s r', r = s :: r' ∧ 0 ≤ s ∧ s.toNat ≤ r'.length ∧ xs = [r'.take s.toNat] ∧ t = r'.drop s.toNat := by
  simp only [PyFlat.rows] at h
  cases q : PyFlat.row r with
  | none => rw [q] at h; cases h
  | some v =>
    obtain ⟨x, s⟩ := v
    rw [q] at h
    cases h
    obtain ⟨s', r', e1, e2, e3, e4, e5⟩ := row_inv q
    exact ⟨s', r', e1, e2, e3, by rw [e4], e5⟩
/-- one call's form -/
inductive CallF : Int → List Int → List (List Int) → List Int → Prop
  | begin {x0 x1 s : Int} {r : List Int} (h0 : 0 ≤ s) (hl : s.toNat ≤ r.length) : CallF 1 (x0 :: x1 :: s :: r) [[1, x0, x1], r.take s.toNat] (r.drop s.toNat)
  | row {p s : Int} {r : List Int} (hp : p = 3 ∨ p = 7) (h0 : 0 ≤ s) (hl : s.toNat ≤ r.length) : CallF p (s :: r) [[p], r.take s.toNat] (r.drop s.toNat)
  | bare {p : Int} {r : List Int} (hp : p = 2 ∨ p = 4 ∨ p = 5 ∨ p = 6 ∨ p = 8) : CallF p r [[p]] r
theorem call_inv {p : Int} {r t : List Int} {c : List (List Int)} (h : PyFlat.call PySq64.shape (p :: r) = some (c, t)) : CallF p r c t := by
  have bare : ∀ {p : Int}, PySq64.shape p = some (0, 0) → PyFlat.call PySq64.shape (p :: r) = some (c, t) → c = [[p]] ∧ t = r := by
    intro p e h
    simp only [PyFlat.call, e] at h
    simp [PyFlat.rows] at h
    exact ⟨h.1.symm, h.2.symm⟩
  have row : ∀ {p : Int}, PySq64.shape p = some (0, 1) → (p = 3 ∨ p = 7) → PyFlat.call PySq64.shape (p :: r) = some (c, t) → CallF p r c t := by
    intro p e hp h
    simp only [PyFlat.call, e] at h
    rw [if_neg (by omega)] at h
    cases q : PyFlat.rows 1 (r.drop 0) with
    | none => rw [q] at h; cases h
    | some v =>
      obtain ⟨xs, t'⟩ := v
      rw [q] at h
      cases h
      obtain ⟨s, r', e1, e2, e3, e4, e5⟩ := rows1_inv q
      have e1' : r = s :: r' := e1
      subst e1' e4 e5
      exact .row hp e2 e3
  by_cases h1 : p = 1
  · subst h1
    have e : PySq64.shape 1 = some (2, 1) := rfl
    simp only [PyFlat.call, e] at h
    split at h
    · cases h
    · rename_i hl
      match r, hl with
      | x0 :: x1 :: r2, _ =>
        cases q : PyFlat.rows 1 ((x0 :: x1 :: r2).drop 2) with
        | none => rw [q] at h; cases h
        | some v =>
          obtain ⟨xs, t'⟩ := v
          rw [q] at h
          cases h
          obtain ⟨s, r', e1, e2, e3, e4, e5⟩ := rows1_inv q
          have e1' : r2 = s :: r' := e1
          subst e1' e4 e5
          exact .begin e2 e3
      | [_], hl => exact absurd (by simp) hl
      | [], hl => exact absurd (by simp) hl
  · by_cases h3 : p = 3
    · exact row (by rw [h3]; rfl) (Or.inl h3) h
    · by_cases h7 : p = 7
      · exact row (by rw [h7]; rfl) (Or.inr h7) h
      · by_cases hb : p = 2 ∨ p = 4 ∨ p = 5 ∨ p = 6 ∨ p = 8
        · have e : PySq64.shape p = some (0, 0) := by
            rcases hb with e | e | e | e | e <;> rw [e] <;> rfl
          obtain ⟨rfl, rfl⟩ := bare e h
          exact .bare hb
        · have e : PySq64.shape p = none := by
            unfold PySq64.shape
            rw [if_neg h1, if_neg (by omega), if_neg h3, if_neg (by omega), if_neg (by omega), if_neg (by omega), if_neg h7, if_neg (by omega)]
          simp only [PyFlat.call, e] at h
          cases h
theorem calls_inv {f : Nat} {p : Int} {r : List Int} {cs : List (List (List Int))} (h : PyFlat.calls PySq64.shape f (p :: r) = some cs) :
    ∃ f' c t cs', CallF p r c t ∧ PyFlat.calls PySq64.shape f' t = some cs' ∧ cs = c :: cs' := by
  cases f with
  | zero => cases h
  | succ f =>
    simp only [PyFlat.calls] at h
    cases q : PyFlat.call PySq64.shape (p :: r) with
    | none => rw [q] at h; cases h
    | some v =>
      obtain ⟨c, t⟩ := v
      rw [q] at h
      dsimp only at h
      cases q2 : PyFlat.calls PySq64.shape f t with
      | none => rw [q2] at h; cases h
      | some cs' =>
        rw [q2] at h
        cases h
        exact ⟨f, c, t, cs', call_inv q, q2, rfl⟩
theorem calls_nil {f : Nat} {cs : List (List (List Int))} (h : PyFlat.calls PySq64.shape f [] = some cs) : cs = [] := by
  cases f <;> (simp only [PyFlat.calls] at h; exact (Option.some.inj h).symm)
/-- what is due, from a state on -/
def due (g : Seen) (cs : List (List (List Int))) : List Int := PyFlat.told (PyFlat.played Sq64Neutral.step g cs)
theorem due_cons (g : Seen) (c : List (List Int)) (cs : List (List (List Int))) : due g (c :: cs) = ((Sq64Neutral.step g c).2.length : Int) :: (Sq64Neutral.step g c).2 ++ due (Sq64Neutral.step g c).1 cs := rfl
theorem outs_cons (g : Seen) (c : List (List Int)) (cs : List (List (List Int))) : Sq64Neutral.outs g (c :: cs) = (Sq64Neutral.step g c).2.length + Sq64Neutral.outs (Sq64Neutral.step g c).1 cs := rfl
theorem answers_due {l : List Int} (h : PySq64.answers_asked l = true) : ∃ cs, PyFlat.calls PySq64.shape l.length l = some cs ∧ PySq64.answers l = due fresh cs ∧ cs.length ≤ 60 ∧ (∀ c ∈ cs, Sq64Neutral.asked1 c = true) ∧ Sq64Neutral.outs fresh cs < 1000000 := by
  unfold PySq64.answers_asked at h
  unfold PySq64.answers PySq64.calls
  cases q : PyFlat.calls PySq64.shape l.length l with
  | none => rw [q] at h; cases h
  | some cs =>
    rw [q] at h
    simp only [Bool.and_eq_true, map_whole] at h
    obtain ⟨⟨⟨⟨_, h2⟩, _⟩, h4⟩, _⟩ := h
    simp only [Sq64Neutral.asked, Bool.and_eq_true, decide_eq_true_eq, List.all_eq_true] at h4
    refine ⟨cs, rfl, ?_, by simpa [PyFlat.atMost] using h2, h4.2.2.1, h4.2.2.2⟩
    simp only [map_whole]
    rfl
/-- what there is is as the document says -/
structure Okg (g : Seen) : Prop where
  n1 : 1 ≤ g.n
  n9 : g.n ≤ 9
  k1 : 1 ≤ g.k
  k6 : g.k ≤ 6
  few : g.arcs.length ≤ 400
  arcs : ∀ a ∈ g.arcs, a.1 < g.n ∧ a.2.1 < g.k ∧ a.2.2 < g.n
  each : ∀ e, e < g.k → e ∈ g.arcs.map fun a => a.2.1
theorem fresh_ok : Okg fresh := ⟨by decide, by decide, by decide, by decide, by decide, by decide, by decide⟩
theorem Okg.first {g : Seen} (h : Okg g) {e : Nat} (he : e < g.k) : ∃ a l, arcsBy g e = a :: l := by
  obtain ⟨a, ha, e1⟩ := List.mem_map.mp (h.each e he)
  cases q : arcsBy g e with
  | nil =>
    have : (a.1, a.2.2) ∈ arcsBy g e := by
      unfold arcsBy
      exact List.mem_map.mpr ⟨a, List.mem_filter.mpr ⟨ha, by simpa using e1⟩, rfl⟩
    rw [q] at this; cases this
  | cons b l => exact ⟨b, l, rfl⟩
theorem Okg.by {g : Seen} (h : Okg g) {e : Nat} {a : Nat × Nat} (ha : a ∈ arcsBy g e) : a.1 < g.n ∧ a.2 < g.n := by
  unfold arcsBy at ha
  obtain ⟨b, hb, rfl⟩ := List.mem_map.mp ha
  have := h.arcs b (List.mem_filter.mp hb).1
  exact ⟨this.1, this.2.2⟩
theorem Okg.byFew {g : Seen} (h : Okg g) (e : Nat) : (arcsBy g e).length ≤ 400 := by
  unfold arcsBy
  rw [List.length_map]
  exact Nat.le_trans (List.length_filter_le ..) h.few
/-- begin, in the order of its looks -/
def refusal (n k : Int) (l : List Nat) : Int := if ¬ (1 ≤ n ∧ n ≤ 9 ∧ 1 ≤ k ∧ k ≤ 6) then -1 else if ¬ l.length % 3 = 0 then -3
  else if ¬ ((arcsOf l).all fun a => decide ((a.1 : Int) < n) && (decide ((a.2.1 : Int) < k) && decide ((a.2.2 : Int) < n))) = true then -1 else if sound ⟨n.toNat, k.toNat, arcsOf l⟩ = false then -4 else 0
theorem begin_refused (g : Seen) (n k : Int) (l : List Nat) (hn : 0 ≤ n) (hk : 0 ≤ k) (h : refusal n k l ≠ 0) : g.step (.begin_ n.toNat k.toNat l) = (g, says (refusal n k l)) := by
  unfold refusal at h ⊢
  unfold Seen.step
  dsimp only
  by_cases c1 : 1 ≤ n ∧ n ≤ 9 ∧ 1 ≤ k ∧ k ≤ 6
  · have d1 : ¬ ¬ (1 ≤ n ∧ n ≤ 9 ∧ 1 ≤ k ∧ k ≤ 6) := fun z => z c1
    have d2 : ¬ (n.toNat = 0 ∨ STATES < n.toNat ∨ k.toNat = 0 ∨ EVENTS < k.toNat) := by unfold STATES EVENTS; omega
    rw [if_neg d1] at h ⊢
    rw [if_neg d2]
    by_cases c2 : l.length % 3 = 0
    · have d3 : ¬ ¬ l.length % 3 = 0 := fun z => z c2
      rw [if_neg d3] at h ⊢
      rw [triples_arcs l c2]
      dsimp only
      have e : ((arcsOf l).any fun a => decide (n.toNat ≤ a.1) || (decide (k.toNat ≤ a.2.1) || decide (n.toNat ≤ a.2.2))) = !((arcsOf l).all fun a => decide ((a.1 : Int) < n) && (decide ((a.2.1 : Int) < k) && decide ((a.2.2 : Int) < n))) := by
        rw [List.not_all_eq_any_not]
        congr 1
        funext a
        rw [Bool.eq_iff_iff]
        simp only [Bool.or_eq_true, decide_eq_true_eq, Bool.not_eq_true', Bool.and_eq_false_iff, decide_eq_false_iff_not]
        omega
      rw [e]
      by_cases c3 : ((arcsOf l).all fun a => decide ((a.1 : Int) < n) && (decide ((a.2.1 : Int) < k) && decide ((a.2.2 : Int) < n))) = true
      · rw [c3] at h ⊢
        rw [if_neg (show ¬ ¬ true = true from fun z => z rfl)] at h ⊢
        rw [if_neg (show ¬ (!true) = true by decide)]
        by_cases c4 : sound ⟨n.toNat, k.toNat, arcsOf l⟩ = false
        · rw [if_pos c4, if_pos c4]
        · rw [if_neg c4] at h; exact absurd rfl h
      · rw [if_pos c3]
        have c3' := Bool.eq_false_iff.mpr c3
        rw [c3', if_pos (show (!false) = true from rfl)]
    · rw [if_pos c2, triples_none c2]
  · have d2 : n.toNat = 0 ∨ STATES < n.toNat ∨ k.toNat = 0 ∨ EVENTS < k.toNat := by unfold STATES EVENTS; omega
    rw [if_pos c1, if_pos d2]
theorem begin_taken (g : Seen) (n k : Int) (l : List Nat) (h : refusal n k l = 0) :
    g.step (.begin_ n.toNat k.toNat l) = (⟨n.toNat, k.toNat, arcsOf l⟩, says ((arcsOf l).length : Int)) ∧ (1 ≤ n ∧ n ≤ 9 ∧ 1 ≤ k ∧ k ≤ 6) ∧ l.length % 3 = 0 ∧ (∀ a ∈ arcsOf l, (a.1 : Int) < n ∧ (a.2.1 : Int) < k ∧ (a.2.2 : Int) < n) ∧ sound ⟨n.toNat, k.toNat, arcsOf l⟩ = true := by
  unfold refusal at h
  by_cases c1 : 1 ≤ n ∧ n ≤ 9 ∧ 1 ≤ k ∧ k ≤ 6
  · rw [if_neg (fun z => z c1)] at h
    by_cases c2 : l.length % 3 = 0
    · rw [if_neg (fun z => z c2)] at h
      by_cases c3 : ((arcsOf l).all fun a => decide ((a.1 : Int) < n) && (decide ((a.2.1 : Int) < k) && decide ((a.2.2 : Int) < n))) = true
      · rw [if_neg (fun z => z c3)] at h
        by_cases c4 : sound ⟨n.toNat, k.toNat, arcsOf l⟩ = false
        · rw [if_pos c4] at h; exact absurd h (by decide)
        · have c5 : ∀ a ∈ arcsOf l, (a.1 : Int) < n ∧ (a.2.1 : Int) < k ∧ (a.2.2 : Int) < n := fun a ha => by
            simpa using List.all_eq_true.mp c3 a ha
          refine ⟨?_, c1, c2, c5, by simpa using c4⟩
          unfold Seen.step
          dsimp only
          rw [if_neg (show ¬ (n.toNat = 0 ∨ STATES < n.toNat ∨ k.toNat = 0 ∨ EVENTS < k.toNat) by unfold STATES EVENTS; omega), triples_arcs l c2]
          dsimp only
          have e : ((arcsOf l).any fun a => decide (n.toNat ≤ a.1) || (decide (k.toNat ≤ a.2.1) || decide (n.toNat ≤ a.2.2))) = false := by
            rw [List.any_eq_false]
            intro a ha
            have := c5 a ha
            simp only [Bool.or_eq_true, decide_eq_true_eq]
            omega
          rw [if_neg (by rw [e]; decide), if_neg c4]
      · rw [if_pos c3] at h; exact absurd h (by decide)
    · rw [if_pos c2] at h; exact absurd h (by decide)
  · rw [if_pos c1] at h; exact absurd h (by decide)
theorem begin_ok {n k : Int} {l : List Nat} (hl : l.length ≤ 1024) (h : refusal n k l = 0) : Okg ⟨n.toNat, k.toNat, arcsOf l⟩ := by
  obtain ⟨_, c1, c2, c3, c4⟩ := begin_taken fresh n k l h
  have ha : ∀ a ∈ arcsOf l, a.1 < n.toNat ∧ a.2.1 < k.toNat ∧ a.2.2 < n.toNat := fun a h => by have := c3 a h; omega
  refine ⟨by show 1 ≤ n.toNat; omega, by show n.toNat ≤ 9; omega, by show 1 ≤ k.toNat; omega, by show k.toNat ≤ 6; omega, ?_, ha, ?_⟩
  · show (arcsOf l).length ≤ 400
    rw [arcsOf_len]; omega
  · exact ((sound_iff ⟨n.toNat, k.toNat, arcsOf l⟩ (by show 1 ≤ n.toNat; omega) fun a h => (ha a h).2.2).mp c4).2.1
end Rn
namespace Rn
open Sq64
/-! ### F. how many markings there may be -/
theorem addM_len (s : List Marking) (m : Marking) : s.length ≤ (addM s m).length ∧ (addM s m).length ≤ s.length + 1 := by
  unfold addM; split
  · omega
  · rw [List.length_append]; simp
theorem fold_len : ∀ (l s : List Marking), s.length ≤ (l.foldl addM s).length ∧ (l.foldl addM s).length ≤ s.length + l.length
  | [], _ => ⟨Nat.le_refl _, Nat.le_refl _⟩
  | m :: l, s => by
    have h1 := addM_len s m
    have h2 := fold_len l (addM s m)
    rw [List.foldl_cons, List.length_cons]; omega
theorem fold_len_in : ∀ (l s : List Marking) (x : Marking), x ∈ l → x ∈ s → (l.foldl addM s).length + 1 ≤ s.length + l.length
  | m :: l, s, x, h, hs => by
    rw [List.foldl_cons, List.length_cons]
    rcases List.mem_cons.mp h with e | e
    · subst e
      have e2 : addM s x = s := by
        unfold addM; rw [if_pos]; simpa using hs
      rw [e2]
      have := fold_len l s
      omega
    · have := fold_len_in l (addM s m) x e (addM_mem hs)
      have := addM_len s m
      omega
/-- what is added stands behind what was there -/
theorem fold_append : ∀ (l s : List Marking), ∃ t, l.foldl addM s = s ++ t ∧ ∀ x ∈ t, x ∈ l
  | [], s => ⟨[], by simp, by simp⟩
  | m :: l, s => by
    obtain ⟨t, e, h⟩ := fold_append l (addM s m)
    rw [List.foldl_cons, e]
    unfold addM
    split
    · exact ⟨t, rfl, fun x hx => List.mem_cons_of_mem _ (h x hx)⟩
    · refine ⟨m :: t, by simp, fun x hx => ?_⟩
      rcases List.mem_cons.mp hx with q | q
      · exact q ▸ List.mem_cons_self ..
      · exact List.mem_cons_of_mem _ (h x q)
def Tame (g : Seen) (m : Marking) : Prop := ∃ e, e < g.k ∧ g.fired m e = m
theorem succs_len (g : Seen) (m : Marking) : (succs g m).length ≤ g.k := by
  unfold succs
  rw [List.length_map]
  refine Nat.le_trans (List.length_filter_le ..) ?_
  rw [List.length_range]; exact Nat.le_refl _
theorem succ_tame (g : Seen) {m x : Marking} (hm : List.length m = g.places.length) (h : x ∈ succs g m) : Tame g x ∧ List.length x = g.places.length := by
  unfold succs at h
  obtain ⟨e, he, rfl⟩ := List.mem_map.mp h
  have hk := List.mem_range.mp (List.mem_filter.mp he).1
  exact ⟨⟨e, hk, again g m e hm⟩, fired_len g m e hm⟩
theorem tame_few (g : Seen) (hk : g.k ≤ 6) {m : Marking} {s : List Marking} (t : Tame g m) (hs : m ∈ s) : ((succs g m).foldl addM s).length ≤ s.length + 5 := by
  obtain ⟨e, he, hf⟩ := t
  have h6 := succs_len g m
  by_cases c : g.may m e = true
  · have hin : m ∈ succs g m := by
      unfold succs
      exact List.mem_map.mpr ⟨e, List.mem_filter.mpr ⟨List.mem_range.mpr he, c⟩, hf⟩
    have := fold_len_in (succs g m) s m hin hs
    omega
  · have h5 : (succs g m).length + 1 ≤ g.k := by
      unfold succs
      rw [List.length_map]
      have := nodup_len (l := e :: (List.range g.k).filter (g.may m)) (m := List.range g.k)
        (List.nodup_cons.mpr ⟨fun z => c (List.mem_filter.mp z).2, List.Pairwise.filter _ List.nodup_range⟩)
        (fun y hy => by
          rcases List.mem_cons.mp hy with q | q
          · exact q ▸ List.mem_range.mpr he
          · exact (List.mem_filter.mp q).1)
      rw [List.length_range, List.length_cons] at this
      exact this
    have := fold_len (succs g m) s
    omega
theorem turn_few (g : Seen) (hk : g.k ≤ 6) : ∀ (N s : List Marking), (∀ m ∈ N, Tame g m ∧ m ∈ s) → ((N.flatMap (succs g)).foldl addM s).length ≤ s.length + 5 * N.length
  | [], s, _ => Nat.le_refl _
  | m :: N, s, h => by
    rw [List.flatMap_cons, List.foldl_append, List.length_cons]
    have h1 := h m (List.mem_cons_self ..)
    have h2 := tame_few g hk h1.1 h1.2
    have h3 := turn_few g hk N ((succs g m).foldl addM s) fun x hx => ⟨(h x (List.mem_cons_of_mem _ hx)).1, fold_mem _ _ _ (h x (List.mem_cons_of_mem _ hx)).2⟩
    omega
def nb : Nat → Nat
  | 0 => 1
  | 1 => 6
  | t + 2 => 5 * nb (t + 1)
def kb : Nat → Nat
  | 0 => 1
  | t + 1 => kb t + nb (t + 1)
theorem kb_mono : ∀ t, t ≤ 10 → kb t ≤ 15000000
  | 0, _ => by decide
  | 1, _ => by decide
  | 2, _ => by decide
  | 3, _ => by decide
  | 4, _ => by decide
  | 5, _ => by decide
  | 6, _ => by decide
  | 7, _ => by decide
  | 8, _ => by decide
  | 9, _ => by decide
  | 10, _ => by decide
  | t + 11, h => absurd h (by omega)
/-- what holds ahead of turn t: old and new ones -/
structure Front (g : Seen) (t : Nat) (old new : List Marking) : Prop where
  len : ∀ m ∈ old ++ new, List.length m = g.places.length
  done : ∀ m ∈ old, ∀ x ∈ succs g m, x ∈ old ++ new
  tame : t = 0 ∨ ∀ m ∈ new, Tame g m
  few : new.length ≤ nb t
  all : (old ++ new).length ≤ kb t
theorem front_start (g : Seen) : Front g 0 [] [g.marking 0] := by
  refine ⟨fun m hm => ?_, (fun m hm => nomatch hm), Or.inl rfl, Nat.le_refl _, Nat.le_refl _⟩
  rw [List.nil_append, List.mem_singleton] at hm
  rw [hm]; exact marking_len g 0
/-- one turn -/
theorem front_turn {g : Seen} (hk : g.k ≤ 6) {t : Nat} {old new : List Marking} (F : Front g t old new) : ∃ found, (new.flatMap (succs g)).foldl addM (old ++ new) = (old ++ new) ++ found ∧ Front g (t + 1) (old ++ new) found ∧ ((new.flatMap (succs g)).foldl addM (old ++ new)).length ≤ kb (t + 1) := by
  obtain ⟨found, e, hf⟩ := fold_append (new.flatMap (succs g)) (old ++ new)
  have hsucc : ∀ x ∈ found, ∃ m ∈ new, x ∈ succs g m := fun x hx => by
    obtain ⟨m, hm, h⟩ := List.mem_flatMap.mp (hf x hx)
    exact ⟨m, hm, h⟩
  have hlen : found.length ≤ nb (t + 1) := by
    have el := congrArg List.length e
    rw [List.length_append (as := old ++ new)] at el
    rcases F.tame with z | z
    · subst z
      have h1 : new.length ≤ 1 := F.few
      have h2 := (fold_len (new.flatMap (succs g)) (old ++ new)).2
      have h3 := length_flatMap_le (succs g) 6 new fun m _ => Nat.le_trans (succs_len g m) hk
      show found.length ≤ 6
      omega
    · cases t with
      | zero =>
        have h1 : new.length ≤ 1 := F.few
        have h2 := (fold_len (new.flatMap (succs g)) (old ++ new)).2
        have h3 := length_flatMap_le (succs g) 6 new fun m _ => Nat.le_trans (succs_len g m) hk
        show found.length ≤ 6
        omega
      | succ t =>
        have h1 := turn_few g hk new (old ++ new) fun m hm => ⟨z m hm, List.mem_append_right _ hm⟩
        have h2 := F.few
        show found.length ≤ 5 * nb (t + 1)
        omega
  have hall : ((old ++ new) ++ found).length ≤ kb (t + 1) := by
    rw [List.length_append]
    have := F.all
    show _ ≤ kb t + nb (t + 1)
    omega
  refine ⟨found, e, ⟨fun m hm => ?_, fun m hm x hx => ?_, Or.inr fun m hm => ?_, hlen, hall⟩, by rw [e]; exact hall⟩
  · rcases List.mem_append.mp hm with q | q
    · exact F.len m q
    · obtain ⟨m0, h0, h⟩ := hsucc m q
      exact (succ_tame g (F.len m0 (List.mem_append_right _ h0)) h).2
  · rcases List.mem_append.mp hm with q | q
    · exact List.mem_append_left _ (F.done m q x hx)
    · rw [← e]
      exact fold_all _ _ _ (List.mem_flatMap.mpr ⟨m, q, hx⟩)
  · obtain ⟨m0, h0, h⟩ := hsucc m hm
    exact (succ_tame g (F.len m0 (List.mem_append_right _ h0)) h).1
/-- a part of a turn has no more than the whole -/
theorem part_few {g : Seen} (hk : g.k ≤ 6) {t : Nat} {old new : List Marking} (F : Front g t old new) (l1 l2 : List Marking) (h : new.flatMap (succs g) = l1 ++ l2) : (l1.foldl addM (old ++ new)).length ≤ kb (t + 1) := by
  obtain ⟨_, _, _, h2⟩ := front_turn hk F
  rw [h, List.foldl_append] at h2
  exact Nat.le_trans (fold_len l2 _).1 h2
end Rn
namespace Rn
open PySem PySem.Spec PyProof.Rows L2
open Sq64 (States Marking Arc)
abbrev Sn := Sq64.Seen
abbrev Qn := Sq64.Question
/-! ### the text -/
def top (i : Nat) : Stmt := PySem.Challenge.pw_regionnets_s01_answers.main.body.getD i (.Pass ⟨0, 0, 0, 0⟩)
/-! ### heaps: an object left out -/
def hid (H : Hp) (l : Addr) : Hp := fun b => if b = l then none else H b
theorem hid_at {H : Hp} {l a : Addr} (h : a ≠ l) : hid H l a = H a := if_neg h
theorem hid_self {H : Hp} {l : Addr} : hid H l l = none := if_pos rfl
theorem hid_same {H : Hp} {l : Addr} : Same (hid H l) H := fun b o h => by
  by_cases e : b = l
  · rw [e, hid_self] at h; cases h
  · rw [hid_at e] at h; exact h
theorem hid_mono {H H' : Hp} {l : Addr} (s : Same H H') : Same (hid H l) (hid H' l) := fun b o h => by
  by_cases e : b = l
  · rw [e, hid_self] at h; cases h
  · rw [hid_at e] at h ⊢; exact s b o h
theorem hid_upd {H : Hp} {l : Addr} {o : HO} : hid (upd H l o) l = hid H l := by
  funext b
  by_cases e : b = l
  · rw [e, hid_self, hid_self]
  · rw [hid_at e, hid_at e, upd_ne e]
theorem hid_free {H : Hp} {l : Addr} (h : H l = none) : hid H l = H := by
  funext b
  by_cases e : b = l
  · rw [e, hid_self, h]
  · rw [hid_at e]
theorem hid_ne {H : Hp} {l a : Addr} {o : HO} (h : hid H l a = some o) : a ≠ l := fun e => by
  rw [e, hid_self] at h; cases h
theorem same_new {H : Hp} {p : Addr} {o : HO} (h : H p = none) : Same H (upd H p o) := fun b u e => by
  rw [upd_ne (ne_of_none e h)]; exact e
theorem same_hid {H H' : Hp} {l : Addr} (s : Same H H') (h : H l = none) : Same H (hid H' l) := fun b o e => by
  rw [hid_at (ne_of_none e h)]; exact s b o e
theorem hid_put {H H' : Hp} {l : Addr} {o : HO} (s : Same H (hid H' l)) : Same H (hid (upd H' l o) l) := by rw [hid_upd]; exact s
theorem same_start {H : Hp} {l : Addr} {o : HO} (h : H l = none) : Same H (hid (upd H l o) l) := by rw [hid_upd, hid_free h]; exact Same.refl H
/-! ### what stands for what -/
def nV (x : Nat) : V := .int (x : Int)
def Ls (H : Hp) (a : Addr) (ns : List Nat) : Prop := H a = some (.lst (ns.map nV))
def LsI (H : Hp) (a : Addr) (ns : List Int) : Prop := H a = some (.lst (ns.map V.int))
def LsB (H : Hp) (a : Addr) (bs : List Bool) : Prop := H a = some (.lst (bs.map V.bl))
abbrev Rep (α : Type) := Hp → Addr → α → Prop
/-- a list of things that stand for the xs -/
def LsOf {α : Type} (R : Rep α) (H : Hp) (a : Addr) (xs : List α) : Prop := ∃ ps : List (Addr × α), ps.map (·.2) = xs ∧ H a = some (.lst (ps.map fun p => V.ref p.1)) ∧ ∀ p ∈ ps, R H p.1 p.2
def Up {α : Type} (R : Rep α) : Prop := ∀ (H H' : Hp) (a : Addr) (x : α), Same H H' → R H a x → R H' a x
theorem up_ls : Up Ls := fun _ _ _ _ s h => s _ _ h
theorem up_lsI : Up LsI := fun _ _ _ _ s h => s _ _ h
theorem up_lsB : Up LsB := fun _ _ _ _ s h => s _ _ h
theorem up_of {α : Type} {R : Rep α} (u : Up R) : Up (LsOf R) := fun H H' a xs s ⟨ps, e, h, k⟩ => ⟨ps, e, s _ _ h, fun p hp => u _ _ _ _ s (k p hp)⟩
def Tup2 (H : Hp) (a : Addr) (x : Nat × Nat) : Prop := H a = some (.tup [nV x.1, nV x.2])
def Tup3 (H : Hp) (a : Addr) (x : Arc) : Prop := H a = some (.tup [nV x.1, nV x.2.1, nV x.2.2])
def QAt (H : Hp) (a : Addr) (q : Qn) : Prop := H a = some (.tup ((qN q).map nV))
theorem up_tup2 : Up Tup2 := fun _ _ _ _ s h => s _ _ h
theorem up_tup3 : Up Tup3 := fun _ _ _ _ s h => s _ _ h
theorem up_q : Up QAt := fun _ _ _ _ s h => s _ _ h
/-- the classes' addresses -/
structure Cs where
  reg : Addr
  net : Addr
  rd : Addr
  seen : Addr
  line : Addr
def RegAt (C : Cs) (g : Sn) (H : Hp) (a : Addr) (r : States) : Prop := ∃ dx s w, H a = some (.ins C.reg dx [("states", .ref s), ("ways", .ref w)]) ∧ Ls H s r ∧ LsI H w (waysOf g r)
theorem up_reg {C : Cs} {g : Sn} : Up (RegAt C g) := fun _ _ _ _ s ⟨dx, b, w, h1, h2, h3⟩ => ⟨dx, b, w, s _ _ h1, s _ _ h2, s _ _ h3⟩
def SeenAt (C : Cs) (H : Hp) (a : Addr) (g : Sn) : Prop := ∃ dx b, H a = some (.ins C.seen dx [("n", nV g.n), ("k", nV g.k), ("arcs_by_event", .ref b)]) ∧ LsOf (LsOf Tup2) H b ((List.range g.k).map (arcsBy g))
theorem up_seen {C : Cs} : Up (SeenAt C) := fun _ _ _ _ s ⟨dx, b, h1, h2⟩ => ⟨dx, b, s _ _ h1, up_of (up_of up_tup2) _ _ _ _ s h2⟩
def bV (b : Bool) : V := .int (if b = true then 1 else 0)
def MkAt (H : Hp) (a : Addr) (m : Marking) : Prop := H a = some (.lst (m.map bV))
theorem up_mk : Up MkAt := fun _ _ _ _ s h => s _ _ h
def NetAt (C : Cs) (H : Hp) (a : Addr) (g : Sn) : Prop := ∃ dx m l e, H a = some (.ins C.net dx [("first_marking", .ref m), ("left_by_event", .ref l), ("entered_by_event", .ref e)]) ∧ MkAt H m (g.marking 0) ∧
  LsOf Ls H l ((List.range g.k).map fun x => crossedN g g.places x 2) ∧ LsOf Ls H e ((List.range g.k).map fun x => crossedN g g.places x 1)
theorem up_net {C : Cs} : Up (NetAt C) := fun _ _ _ _ s ⟨dx, m, l, e, h1, h2, h3, h4⟩ => ⟨dx, m, l, e, s _ _ h1, s _ _ h2, up_of up_ls _ _ _ _ s h3, up_of up_ls _ _ _ _ s h4⟩
/-! ### fields -/
theorem lk_here {k : Str} {v : V} {r : List (Str × V)} : List.lookup k ((k, v) :: r) = some v := by
  have e : (k == k) = true := beq_self_eq_true k
  simp only [List.lookup, e]
theorem lk_past {k g : Str} {v : V} {r : List (Str × V)} (h : (k == g) = false) : List.lookup k ((g, v) :: r) = List.lookup k r := by
  simp only [List.lookup, h]
theorem lk_nil {k : Str} : List.lookup k ([] : List (Str × V)) = none := rfl
theorem put_here {f : Str} {v x : V} {r : List (Str × V)} : putF f v ((f, x) :: r) = (f, v) :: r := if_pos rfl
theorem put_past {f g : Str} {v x : V} {r : List (Str × V)} (h : ¬ g = f) : putF f v ((g, x) :: r) = (g, x) :: putF f v r := if_neg h
/-! ### the defs as they stand, and their promises -/
section
variable (P : Program) (w : World) (K : PySem.W.Frag) (mg : Str → Option Value) (base : Heap)
def At (x : Str) (st : Stmt) (ps : List Str) : Prop := ∃ f fd, mg x = some (.ref f) ∧ Fun K x x st f fd ∧ Binds K fd ps []
def AtM (C : Addr) (m qual : Str) (st : Stmt) (ps : List Str) : Prop := ∃ f fd, Meth K C m f ∧ Fun K m qual st f fd ∧ Binds K fd ps []
/-- a def keeps its promise -/
def Dfn (k : Nat) (x : Str) (ps : List Str) (sp : Sp) : Prop := ∃ f fd, mg x = some (.ref f) ∧ PySem.W.keepIn K (.ref f) = true ∧ Binds K fd ps [] ∧ FnOk P w K mg base CX0 k f fd ps sp
/-- a method does -/
def Dm (C : Addr) (k : Nat) (m : Str) (ps : List Str) (sp : Sp) : Prop := Cls K C ∧ ∃ f fd, Meth K C m f ∧ Binds K fd ps [] ∧ FnOk P w K mg base CX0 k f fd ps sp
/-- a class's __init__ does -/
def Di (C : Addr) (k : Nat) (x : Str) (ps : List Str) (sp : Sp) : Prop := mg x = some (.ref C) ∧ ∃ f fd, Mk K C f ∧ Binds K fd ps [] ∧ FnOk P w K mg base CX0 k f fd ps sp
end
section
variable {P : Program} {w : World} {K : PySem.W.Frag} {mg : Str → Option Value} {base : Heap}
theorem Dfn.mk {x : Str} {st : Stmt} {N ps : List Str} {k : Nat} {sp : Sp} (h : At K mg x st ps) (S : FnScope N ps (defScope st)) (len : ∀ vs H Q E, sp vs H Q E → vs.length = ps.length)
    (hbody : ∀ (f : Addr) (cdv : Value) (A : Around) (outer : List Env) (s : Shared) (H : Hp) (vs : List V) (Q : VK) (E : XK), Room k (A.deeper (envOfC x (defScope st) s.heap.objs.size f cdv)) → sp vs H Q E →
      ∃ t, PSs (cxOf CX0 P w K mg base N x (defScope st) f cdv A outer s H E).nox (defBody st) t ∧ t { nx := fun _ H' => Q .non H', rt := Q } (start N vs) H) : Dfn P w K mg base (k + 1) x ps sp := by
  obtain ⟨f, fd, hm, F, b⟩ := h
  exact ⟨f, fd, hm, F.kp, b, F.ok S len fun cdv A outer s H vs Q E hr h => hbody f cdv A outer s H vs Q E hr h⟩
theorem Dm.mk {C : Addr} {m qual : Str} {st : Stmt} {N ps : List Str} {k : Nat} {sp : Sp} (c : Cls K C) (h : AtM K C m qual st ps) (S : FnScope N ps (defScope st)) (len : ∀ vs H Q E, sp vs H Q E → vs.length = ps.length)
    (hbody : ∀ (f : Addr) (cdv : Value) (A : Around) (outer : List Env) (s : Shared) (H : Hp) (vs : List V) (Q : VK) (E : XK), Room k (A.deeper (envOfC qual (defScope st) s.heap.objs.size f cdv)) → sp vs H Q E →
      ∃ t, PSs (cxOf CX0 P w K mg base N qual (defScope st) f cdv A outer s H E).nox (defBody st) t ∧ t { nx := fun _ H' => Q .non H', rt := Q } (start N vs) H) : Dm P w K mg base C (k + 1) m ps sp := by
  obtain ⟨f, fd, hm, F, b⟩ := h
  exact ⟨c, f, fd, hm, b, F.ok S len fun cdv A outer s H vs Q E hr h => hbody f cdv A outer s H vs Q E hr h⟩
theorem Di.mk {C : Addr} {x qual : Str} {st : Stmt} {N ps : List Str} {k : Nat} {sp : Sp} (hx : mg x = some (.ref C)) (mk : PySem.W.makesIn K C = true) (kc : PySem.W.keepIn K (.ref C) = true) (h : AtM K C "__init__" qual st ps) (S : FnScope N ps (defScope st)) (len : ∀ vs H Q E, sp vs H Q E → vs.length = ps.length)
    (hbody : ∀ (f : Addr) (cdv : Value) (A : Around) (outer : List Env) (s : Shared) (H : Hp) (vs : List V) (Q : VK) (E : XK), Room k (A.deeper (envOfC qual (defScope st) s.heap.objs.size f cdv)) → sp vs H Q E →
      ∃ t, PSs (cxOf CX0 P w K mg base N qual (defScope st) f cdv A outer s H E).nox (defBody st) t ∧ t { nx := fun _ H' => Q .non H', rt := Q } (start N vs) H) : Di P w K mg base C (k + 1) x ps sp := by
  obtain ⟨f, fd, hm, F, b⟩ := h
  exact ⟨hx, f, fd, ⟨mk, hm.at_, hm.fn, kc⟩, b, F.ok S len fun cdv A outer s H vs Q E hr h => hbody f cdv A outer s H vs Q E hr h⟩
end
section
variable {X : Cx} {k : Nat} {ps : List Str} {sp : Sp} {x : Str} {p pos apos : Pos} {e o : Expr} {es : List Expr} {t : TA} {ta : TE} {C : Addr} {m : Str}
theorem pe_fn (D : Dfn X.prog X.w X.K X.mg X.base k x ps sp) (hr : Room k X.A) (hg : Gl X x) (ha : PA X (e :: es) t) (hdb : (x == ("__debug__" : Str)) = false := by decide) (he : starEach (e :: es) X.env = (false, eval e X.env) :: starEach es X.env := by rfl) (hpl : (backTo pos (starEach es X.env)).any (·.1) = false := by rfl) :
    PE X (.Call (.Name x p) (e :: es) [] pos) (tCall sp [] E0 t) := by
  obtain ⟨f, fd, hm, kp, b, F⟩ := D
  exact pe_call F hr hg hm kp b .nil pass0 ha hdb he hpl
theorem pe_fn0 (D : Dfn X.prog X.w X.K X.mg X.base k x ps sp) (hr : Room k X.A) (hg : Gl X x) (hdb : (x == ("__debug__" : Str)) = false := by decide) : PE X (.Call (.Name x p) [] [] pos) (tCall sp [] E0 tNil) := by
  obtain ⟨f, fd, hm, kp, b, F⟩ := D
  exact pe_call0 F hr hg hm kp b .nil pass0 hdb
theorem pe_mk (D : Di X.prog X.w X.K X.mg X.base C k x ps sp) (hr : Room (k + 1) X.A) (hg : Gl X x) (ha : PA X (e :: es) t) (hdb : (x == ("__debug__" : Str)) = false := by decide) (he : starEach (e :: es) X.env = (false, eval e X.env) :: starEach es X.env := by rfl) (hpl : (backTo pos (starEach es X.env)).any (·.1) = false := by rfl) :
    PE X (.Call (.Name x p) (e :: es) [] pos) (tMake C sp [] E0 t) := by
  obtain ⟨hm, f, fd, M, b, F⟩ := D
  exact pe_make M F hr hg hm b .nil pass0 ha hdb he hpl
theorem pe_mk0 (D : Di X.prog X.w X.K X.mg X.base C k x ps sp) (hr : Room (k + 1) X.A) (hg : Gl X x) (hdb : (x == ("__debug__" : Str)) = false := by decide) : PE X (.Call (.Name x p) [] [] pos) (tMake C sp [] E0 tNil) := by
  obtain ⟨hm, f, fd, M, b, F⟩ := D
  exact pe_make0 M F hr hg hm b .nil pass0 hdb
theorem pe_mt {pl : Sem Bool} (he : PE X o ta) (D : Dm X.prog X.w X.K X.mg X.base C k m ps sp) (hr : Room k X.A) (ha : PA X (e :: es) t)
    (hst : starEach (e :: es) X.env = (false, eval e X.env) :: starEach es X.env := by rfl) (hpl : (backTo pos (starEach es X.env)).any (·.1) = false := by rfl)
    (ht : eval (.Call (.Attribute o m apos) (e :: es) [] pos) X.env = (do
      let ov ← eval o X.env
      standAt apos.atName
      let (f, first) ← holding [ov] (getMethod ov m pl)
      callWith pos f first (backTo pos (starEach (e :: es) X.env)) (backToKw pos (keywordEach [] X.env))) := by rfl) :
    PE X (.Call (.Attribute o m apos) (e :: es) [] pos) (tMeth C m sp [] E0 ta t) := by
  obtain ⟨c, f, fd, hm, b, F⟩ := D
  exact pe_meth he c hm F hr b .nil pass0 ha hst hpl ht
theorem pe_mt0 {pl : Sem Bool} (he : PE X o ta) (D : Dm X.prog X.w X.K X.mg X.base C k m ps sp) (hr : Room k X.A)
    (ht : eval (.Call (.Attribute o m apos) [] [] pos) X.env = (do
      let ov ← eval o X.env
      standAt apos.atName
      let (f, first) ← holding [ov] (getMethod ov m pl)
      callWith pos f first (backTo pos (starEach [] X.env)) (backToKw pos (keywordEach [] X.env))) := by rfl) :
    PE X (.Call (.Attribute o m apos) [] [] pos) (tMeth C m sp [] E0 ta tNil) := by
  obtain ⟨c, f, fd, hm, b, F⟩ := D
  exact pe_meth0 he c hm F hr b .nil pass0 ht
end
/-! ### what the top has written -/
structure Txt (K : PySem.W.Frag) (mg : Str → Option Value) (C : Cs) : Prop where
  len : mg "len" = none
  range : mg "range" = none
  all : mg "all" = none
  any : mg "any" = none
  list : mg "list" = none
  tuple : mg "tuple" = none
  set : mg "set" = none
  reversed : mg "reversed" = none
  cSTAYS : ∃ t, mg "STAYS" = some (.int 0 t)
  cENTERS : ∃ t, mg "ENTERS" = some (.int 1 t)
  cLEAVES : ∃ t, mg "LEAVES" = some (.int 2 t)
  cNO_WAY : ∃ t, mg "NO_WAY" = some (.int (-1) t)
  cTWO_STATES : ∃ t, mg "TWO_STATES" = some (.int 0 t)
  cSTATE_AND_EVENT : ∃ t, mg "STATE_AND_EVENT" = some (.int 1 t)
  cMOST_STATES : ∃ t, mg "MOST_STATES" = some (.int 9 t)
  cMOST_EVENTS : ∃ t, mg "MOST_EVENTS" = some (.int 6 t)
  cNUMBERS_OF_AN_ARC : ∃ t, mg "NUMBERS_OF_AN_ARC" = some (.int 3 t)
  cNOT_REFUSED : ∃ t, mg "NOT_REFUSED" = some (.int 0 t)
  cNOT_THERE : ∃ t, mg "NOT_THERE" = some (.int (-1) t)
  cILL_FORMED : ∃ t, mg "ILL_FORMED" = some (.int (-3) t)
  cNOT_AS_SAID : ∃ t, mg "NOT_AS_SAID" = some (.int (-4) t)
  cBEGIN : ∃ t, mg "BEGIN" = some (.int 1 t)
  cREGIONS : ∃ t, mg "REGIONS" = some (.int 2 t)
  cCROSSES : ∃ t, mg "CROSSES" = some (.int 3 t)
  cOPEN_ONES : ∃ t, mg "OPEN_ONES" = some (.int 4 t)
  cPLACES : ∃ t, mg "PLACES" = some (.int 5 t)
  cNET : ∃ t, mg "NET" = some (.int 6 t)
  cPLAY : ∃ t, mg "PLAY" = some (.int 7 t)
  cSAME : ∃ t, mg "SAME" = some (.int 8 t)
  cMAY_NOT_HAPPEN : ∃ t, mg "MAY_NOT_HAPPEN" = some (.int (-6) t)
  reg : Cls K C.reg
  net : Cls K C.net
  rd : Cls K C.rd
  seen : Cls K C.seen
  line : Cls K C.line
  reg_states : NoAttr K C.reg "states"
  reg_ways : NoAttr K C.reg "ways"
  net_first_marking : NoAttr K C.net "first_marking"
  net_left_by_event : NoAttr K C.net "left_by_event"
  net_entered_by_event : NoAttr K C.net "entered_by_event"
  rd_numbers : NoAttr K C.rd "numbers"
  rd_at : NoAttr K C.rd "at"
  seen_n : NoAttr K C.seen "n"
  seen_k : NoAttr K C.seen "k"
  seen_arcs_by_event : NoAttr K C.seen "arcs_by_event"
  line_seen : NoAttr K C.line "seen"
  line_regions_seen : NoAttr K C.line "regions_seen"
  line_places_kept : NoAttr K C.line "places_kept"
  line_net_made : NoAttr K C.line "net_made"
theorem pe_con {X : Cx} {x : Str} {i : Int} {pos : Pos} (h : ∃ t, X.mg x = some (.int i t)) (hg : Gl X x) (hd : (x == ("__debug__" : Str)) = false := by decide) : PE X (.Name x pos) (tC (.int i)) := by
  obtain ⟨t, h⟩ := h
  exact pe_glob hg h ⟨t, rfl⟩ hd
/-! ### small words -/
theorem small {n m : Nat} (h : n ≤ m) (hm : m < sizeLine := by decide) : n < sizeLine := Nat.lt_of_le_of_lt h hm
theorem smallE {n m : Nat} (h : n ≤ m) (hm : m ≤ sizeLine := by decide) : n ≤ sizeLine := Nat.le_trans h hm
theorem map_get {α β : Type} {f : α → β} {l : List α} {i : Nat} {y : β} (h : (l.map f)[i]? = some y) : ∃ x, l[i]? = some x ∧ y = f x := by
  rw [List.getElem?_map] at h
  cases e : l[i]? with
  | none => rw [e] at h; cases h
  | some x => rw [e] at h; exact ⟨x, rfl, (Option.some.inj h).symm⟩
theorem get_map {α β : Type} {f : α → β} {l : List α} {i : Nat} {x : α} (h : l[i]? = some x) : (l.map f)[i]? = some (f x) := by
  rw [List.getElem?_map, h]; rfl
theorem take_more {α : Type} {l : List α} {i : Nat} {x : α} (h : l[i]? = some x) : l.take (i + 1) = l.take i ++ [x] := by
  rw [List.take_add_one, h]; rfl
theorem get_mem {α : Type} {l : List α} {i : Nat} {x : α} (h : l[i]? = some x) : x ∈ l := List.mem_of_getElem? h
theorem get_lt {α : Type} {l : List α} {i : Nat} {x : α} (h : l[i]? = some x) : i < l.length := (List.getElem?_eq_some_iff.mp h).1
theorem take_len {α : Type} {l : List α} {i : Nat} {x : α} (h : l[i]? = some x) : (l.take i).length ≤ l.length := by rw [List.length_take]; omega
theorem range_more {n i : Nat} : List.range (i + 1) = List.range i ++ [i] := List.range_succ
theorem in_ls {ns : List Nat} {x : Nat} : inV (nV x) (ns.map nV) = ns.contains x := by
  unfold inV
  rw [List.any_map, List.contains_eq_any_beq]
  congr 1
  funext y
  show eqV (nV y) (nV x) = (x == y)
  unfold nV eqV
  rw [Bool.eq_iff_iff]
  simp
  omega
theorem in_lsI {ns : List Int} {x : Int} : inV (V.int x) (ns.map V.int) = ns.any fun y => y == x := by
  unfold inV
  rw [List.any_map]
  congr 1
theorem flat_ls (ns : List Nat) : (ns.map nV).all flatV = true := by
  rw [List.all_eq_true]; intro v hv
  obtain ⟨x, _, rfl⟩ := List.mem_map.mp hv
  rfl
theorem flat_lsI (ns : List Int) : (ns.map V.int).all flatV = true := by
  rw [List.all_eq_true]; intro v hv
  obtain ⟨x, _, rfl⟩ := List.mem_map.mp hv
  rfl
end Rn
namespace Rn
open PySem PySem.Spec PyProof.Rows L2
open Sq64 (States Marking Arc)

/-! ### rules whose reading names the written part by a letter -/
section
variable {X : Cx} {K : PySem.W.Frag}
theorem in_seqK (h : X.K = K) : OpR X (compareOp .In) (rIn K false) := h ▸ op_in_seq
theorem notIn_seqK (h : X.K = K) : OpR X (compareOp .NotIn) (rIn K true) := h ▸ op_notIn_seq
theorem ix_listK (h : X.K = K) : IxR X (rIxL K) := h ▸ ix_list
theorem ix_tupK (h : X.K = K) : IxR X (rIxT K) := h ▸ ix_tup
theorem pe_fldK {e : Expr} {f : Str} {pos : Pos} {ta : TE} (h : X.K = K) (he : PE X e ta) (hb : attributeBase e f X.env (eval e X.env) = eval e X.env) : PE X (.Attribute e f pos) (tFld K ta f) := h ▸ pe_fld he hb
end
/-! ### loops in short -/
theorem lcY {σ : L2.St} {H : Hp} {A B : Hp → Prop} (h : A H) : tYes σ H fun b H3 => if b = true then A H3 else B H3 := by
  show if true = true then A H else B H
  rw [if_pos rfl]
  exact h
theorem lc_rng {n : Nat} {g : TG} {tt : TT} {te : TE} {vs : List Nat} {σ : L2.St} {H1 : Hp} {D : Addr} {Qd : Hp → Prop} (Pv : Nat → Hp → Prop) (h0 : Pv 0 (upd H1 D (.lst [])))
    (hs : ∀ i H, i < n → Pv i H → g (nV i) (wipe σ vs) H fun σ2 H2 => wipe σ2 vs = wipe σ vs ∧ tt σ2 H2 fun b H3 =>
      if b = true then te σ2 H3 fun y H4 => ∃ acc, H4 D = some (.lst acc) ∧ acc.length < sizeLine ∧ Pv (i + 1) (upd H4 D (.lst (acc ++ [y]))) else Pv (i + 1) H3) (hd : ∀ H, Pv n H → Qd H) :
    ∃ W : Nat → Nat → Hp → Prop, (∃ m, W 0 m (upd H1 D (.lst []))) ∧ ∀ i m H, W i m H →
      ((Itr 0 n).stop i H ∧ Qd H) ∨ ((Itr 0 n).go i H ∧ ∃ Nx : Hp → Prop, (∀ H', Nx H' → ∃ m', m' < m ∧ W (i + 1) m' H') ∧ ∀ x H', (Itr 0 n).yld i H x H' → g x (wipe σ vs) H' fun σ2 H2 => wipe σ2 vs = wipe σ vs ∧ tt σ2 H2 fun b H3 =>
        if b = true then te σ2 H3 fun y H4 => ∃ acc, H4 D = some (.lst acc) ∧ acc.length < sizeLine ∧ Nx (upd H4 D (.lst (acc ++ [y]))) else Nx H3) :=
  lc_range Pv h0 (fun i H hi p => by rw [Int.zero_add]; exact hs i H hi p) hd
theorem for_rng {lo n : Nat} {g : TG} {tb : TS} {D : Ends} {σ : L2.St} {H : Hp} (Pv : Nat → L2.St → Hp → Prop) (h0 : Pv 0 σ H)
    (hs : ∀ i σ H, i < n → Pv i σ H → g (nV (lo + i)) σ H fun σ2 H2 => tb { D with nx := Pv (i + 1), ct := Pv (i + 1), bk := D.nx } σ2 H2) (hd : ∀ σ H, Pv n σ H → D.nx σ H) :
    ∃ W : Nat → Nat → L2.St → Hp → Prop, (∃ m, W 0 m σ H) ∧ ∀ i m σ H, W i m σ H →
      ((Itr (lo : Int) n).stop i H ∧ D.nx σ H) ∨ ((Itr (lo : Int) n).go i H ∧ ∃ N : L2.St → Hp → Prop, (∀ σ' H', N σ' H' → ∃ m', m' < m ∧ W (i + 1) m' σ' H') ∧ ∀ x H', (Itr (lo : Int) n).yld i H x H' → g x σ H' fun σ2 H2 => tb { D with nx := N, ct := N, bk := D.nx } σ2 H2) :=
  for_range Pv h0 (fun i σ H hi p => by rw [← Int.natCast_add]; exact hs i σ H hi p) hd
theorem while_m {c : TT} {tb : TS} {D : Ends} {σ : L2.St} {H : Hp} (Pv : Nat → L2.St → Hp → Prop) (m : Nat) (h0 : Pv m σ H)
    (hs : ∀ m σ H, Pv m σ H → c σ H fun b H1 => if b = true then tb { D with nx := fun σ' H' => ∃ m', m' < m ∧ Pv m' σ' H', ct := fun σ' H' => ∃ m', m' < m ∧ Pv m' σ' H', bk := D.nx } σ H1 else D.nx σ H1)
    (mono : ∀ σ H Q Q', (∀ b H1, Q b H1 → Q' b H1) → c σ H Q → c σ H Q') : tWhile c tb D σ H := by
  refine ⟨Pv, ⟨m, h0⟩, fun m σ H p => mono σ H _ _ (fun b H1 q => ?_) (hs m σ H p)⟩
  cases b with
  | true => exact ⟨_, fun σ' H' p' => p', q⟩
  | false => exact q
/-! ### lists that grow -/
def Grow {α : Type} (R : Rep α) (H0 H' : Hp) (l : Addr) (xs : List α) : Prop := Same H0 (hid H' l) ∧ ∃ ps : List (Addr × α), ps.map (·.2) = xs ∧ H' l = some (.lst (ps.map fun p => V.ref p.1)) ∧ ∀ p ∈ ps, R (hid H' l) p.1 p.2
section
variable {α : Type} {R : Rep α} {H0 H H' : Hp} {l p : Addr} {xs : List α} {x : α} {acc : List V} {o : HO}
theorem Grow.start (h : H l = none) : Grow R H (upd H l (.lst [])) l [] := ⟨same_start h, [], rfl, upd_same, fun _ hp => nomatch hp⟩
theorem Grow.keep (u : Up R) (g : Grow R H0 H l xs) (s : Same H H') : Grow R H0 H' l xs :=
  let ⟨s0, ps, e, h, k⟩ := g
  ⟨s0.trans (hid_mono s), ps, e, s _ _ h, fun p hp => u _ _ _ _ (hid_mono s) (k p hp)⟩
theorem Grow.len (g : Grow R H0 H l xs) (h : H l = some (.lst acc)) : acc.length = xs.length := by
  obtain ⟨_, ps, e, h', _⟩ := g
  rw [h'] at h
  cases h
  rw [← e, List.length_map, List.length_map]
theorem Grow.at (g : Grow R H0 H l xs) : ∃ acc, H l = some (.lst acc) ∧ acc.length = xs.length := by
  obtain ⟨_, ps, e, h', _⟩ := g
  exact ⟨_, h', by rw [← e, List.length_map, List.length_map]⟩
theorem Grow.push (g : Grow R H0 H l xs) (h : H l = some (.lst acc)) (r : R (hid H l) p x) : Grow R H0 (upd H l (.lst (acc ++ [.ref p]))) l (xs ++ [x]) := by
  obtain ⟨s0, ps, e, h', k⟩ := g
  rw [h'] at h
  cases h
  refine ⟨hid_put s0, ps ++ [(p, x)], by rw [List.map_append, e]; rfl, by rw [upd_same, List.map_append]; rfl, fun q hq => ?_⟩
  rw [hid_upd]
  rcases List.mem_append.mp hq with z | z
  · exact k q z
  · rw [List.mem_singleton] at z; subst z; exact r
theorem Grow.done (u : Up R) (g : Grow R H0 H l xs) : LsOf R H l xs :=
  let ⟨_, ps, e, h, k⟩ := g
  ⟨ps, e, h, fun p hp => u _ _ _ _ hid_same (k p hp)⟩
theorem Grow.same (g : Grow R H0 H l xs) : Same H0 H := g.1.trans hid_same
theorem Grow.eq (g : Grow R H0 H l xs) {ys : List α} (e : xs = ys) : Grow R H0 H l ys := e ▸ g
end
/-- a list of plain values that grows -/
def GrowV (H0 H' : Hp) (l : Addr) (vs : List V) : Prop := Same H0 (hid H' l) ∧ H' l = some (.lst vs)
section
variable {H0 H H' : Hp} {l : Addr} {vs ws : List V}
theorem GrowV.start (h : H l = none) : GrowV H (upd H l (.lst vs)) l vs := ⟨same_start h, upd_same⟩
theorem GrowV.keep (g : GrowV H0 H l vs) (s : Same H H') : GrowV H0 H' l vs := ⟨g.1.trans (hid_mono s), s _ _ g.2⟩
theorem GrowV.put (g : GrowV H0 H l vs) : GrowV H0 (upd H l (.lst ws)) l ws := ⟨hid_put g.1, upd_same⟩
theorem GrowV.same (g : GrowV H0 H l vs) : Same H0 H := g.1.trans hid_same
theorem GrowV.eq (g : GrowV H0 H l vs) (e : vs = ws) : GrowV H0 H l ws := e ▸ g
theorem GrowV.ne (g : GrowV H0 H l vs) {a : Addr} {o : HO} (h : H0 a = some o) : a ≠ l := hid_ne (g.1 _ _ h)
end
/-- a list that was not there in H0 -/
def LsN (H0 : Hp) (H : Hp) (a : Addr) (ns : List Nat) : Prop := Ls H a ns ∧ H0 a = none
theorem up_lsN {H0 : Hp} : Up (LsN H0) := fun _ _ _ _ s h => ⟨s _ _ h.1, h.2⟩
theorem LsOf.imp {α : Type} {R S : Rep α} {H H' : Hp} {a : Addr} {xs : List α} (h : LsOf R H a xs) (s : H' a = H a) (k : ∀ p x, x ∈ xs → R H p x → S H' p x) : LsOf S H' a xs := by
  obtain ⟨ps, e, h1, k1⟩ := h
  exact ⟨ps, e, s.trans h1, fun p hp => k _ _ (by rw [← e]; exact List.mem_map.mpr ⟨p, hp, rfl⟩) (k1 p hp)⟩
theorem LsOf.get {α : Type} {R : Rep α} {H : Hp} {a : Addr} {xs : List α} (hh : LsOf R H a xs) : ∃ vs : List V, H a = some (.lst vs) ∧ vs.length = xs.length ∧ (∀ (i : Nat) (x : α), xs[i]? = some x → ∃ p, vs[i]? = some (V.ref p) ∧ R H p x) ∧ (∀ (i : Nat) (v : V), vs[i]? = some v → ∃ p x, v = V.ref p ∧ xs[i]? = some x ∧ R H p x) := by
  obtain ⟨ps, e, h, k⟩ := hh
  subst e
  refine ⟨_, h, by rw [List.length_map, List.length_map], fun i x hx => ?_, fun i v hv => ?_⟩
  · obtain ⟨p, hp, rfl⟩ := map_get hx
    exact ⟨p.1, get_map hp, k p (get_mem hp)⟩
  · obtain ⟨p, hp, rfl⟩ := map_get hv
    exact ⟨p.1, p.2, rfl, get_map hp, k p (get_mem hp)⟩
theorem sqL {K : PySem.W.Frag} {H H' : Hp} {a : Addr} {xs : List V} (h : H a = some (.lst xs)) (s : Same H H') : SqL K H' a xs := SqL.of (s _ _ h)
/-- a list's type, told -/
theorem tyL {K : PySem.W.Frag} {H : Hp} {a : Addr} {xs : List V} (h : H a = some (.lst xs)) : tyV K "list" (.ref a) H := .inl ⟨rfl, _, SqL.of h⟩
theorem small_int {n : Nat} (h : n ≤ 100000) : -(2 ^ 62) ≤ (n : Int) ∧ (n : Int) < 2 ^ 62 := ⟨by omega, by omega⟩
end Rn
namespace Rn
open PySem PySem.Spec PyProof.Rows L2
open Sq64 (States Marking Arc)

section
variable {P : Program} {w : World} {K : PySem.W.Frag} {mg : Str → Option Value} {base : Heap} {C : Cs}

/-! ### Region(states, ways) -/
def spRegion (C : Cs) : Sp := fun vs H Q _ => ∃ (p dx s w : Addr), vs = [.ref p, .ref s, .ref w] ∧ H p = some (.ins C.reg dx []) ∧
  Q .non (upd (upd H p (.ins C.reg dx [("states", .ref s)])) p (.ins C.reg dx [("states", .ref s), ("ways", .ref w)]))
theorem ok_Region (T : Txt K mg C) (hx : mg "Region" = some (.ref C.reg)) (mk : PySem.W.makesIn K C.reg = true) (kc : PySem.W.keepIn K (.ref C.reg) = true) (h : AtM K C.reg "__init__" "Region.__init__" (inClass (top 5) 0) ["self", "states", "ways"]) :
    Di P w K mg base C.reg 1 "Region" ["self", "states", "ways"] (spRegion C) := by
  have sc : FnScope ["self", "states", "ways"] ["self", "states", "ways"] (defScope (inClass (top 5) 0)) := ⟨rfl, rfl, rfl, by decide +kernel, rfl, by decide +kernel, by decide +kernel⟩
  refine Di.mk hx mk kc h sc (fun vs H Q E h => ?_) (fun f cdv A outer s H vs Q E hr h => ⟨_, (pss_cons (ps_fld (pv 0) (pv 1) rfl)
      (pss_one (ps_fld (pv 0) (pv 2) rfl))), ?_⟩)
  · obtain ⟨p, dx, s, w, rfl, _⟩ := h; rfl
  · obtain ⟨p, dx, s, w, rfl, hp, k⟩ := h
    refine ⟨_, rfl, _, rfl, p, C.reg, dx, [], rfl, hp, T.reg, T.reg_states, (by show 0 < 1000; decide), ?_⟩
    refine ⟨_, rfl, _, rfl, p, C.reg, dx, _, rfl, upd_same, T.reg, T.reg_ways, (by show 1 < 1000; decide), ?_⟩
    exact k
/-! ### way_of_arc(arc, inside) -/
def spWayArc : Sp := fun vs H Q _ => ∃ (a b : Addr) (x : Nat × Nat) (bs : List Bool) (p q : Bool), vs = [.ref a, .ref b] ∧ Tup2 H a x ∧ LsB H b bs ∧ bs[x.1]? = some p ∧ bs[x.2]? = some q ∧ Q (.int (wArc p q)) H
theorem ok_way_of_arc (T : Txt K mg C) (h : At K mg "way_of_arc" (top 8) ["arc", "inside"]) : Dfn P w K mg base 1 "way_of_arc" ["arc", "inside"] spWayArc := by
  have sc : FnScope ["arc", "inside"] ["arc", "inside"] (defScope (top 8)) := ⟨rfl, rfl, rfl, by decide +kernel, rfl, by decide +kernel, by decide +kernel⟩
  refine Dfn.mk h sc (fun vs H Q E h => ?_) (fun f cdv A outer s H vs Q E hr h => ⟨_, (pss_cons (ps_if (pt_cmpR op_eq (pe_ix (ix_listK (K := K) rfl) (pv 1) (pe_ix (ix_tupK (K := K) rfl) (pv 0) pe_int (fun _ _ => rfl)) (fun _ _ => rfl)) (pe_ix (ix_listK (K := K) rfl) (pv 1) (pe_ix (ix_tupK (K := K) rfl) (pv 0) pe_int (fun _ _ => rfl)) (fun _ _ => rfl)) (nomark _)) (pss_one (ps_ret (pe_con T.cSTAYS rfl))) pss_nil)
      (pss_one (ps_ret (pe_ifExp (pt_val (pe_ix (ix_listK (K := K) rfl) (pv 1) (pe_ix (ix_tupK (K := K) rfl) (pv 0) pe_int (fun _ _ => rfl)) (fun _ _ => rfl))) (pe_con T.cENTERS rfl) (pe_con T.cLEAVES rfl))))), ?_⟩)
  · obtain ⟨a, b, x, bs, p, q, rfl, _⟩ := h; rfl
  · obtain ⟨a, b, x, bs, p, q, rfl, ha, hb, h1, h2, k⟩ := h
    have t0 : atI [nV x.1, nV x.2] 0 = some (nV x.1) := rfl
    have t1 : atI [nV x.1, nV x.2] 1 = some (nV x.2) := rfl
    have g1 : atI (bs.map V.bl) (x.1 : Int) = some (.bl p) := atI_nat (get_map h1)
    have g2 : atI (bs.map V.bl) (x.2 : Int) = some (.bl q) := atI_nat (get_map h2)
    refine ⟨_, rfl, _, rfl, a, _, _, _, rfl, rfl, SqT.of ha, t0, b, _, _, _, rfl, rfl, SqL.of hb, g1, _, rfl, _, rfl, a, _, _, _, rfl, rfl, SqT.of ha, t1, b, _, _, _, rfl, rfl, SqL.of hb, g2, rfl, _, rfl, ?_⟩
    refine ite2 (fun e => ?_) (fun e => ?_)
    · have e' : p = q := by simpa using e
      have e2 : wArc p q = 0 := by unfold wArc; rw [if_pos e']
      rw [e2] at k; exact k
    · have e' : ¬ p = q := by simpa using e
      refine ⟨_, rfl, _, rfl, a, _, _, _, rfl, rfl, SqT.of ha, t1, b, _, _, _, rfl, rfl, SqL.of hb, g2, _, rfl, ?_⟩
      have e2 : wArc p q = if q = true then 1 else 2 := by unfold wArc; rw [if_neg e']
      rw [e2] at k
      cases q with
      | true => exact iteT k
      | false => exact iteF k
end
end Rn
namespace Rn
open PySem PySem.Spec PyProof.Rows L2
open Sq64 (States Marking Arc)

section
variable {P : Program} {w : World} {K : PySem.W.Frag} {mg : Str → Option Value} {base : Heap} {C : Cs}

/-! ### way_of_event(arcs, inside) -/
def insideOf (n : Nat) (r : List Nat) : List Bool := (List.range n).map fun s => r.contains s
theorem inside_get {n s : Nat} (r : List Nat) (h : s < n) : (insideOf n r)[s]? = some (r.contains s) := get_map (by rw [List.getElem?_range h])
def spWayEvent : Sp := fun vs H Q _ => ∃ (a b : Addr) (xs : List (Nat × Nat)) (x0 : Nat × Nat) (n : Nat) (r : List Nat), vs = [.ref a, .ref b] ∧ LsOf Tup2 H a xs ∧ xs[0]? = some x0 ∧ (∀ x ∈ xs, x.1 < n ∧ x.2 < n) ∧ LsB H b (insideOf n r) ∧
  Q (.int (if (xs.all fun y => wAt r y == wAt r x0) = true then wAt r x0 else -1)) H
theorem ok_way_of_event (T : Txt K mg C) (D_way_of_arc : Dfn P w K mg base 1 "way_of_arc" ["arc", "inside"] spWayArc) (h : At K mg "way_of_event" (top 7) ["arcs", "inside"]) : Dfn P w K mg base 2 "way_of_event" ["arcs", "inside"] spWayEvent := by
  have sc : FnScope ["arcs", "inside", "way", "arc"] ["arcs", "inside"] (defScope (top 7)) := ⟨rfl, rfl, rfl, by decide +kernel, rfl, by decide +kernel, by decide +kernel⟩
  refine Dfn.mk h sc (fun vs H Q E h => ?_) (fun f cdv A outer s H vs Q E hr h => ⟨_, (pss_cons (ps_set (i := 2) sc.nd rfl (Or.inl rfl) (pe_fn D_way_of_arc (hr.mono (by decide)) rfl (pa_cons (pe_ix (ix_listK (K := K) rfl) (pv 0) pe_int (fun _ _ => rfl)) (pa_cons (pv 1) pa_nil))))
      (pss_cons (ps_for PassesOwn.never rfl (pi_list (pv 0)) (pg_name (i := 3) sc.nd rfl (Or.inl rfl)) (pss_one (ps_if (pt_cmpR op_ne (pe_fn D_way_of_arc (hr.mono (by decide)) rfl (pa_cons (pv 3) (pa_cons (pv 1) pa_nil))) (pv 2) (nomark _)) (pss_one (ps_ret (pe_con T.cNO_WAY rfl))) pss_nil)))
      (pss_one (ps_ret (pv 2))))), ?_⟩)
  · obtain ⟨a, b, xs, x0, n, r, rfl, _⟩ := h; rfl
  · obtain ⟨a, b, xs, x0, n, r, rfl, ha, h0, hx, hb, k⟩ := h
    obtain ⟨vs, hv, hl, g1, g2⟩ := ha.get
    obtain ⟨p0, hp0, r0⟩ := g1 0 x0 h0
    have z0 := hx x0 (get_mem h0)
    refine ⟨_, rfl, a, _, _, _, rfl, rfl, SqL.of hv, atI_nat hp0, _, rfl, p0, b, x0, _, _, _, rfl, r0, hb, inside_get r z0.1, inside_get r z0.2, ?_⟩
    refine ⟨_, rfl, a, rfl, ⟨_, SqL.of hv⟩, for_list (K := K) (a := a) (xs := vs) (fun i σ H' => ∃ v : Option V, σ = [some (.ref a), some (.ref b), some (.int (wAt r x0)), v] ∧ H' = H ∧ ((xs.take i).all fun y => wAt r y == wAt r x0) = true)
      ⟨none, rfl, rfl, rfl⟩ (fun i σ H' _ ⟨_, _, e, _⟩ => e ▸ SqL.of hv) ?_ ?_⟩
    · rintro i y σ H' hi ⟨v, rfl, rfl, hall⟩
      obtain ⟨p, x, rfl, hxi, rx⟩ := g2 i y hi
      have z := hx x (get_mem hxi)
      refine ⟨_, rfl, _, rfl, p, b, x, _, _, _, rfl, rx, hb, inside_get r z.1, inside_get r z.2, _, rfl, rfl, _, rfl, ?_⟩
      refine ite2 (fun e => ?_) (fun e => ?_)
      · have e' : ¬ wAt r x = wAt r x0 := by
          intro q
          have q' : V.int (wArc (r.contains x.1) (r.contains x.2)) = V.int (wAt r x0) := congrArg V.int q
          rw [q'] at e
          simp at e
        have e2 : ¬ (xs.all fun y => wAt r y == wAt r x0) = true := fun q => e' (by simpa using List.all_eq_true.mp q x (get_mem hxi))
        rw [if_neg e2] at k
        exact k
      · have e' : wAt r x = wAt r x0 := by
          have e3 : V.int (wArc (r.contains x.1) (r.contains x.2)) = V.int (wAt r x0) := by simpa using e
          exact V.int.inj e3
        refine ⟨_, rfl, rfl, ?_⟩
        rw [take_more hxi, List.all_append, hall, Bool.true_and]
        simp [e']
    · rintro σ H' ⟨v, rfl, rfl, hall⟩
      rw [hl, List.take_length] at hall
      rw [if_pos hall] at k
      exact ⟨_, rfl, k⟩
/-! ### ways_across(seen, states) -/
def spWays (C : Cs) : Sp := fun vs H Q _ => ∃ (a b : Addr) (g : Sn) (r : List Nat), vs = [.ref a, .ref b] ∧ SeenAt C H a g ∧ Okg g ∧ Ls H b r ∧ ∀ (H' : Hp) (p : Addr), Same H H' → H p = none → LsI H' p (waysOf g r) → Q (.ref p) H'
theorem ok_ways_across (T : Txt K mg C) (D_way_of_event : Dfn P w K mg base 2 "way_of_event" ["arcs", "inside"] spWayEvent) (h : At K mg "ways_across" (top 6) ["seen", "states"]) : Dfn P w K mg base 3 "ways_across" ["seen", "states"] (spWays C) := by
  have sc : FnScope ["seen", "states", "inside", "state", "arcs"] ["seen", "states"] (defScope (top 6)) := ⟨rfl, rfl, rfl, by decide +kernel, rfl, by decide +kernel, by decide +kernel⟩
  refine Dfn.mk h sc (fun vs H Q E h => ?_) (fun f cdv A outer s H vs Q E hr h => ⟨_, (pss_cons (ps_set (i := 2) sc.nd rfl (Or.inr rfl) (pe_lc (own := [("state", 3)]) (g := gName 3) rfl sc.nd (pi_range1 rfl T.range (pa_cons (pe_fldK (K := K) rfl (pv 0) rfl) pa_nil)) (blkOk_by (own := [("state", 3)]) (N := ["seen", "states", "inside", "state", "arcs"]) (sc := defScope (top 6)) (by decide +kernel)) (fun _ _ _ _ _ => pg_name (i := 3) sc.nd rfl (Or.inl rfl)) (fun _ _ _ _ _ => pts_nil) (fun _ _ _ _ _ => (pe_cmpR (in_seqK (K := K) rfl) (pv 3) (pv 1) rfl))))
      (pss_one (ps_ret (pe_lc (own := [("arcs", 4)]) (g := gName 4) rfl sc.nd (pi_list (pe_fldK (K := K) rfl (pv 0) rfl)) (blkOk_by (own := [("arcs", 4)]) (N := ["seen", "states", "inside", "state", "arcs"]) (sc := defScope (top 6)) (by decide +kernel)) (fun _ _ _ _ _ => pg_name (i := 4) sc.nd rfl (Or.inl rfl)) (fun _ _ _ _ _ => pts_nil) (fun _ _ _ _ _ => (pe_fn D_way_of_event (hr.mono (by decide)) rfl (pa_cons (pv 4) (pa_cons (pv 2) pa_nil)))))))), ?_⟩)
  · obtain ⟨a, b, g, r, rfl, _⟩ := h; rfl
  · obtain ⟨a, b, g, r, rfl, ha, hg, hb, k⟩ := h
    obtain ⟨dx, ae, h1, h2⟩ := ha
    refine ⟨_, rfl, a, C.seen, dx, _, _, rfl, h1, T.seen, T.seen_n, lk_here, (g.n : Int), rfl, (small_int (by have := hg.n9; omega)).1, (small_int (by have := hg.n9; omega)).2, fun D hD => lc_rng (n := g.n) (fun i H' => GrowV H H' D ((insideOf i r).map V.bl)) (GrowV.start hD) ?_ ?_⟩
    · rintro i H' hi G
      refine ⟨rfl, lcY ⟨_, rfl, _, rfl, b, _, rfl, .inl (SqL.of (G.same _ _ hb)), rfl, flat_ls r, _, G.2, ?_, ?_⟩⟩
      · rw [List.length_map, insideOf, List.length_map, List.length_range]
        exact small (m := 9) (by have := hg.n9; omega)
      · refine GrowV.eq G.put ?_
        unfold insideOf
        rw [List.range_succ, List.map_append, List.map_append]
        show _ ++ [V.bl (inV (nV i) (r.map nV))] = _
        rw [in_ls]; rfl
    · rintro H1 G1
      obtain ⟨vs, hv, hl, g1, g2⟩ := (up_of (up_of up_tup2) _ _ _ _ G1.same h2).get
      refine ⟨_, rfl, a, C.seen, dx, _, _, rfl, G1.same _ _ h1, T.seen, T.seen_arcs_by_event, (lk_past (by decide +kernel)).trans ((lk_past (by decide +kernel)).trans lk_here), ae, rfl, ⟨_, SqL.of hv⟩, fun D2 hD2 => lc_list (K := K) (a := ae) (xs := vs) (fun i H' => GrowV H1 H' D2 (((waysOf g r).take i).map V.int)) (GrowV.start hD2) (fun i H' _ G => SqL.of (G.same _ _ hv)) ?_ ?_⟩
      · rintro i y H' hi G
        obtain ⟨p, x, rfl, hxi, rx⟩ := g2 i y hi
        obtain ⟨e, he, rfl⟩ := map_get hxi
        have hek : i < g.k := by have := get_lt he; rw [List.length_range] at this; exact this
        rw [List.getElem?_range hek] at he
        cases he
        obtain ⟨x0, l0, e0⟩ := hg.first hek
        have hway := way_first g r i e0
        refine ⟨rfl, lcY ⟨_, rfl, _, rfl, p, D, arcsBy g i, x0, g.n, r, rfl, up_of up_tup2 _ _ _ _ G.same rx, by rw [e0]; rfl, fun x hx => hg.by hx, G.same _ _ G1.2, ?_⟩⟩
        rw [← hway]
        have hwi : (waysOf g r)[i]? = some (wayI g r i) := get_map (by rw [List.getElem?_range hek])
        refine ⟨_, G.2, ?_, GrowV.eq G.put ?_⟩
        · rw [List.length_map, List.length_take]
          exact small (m := 6) (by have := hg.k6; omega)
        · rw [take_more hwi, List.map_append]; rfl
      · rintro H2 G2
        have hl2 : vs.length = (waysOf g r).length := by rw [hl]; unfold waysOf; simp
        rw [hl2, List.take_length] at G2
        exact k H2 D2 (G1.same.trans G2.same) (G1.same.free hD2) G2.2
end
end Rn
namespace Rn
open PySem PySem.Spec PyProof.Rows L2
open Sq64 (States Marking Arc)

section
variable {P : Program} {w : World} {K : PySem.W.Frag} {mg : Str → Option Value} {base : Heap} {C : Cs}

/-! ### with_one_more(rows, n) -/
theorem low_last {row : List Nat} {x : Nat} (h : row.getLast? = some x) : atI (row.map nV) (-1) = some (nV x) ∧ lowOf row = x + 1 := by
  have hne : row ≠ [] := fun e => by rw [e] at h; cases h
  have hp := List.length_pos_iff.mpr hne
  refine ⟨?_, by unfold lowOf; rw [h]⟩
  have e : ixN (row.map nV).length (-1) = some (row.length - 1) := by
    unfold ixN
    rw [if_neg (by decide), List.length_map, if_pos (by omega)]
    congr 1
    omega
  unfold atI
  rw [e]
  show (row.map nV)[row.length - 1]? = _
  rw [List.getLast?_eq_getElem?] at h
  exact get_map h
def spOneMore : Sp := fun vs H Q _ => ∃ (a : Addr) (rows : List (List Nat)) (n : Nat), vs = [.ref a, nV n] ∧ LsOf Ls H a rows ∧ rows.length ≤ 200 ∧ n ≤ 9 ∧ (∀ r ∈ rows, r.length ≤ 9 ∧ ∀ x ∈ r, x < n) ∧
  ∀ (H' : Hp) (p : Addr), Same H H' → H p = none → LsOf (LsN H) H' p (withOne rows n) → Q (.ref p) H'
theorem withOne_snoc (l : List (List Nat)) (r : List Nat) (n : Nat) : withOne (l ++ [r]) n = withOne l n ++ (List.range (n - lowOf r)).map fun i => r ++ [lowOf r + i] := by
  unfold withOne; rw [List.flatMap_append]; simp
theorem withOne_few (l : List (List Nat)) (n : Nat) (h : n ≤ 9) : (withOne l n).length ≤ l.length * 9 := by
  unfold withOne
  exact length_flatMap_le _ 9 l fun r _ => by rw [List.length_map, List.length_range]; omega
theorem ok_with_one_more (T : Txt K mg C) (h : At K mg "with_one_more" (top 11) ["rows", "n"]) : Dfn P w K mg base 1 "with_one_more" ["rows", "n"] spOneMore := by
  have sc : FnScope ["rows", "n", "longer", "row", "lowest", "state"] ["rows", "n"] (defScope (top 11)) := ⟨rfl, rfl, rfl, by decide +kernel, rfl, by decide +kernel, by decide +kernel⟩
  refine Dfn.mk h sc (fun vs H Q E h => ?_) (fun f cdv A outer s H vs Q E hr h => ⟨_, (pss_cons (ps_set (i := 2) sc.nd rfl (Or.inl rfl) (pe_lst pa_nil))
      (pss_cons (ps_for PassesOwn.never rfl (pi_list (pv 0)) (pg_name (i := 3) sc.nd rfl (Or.inl rfl)) (pss_cons (ps_set (i := 4) sc.nd rfl (Or.inl rfl) (pe_ifExp (pt_cmpR op_gt (pe_callB call_len_seq (by rfl) T.len PySem.boot_len (pa_cons (pv 3) pa_nil)) pe_int (nomark _)) (pe_op op_add (pe_ix (ix_listK (K := K) rfl) (pv 3) (pe_un un_neg pe_int) (fun _ _ => rfl)) pe_int) pe_int))
      (pss_one (ps_for PassesOwn.never rfl (pi_range2 rfl T.range (pa_cons (pv 4) (pa_cons (pv 1) pa_nil))) (pg_name (i := 5) sc.nd rfl (Or.inl rfl)) (pss_one (ps_expr (pe_bm PySem.F.plainAttrs_list PySem.F.slot_list_append PySem.F.type_list_append mt_append (pv 2) (pa_cons (pe_op op_cat (pv 3) (pe_lst (pa_cons (pv 5) pa_nil))) pa_nil))))))))
      (pss_one (ps_ret (pv 2))))), ?_⟩)
  · obtain ⟨a, rows, n, rfl, _⟩ := h; rfl
  · obtain ⟨a, rows, n, rfl, ha, hfew, hn, hr9, k⟩ := h
    obtain ⟨vs, hv, hl, g1, g2⟩ := ha.get
    refine ⟨by show 0 ≤ sizeLine; decide, fun l hl0 => ?_⟩
    refine ⟨_, rfl, a, rfl, ⟨_, SqL.of ((same_new hl0) _ _ hv)⟩, for_list (K := K) (a := a) (xs := vs) (fun i σ H' => (∃ v1 v2 v3 : Option V, σ = [some (.ref a), some (nV n), some (.ref l), v1, v2, v3]) ∧ Grow (LsN H) H H' l (withOne (rows.take i) n))
      ⟨⟨none, none, none, rfl⟩, Grow.start hl0⟩ (fun i σ H' _ ⟨_, G⟩ => SqL.of (G.same _ _ hv)) ?_ ?_⟩
    · rintro i y σ H' hi ⟨⟨v1, v2, v3, rfl⟩, G⟩
      obtain ⟨p, row, rfl, hri, rx⟩ := g2 i y hi
      have hrow := hr9 row (get_mem hri)
      have hp' : H' p = some (.lst (row.map nV)) := G.same _ _ rx
      have hilt : (rows.take i).length ≤ 200 := Nat.le_trans (take_len hri) hfew
      -- what follows once lowest is known
      have go : ∀ low : Nat, low = lowOf row → low ≤ n → tFor (iRng2 (tCons (tVar 4) (tCons (tVar 1) tNil))) (gName 5) (tDrop (tBM K "list" rAppend (tVar 2) (tCons (tOp rCat (tVar 3) (tLst (tCons (tVar 5) tNil))) tNil)))
          { nx := fun σ H' => (∃ v1 v2 v3 : Option V, σ = [some (.ref a), some (nV n), some (.ref l), v1, v2, v3]) ∧ Grow (LsN H) H H' l (withOne (rows.take (i + 1)) n), rt := Q, ct := fun σ H' => (∃ v1 v2 v3 : Option V, σ = [some (.ref a), some (nV n), some (.ref l), v1, v2, v3]) ∧ Grow (LsN H) H H' l (withOne (rows.take (i + 1)) n), bk := fun σ H' => tRet (tVar 2) { nx := fun _ H' => Q .non H', rt := Q } σ H' }
          [some (.ref a), some (nV n), some (.ref l), some (.ref p), some (nV low), v3] H' := by
        intro low hlow hle
        refine ⟨_, rfl, _, rfl, (low : Int), (n : Int), rfl, ⟨(small_int (by omega)).1, (small_int (by omega)).2, (small_int (by omega)).1, (small_int (by omega)).2⟩, ?_⟩
        have en : ((n : Int) - (low : Int)).toNat = n - low := by omega
        rw [en]
        refine for_rng (lo := low) (n := n - low) (fun j σ H2 => (∃ v3 : Option V, σ = [some (.ref a), some (nV n), some (.ref l), some (.ref p), some (nV low), v3]) ∧ Grow (LsN H) H H2 l (withOne (rows.take i) n ++ (List.range j).map fun q => row ++ [low + q]))
          ⟨⟨v3, rfl⟩, ?_⟩ ?_ ?_
        · exact Grow.eq G (by simp)
        · rintro j σ H2 hj ⟨⟨v3, rfl⟩, G2⟩
          obtain ⟨acc, hacc, hlen⟩ := G2.at
          have hpl : p ≠ l := fun e => by
            have z := G.1 _ _ rx
            exact (hid_ne z) e
          have hp2 : H2 p = some (.lst (row.map nV)) := G2.same _ _ rx
          refine ⟨_, rfl, tyL hacc, _, rfl, _, rfl, by show 1 ≤ sizeLine; decide, fun p1 h1 => ?_⟩
          refine ⟨p, p1, _, _, rfl, rfl, (same_new h1) _ _ hp2, upd_same, ?_, fun p2 h2 => ?_⟩
          · rw [List.length_map]
            exact smallE (m := 10) (by have := hrow.1; simp; omega)
          · have s2 := (same_new (o := HO.lst [nV (low + j)]) h1).trans (same_new (o := HO.lst (row.map nV ++ [nV (low + j)])) h2)
            have hacc2 := s2 _ _ hacc
            have hp2l : p2 ≠ l := fun e => by rw [e] at h2; rw [(same_new h1) _ _ hacc] at h2; cases h2
            refine ⟨l, acc, _, rfl, rfl, hacc2, ?_, ⟨some (nV (low + j)), rfl⟩, ?_⟩
            · rw [hlen, List.length_append, List.length_map, List.length_range]
              have := withOne_few (rows.take i) n hn
              exact small (m := 2000) (by omega)
            · refine Grow.eq (Grow.push (x := row ++ [low + j]) (G2.keep up_lsN s2) hacc2 ?_) ?_
              · refine ⟨?_, G2.same.free ((same_new h1).free h2)⟩
                show hid _ l p2 = _
                rw [hid_at hp2l, upd_same, List.map_append]; rfl
              · rw [List.range_succ, List.map_append, List.append_assoc]; rfl
        · rintro σ H2 ⟨⟨v3, rfl⟩, G2⟩
          refine ⟨⟨_, _, _, rfl⟩, Grow.eq G2 ?_⟩
          rw [take_more hri, withOne_snoc, hlow]
      refine ⟨_, rfl, p, _, rfl, .inl (SqL.of hp'), _, _, rfl, rfl, _, rfl, ?_⟩
      cases hrl : row.getLast? with
      | none =>
        have e0 : row = [] := List.getLast?_eq_none_iff.mp hrl
        have c : decide ((0 : Int) < (row.map nV).length) = false := by rw [e0]; rfl
        rw [c]
        exact iteF (go 0 (by rw [e0]; rfl) (Nat.zero_le _))
      | some x =>
        have e1 := low_last hrl
        have hne : row ≠ [] := fun e => by rw [e] at hrl; cases hrl
        have c : decide ((0 : Int) < (row.map nV).length) = true := by
          have := List.length_pos_iff.mpr hne
          rw [List.length_map]; exact decide_eq_true (by omega)
        rw [c]
        refine iteT ⟨_, rfl, 1, rfl, p, _, _, _, rfl, rfl, SqL.of hp', e1.1, _, _, rfl, rfl, ?_⟩
        have hx : x < n := hrow.2 x (List.mem_of_getLast? hrl)
        exact go (x + 1) e1.2.symm (by omega)
    · rintro σ H' ⟨⟨v1, v2, v3, rfl⟩, G⟩
      rw [hl, List.take_length] at G
      exact ⟨_, rfl, k H' l G.same hl0 (G.done up_lsN)⟩
/-! ### choices_in_order(n) -/
def spChoices : Sp := fun vs H Q _ => ∃ n : Nat, vs = [nV n] ∧ 1 ≤ n ∧ n ≤ 9 ∧ ∀ (H' : Hp) (p : Addr), Same H H' → H p = none → LsOf (LsN H) H' p (choices n) → Q (.ref p) H'
theorem ok_choices_in_order (T : Txt K mg C) (D_with_one_more : Dfn P w K mg base 1 "with_one_more" ["rows", "n"] spOneMore) (h : At K mg "choices_in_order" (top 10) ["n"]) : Dfn P w K mg base 2 "choices_in_order" ["n"] spChoices := by
  have sc : FnScope ["n", "found", "largest"] ["n"] (defScope (top 10)) := ⟨rfl, rfl, rfl, by decide +kernel, rfl, by decide +kernel, by decide +kernel⟩
  refine Dfn.mk h sc (fun vs H Q E h => ?_) (fun f cdv A outer s H vs Q E hr h => ⟨_, (pss_cons (ps_set (i := 1) sc.nd rfl (Or.inl rfl) (pe_lst pa_nil))
      (pss_cons (ps_set (i := 2) sc.nd rfl (Or.inl rfl) (pe_lst (pa_cons (pe_lst pa_nil) pa_nil)))
      (pss_cons (ps_while PassesOwn.never (pt_cmpR op_lt (pe_callB call_len_seq (by rfl) T.len PySem.boot_len (pa_cons (pe_ix (ix_listK (K := K) rfl) (pv 2) pe_int (fun _ _ => rfl)) pa_nil)) (pe_op op_sub (pv 0) pe_int) (nomark _)) (pss_cons (ps_set (i := 2) sc.nd rfl (Or.inl rfl) (pe_fn D_with_one_more (hr.mono (by decide)) rfl (pa_cons (pv 2) (pa_cons (pv 0) pa_nil))))
      (pss_one (ps_expr (pe_bm PySem.F.plainAttrs_list PySem.F.slot_list_extend PySem.F.type_list_extend mt_extend (pv 1) (pa_cons (pv 2) pa_nil))))))
      (pss_one (ps_ret (pv 1)))))), ?_⟩)
  · obtain ⟨n, rfl, _⟩ := h; rfl
  · obtain ⟨n, rfl, h1, h9, k⟩ := h
    refine ⟨by show 0 ≤ sizeLine; decide, fun l hl0 => ?_⟩
    refine ⟨by show 0 ≤ sizeLine; decide, fun r0 hr0 => ⟨by show 1 ≤ sizeLine; decide, fun lg hlg => ?_⟩⟩
    have hr0l : r0 ≠ l := fun e => by rw [e, upd_same] at hr0; cases hr0
    have s1 := (same_new (o := HO.lst []) hr0).trans (same_new (o := HO.lst [V.ref r0]) hlg)
    have hlgl : lg ≠ l := fun e => by rw [e, (same_new hr0) _ _ upd_same] at hlg; cases hlg
    refine ⟨fun m σ H' => ∃ (j : Nat) (lg : Addr), m = n - 1 - j ∧ j < n ∧ σ = [some (nV n), some (.ref l), some (.ref lg)] ∧ Grow (LsN H) H H' l (upTo n j) ∧ LsOf Ls (hid H' l) lg (lev n j), ⟨n - 1, 0, lg, rfl, by omega, rfl, ?_, ?_⟩, ?_⟩
    · exact (Grow.start hl0).keep up_lsN s1
    · refine ⟨[(r0, [])], rfl, ?_, fun p hp => ?_⟩
      · rw [hid_at hlgl]; exact upd_same
      · rw [List.mem_singleton] at hp
        subst hp
        show hid _ l r0 = _
        rw [hid_at hr0l]
        exact (same_new hlg) _ _ upd_same
    · rintro m σ H' ⟨j, lg, rfl, hj, rfl, G, L⟩
      obtain ⟨row, rest, er, hrl⟩ := lev_head (by omega : n < 10) hj
      obtain ⟨vs, hv, hl, g1, g2⟩ := L.get
      obtain ⟨p0, hp0, rp0⟩ := g1 0 row (by rw [er]; rfl)
      refine ⟨_, rfl, lg, _, _, _, rfl, rfl, SqL.of (hid_same _ _ hv), atI_nat hp0, p0, _, rfl, .inl (SqL.of (hid_same _ _ rp0)), _, rfl, _, _, rfl, rfl, _, _, rfl, rfl, _, rfl, ?_⟩
      have ec : decide ((((row.map nV).length : Nat) : Int) < (n : Int) - 1) = decide (j < n - 1) := by
        rw [List.length_map, hrl]
        rw [Bool.eq_iff_iff, decide_eq_true_eq, decide_eq_true_eq]; omega
      rw [ec]
      refine ite2 (fun c => ?_) (fun c => ?_)
      · refine ⟨_, fun σ' H' p' => p', ?_⟩
        have hj1 : j + 1 < n := by have := of_decide_eq_true c; omega
        have hfew := lev_few (by omega : n < 10) hj
        have hrows := lev_rows (by omega : n < 10) hj
        refine ⟨_, rfl, _, rfl, lg, lev n j, n, rfl, up_of up_ls _ _ _ _ hid_same L, hfew, h9, fun r hr => ⟨by have := (hrows r hr).1; omega, (hrows r hr).2⟩, fun H2 p2 S2 n2 L2 => ?_⟩
        obtain ⟨acc, hacc, hlen⟩ := (G.keep up_lsN S2).at
        have hp2l : p2 ≠ l := fun e => by rw [e] at n2; obtain ⟨acc, z, _⟩ := G.at; rw [z] at n2; cases n2
        obtain ⟨qs, eq, hq, kq⟩ := L2
        refine ⟨_, rfl, tyL hacc, _, rfl, l, p2, acc, _, rfl, rfl, hacc, hq, ?_, ?_⟩
        · have z1 := upTo_few (n := n) (by omega) (j := j) hj
          have z2 := lev_few (n := n) (by omega) (j := j + 1) hj1
          have z3 : qs.length = (lev n (j + 1)).length := by
            have := congrArg List.length eq
            rw [List.length_map] at this
            exact this
          rw [hlen, List.length_map, z3]
          exact smallE (m := 2000) (by omega)
        · refine ⟨n - 1 - (j + 1), by omega, j + 1, p2, rfl, hj1, rfl, ?_, ?_⟩
          · obtain ⟨s0, ps, e, hps, kps⟩ := G.keep up_lsN S2
            rw [hacc] at hps
            cases hps
            refine ⟨hid_put s0, ps ++ qs, by rw [List.map_append, e, eq]; rfl, by rw [upd_same, List.map_append], fun q hq2 => ?_⟩
            rw [hid_upd]
            rcases List.mem_append.mp hq2 with z | z
            · exact kps q z
            · have z2 := kq q z
              have ne : q.1 ≠ l := fun e => by have z3 := z2.2; rw [e] at z3; obtain ⟨acc, z4, _⟩ := G.at; rw [z4] at z3; cases z3
              refine ⟨?_, G.same.free z2.2⟩
              show hid H2 l q.1 = _
              rw [hid_at ne]; exact z2.1
          · refine ⟨qs, eq, ?_, fun q z => ?_⟩
            · rw [hid_upd, hid_at hp2l]; exact hq
            · have z2 := kq q z
              have ne : q.1 ≠ l := fun e => by have z3 := z2.2; rw [e] at z3; obtain ⟨acc, z4, _⟩ := G.at; rw [z4] at z3; cases z3
              show hid _ l q.1 = _
              rw [hid_upd, hid_at ne]; exact z2.1
      · have e : j = n - 1 := by
          have : ¬ j < n - 1 := fun z => c (decide_eq_true z)
          omega
        subst e
        exact ⟨_, rfl, k H' l G.same hl0 (G.done up_lsN)⟩
/-! ### regions_in_order(seen) -/
def spRegions (C : Cs) : Sp := fun vs H Q _ => ∃ (a : Addr) (g : Sn), vs = [.ref a] ∧ SeenAt C H a g ∧ Okg g ∧ ∀ (H' : Hp) (p : Addr), Same H H' → H p = none → LsOf (RegAt C g) H' p g.regions → Q (.ref p) H'
theorem ok_regions_in_order (T : Txt K mg C) (D_choices_in_order : Dfn P w K mg base 2 "choices_in_order" ["n"] spChoices) (D_ways_across : Dfn P w K mg base 3 "ways_across" ["seen", "states"] (spWays C)) (D_Region : Di P w K mg base C.reg 1 "Region" ["self", "states", "ways"] (spRegion C)) (h : At K mg "regions_in_order" (top 9) ["seen"]) : Dfn P w K mg base 4 "regions_in_order" ["seen"] (spRegions C) := by
  have sc : FnScope ["seen", "found", "states", "ways"] ["seen"] (defScope (top 9)) := ⟨rfl, rfl, rfl, by decide +kernel, rfl, by decide +kernel, by decide +kernel⟩
  refine Dfn.mk h sc (fun vs H Q E h => ?_) (fun f cdv A outer s H vs Q E hr h => ⟨_, (pss_cons (ps_set (i := 1) sc.nd rfl (Or.inl rfl) (pe_lst pa_nil))
      (pss_cons (ps_for PassesOwn.never rfl (pi_list (pe_fn D_choices_in_order (hr.mono (by decide)) rfl (pa_cons (pe_fldK (K := K) rfl (pv 0) rfl) pa_nil))) (pg_name (i := 2) sc.nd rfl (Or.inl rfl)) (pss_cons (ps_set (i := 3) sc.nd rfl (Or.inl rfl) (pe_fn D_ways_across (hr.mono (by decide)) rfl (pa_cons (pv 0) (pa_cons (pv 2) pa_nil))))
      (pss_one (ps_if (pt_cmpR (notIn_seqK (K := K) rfl) (pe_con T.cNO_WAY rfl) (pv 3) rfl) (pss_one (ps_expr (pe_bm PySem.F.plainAttrs_list PySem.F.slot_list_append PySem.F.type_list_append mt_append (pv 1) (pa_cons (pe_mk D_Region (hr.mono (by decide)) rfl (pa_cons (pv 2) (pa_cons (pv 3) pa_nil))) pa_nil)))) pss_nil))))
      (pss_one (ps_ret (pv 1))))), ?_⟩)
  · obtain ⟨a, g, rfl, _⟩ := h; rfl
  · obtain ⟨a, g, rfl, ha, hg, k⟩ := h
    obtain ⟨dx, ae, h1, h2⟩ := ha
    refine ⟨by show 0 ≤ sizeLine; decide, fun l hl0 => ?_⟩
    have s0 := same_new (o := HO.lst []) hl0
    refine ⟨_, rfl, a, C.seen, dx, _, _, rfl, s0 _ _ h1, T.seen, T.seen_n, lk_here, g.n, rfl, hg.n1, hg.n9, fun H1 p1 S1 n1 L1 => ⟨p1, rfl, ?_⟩⟩
    obtain ⟨vs, hv, hl, g1, g2⟩ := L1.get
    have hll : H1 l = some (.lst []) := S1 _ _ upd_same
    refine ⟨⟨_, SqL.of hv⟩, for_list (K := K) (a := p1) (xs := vs) (fun i σ H' => (∃ v1 v2 : Option V, σ = [some (.ref a), some (.ref l), v1, v2]) ∧ Same (hid H1 l) (hid H' l) ∧ Grow (RegAt C g) H H' l (((choices g.n).take i).filter g.region))
      ⟨⟨none, none, rfl⟩, Same.refl _, (Grow.start hl0).keep up_reg S1⟩ (fun i σ H' _ ⟨_, S, G⟩ => SqL.of (hid_same _ _ (S _ _ (by rw [hid_at (fun e => by rw [e, upd_same] at n1; cases n1)]; exact hv)))) ?_ ?_⟩
    · rintro i y σ H' hi ⟨⟨v1, v2, rfl⟩, S, G⟩
      obtain ⟨p, r, rfl, hri, rx⟩ := g2 i y hi
      have hpl : p ≠ l := fun e => by have z := rx.2; rw [e, upd_same] at z; cases z
      have hpr : Ls (hid H' l) p r := S _ _ (by rw [hid_at hpl]; exact rx.1)
      refine ⟨_, rfl, _, rfl, a, p, g, r, rfl, up_seen _ _ _ _ G.same ⟨dx, ae, h1, h2⟩, hg, hid_same _ _ hpr, fun H2 pw S2 n2 L2 => ?_⟩
      have hpwl : pw ≠ l := fun e => by rw [e] at n2; obtain ⟨acc, z4, _⟩ := G.at; rw [z4] at n2; cases n2
      have G2 := G.keep up_reg S2
      have hS2 : Same (hid H1 l) (hid H2 l) := S.trans (hid_mono S2)
      refine ⟨_, rfl, pw, _, rfl, .inl (SqL.of L2), rfl, flat_lsI _, _, rfl, ?_⟩
      have ec : (if true then !inV (V.int (-1)) ((waysOf g r).map V.int) else inV (V.int (-1)) ((waysOf g r).map V.int)) = g.region r := by
        rw [if_pos rfl, in_lsI, region_ways]
      rw [ec]
      refine ite2 (fun c => ?_) (fun c => ?_)
      · obtain ⟨acc, hacc, hlen⟩ := G2.at
        refine ⟨_, rfl, tyL hacc, _, rfl, _, rfl, ?_⟩
        intro x dx2 nx ndx ne
        refine ⟨x, dx2, p, pw, rfl, upd_same, ?_⟩
        have s3 : Same H2 (upd (upd (upd (upd H2 dx2 (.own x)) x (.ins C.reg dx2 [])) x (.ins C.reg dx2 [("states", .ref p)])) x (.ins C.reg dx2 [("states", .ref p), ("ways", .ref pw)])) := by
          rw [upd_upd, upd_upd]
          have nx' : upd H2 dx2 (.own x) x = none := by rw [upd_ne (fun e => ne e.symm)]; exact nx
          exact (same_new ndx).trans (same_new nx')
        have hxl : x ≠ l := fun e => by rw [e, hacc] at nx; cases nx
        refine ⟨rfl, l, acc, _, rfl, rfl, s3 _ _ hacc, ?_, ⟨_, _, rfl⟩, ?_, ?_⟩
        · rw [hlen]
          have z1 : (choices g.n).length ≤ 1600 := by
            have := upTo_few (n := g.n) (by have := hg.n9; omega) (j := g.n - 1) (by have := hg.n1; omega)
            show (upTo g.n (g.n - 1)).length ≤ _
            have := hg.n9
            omega
          refine small (m := 1600) (Nat.le_trans (List.length_filter_le ..) ?_)
          rw [List.length_take]; omega
        · rw [hid_upd]; exact hS2.trans (hid_mono s3)
        · refine Grow.eq (Grow.push (x := r) (G2.keep up_reg s3) (s3 _ _ hacc) ?_) ?_
          · refine ⟨dx2, p, pw, ?_, ?_, ?_⟩
            · rw [hid_at hxl]; exact upd_same
            · exact (hid_mono (S2.trans s3)) _ _ hpr
            · exact (hid_mono s3) _ _ (by rw [hid_at hpwl]; exact L2)
          · rw [take_more hri, List.filter_append, List.filter_cons_of_pos c]; rfl
      · refine ⟨⟨_, _, rfl⟩, hS2, Grow.eq G2 ?_⟩
        rw [take_more hri, List.filter_append, List.filter_cons_of_neg c]; simp
    · rintro σ H' ⟨⟨v1, v2, rfl⟩, S, G⟩
      rw [hl, List.take_length, ← regions_eq g hg.n1 hg.n9] at G
      exact ⟨_, rfl, k H' l G.same hl0 (G.done up_reg)⟩
end
end Rn
namespace Rn
open PySem PySem.Spec PyProof.Rows L2
open Sq64 (States Marking Arc)

section
variable {P : Program} {w : World} {K : PySem.W.Frag} {mg : Str → Option Value} {base : Heap} {C : Cs}

theorem dec_nV (x y : Nat) : decide (nV x = nV y) = (x == y) := by
  rw [Bool.eq_iff_iff, decide_eq_true_eq, beq_iff_eq]
  constructor
  · intro h; exact Int.ofNat.inj (V.int.inj h)
  · intro h; rw [h]
/-! ### Seen.has_arc(state, event) -/
def spHasArc (C : Cs) : Sp := fun vs H Q _ => ∃ (a : Addr) (s e : Nat) (g : Sn), vs = [.ref a, nV s, nV e] ∧ SeenAt C H a g ∧ Okg g ∧ e < g.k ∧ ∀ (H' : Hp), Same H H' → Q (.bl ((arcsBy g e).any fun x => x.1 == s)) H'
theorem ok_has_arc (T : Txt K mg C) (h : AtM K C.seen "has_arc" "Seen.has_arc" (inClass (top 38) 1) ["self", "state", "event"]) : Dm P w K mg base C.seen 1 "has_arc" ["self", "state", "event"] (spHasArc C) := by
  have sc : FnScope ["self", "state", "event", "arc"] ["self", "state", "event"] (defScope (inClass (top 38) 1)) := ⟨rfl, rfl, rfl, by decide +kernel, rfl, by decide +kernel, by decide +kernel⟩
  refine Dm.mk T.seen h sc (fun vs H Q E h => ?_) (fun f cdv A outer s H vs Q E hr h => ⟨_, (pss_one (ps_ret (pe_callB (cr_any rfl) (by rfl) T.any (by decide +kernel) (pa_cons (pe_lc (own := [("arc", 3)]) (g := gName 3) rfl sc.nd (pi_list (pe_ix (ix_listK (K := K) rfl) (pe_fldK (K := K) rfl (pv 0) rfl) (pv 2) (fun _ _ => rfl))) (blkOk_by (own := [("arc", 3)]) (N := ["self", "state", "event", "arc"]) (sc := defScope (inClass (top 38) 1)) (by decide +kernel)) (fun _ _ _ _ _ => pg_name (i := 3) sc.nd rfl (Or.inl rfl)) (fun _ _ _ _ _ => pts_nil) (fun _ _ _ _ _ => (pe_cmpR op_eq (pe_ix (ix_tupK (K := K) rfl) (pv 3) pe_int (fun _ _ => rfl)) (pv 1) (nomark _)))) pa_nil)))), ?_⟩)
  · obtain ⟨a, s, e, g, rfl, _⟩ := h; rfl
  · obtain ⟨a, s, e, g, rfl, ha, hg, he, k⟩ := h
    obtain ⟨dx, ae, h1, h2⟩ := ha
    obtain ⟨vs, hv, hl, g1, g2⟩ := h2.get
    obtain ⟨p, hp, rp⟩ := g1 e (arcsBy g e) (get_map (by rw [List.getElem?_range he]))
    obtain ⟨us, hu, hul, u1, u2⟩ := rp.get
    refine ⟨_, rfl, a, C.seen, dx, _, _, rfl, h1, T.seen, T.seen_arcs_by_event, (lk_past (by decide +kernel)).trans ((lk_past (by decide +kernel)).trans lk_here), _, rfl, ae, _, _, _, rfl, rfl, SqL.of hv, atI_nat hp, p, rfl, ⟨_, SqL.of hu⟩, fun D hD => lc_list (K := K) (a := p) (xs := us) (fun i H' => GrowV H H' D ((((arcsBy g e).take i).map fun x => x.1 == s).map V.bl)) (GrowV.start hD) (fun i H' _ G => SqL.of (G.same _ _ hu)) ?_ ?_⟩
    · rintro i y H' hi G
      obtain ⟨q, x, rfl, hxi, rx⟩ := u2 i y hi
      refine ⟨rfl, lcY ⟨_, rfl, q, _, _, _, rfl, rfl, SqT.of (G.same _ _ rx), rfl, _, rfl, rfl, _, G.2, ?_, GrowV.eq G.put ?_⟩⟩
      · rw [List.length_map, List.length_map]
        exact small (m := 400) (Nat.le_trans (take_len hxi) (hg.byFew e))
      · rw [take_more hxi, List.map_append, List.map_append]
        show _ ++ [V.bl (decide (nV x.1 = nV s))] = _
        rw [dec_nV]; rfl
    · rintro H2 G2
      rw [hul, List.take_length] at G2
      refine ⟨D, _, rfl, SqL.of G2.2, ?_⟩
      have e1 : ((arcsBy g e).map fun x => x.1 == s).any id = (arcsBy g e).any fun x => x.1 == s := by rw [List.any_map]; rfl
      rw [e1]
      exact k H2 G2.same
/-! ### questions -/
def spQs (C : Cs) (f : Sn → List Qn) : Sp := fun vs H Q _ => ∃ (a : Addr) (g : Sn), vs = [.ref a] ∧ SeenAt C H a g ∧ Okg g ∧ ∀ (H' : Hp) (p : Addr), Same H H' → H p = none → LsOf QAt H' p (f g) → Q (.ref p) H'
theorem ok_questions_of_two_states (T : Txt K mg C) (h : At K mg "questions_of_two_states" (top 20) ["seen"]) : Dfn P w K mg base 1 "questions_of_two_states" ["seen"] (spQs C fun g => twoStates g.n) := by
  have sc : FnScope ["seen", "asked", "lesser", "greater"] ["seen"] (defScope (top 20)) := ⟨rfl, rfl, rfl, by decide +kernel, rfl, by decide +kernel, by decide +kernel⟩
  refine Dfn.mk h sc (fun vs H Q E h => ?_) (fun f cdv A outer s H vs Q E hr h => ⟨_, (pss_cons (ps_set (i := 1) sc.nd rfl (Or.inl rfl) (pe_lst pa_nil))
      (pss_cons (ps_for PassesOwn.never rfl (pi_range1 rfl T.range (pa_cons (pe_fldK (K := K) rfl (pv 0) rfl) pa_nil)) (pg_name (i := 2) sc.nd rfl (Or.inl rfl)) (pss_one (ps_for PassesOwn.never rfl (pi_range2 rfl T.range (pa_cons (pe_op op_add (pv 2) pe_int) (pa_cons (pe_fldK (K := K) rfl (pv 0) rfl) pa_nil))) (pg_name (i := 3) sc.nd rfl (Or.inl rfl)) (pss_one (ps_expr (pe_bm PySem.F.plainAttrs_list PySem.F.slot_list_append PySem.F.type_list_append mt_append (pv 1) (pa_cons (pe_tup (pa_cons (pe_con T.cTWO_STATES rfl) (pa_cons (pv 2) (pa_cons (pv 3) pa_nil)))) pa_nil)))))))
      (pss_one (ps_ret (pv 1))))), ?_⟩)
  · obtain ⟨a, g, rfl, _⟩ := h; rfl
  · obtain ⟨a, g, rfl, ha, hg, k⟩ := h
    obtain ⟨dx, ae, h1, h2⟩ := ha
    have hn9 := hg.n9
    refine ⟨by show 0 ≤ sizeLine; decide, fun l hl0 => ?_⟩
    refine ⟨_, rfl, a, C.seen, dx, _, _, rfl, (same_new hl0) _ _ h1, T.seen, T.seen_n, lk_here, (g.n : Int), rfl, (small_int (by omega)).1, (small_int (by omega)).2, ?_⟩
    refine for_rng (lo := 0) (n := g.n) (fun i σ H' => (∃ v1 v2 : Option V, σ = [some (.ref a), some (.ref l), v1, v2]) ∧ Grow QAt H H' l ((List.range i).flatMap fun s => (List.range (g.n - (s + 1))).map fun j => Sq64.Question.states s (s + 1 + j))) ⟨⟨none, none, rfl⟩, Grow.start hl0⟩ ?_ ?_
    · rintro i σ H' hi ⟨⟨v1, v2, rfl⟩, G⟩
      rw [Nat.zero_add]
      refine ⟨_, rfl, _, _, rfl, rfl, _, rfl, a, C.seen, dx, _, _, rfl, G.same _ _ h1, T.seen, T.seen_n, lk_here, ((i + 1 : Nat) : Int), (g.n : Int), rfl, ⟨(small_int (by omega)).1, (small_int (by omega)).2, (small_int (by omega)).1, (small_int (by omega)).2⟩, ?_⟩
      have en : ((g.n : Int) - ((i + 1 : Nat) : Int)).toNat = g.n - (i + 1) := by omega
      rw [en]
      refine for_rng (lo := i + 1) (n := g.n - (i + 1)) (fun j σ H2 => (∃ v2 : Option V, σ = [some (.ref a), some (.ref l), some (nV i), v2]) ∧ Grow QAt H H2 l (((List.range i).flatMap fun s => (List.range (g.n - (s + 1))).map fun j => Sq64.Question.states s (s + 1 + j)) ++ (List.range j).map fun q => Sq64.Question.states i (i + 1 + q))) ⟨⟨v2, rfl⟩, Grow.eq G (by simp)⟩ ?_ ?_
      · rintro j σ H2 hj ⟨⟨v2, rfl⟩, G2⟩
        obtain ⟨acc, hacc, hlen⟩ := G2.at
        refine ⟨_, rfl, tyL hacc, _, rfl, _, rfl, by show 3 ≤ sizeLine; decide, fun p1 n1 => ?_⟩
        have s1 := same_new (o := HO.tup [.int 0, nV i, nV (i + 1 + j)]) n1
        refine ⟨l, acc, _, rfl, rfl, s1 _ _ hacc, ?_, ⟨some (nV (i + 1 + j)), rfl⟩, Grow.eq (Grow.push (x := Sq64.Question.states i (i + 1 + j)) (G2.keep up_q s1) (s1 _ _ hacc) ?_) ?_⟩
        · rw [hlen, List.length_append, List.length_map, List.length_range]
          have := length_flatMap_le (fun s => (List.range (g.n - (s + 1))).map fun j => Sq64.Question.states s (s + 1 + j)) 9 (List.range i) (fun s _ => by simp; omega)
          rw [List.length_range] at this
          exact small (m := 200) (by omega)
        · show hid _ l p1 = _
          rw [hid_at (fun e => by rw [e, hacc] at n1; cases n1)]
          exact upd_same
        · rw [List.range_succ, List.map_append, List.append_assoc]; rfl
      · rintro σ H2 ⟨⟨v2, rfl⟩, G2⟩
        refine ⟨⟨_, _, rfl⟩, Grow.eq G2 ?_⟩
        rw [List.range_succ, List.flatMap_append]; simp
    · rintro σ H' ⟨⟨v1, v2, rfl⟩, G⟩
      exact ⟨_, rfl, k H' l G.same hl0 (G.done up_q)⟩
theorem ok_questions_of_state_and_event (T : Txt K mg C) (D_has_arc : Dm P w K mg base C.seen 1 "has_arc" ["self", "state", "event"] (spHasArc C)) (h : At K mg "questions_of_state_and_event" (top 21) ["seen"]) : Dfn P w K mg base 2 "questions_of_state_and_event" ["seen"] (spQs C stateEvents) := by
  have sc : FnScope ["seen", "asked", "state", "event"] ["seen"] (defScope (top 21)) := ⟨rfl, rfl, rfl, by decide +kernel, rfl, by decide +kernel, by decide +kernel⟩
  refine Dfn.mk h sc (fun vs H Q E h => ?_) (fun f cdv A outer s H vs Q E hr h => ⟨_, (pss_cons (ps_set (i := 1) sc.nd rfl (Or.inl rfl) (pe_lst pa_nil))
      (pss_cons (ps_for PassesOwn.never rfl (pi_range1 rfl T.range (pa_cons (pe_fldK (K := K) rfl (pv 0) rfl) pa_nil)) (pg_name (i := 2) sc.nd rfl (Or.inl rfl)) (pss_one (ps_for PassesOwn.never rfl (pi_range1 rfl T.range (pa_cons (pe_fldK (K := K) rfl (pv 0) rfl) pa_nil)) (pg_name (i := 3) sc.nd rfl (Or.inl rfl)) (pss_one (ps_if (pt_not (pt_val (pe_mt (pv 0) D_has_arc (hr.mono (by decide)) (pa_cons (pv 2) (pa_cons (pv 3) pa_nil))))) (pss_one (ps_expr (pe_bm PySem.F.plainAttrs_list PySem.F.slot_list_append PySem.F.type_list_append mt_append (pv 1) (pa_cons (pe_tup (pa_cons (pe_con T.cSTATE_AND_EVENT rfl) (pa_cons (pv 2) (pa_cons (pv 3) pa_nil)))) pa_nil)))) pss_nil)))))
      (pss_one (ps_ret (pv 1))))), ?_⟩)
  · obtain ⟨a, g, rfl, _⟩ := h; rfl
  · obtain ⟨a, g, rfl, ha, hg, k⟩ := h
    obtain ⟨dx, ae, h1, h2⟩ := id ha
    have hn9 := hg.n9
    have hk6 := hg.k6
    refine ⟨by show 0 ≤ sizeLine; decide, fun l hl0 => ?_⟩
    refine ⟨_, rfl, a, C.seen, dx, _, _, rfl, (same_new hl0) _ _ h1, T.seen, T.seen_n, lk_here, (g.n : Int), rfl, (small_int (by omega)).1, (small_int (by omega)).2, ?_⟩
    refine for_rng (lo := 0) (n := g.n) (fun i σ H' => (∃ v1 v2 : Option V, σ = [some (.ref a), some (.ref l), v1, v2]) ∧ Grow QAt H H' l ((List.range i).flatMap fun s => ((List.range g.k).filter fun e => !((arcsBy g e).any fun a => a.1 == s)).map fun e => Sq64.Question.event s e)) ⟨⟨none, none, rfl⟩, Grow.start hl0⟩ ?_ ?_
    · rintro i σ H' hi ⟨⟨v1, v2, rfl⟩, G⟩
      rw [Nat.zero_add]
      refine ⟨_, rfl, a, C.seen, dx, _, _, rfl, G.same _ _ h1, T.seen, T.seen_k, (lk_past (by decide +kernel)).trans lk_here, (g.k : Int), rfl, (small_int (by omega)).1, (small_int (by omega)).2, ?_⟩
      refine for_rng (lo := 0) (n := g.k) (fun j σ H2 => (∃ v2 : Option V, σ = [some (.ref a), some (.ref l), some (nV i), v2]) ∧ Grow QAt H H2 l (((List.range i).flatMap fun s => ((List.range g.k).filter fun e => !((arcsBy g e).any fun a => a.1 == s)).map fun e => Sq64.Question.event s e) ++ ((List.range j).filter fun e => !((arcsBy g e).any fun a => a.1 == i)).map fun e => Sq64.Question.event i e)) ⟨⟨v2, rfl⟩, Grow.eq G (by simp)⟩ ?_ ?_
      · rintro j σ H2 hj ⟨⟨v2, rfl⟩, G2⟩
        rw [Nat.zero_add]
        refine ⟨_, rfl, a, dx, _, rfl, G2.same _ _ h1, (lk_past (by decide +kernel)).trans ((lk_past (by decide +kernel)).trans ((lk_past (by decide +kernel)).trans rfl)), _, rfl, _, rfl, a, i, j, g, rfl, up_seen _ _ _ _ G2.same ha, hg, hj, fun H3 S3 => ?_⟩
        have G3 := G2.keep up_q S3
        refine ⟨_, rfl, ite2 (fun c => ?_) (fun c => ?_)⟩
        · obtain ⟨acc, hacc, hlen⟩ := G3.at
          refine ⟨_, rfl, tyL hacc, _, rfl, _, rfl, by show 3 ≤ sizeLine; decide, fun p1 n1 => ?_⟩
          have s1 := same_new (o := HO.tup [.int 1, nV i, nV j]) n1
          refine ⟨l, acc, _, rfl, rfl, s1 _ _ hacc, ?_, ⟨some (nV j), rfl⟩, Grow.eq (Grow.push (x := Sq64.Question.event i j) (G3.keep up_q s1) (s1 _ _ hacc) ?_) ?_⟩
          · rw [hlen, List.length_append, List.length_map]
            have := length_flatMap_le (fun s => ((List.range g.k).filter fun e => !((arcsBy g e).any fun a => a.1 == s)).map fun e => Sq64.Question.event s e) 6 (List.range i) (fun s _ => by rw [List.length_map]; exact Nat.le_trans (List.length_filter_le ..) (by rw [List.length_range]; exact hk6))
            rw [List.length_range] at this
            have h5 := List.length_filter_le (fun e => !((arcsBy g e).any fun a => a.1 == i)) (List.range j)
            rw [List.length_range] at h5
            exact small (m := 200) (by omega)
          · show hid _ l p1 = _
            rw [hid_at (fun e => by rw [e, hacc] at n1; cases n1)]
            exact upd_same
          · rw [List.range_succ, List.filter_append, List.filter_cons_of_pos (p := fun e => !((arcsBy g e).any fun a => a.1 == i)) c, List.map_append, List.append_assoc]; rfl
        · refine ⟨⟨some (nV j), rfl⟩, Grow.eq G3 ?_⟩
          rw [List.range_succ, List.filter_append, List.filter_cons_of_neg (p := fun e => !((arcsBy g e).any fun a => a.1 == i)) c]; simp
      · rintro σ H2 ⟨⟨v2, rfl⟩, G2⟩
        refine ⟨⟨_, _, rfl⟩, Grow.eq G2 ?_⟩
        rw [List.range_succ, List.flatMap_append]; simp
    · rintro σ H' ⟨⟨v1, v2, rfl⟩, G⟩
      exact ⟨_, rfl, k H' l G.same hl0 (G.done up_q)⟩
theorem ok_questions_in_order (T : Txt K mg C) (D_questions_of_two_states : Dfn P w K mg base 1 "questions_of_two_states" ["seen"] (spQs C fun g => twoStates g.n)) (D_questions_of_state_and_event : Dfn P w K mg base 2 "questions_of_state_and_event" ["seen"] (spQs C stateEvents)) (h : At K mg "questions_in_order" (top 19) ["seen"]) :
    Dfn P w K mg base 3 "questions_in_order" ["seen"] (spQs C fun g => g.questions) := by
  have sc : FnScope ["seen"] ["seen"] (defScope (top 19)) := ⟨rfl, rfl, rfl, by decide +kernel, rfl, by decide +kernel, by decide +kernel⟩
  refine Dfn.mk h sc (fun vs H Q E h => ?_) (fun f cdv A outer s H vs Q E hr h => ⟨_, (pss_one (ps_ret (pe_op op_cat (pe_fn D_questions_of_two_states (hr.mono (by decide)) rfl (pa_cons (pv 0) pa_nil)) (pe_fn D_questions_of_state_and_event (hr.mono (by decide)) rfl (pa_cons (pv 0) pa_nil))))), ?_⟩)
  · obtain ⟨a, g, rfl, _⟩ := h; rfl
  · obtain ⟨a, g, rfl, ha, hg, k⟩ := h
    refine ⟨_, rfl, a, g, rfl, ha, hg, fun H1 p1 S1 n1 L1 => ⟨_, rfl, a, g, rfl, up_seen _ _ _ _ S1 ha, hg, fun H2 p2 S2 n2 L2 => ?_⟩⟩
    obtain ⟨ps, e1, h1, k1⟩ := up_of up_q _ _ _ _ S2 L1
    obtain ⟨qs, e2, h2, k2⟩ := L2
    dsimp only at e1 k
    refine ⟨p1, p2, _, _, rfl, rfl, h1, h2, ?_, fun p hp => ?_⟩
    · have z1 : ps.length = (twoStates g.n).length := by rw [← e1, List.length_map]
      have z2 : qs.length = (stateEvents g).length := by rw [← e2, List.length_map]
      rw [List.length_map, List.length_map, z1, z2]
      have := two_few hg.n9
      have := events_few hg.n9 hg.k6
      exact smallE (m := 200) (by omega)
    · refine k _ p ((S1.trans S2).trans (same_new hp)) ((S1.trans S2).free hp) ⟨ps ++ qs, by rw [List.map_append, e1, e2, questions_eq], by rw [upd_same, List.map_append], fun q hq => ?_⟩
      refine up_q _ _ _ _ (same_new hp) ?_
      rcases List.mem_append.mp hq with z | z
      · exact k1 q z
      · exact k2 q z
/-! ### tells_apart(region, question) -/
def spTells (C : Cs) : Sp := fun vs H Q _ => ∃ (a b : Addr) (g : Sn) (r : States) (q : Qn), vs = [.ref a, .ref b] ∧ RegAt C g H a r ∧ QAt H b q ∧ qOk g q ∧ Q (.bl (g.answers r q)) H
theorem ok_tells_apart (T : Txt K mg C) (h : At K mg "tells_apart" (top 22) ["region", "question"]) : Dfn P w K mg base 1 "tells_apart" ["region", "question"] (spTells C) := by
  have sc : FnScope ["region", "question", "has_state", "way"] ["region", "question"] (defScope (top 22)) := ⟨rfl, rfl, rfl, by decide +kernel, rfl, by decide +kernel, by decide +kernel⟩
  refine Dfn.mk h sc (fun vs H Q E h => ?_) (fun f cdv A outer s H vs Q E hr h => ⟨_, (pss_cons (ps_set (i := 2) sc.nd rfl (Or.inl rfl) (pe_cmpR (in_seqK (K := K) rfl) (pe_ix (ix_tupK (K := K) rfl) (pv 1) pe_int (fun _ _ => rfl)) (pe_fldK (K := K) rfl (pv 0) rfl) rfl))
      (pss_cons (ps_if (pt_cmpR op_eq (pe_ix (ix_tupK (K := K) rfl) (pv 1) pe_int (fun _ _ => rfl)) (pe_con T.cTWO_STATES rfl) (nomark _)) (pss_one (ps_ret (pe_cmpR op_ne (pv 2) (pe_cmpR (in_seqK (K := K) rfl) (pe_ix (ix_tupK (K := K) rfl) (pv 1) pe_int (fun _ _ => rfl)) (pe_fldK (K := K) rfl (pv 0) rfl) rfl) (nomark _)))) pss_nil)
      (pss_cons (ps_set (i := 3) sc.nd rfl (Or.inl rfl) (pe_ix (ix_listK (K := K) rfl) (pe_fldK (K := K) rfl (pv 0) rfl) (pe_ix (ix_tupK (K := K) rfl) (pv 1) pe_int (fun _ _ => rfl)) (fun _ _ => rfl)))
      (pss_one (ps_ret (pe_cmpR op_eq (pv 3) (pe_ifExp (pt_val (pv 2)) (pe_con T.cENTERS rfl) (pe_con T.cLEAVES rfl)) (nomark _))))))), ?_⟩)
  · obtain ⟨a, b, g, r, q, rfl, _⟩ := h; rfl
  · obtain ⟨a, b, g, r, q, rfl, ha, hb, hq, k⟩ := h
    obtain ⟨dx, ss, ww, h1, h2, h3⟩ := ha
    cases q with
    | states s t =>
      refine ⟨_, rfl, b, _, _, _, rfl, rfl, SqT.of hb, rfl, _, rfl, a, C.reg, dx, _, _, rfl, h1, T.reg, T.reg_states, lk_here, ss, _, rfl, .inl (SqL.of h2), rfl, flat_ls r, ?_⟩
      refine ⟨_, rfl, b, _, _, _, rfl, rfl, SqT.of hb, rfl, rfl, _, rfl, iteT ?_⟩
      refine ⟨_, rfl, _, rfl, b, _, _, _, rfl, rfl, SqT.of hb, rfl, _, rfl, a, C.reg, dx, _, _, rfl, h1, T.reg, T.reg_states, lk_here, ss, _, rfl, .inl (SqL.of h2), rfl, flat_ls r, rfl, ?_⟩
      have e : (!decide (V.bl (if false then !inV (nV s) (r.map nV) else inV (nV s) (r.map nV)) = V.bl (if false then !inV (nV t) (r.map nV) else inV (nV t) (r.map nV)))) = g.answers r (.states s t) := by
        rw [if_neg (by decide), if_neg (by decide), in_ls, in_ls]
        show _ = (r.contains s != r.contains t)
        cases r.contains s <;> cases r.contains t <;> rfl
      rw [← e] at k
      exact k
    | event s e =>
      have hw : (waysOf g r)[e]? = some (wayI g r e) := get_map (by rw [List.getElem?_range hq.2])
      refine ⟨_, rfl, b, _, _, _, rfl, rfl, SqT.of hb, rfl, _, rfl, a, C.reg, dx, _, _, rfl, h1, T.reg, T.reg_states, lk_here, ss, _, rfl, .inl (SqL.of h2), rfl, flat_ls r, ?_⟩
      refine ⟨_, rfl, b, _, _, _, rfl, rfl, SqT.of hb, rfl, rfl, _, rfl, iteF ?_⟩
      refine ⟨_, rfl, a, C.reg, dx, _, _, rfl, h1, T.reg, T.reg_ways, (lk_past (by decide +kernel)).trans lk_here, _, rfl, b, _, _, _, rfl, rfl, SqT.of hb, rfl, ww, _, _, _, rfl, rfl, SqL.of h3, atI_nat (get_map hw), ?_⟩
      rw [answers_event] at k
      refine ⟨_, rfl, _, rfl, _, rfl, ?_⟩
      have ec : (if false then !inV (nV s) (r.map nV) else inV (nV s) (r.map nV)) = r.contains s := by rw [if_neg (by decide), in_ls]
      refine ite2 (fun c => ?_) (fun c => ?_)
      · refine ⟨rfl, ?_⟩
        rw [ec] at c
        rw [if_pos c] at k
        have e2 : decide (V.int (wayI g r e) = V.int 1) = (wayI g r e == 1) := by
          rw [Bool.eq_iff_iff, decide_eq_true_eq, beq_iff_eq]; exact ⟨V.int.inj, fun z => by rw [z]⟩
        rw [← e2] at k; exact k
      · refine ⟨rfl, ?_⟩
        rw [ec] at c
        rw [if_neg c] at k
        have e2 : decide (V.int (wayI g r e) = V.int 2) = (wayI g r e == 2) := by
          rw [Bool.eq_iff_iff, decide_eq_true_eq, beq_iff_eq]; exact ⟨V.int.inj, fun z => by rw [z]⟩
        rw [← e2] at k; exact k
/-! ### is_told_apart(regions, question) -/
def spTold (C : Cs) : Sp := fun vs H Q _ => ∃ (a b : Addr) (g : Sn) (rs : List States) (q : Qn), vs = [.ref a, .ref b] ∧ LsOf (RegAt C g) H a rs ∧ QAt H b q ∧ qOk g q ∧ Q (.bl (rs.any fun r => g.answers r q)) H
theorem ok_is_told_apart (T : Txt K mg C) (D_tells_apart : Dfn P w K mg base 1 "tells_apart" ["region", "question"] (spTells C)) (h : At K mg "is_told_apart" (top 23) ["regions", "question"]) : Dfn P w K mg base 2 "is_told_apart" ["regions", "question"] (spTold C) := by
  have sc : FnScope ["regions", "question", "region"] ["regions", "question"] (defScope (top 23)) := ⟨rfl, rfl, rfl, by decide +kernel, rfl, by decide +kernel, by decide +kernel⟩
  refine Dfn.mk h sc (fun vs H Q E h => ?_) (fun f cdv A outer s H vs Q E hr h => ⟨_, (pss_cons (ps_for PassesOwn.never rfl (pi_list (pv 0)) (pg_name (i := 2) sc.nd rfl (Or.inl rfl)) (pss_one (ps_if (pt_val (pe_fn D_tells_apart (hr.mono (by decide)) rfl (pa_cons (pv 2) (pa_cons (pv 1) pa_nil)))) (pss_one (ps_ret pe_bl)) pss_nil)))
      (pss_one (ps_ret pe_bl))), ?_⟩)
  · obtain ⟨a, b, g, rs, q, rfl, _⟩ := h; rfl
  · obtain ⟨a, b, g, rs, q, rfl, ha, hb, hq, k⟩ := h
    obtain ⟨vs, hv, hl, g1, g2⟩ := ha.get
    refine ⟨_, rfl, a, rfl, ⟨_, SqL.of hv⟩, for_list (K := K) (a := a) (xs := vs) (fun i σ H' => (∃ v : Option V, σ = [some (.ref a), some (.ref b), v]) ∧ H' = H ∧ ((rs.take i).any fun r => g.answers r q) = false)
      ⟨⟨none, rfl⟩, rfl, rfl⟩ (fun i σ H' _ ⟨_, e, _⟩ => e ▸ SqL.of hv) ?_ ?_⟩
    · rintro i y σ H' hi ⟨⟨v, rfl⟩, rfl, hall⟩
      obtain ⟨p, r, rfl, hri, rx⟩ := g2 i y hi
      refine ⟨_, rfl, _, rfl, p, b, g, r, q, rfl, rx, hb, hq, _, rfl, ite2 (fun c => ?_) (fun c => ?_)⟩
      · have e : (rs.any fun r => g.answers r q) = true := List.any_eq_true.mpr ⟨r, get_mem hri, c⟩
        rw [e] at k; exact k
      · refine ⟨⟨_, rfl⟩, rfl, ?_⟩
        rw [take_more hri, List.any_append, hall, Bool.false_or]
        simpa using c
    · rintro σ H' ⟨⟨v, rfl⟩, rfl, hall⟩
      rw [hl, List.take_length] at hall
      rw [hall] at k; exact k
/-! ### open_questions(seen, regions) -/
def spOpen (C : Cs) : Sp := fun vs H Q _ => ∃ (a b : Addr) (g : Sn) (rs : List States), vs = [.ref a, .ref b] ∧ SeenAt C H a g ∧ Okg g ∧ LsOf (RegAt C g) H b rs ∧ ∀ (H' : Hp) (p : Addr), Same H H' → H p = none → LsOf QAt H' p (g.open_ rs) → Q (.ref p) H'
theorem ok_open_questions (T : Txt K mg C) (D_questions_in_order : Dfn P w K mg base 3 "questions_in_order" ["seen"] (spQs C fun g => g.questions)) (D_is_told_apart : Dfn P w K mg base 2 "is_told_apart" ["regions", "question"] (spTold C)) (h : At K mg "open_questions" (top 24) ["seen", "regions"]) :
    Dfn P w K mg base 4 "open_questions" ["seen", "regions"] (spOpen C) := by
  have sc : FnScope ["seen", "regions", "question"] ["seen", "regions"] (defScope (top 24)) := ⟨rfl, rfl, rfl, by decide +kernel, rfl, by decide +kernel, by decide +kernel⟩
  refine Dfn.mk h sc (fun vs H Q E h => ?_) (fun f cdv A outer s H vs Q E hr h => ⟨_, (pss_one (ps_ret (pe_lc (own := [("question", 2)]) (g := gName 2) rfl sc.nd (pi_list (pe_fn D_questions_in_order (hr.mono (by decide)) rfl (pa_cons (pv 0) pa_nil))) (blkOk_by (own := [("question", 2)]) (N := ["seen", "regions", "question"]) (sc := defScope (top 24)) (by decide +kernel)) (fun _ _ _ _ _ => pg_name (i := 2) sc.nd rfl (Or.inl rfl)) (fun _ _ _ _ _ => pts_one (pt_not (pt_val (pe_fn D_is_told_apart (hr.mono (by decide)) rfl (pa_cons (pv 1) (pa_cons (pv 2) pa_nil)))))) (fun _ _ _ _ _ => (pv 2))))), ?_⟩)
  · obtain ⟨a, b, g, rs, rfl, _⟩ := h; rfl
  · obtain ⟨a, b, g, rs, rfl, ha, hg, hb, k⟩ := h
    refine ⟨_, rfl, a, g, rfl, ha, hg, fun H1 p1 S1 n1 L1 => ⟨p1, rfl, ?_⟩⟩
    obtain ⟨vs, hv, hl, g1, g2⟩ := L1.get
    refine ⟨⟨_, SqL.of hv⟩, fun D hD => lc_list (K := K) (a := p1) (xs := vs) (fun i H' => Grow QAt H1 H' D ((g.questions.take i).filter fun q => !rs.any fun r => g.answers r q)) (Grow.start hD) (fun i H' _ G => SqL.of (G.same _ _ hv)) ?_ ?_⟩
    · rintro i y H' hi G
      obtain ⟨p, q, rfl, hqi, rx⟩ := g2 i y hi
      have hqo := questions_ok g q (get_mem hqi)
      refine ⟨rfl, ?_⟩
      refine ⟨_, rfl, _, rfl, b, p, g, rs, q, rfl, up_of up_reg _ _ _ _ (S1.trans G.same) hb, G.same _ _ rx, hqo, _, rfl, ite2 (fun c => ?_) (fun c => ?_)⟩
      · obtain ⟨acc, hacc, hlen⟩ := G.at
        refine ⟨_, rfl, acc, hacc, ?_, Grow.eq (Grow.push (x := q) G hacc (G.1 _ _ rx)) ?_⟩
        · rw [hlen]
          refine small (m := 135) (Nat.le_trans (List.length_filter_le ..) (Nat.le_trans (take_len hqi) (questions_few hg.n9 hg.k6)))
        · rw [take_more hqi, List.filter_append, List.filter_cons_of_pos (p := fun q => !rs.any fun r => g.answers r q) c]; rfl
      · refine Grow.eq G ?_
        rw [take_more hqi, List.filter_append, List.filter_cons_of_neg (p := fun q => !rs.any fun r => g.answers r q) c]; simp
    · rintro H2 G2
      rw [hl, List.take_length] at G2
      exact k H2 D (S1.trans G2.same) (S1.free hD) (G2.done up_q)
end
end Rn
namespace Rn
open PySem PySem.Spec PyProof.Rows L2
open Sq64 (States Marking Arc)

section
variable {P : Program} {w : World} {K : PySem.W.Frag} {mg : Str → Option Value} {base : Heap} {C : Cs}

/-! ### arcs_by(event, arcs) -/
def byEvent (arcs : List Arc) (e : Nat) : List (Nat × Nat) := (arcs.filter fun a => a.2.1 == e).map fun a => (a.1, a.2.2)
def spArcsBy : Sp := fun vs H Q _ => ∃ (a : Addr) (e : Nat) (arcs : List Arc), vs = [nV e, .ref a] ∧ LsOf Tup3 H a arcs ∧ arcs.length ≤ 400 ∧ ∀ (H' : Hp) (p : Addr), Same H H' → H p = none → LsOf Tup2 H' p (byEvent arcs e) → Q (.ref p) H'
theorem ok_arcs_by (T : Txt K mg C) (h : At K mg "arcs_by" (top 39) ["event", "arcs"]) : Dfn P w K mg base 1 "arcs_by" ["event", "arcs"] spArcsBy := by
  have sc : FnScope ["event", "arcs", "arc"] ["event", "arcs"] (defScope (top 39)) := ⟨rfl, rfl, rfl, by decide +kernel, rfl, by decide +kernel, by decide +kernel⟩
  refine Dfn.mk h sc (fun vs H Q E h => ?_) (fun f cdv A outer s H vs Q E hr h => ⟨_, (pss_one (ps_ret (pe_lc (own := [("arc", 2)]) (g := gName 2) rfl sc.nd (pi_list (pv 1)) (blkOk_by (own := [("arc", 2)]) (N := ["event", "arcs", "arc"]) (sc := defScope (top 39)) (by decide +kernel)) (fun _ _ _ _ _ => pg_name (i := 2) sc.nd rfl (Or.inl rfl)) (fun _ _ _ _ _ => pts_one (pt_cmpR op_eq (pe_ix (ix_tupK (K := K) rfl) (pv 2) pe_int (fun _ _ => rfl)) (pv 0) (nomark _))) (fun _ _ _ _ _ => (pe_tup (pa_cons (pe_ix (ix_tupK (K := K) rfl) (pv 2) pe_int (fun _ _ => rfl)) (pa_cons (pe_ix (ix_tupK (K := K) rfl) (pv 2) pe_int (fun _ _ => rfl)) pa_nil))))))), ?_⟩)
  · obtain ⟨a, e, arcs, rfl, _⟩ := h; rfl
  · obtain ⟨a, e, arcs, rfl, ha, hfew, k⟩ := h
    obtain ⟨vs, hv, hl, g1, g2⟩ := ha.get
    refine ⟨_, rfl, a, rfl, ⟨_, SqL.of hv⟩, fun D hD => lc_list (K := K) (a := a) (xs := vs) (fun i H' => Grow Tup2 H H' D (byEvent (arcs.take i) e)) (Grow.start hD) (fun i H' _ G => SqL.of (G.same _ _ hv)) ?_ ?_⟩
    · rintro i y H' hi G
      obtain ⟨p, x, rfl, hxi, rx⟩ := g2 i y hi
      have hx := G.same _ _ rx
      refine ⟨rfl, ?_⟩
      refine ⟨_, rfl, p, _, _, _, rfl, rfl, SqT.of hx, rfl, _, rfl, rfl, _, rfl, ?_⟩
      show if decide (nV x.2.1 = nV e) = true then _ else _
      rw [dec_nV]
      refine ite2 (fun c => ?_) (fun c => ?_)
      · obtain ⟨acc, hacc, hlen⟩ := G.at
        refine ⟨_, rfl, p, _, _, _, rfl, rfl, SqT.of hx, rfl, _, rfl, p, _, _, _, rfl, rfl, SqT.of hx, rfl, by show 2 ≤ sizeLine; decide, fun p1 n1 => ?_⟩
        have s1 := same_new (o := HO.tup [nV x.1, nV x.2.2]) n1
        refine ⟨acc, s1 _ _ hacc, ?_, Grow.eq (Grow.push (x := (x.1, x.2.2)) (G.keep up_tup2 s1) (s1 _ _ hacc) ?_) ?_⟩
        · rw [hlen, byEvent, List.length_map]
          exact small (m := 400) (Nat.le_trans (List.length_filter_le ..) (Nat.le_trans (take_len hxi) hfew))
        · show hid _ D p1 = _
          rw [hid_at (fun e => by rw [e, hacc] at n1; cases n1)]
          exact upd_same
        · unfold byEvent
          rw [take_more hxi, List.filter_append, List.filter_cons_of_pos (p := fun a : Arc => a.2.1 == e) c, List.map_append]; rfl
      · refine Grow.eq G ?_
        unfold byEvent
        rw [take_more hxi, List.filter_append, List.filter_cons_of_neg (p := fun a : Arc => a.2.1 == e) c]; simp
    · rintro H2 G2
      rw [hl, List.take_length] at G2
      exact k H2 D G2.same hD (G2.done up_tup2)
/-! ### Seen(n, k, arcs) -/
theorem hid_kind {H : Hp} {p q : Addr} {o u : HO} (hp : H p = some o) (hq : H q = some u) (d : u ≠ o) : hid H p q = some u := by
  rw [hid_at (ne_of hq hp d)]; exact hq
def spSeen (C : Cs) : Sp := fun vs H Q _ => ∃ (p dx a : Addr) (n k : Nat) (arcs : List Arc), vs = [.ref p, nV n, nV k, .ref a] ∧ H p = some (.ins C.seen dx []) ∧ LsOf Tup3 H a arcs ∧ k ≤ 6 ∧ arcs.length ≤ 400 ∧
  ∀ H' : Hp, SeenAt C H' p ⟨n, k, arcs⟩ → Same (hid H p) H' → Q .non H'
theorem ok_Seen (T : Txt K mg C) (hx : mg "Seen" = some (.ref C.seen)) (mk : PySem.W.makesIn K C.seen = true) (kc : PySem.W.keepIn K (.ref C.seen) = true) (D_arcs_by : Dfn P w K mg base 1 "arcs_by" ["event", "arcs"] spArcsBy) (h : AtM K C.seen "__init__" "Seen.__init__" (inClass (top 38) 0) ["self", "n", "k", "arcs"]) :
    Di P w K mg base C.seen 2 "Seen" ["self", "n", "k", "arcs"] (spSeen C) := by
  have sc : FnScope ["self", "n", "k", "arcs", "event"] ["self", "n", "k", "arcs"] (defScope (inClass (top 38) 0)) := ⟨rfl, rfl, rfl, by decide +kernel, rfl, by decide +kernel, by decide +kernel⟩
  refine Di.mk hx mk kc h sc (fun vs H Q E h => ?_) (fun f cdv A outer s H vs Q E hr h => ⟨_, (pss_cons (ps_fld (pv 0) (pv 1) rfl)
      (pss_cons (ps_fld (pv 0) (pv 2) rfl)
      (pss_one (ps_fld (pv 0) (pe_lc (own := [("event", 4)]) (g := gName 4) rfl sc.nd (pi_range1 rfl T.range (pa_cons (pv 2) pa_nil)) (blkOk_by (own := [("event", 4)]) (N := ["self", "n", "k", "arcs", "event"]) (sc := defScope (inClass (top 38) 0)) (by decide +kernel)) (fun _ _ _ _ _ => pg_name (i := 4) sc.nd rfl (Or.inl rfl)) (fun _ _ _ _ _ => pts_nil) (fun _ _ _ _ _ => (pe_fn D_arcs_by (hr.mono (by decide)) rfl (pa_cons (pv 4) (pa_cons (pv 3) pa_nil))))) rfl)))), ?_⟩)
  · obtain ⟨p, dx, a, n, k, arcs, rfl, _⟩ := h; rfl
  · obtain ⟨p, dx, a, n, kk, arcs, rfl, hp, ha, hk, hfew, k⟩ := h
    have haP : LsOf Tup3 (hid H p) a arcs := by
      obtain ⟨ps, e, h1, k1⟩ := ha
      exact ⟨ps, e, hid_kind hp h1 (by intro z; cases z), fun q hq => hid_kind hp (k1 q hq) (by intro z; cases z)⟩
    refine ⟨_, rfl, _, rfl, p, C.seen, dx, [], rfl, hp, T.seen, T.seen_n, (by show 0 < 1000; decide), ?_⟩
    refine ⟨_, rfl, _, rfl, p, C.seen, dx, _, rfl, upd_same, T.seen, T.seen_k, (by show 1 < 1000; decide), ?_⟩
    generalize hH1 : (upd (upd H p (HO.ins C.seen dx (putF "n" (nV n) []))) p (HO.ins C.seen dx (putF "k" (nV kk) (putF "n" (nV n) [])))) = H1
    have hp1 : H1 p = some (.ins C.seen dx [("n", nV n), ("k", nV kk)]) := by rw [← hH1]; exact upd_same
    have hS1 : hid H1 p = hid H p := by rw [← hH1, upd_upd, hid_upd]
    have ha1 : LsOf Tup3 H1 a arcs := up_of up_tup3 _ _ _ _ hid_same (by rw [hS1]; exact haP)
    have key : ∀ e, byEvent arcs e = arcsBy ⟨n, kk, arcs⟩ e := fun e => rfl
    refine ⟨_, rfl, (kk : Int), rfl, (small_int (by omega)).1, (small_int (by omega)).2, fun D hD => lc_rng (n := kk) (fun i H' => Grow (LsOf Tup2) H1 H' D ((List.range i).map (arcsBy ⟨n, kk, arcs⟩))) (Grow.start hD) ?_ ?_⟩
    · rintro i H' hi G
      refine ⟨rfl, lcY ⟨_, rfl, _, rfl, a, i, arcs, rfl, up_of up_tup3 _ _ _ _ G.same ha1, hfew, fun H2 p2 S2 n2 L2 => ?_⟩⟩
      obtain ⟨acc, hacc, hlen⟩ := (G.keep (up_of up_tup2) S2).at
      refine ⟨acc, hacc, ?_, Grow.eq (Grow.push (x := arcsBy ⟨n, kk, arcs⟩ i) (G.keep (up_of up_tup2) S2) hacc ?_) ?_⟩
      · rw [hlen, List.length_map, List.length_range]
        exact small (m := 6) (by omega)
      · obtain ⟨qs, e, h1, k1⟩ := L2
        refine ⟨qs, e, ?_, fun q hq => hid_kind hacc (k1 q hq) (by intro z; cases z)⟩
        rw [hid_at (fun e => by rw [e] at n2; obtain ⟨_, z, _⟩ := G.at; rw [z] at n2; cases n2)]
        exact h1
      · rw [List.range_succ, List.map_append]; rfl
    · rintro H2 G2
      have hp2 := G2.same _ _ hp1
      refine ⟨_, rfl, p, C.seen, dx, _, rfl, hp2, T.seen, T.seen_arcs_by_event, (by show 2 < 1000; decide), ?_⟩
      have L := G2.done (up_of up_tup2)
      have hLP : LsOf (LsOf Tup2) (hid H2 p) D ((List.range kk).map (arcsBy ⟨n, kk, arcs⟩)) := by
        obtain ⟨ps, e, h1, k1⟩ := L
        refine ⟨ps, e, hid_kind hp2 h1 (by intro z; cases z), fun q hq => ?_⟩
        obtain ⟨qs, e2, h2, k2⟩ := k1 q hq
        exact ⟨qs, e2, hid_kind hp2 h2 (by intro z; cases z), fun r hr => hid_kind hp2 (k2 r hr) (by intro z; cases z)⟩
      refine k _ ⟨dx, D, upd_same, ?_⟩ ?_
      · refine up_of (up_of up_tup2) _ _ _ _ hid_same (?_ : LsOf _ (hid _ p) _ _)
        rw [hid_upd]; exact hLP
      · have z : Same (hid H p) (hid H2 p) := by rw [← hS1]; exact hid_mono G2.same
        exact (by rw [hid_upd]; exact z : Same (hid H p) (hid (upd H2 p _) p)).trans hid_same
theorem same_made {H H' : Hp} {x dx : Addr} {o : HO} (nx : H x = none) (ndx : H dx = none) (S : Same (hid (upd (upd H dx (.own x)) x o) x) H') : Same H H' := fun b u e => by
  refine S b u ?_
  rw [hid_at (ne_of_none e nx), upd_ne (ne_of_none e nx), upd_ne (ne_of_none e ndx)]
  exact e
/-! ### seen_before_any_begin() -/
def spFresh (C : Cs) : Sp := fun vs H Q _ => vs = [] ∧ ∀ (H' : Hp) (p : Addr), Same H H' → H p = none → SeenAt C H' p Sq64.fresh → Q (.ref p) H'
theorem ok_seen_before (T : Txt K mg C) (D_Seen : Di P w K mg base C.seen 2 "Seen" ["self", "n", "k", "arcs"] (spSeen C)) (h : At K mg "seen_before_any_begin" (top 40) []) : Dfn P w K mg base 4 "seen_before_any_begin" [] (spFresh C) := by
  have sc : FnScope [] [] (defScope (top 40)) := ⟨rfl, rfl, rfl, by decide +kernel, rfl, by decide +kernel, by decide +kernel⟩
  refine Dfn.mk h sc (fun vs H Q E h => ?_) (fun f cdv A outer s H vs Q E hr h => ⟨_, (pss_one (ps_ret (pe_mk D_Seen (hr.mono (by decide)) rfl (pa_cons pe_int (pa_cons pe_int (pa_cons (pe_lst (pa_cons (pe_tup (pa_cons pe_int (pa_cons pe_int (pa_cons pe_int pa_nil)))) pa_nil)) pa_nil)))))), ?_⟩)
  · obtain ⟨rfl, _⟩ := h; rfl
  · obtain ⟨rfl, k⟩ := h
    refine ⟨by show 3 ≤ sizeLine; decide, fun t ht => ⟨by show 1 ≤ sizeLine; decide, fun l hl => ?_⟩⟩
    intro x dx nx ndx ne
    have s1 := (same_new (o := HO.tup [.int 0, .int 0, .int 0]) ht).trans (same_new (o := HO.lst [V.ref t]) hl)
    have hlx : l ≠ x := fun e => by rw [e] at nx; rw [← e, upd_same] at nx; cases nx
    have hld : l ≠ dx := fun e => by rw [← e, upd_same] at ndx; cases ndx
    have htt := (same_new (o := HO.lst [V.ref t]) hl) _ _ (upd_same (H := H) (a := t) (o := HO.tup [.int 0, .int 0, .int 0]))
    have htx : t ≠ x := fun e => by rw [← e, htt] at nx; cases nx
    have htd : t ≠ dx := fun e => by rw [← e, htt] at ndx; cases ndx
    refine ⟨x, dx, l, 1, 1, [(0, (0, 0))], rfl, upd_same, ⟨[(t, (0, (0, 0)))], rfl, ?_, fun q hq => ?_⟩, by decide, by decide, fun H' SA S => ⟨rfl, ?_⟩⟩
    · rw [upd_ne hlx, upd_ne hld]; exact upd_same
    · rw [List.mem_singleton] at hq
      subst hq
      show upd _ _ _ t = _
      rw [upd_ne htx, upd_ne htd]; exact htt
    · exact k H' x (s1.trans (same_made nx ndx S)) (s1.free nx) SA
end
end Rn
namespace Rn
open PySem PySem.Spec PyProof.Rows L2
open Sq64 (States Marking Arc)

section
variable {P : Program} {w : World} {K : PySem.W.Frag} {mg : Str → Option Value} {base : Heap} {C : Cs}

/-! ### arcs_told(numbers) -/
theorem rgc3 {n : Nat} (h : n ≤ 100000) (h3 : n % 3 = 0) : RgC 0 (n : Int) 3 (n / 3) := by
  have e : Builtin.Range.rangeSize 0 (n : Int) 3 = ((n / 3 : Nat) : Int) := by
    unfold Builtin.Range.rangeSize
    rw [if_pos (by decide)]
    split <;> omega
  refine ⟨by decide, by decide, ?_, e⟩
  have fits : ∀ z : Int, -1000000 ≤ z → z ≤ 1000000 → Builtin.Range.rangeFitsLong z = true := fun z h1 h2 => by
    unfold Builtin.Range.rangeFitsLong
    rw [Bool.and_eq_true]
    exact ⟨decide_eq_true (by omega), decide_eq_true (by omega)⟩
  unfold Builtin.Range.small
  rw [e]
  rw [fits 0 (by decide) (by decide), fits n (by omega) (by omega), fits 3 (by decide) (by decide), fits ((n / 3 : Nat) : Int) (by omega) (by omega)]
  rw [if_pos (show (3 : Int) > 0 by decide), fits ((n : Int) + (3 - 1)) (by omega) (by omega), Bool.or_true]
  rfl
def spArcsTold : Sp := fun vs H Q _ => ∃ (a : Addr) (ns : List Nat), vs = [.ref a] ∧ Ls H a ns ∧ ns.length ≤ 1024 ∧ ns.length % 3 = 0 ∧ ∀ (H' : Hp) (p : Addr), Same H H' → H p = none → LsOf Tup3 H' p (arcsOf ns) → Q (.ref p) H'
theorem ok_arcs_told (T : Txt K mg C) (h : At K mg "arcs_told" (top 41) ["numbers"]) : Dfn P w K mg base 1 "arcs_told" ["numbers"] spArcsTold := by
  have sc : FnScope ["numbers", "arcs", "start"] ["numbers"] (defScope (top 41)) := ⟨rfl, rfl, rfl, by decide +kernel, rfl, by decide +kernel, by decide +kernel⟩
  refine Dfn.mk h sc (fun vs H Q E h => ?_) (fun f cdv A outer s H vs Q E hr h => ⟨_, (pss_cons (ps_set (i := 1) sc.nd rfl (Or.inl rfl) (pe_lst pa_nil))
      (pss_cons (ps_for PassesOwn.never rfl (pi_range3 rfl T.range (pa_cons pe_int (pa_cons (pe_callB call_len_seq (by rfl) T.len PySem.boot_len (pa_cons (pv 0) pa_nil)) (pa_cons (pe_con T.cNUMBERS_OF_AN_ARC rfl) pa_nil)))) (pg_name (i := 2) sc.nd rfl (Or.inl rfl)) (pss_one (ps_expr (pe_bm PySem.F.plainAttrs_list PySem.F.slot_list_append PySem.F.type_list_append mt_append (pv 1) (pa_cons (pe_tup (pa_cons (pe_ix (ix_listK (K := K) rfl) (pv 0) (pv 2) (fun _ _ => rfl)) (pa_cons (pe_ix (ix_listK (K := K) rfl) (pv 0) (pe_op op_add (pv 2) pe_int) (fun _ _ => rfl)) (pa_cons (pe_ix (ix_listK (K := K) rfl) (pv 0) (pe_op op_add (pv 2) pe_int) (fun _ _ => rfl)) pa_nil)))) pa_nil)))))
      (pss_one (ps_ret (pv 1))))), ?_⟩)
  · obtain ⟨a, ns, rfl, _⟩ := h; rfl
  · obtain ⟨a, ns, rfl, ha, hfew, h3, k⟩ := h
    refine ⟨by show 0 ≤ sizeLine; decide, fun l hl0 => ?_⟩
    refine ⟨_, rfl, a, _, rfl, .inl (SqL.of ((same_new hl0) _ _ ha)), 0, ((ns.map nV).length : Int), 3, ns.length / 3, rfl, ?_, ?_⟩
    · rw [List.length_map]; exact rgc3 (by omega) h3
    · refine for_rangeC (lo := 0) (c := 3) (n := ns.length / 3) (fun i σ H' => (∃ v : Option V, σ = [some (.ref a), some (.ref l), v]) ∧ Grow Tup3 H H' l ((arcsOf ns).take i)) ⟨⟨none, rfl⟩, Grow.start hl0⟩ ?_ ?_
      · rintro i σ H' hi ⟨⟨v, rfl⟩, G⟩
        obtain ⟨x, y, z, g1, g2, g3, g4⟩ := arcsOf_get ns i hi
        have e0 : (0 : Int) + (i : Nat) * 3 = ((3 * i : Nat) : Int) := by omega
        rw [e0]
        have hA := G.same _ _ ha
        obtain ⟨acc, hacc, hlen⟩ := G.at
        refine ⟨_, rfl, tyL hacc, _, rfl, _, rfl, a, _, _, _, rfl, rfl, SqL.of hA, atI_nat (get_map g1), _, rfl, _, rfl, _, _, rfl, rfl, a, _, _, _, rfl, rfl, SqL.of hA, at_of (j := 3 * i + 1) (by omega) (get_map g2), _, rfl, _, rfl, _, _, rfl, rfl, a, _, _, _, rfl, rfl, SqL.of hA, at_of (j := 3 * i + 2) (by omega) (get_map g3), by show 3 ≤ sizeLine; decide, fun p1 n1 => ?_⟩
        have s1 := same_new (o := HO.tup [nV x, nV y, nV z]) n1
        refine ⟨l, acc, _, rfl, rfl, s1 _ _ hacc, ?_, ⟨_, rfl⟩, Grow.eq (Grow.push (x := (x, (y, z))) (G.keep up_tup3 s1) (s1 _ _ hacc) ?_) ?_⟩
        · rw [hlen, List.length_take, arcsOf_len]
          exact small (m := 400) (by omega)
        · show hid _ l p1 = _
          rw [hid_at (fun e => by rw [e, hacc] at n1; cases n1)]
          exact upd_same
        · exact (take_more g4).symm
      · rintro σ H' ⟨⟨v, rfl⟩, G⟩
        rw [← arcsOf_len, List.take_length] at G
        exact ⟨_, rfl, k H' l G.same hl0 (G.done up_tup3)⟩
/-! ### is_there(n, k, arc) -/
def spThere : Sp := fun vs H Q _ => ∃ (a : Addr) (n k : Int) (x : Arc), vs = [.int n, .int k, .ref a] ∧ Tup3 H a x ∧ Q (.bl (decide ((x.1 : Int) < n) && (decide ((x.2.1 : Int) < k) && decide ((x.2.2 : Int) < n)))) H
theorem ok_is_there (T : Txt K mg C) (h : At K mg "is_there" (top 43) ["n", "k", "arc"]) : Dfn P w K mg base 1 "is_there" ["n", "k", "arc"] spThere := by
  have sc : FnScope ["n", "k", "arc"] ["n", "k", "arc"] (defScope (top 43)) := ⟨rfl, rfl, rfl, by decide +kernel, rfl, by decide +kernel, by decide +kernel⟩
  refine Dfn.mk h sc (fun vs H Q E h => ?_) (fun f cdv A outer s H vs Q E hr h => ⟨_, (pss_one (ps_ret (pe_and (pe_cmpR op_lt (pe_ix (ix_tupK (K := K) rfl) (pv 2) pe_int (fun _ _ => rfl)) (pv 0) (nomark _)) (pe_and (pe_cmpR op_lt (pe_ix (ix_tupK (K := K) rfl) (pv 2) pe_int (fun _ _ => rfl)) (pv 1) (nomark _)) (pe_one (pe_cmpR op_lt (pe_ix (ix_tupK (K := K) rfl) (pv 2) pe_int (fun _ _ => rfl)) (pv 0) (nomark _))))))), ?_⟩)
  · obtain ⟨a, n, k, x, rfl, _⟩ := h; rfl
  · obtain ⟨a, n, kk, x, rfl, ha, k⟩ := h
    refine ⟨_, rfl, a, _, _, _, rfl, rfl, SqT.of ha, rfl, _, rfl, _, _, rfl, rfl, _, rfl, ite2 (fun c => ?_) (fun c => ?_)⟩
    · rw [c, Bool.true_and] at k
      refine ⟨_, rfl, a, _, _, _, rfl, rfl, SqT.of ha, rfl, _, rfl, _, _, rfl, rfl, _, rfl, ite2 (fun c2 => ?_) (fun c2 => ?_)⟩
      · rw [c2, Bool.true_and] at k
        exact ⟨_, rfl, a, _, _, _, rfl, rfl, SqT.of ha, rfl, _, rfl, _, _, rfl, rfl, k⟩
      · have c3 := Bool.eq_false_iff.mpr c2
        rw [c3, Bool.false_and] at k
        exact k
    · have c3 := Bool.eq_false_iff.mpr c
      rw [c3, Bool.false_and] at k
      exact k
/-! ### lacks_a_state(n, arcs) -/
def cf (c : List Bool) : Nat := c.countP fun b => !b
theorem cf_set : ∀ {c : List Bool} {j : Nat}, c[j]? = some false → cf (c.set j true) + 1 = cf c
  | [], j, h => by simp at h
  | b :: c, 0, h => by
    have e : b = false := Option.some.inj h
    subst e
    simp [cf]
  | b :: c, j + 1, h => by
    have ih := cf_set (c := c) (j := j) h
    unfold cf at ih ⊢
    cases b <;> simp at ih ⊢ <;> omega
theorem ixN_nat {n j : Nat} (h : j < n) : ixN n (j : Int) = some j := by
  unfold ixN
  rw [if_pos (by omega), if_pos (by omega)]
  rfl
def spLacksState : Sp := fun vs H Q _ => ∃ (a : Addr) (n : Nat) (arcs : List Arc), vs = [nV n, .ref a] ∧ LsOf Tup3 H a arcs ∧ 1 ≤ n ∧ n ≤ 9 ∧ (∀ x ∈ arcs, x.1 < n ∧ x.2.2 < n) ∧ ∀ (H' : Hp) (b : Bool), Same H H' → (b = true ↔ ∀ s, s < n → Reach arcs s) → Q (.bl (!b)) H'
theorem ok_lacks_a_state (T : Txt K mg C) (h : At K mg "lacks_a_state" (top 46) ["n", "arcs"]) : Dfn P w K mg base 1 "lacks_a_state" ["n", "arcs"] spLacksState := by
  have sc : FnScope ["n", "arcs", "come_to", "grown", "arc", "state"] ["n", "arcs"] (defScope (top 46)) := ⟨rfl, rfl, rfl, by decide +kernel, rfl, by decide +kernel, by decide +kernel⟩
  refine Dfn.mk h sc (fun vs H Q E h => ?_) (fun f cdv A outer s H vs Q E hr h => ⟨_, (pss_cons (ps_setLc (i := 2) (own := [("state", 5)]) (g := gName 5) rfl sc.nd rfl rfl (sw_true rfl rfl rfl (by decide +kernel)) (pi_range1 rfl T.range (pa_cons (pv 0) pa_nil)) (blkOk_by (own := [("state", 5)]) (N := ["n", "arcs", "come_to", "grown", "arc", "state"]) (sc := defScope (top 46)) (by decide +kernel)) (fun _ _ _ _ _ => pg_name (i := 5) sc.nd rfl (Or.inl rfl)) (fun _ _ _ _ _ => pts_nil) (fun _ _ _ _ _ => (pe_cmpR op_eq (pv 5) pe_int (nomark _))))
      (pss_cons (ps_set (i := 3) sc.nd rfl (Or.inl rfl) pe_bl)
      (pss_cons (ps_while PassesOwn.never (pt_val (pv 3)) (pss_cons (ps_set (i := 3) sc.nd rfl (Or.inl rfl) pe_bl)
      (pss_one (ps_for PassesOwn.never rfl (pi_list (pv 1)) (pg_name (i := 4) sc.nd rfl (Or.inl rfl)) (pss_one (ps_if (PW.pt (pw_and (pt_val (pe_ix (ix_listK (K := K) rfl) (pv 2) (pe_ix (ix_tupK (K := K) rfl) (pv 4) pe_int (fun _ _ => rfl)) (fun _ _ => rfl))) (pw_and1 (pt_not (pt_val (pe_ix (ix_listK (K := K) rfl) (pv 2) (pe_ix (ix_tupK (K := K) rfl) (pv 4) pe_int (fun _ _ => rfl)) (fun _ _ => rfl))))))) (pss_cons (ps_asg pe_bl (pg_sub (pv 2) (pe_ix (ix_tupK (K := K) rfl) (pv 4) pe_int (fun _ _ => rfl)) set_list))
      (pss_one (ps_set (i := 3) sc.nd rfl (Or.inl rfl) pe_bl))) pss_nil))))))
      (pss_one (ps_ret (pe_not (pe_callB (cr_all rfl) (by rfl) T.all (by decide +kernel) (pa_cons (pv 2) pa_nil)))))))), ?_⟩)
  · obtain ⟨a, n, arcs, rfl, _⟩ := h; rfl
  · obtain ⟨a, n, arcs, rfl, ha, h1, h9, harcs, k⟩ := h
    obtain ⟨vs, hv, hl, g1, g2⟩ := ha.get
    refine ⟨_, rfl, (n : Int), rfl, (small_int (by omega)).1, (small_int (by omega)).2, fun D hD => lc_rng (n := n) (fun i H' => GrowV H H' D (((List.range i).map fun s => s == 0).map V.bl)) (GrowV.start hD) ?_ ?_⟩
    · rintro i H' hi G
      refine ⟨rfl, lcY ⟨_, rfl, rfl, _, G.2, ?_, GrowV.eq G.put ?_⟩⟩
      · rw [List.length_map, List.length_map, List.length_range]
        exact small (m := 9) (by omega)
      · rw [List.range_succ, List.map_append, List.map_append]
        show _ ++ [V.bl (decide (nV i = nV 0))] = _
        rw [dec_nV]; rfl
    · rintro H1 G1
      have W0 : ∀ (s : Nat), ((List.range n).map fun s => s == 0)[s]? = some true → s = 0 := fun s hs => by
        obtain ⟨t, ht, e⟩ := map_get hs
        have ht2 : s < n := by have := get_lt ht; rw [List.length_range] at this; exact this
        rw [List.getElem?_range ht2] at ht
        cases ht
        simpa using e.symm
      refine ⟨fun m σ H' => ∃ (c : List Bool) (gr : Bool) (v1 v2 : Option V), m = 2 * cf c + (if gr = true then 1 else 0) ∧ c.length = n ∧ c[0]? = some true ∧ (∀ s : Nat, c[s]? = some true → Reach arcs s) ∧ (gr = false → ∀ x ∈ arcs, c[x.1]? = some true → c[x.2.2]? = some true) ∧
          σ = [some (nV n), some (.ref a), some (.ref D), some (.bl gr), v1, v2] ∧ GrowV H H' D (c.map V.bl),
        ⟨_, (List.range n).map fun s => s == 0, true, none, none, rfl, by simp, ?_, fun s hs => ?_, (fun z => nomatch z), rfl, G1⟩, ?_⟩
      · rw [List.getElem?_map, List.getElem?_range (show 0 < n by omega)]; rfl
      · rw [W0 s hs]; exact .zero
      · rintro m σ H' ⟨c, gr, v1, v2, rfl, hcl, hc0, hcs, hcc, rfl, G⟩
        refine ⟨_, rfl, _, rfl, ?_⟩
        cases gr with
        | false =>
          refine iteF ?_
          refine ⟨_, rfl, D, c, rfl, SqL.of G.2, _, rfl, ?_⟩
          exact k H' (c.all id) G.same (marks_reach hcl hc0 hcs (hcc rfl))
        | true =>
          refine iteT ⟨_, fun σ' H' p' => p', ?_⟩
          refine ⟨_, rfl, a, rfl, ⟨_, SqL.of (G.same _ _ hv)⟩, for_list (K := K) (a := a) (xs := vs) (fun i σ H2 => ∃ (c2 : List Bool) (gr : Bool) (v1 v2 : Option V), c2.length = n ∧ c2[0]? = some true ∧ (∀ s : Nat, c2[s]? = some true → Reach arcs s) ∧
              (gr = false → c2 = c ∧ ∀ x ∈ arcs.take i, c[x.1]? = some true → c[x.2.2]? = some true) ∧ (gr = true → cf c2 < cf c) ∧ cf c2 ≤ cf c ∧
              σ = [some (nV n), some (.ref a), some (.ref D), some (.bl gr), v1, v2] ∧ GrowV H H2 D (c2.map V.bl))
            ⟨c, false, v1, v2, hcl, hc0, hcs, fun _ => ⟨rfl, fun x hx => by simp at hx⟩, (fun z => nomatch z), Nat.le_refl _, rfl, G⟩ (fun i σ H2 _ ⟨_, _, _, _, _, _, _, _, _, _, _, G2⟩ => SqL.of (G2.same _ _ hv)) ?_ ?_⟩
          · rintro i y σ H2 hi ⟨c2, gr, v1, v2, hl2, h02, hs2, hf2, ht2, hle2, rfl, G2⟩
            obtain ⟨p, x, rfl, hxi, rx⟩ := g2 i y hi
            have hx := harcs x (get_mem hxi)
            have hp := G2.same _ _ rx
            obtain ⟨b1, e1⟩ : ∃ b, c2[x.1]? = some b := ⟨_, List.getElem?_eq_getElem (by omega)⟩
            obtain ⟨b2, e2⟩ : ∃ b, c2[x.2.2]? = some b := ⟨_, List.getElem?_eq_getElem (by omega)⟩
            have next : ∀ gr', gr' = gr → (b1 = true → b2 = true) → ∃ (c3 : List Bool) (gr : Bool) (u1 u2 : Option V), c3.length = n ∧ c3[0]? = some true ∧ (∀ s : Nat, c3[s]? = some true → Reach arcs s) ∧
                (gr = false → c3 = c ∧ ∀ x ∈ arcs.take (i + 1), c[x.1]? = some true → c[x.2.2]? = some true) ∧ (gr = true → cf c3 < cf c) ∧ cf c3 ≤ cf c ∧
                ([some (nV n), some (.ref a), some (.ref D), some (.bl gr'), some (.ref p), v2] : List (Option V)) = [some (nV n), some (.ref a), some (.ref D), some (.bl gr), u1, u2] ∧ GrowV H H2 D (c3.map V.bl) := by
              intro gr' egr himp
              subst egr
              refine ⟨c2, gr', _, _, hl2, h02, hs2, fun z => ?_, ht2, hle2, rfl, G2⟩
              obtain ⟨z1, z2⟩ := hf2 z
              refine ⟨z1, fun q hq => ?_⟩
              rw [take_more hxi] at hq
              rcases List.mem_append.mp hq with u | u
              · exact z2 q u
              · rw [List.mem_singleton] at u
                subst u
                rw [← z1, e1, e2]
                intro u
                rw [himp (Option.some.inj u)]
            refine ⟨_, rfl, _, rfl, p, _, _, _, rfl, rfl, SqT.of hp, rfl, D, _, _, _, rfl, rfl, SqL.of G2.2, atI_nat (get_map e1), _, rfl, ?_⟩
            cases b1 with
            | false => exact iteF (iteF (next gr rfl (fun z => nomatch z)))
            | true =>
              refine iteT ⟨_, rfl, _, rfl, p, _, _, _, rfl, rfl, SqT.of hp, rfl, D, _, _, _, rfl, rfl, SqL.of G2.2, atI_nat (get_map e2), _, rfl, ?_⟩
              cases b2 with
              | true => exact iteF (next gr rfl (fun _ => rfl))
              | false =>
                refine iteT ⟨_, rfl, _, rfl, p, _, _, _, rfl, rfl, SqT.of hp, rfl, D, _, _, x.2.2, rfl, rfl, G2.2, ixN_nat (by rw [List.length_map]; omega), ?_⟩
                have hcs := cf_set e2
                refine ⟨c2.set x.2.2 true, true, _, _, by rw [List.length_set]; exact hl2, ?_, fun s hs => ?_, (fun z => nomatch z), fun _ => by omega, by omega, rfl, GrowV.eq G2.put (by rw [List.map_set])⟩
                · by_cases q : x.2.2 = 0
                  · rw [q] at e2; rw [e2] at h02; cases h02
                  · rw [List.getElem?_set_ne q]; exact h02
                · by_cases q : x.2.2 = s
                  · rw [← q]; exact .step (get_mem hxi) (hs2 _ e1)
                  · rw [List.getElem?_set_ne q] at hs; exact hs2 s hs
          · rintro σ H2 ⟨c2, gr, v1, v2, hl2, h02, hs2, hf2, ht2, hle2, rfl, G2⟩
            rw [hl, List.take_length] at hf2
            refine ⟨2 * cf c2 + (if gr = true then 1 else 0), ?_, c2, gr, v1, v2, rfl, hl2, h02, hs2, fun z => ?_, rfl, G2⟩
            · cases gr with
              | true => have := ht2 rfl; simp; omega
              | false => simp; omega
            · obtain ⟨z1, z2⟩ := hf2 z
              rw [z1]; exact z2
end
end Rn
namespace Rn
open PySem PySem.Spec PyProof.Rows L2
open Sq64 (States Marking Arc)

/-! ### rules of my own: xs.extend(a tuple) -/
section
variable {X : Cx}
def rExtT (K : PySem.W.Frag) : V → List V → Hp → VK → Prop := fun x vs H Q => ∃ l b xs zs, x = .ref l ∧ vs = [.ref b] ∧ H l = some (.lst xs) ∧ H b = some (.tup zs) ∧ xs.length + zs.length ≤ sizeLine ∧ Q .non (upd H l (.lst (xs ++ zs)))
theorem mt_extendT : MtR X "list.extend" (rExtT X.K) := by
  intro pins s σ H x vs v us Q I rx rv h
  obtain ⟨l, b, xs, zs, rfl, rfl, hl, hb, hz, q⟩ := h
  cases rx
  obtain ⟨u, rfl, ru⟩ := rv.one
  cases ru
  obtain ⟨z, its, n, r, el, e⟩ := I.lstM hl
  obtain ⟨z2, its2, r2, o2, g2, c2, n2, d2⟩ := I.hok b _ hb
  have el2 := r2.length
  have hsum : its.toArray.size + its2.toArray.size ≤ sizeLine := by simp only [List.size_toArray]; omega
  have short : ¬ (!its.toArray.isEmpty && Builtin.List.listTooLong (its.toArray.size + its2.toArray.size)) = true := by
    rw [notLongL hsum, Bool.and_false]; exact Bool.false_ne_true
  have hTl : s.TypeIs (.ref l) "list" := ⟨_, e, rfl⟩
  have hTb : s.TypeIs (.ref b) "tuple" := ⟨_, g2, c2⟩
  refine wpAny_call_entry F.slot_list_extend hTl F.entry_list_extend ?_ (F.args_list_extend_2 _ _)
  unfold Builtin.«list.extend»
  refine wpAny_bind (wpAny_of_eq (a := (Value.ref l, Value.ref b)) rfl ?_)
  show wpAny _ _ (Builtin.List.listExtendWith (.ref l) (.ref b) .none) _ _ s
  unfold Builtin.List.listExtendWith
  refine wpAny_bind (wpAny_typeOf hTb ?_)
  rw [if_pos (by simp)]
  refine wpAny_bind ?_
  unfold Builtin.List.listItems
  refine wpAny_bind (wpAny_seqItems g2 d2 (wpAny_pure ?_))
  refine wpAny_bind (wpAny_bind (wpAny_seqItems e rfl (wpAny_pure ?_)))
  rw [if_neg short]
  refine wpAny_bind (wpAny_updateSeq (hz := by rw [List.size_toArray]; omega) e rfl ?_)
  refine wpAny_pure ⟨_, rfl, .non, _, I.lset (its' := its ++ its2) hl e (by simp) (r.append r2) ?_, rfl, q⟩
  rw [List.length_append]
  omega
end
/-! ### {a tuple: a value} -/
section
variable {X : Cx}
def tDispT (tk tv : TE) : TE := fun σ H Q => ∀ p, H p = none → tPairs [(tk, tv)] σ (upd H p (.dT [])) fun ps H2 => ∃ k b v, ps = [(V.ref b, v)] ∧ H2 b = some (.tup (k.map kV)) ∧ H2 p = some (.dT []) ∧ Q (.ref p) (upd H2 p (.dT [(k, v)]))
theorem pe_dispT {pos : Pos} {ke ve : Expr} {tk tv : TE} (hu : X.A.units + 1 < cLine) (hk : PE X ke tk) (hv : PE X ve tv) : PE X (.Dict [some ke] [ve] pos) (tDispT tk tv) := by
  refine ⟨fun pins s σ H Q I q => ?_⟩
  have new := I.hok.fresh (Nat.le_refl s.heap.objs.size)
  have I0 := I.laid (a := s.heap.objs.size) (o := .dT []) (h' := s.heap.push { cls := .type "dict", data := .dict #[] }) (t' := s.toks) (fun _ _ z => Heap.get?_push_of_some _ z) (Nat.le_refl _) (dt_empty s.heap I.big)
  have two : PPs X pos [some ke] [ve] [(tk, tv)] := pps_cons hk hv pps_nil
  rw [arm_eval_Dict, zip_pairTrees [some ke] [ve] X.env pos rfl rfl, dictDisplay_pairs (pairTrees [some ke] [ve] X.env pos) (fun z => nomatch z) (by show 1 < 17; decide)]
  refine wpAny_bind (wpAny_standAt (wpAny_bind ?_))
  refine wpAny_subDictH (knd := tupleKind (mixKind X.prog X.w)) (show X.A.units < cLine by omega) (by show 1 ≤ 15; decide) ?_
  refine thn (two.run pins _ σ _ _ I0 (q _ new)) ?_
  · rintro ws s2 ⟨ps, H2, I2, rel, k, b, v, rfl, hb, hp, q2⟩
    cases rel with
    | cons r1 r2 =>
      cases r2
      rename_i w0
      obtain ⟨kv, vv⟩ := w0
      obtain ⟨rk, rv⟩ := r1
      obtain rfl : kv = Value.ref b := rk
      obtain ⟨z, hd, xs0, rel0, dd⟩ := dt_of I2.hok hp
      cases rel0
      refine ⟨[(k, b, vv)], ⟨rfl, rfl, key_of I2.hok hb, trivial⟩, dd, fun h' tk dd' hs => wpAny_pure ⟨.ref s.heap.objs.size, _, ?_, rfl, q2⟩⟩
      obtain ⟨o, es, ep, ho, h2, h3, h4, _, h5⟩ := dd'
      refine d_write I2 (by rw [hp]; exact True.intro) hs ⟨o, ho⟩ ⟨by show 1 ≤ sizeLine; decide, hd, [(k, b, vv)], ?_, o, es, ep, ho, h2, h3, h4, h5⟩
      refine .cons ⟨rfl, ?_, rv⟩ .nil
      rw [upd_ne (ne_of hb hp (fun z => nomatch z))]
      exact hb
end
/-! ### list(reversed(a list)) -/
section
variable {prog : Program} {w : World} {A : Around} {E : Value → Shared → Prop} {s : Shared}
theorem ext_rev {it l S : Addr} {items : Array Value} {c0 : Nat} {R : Result → Shared → Prop} (hh : A.handled = none) (hit : s.heap.IsRevIter it l ((items.size : Int) - 1)) (hl : s.heap.IsList l items) (hne : l ≠ it) (hn : items.size ≤ sizeLine)
    (hSi : S ≠ it) (hSl : S ≠ l) (hS : s.heap.get? S = some { cls := .type "list", data := .seq #[] c0 })
    (hR : ∀ h' tk acc c', (∀ b o, b ≠ S → b ≠ it → s.heap.get? b = some o → h'.get? b = some o) → h'.get? S = some { cls := .type "list", dict := none, data := .seq acc c', slots := #[] } →
      ItemsOf (fun i v => items[items.size - 1 - i]? = some v) acc items.size → R (.ok (.ret .none)) { s with heap := h', toks := tk }) :
    wpAny (model prog w) A.in1 (Builtin.List.listExtendWith (.ref S) (.ref it) .none)
      (fun fin s' => match fin with | .done f => R (.ok f) s' | .again c' => c'.quiet = true ∧ codeAny (model prog w) A c' R s') (fun e s' => R (.error e) s') s := by
  have W := (Walks.listRev (prog := prog) (w := w) (A := A.in1) hh it l hne items).toS
  have away : S ∉ [it, l] := by simp [hSi, hSl]
  have ty : s.TypeIs (.ref it) "list_reverseiterator" := hit.typeIs
  have other : Builtin.List.listSameRef (.ref S) (.ref it) = false := by simp [Builtin.List.listSameRef, hSi]
  unfold Builtin.List.listExtendWith
  refine wpAny_bind (wpAny_typeOf ty ?_); rw [if_neg (by rw [other]; decide)]
  refine wpAny_bind (wpAny_pyIter_revIter hit ?_); refine wpAny_bind (wpAny_holding ?_)
  unfold Builtin.List.listLengthHint
  refine wpAny_bind (wpAny_specialOf ty RT.nolen_lri ?_)
  show wpAny _ A.in1 (specialOf (Value.ref it) (Str.ofString "__length_hint__") >>= _) _ _ s
  refine wpAny_bind (wpAny_specialOf ty RT.hint_lri ?_)
  generalize enm : ("list_reverseiterator.__length_hint__" : String) = nm
  wp_delta
  rw [show splitId nm = some ("list_reverseiterator", "__length_hint__") from by subst enm; decide +kernel]
  subst enm
  refine wpAny_bind (wpAny_isInstance (b := true) ty (by rw [isSubtype_type]; kernel_rfl) ?_); refine wpAny_pure ?_
  rw [if_neg (by decide)]
  have z0 : ((items.size : Nat) : Int) - 1 - ((0 : Nat) : Int) = (items.size : Int) - 1 := by omega
  refine wpAny_pure ⟨plainId_quiet F.plain_extend_loop _, codeAny_extend_loopS W hn S away .none items.size 0 s #[] c0 rfl (Nat.zero_le _) ⟨Nat.zero_le _, by rw [z0]; exact hit, hl⟩ hS (ItemsOf.nil _) fun s' acc c' hm hS' hacc => ?_⟩
  rw [Moved.eq_with hm]
  refine hR s'.heap s'.toks acc c' (fun b o hb hb2 e => hm.heap b o (fun z => ?_) e) hS' hacc
  rcases List.mem_cons.mp z with e' | e'
  · exact hb e'
  · exact hb2 (List.mem_singleton.mp e')
theorem call_list_rev {it l : Addr} {items : Array Value} {Q : Value → Shared → Prop} (hh : A.handled = none) (hit : s.heap.IsRevIter it l ((items.size : Int) - 1)) (hl : s.heap.IsList l items) (hne : l ≠ it) (hn : items.size ≤ sizeLine)
    (hQ : ∀ h' tk acc c', (∀ b o, b ≠ it → s.heap.get? b = some o → h'.get? b = some o) → h'.get? s.heap.objs.size = some { cls := .type "list", dict := none, data := .seq acc c', slots := #[] } →
      ItemsOf (fun i v => items[items.size - 1 - i]? = some v) acc items.size → Q (.ref s.heap.objs.size) { s with heap := h', toks := tk }) :
    wpAny (model prog w) A (call (.type "list") [.ref it]) Q E s := by
  obtain ⟨oi, hoi, _⟩ := id hit
  obtain ⟨ol, hol, _⟩ := id hl
  refine callType_codes (Q₁ := fun obj s₁ => obj = .ref s.heap.objs.size ∧ s₁ = { s with heap := s.heap.push { cls := .type "list", data := .seq #[] } }) F.called_list (F.typeCall_list_1 _) F.entry_list_init (code_list_new _ ⟨rfl, rfl⟩) fun obj s₁ h₁ => ?_
  obtain ⟨rfl, rfl⟩ := h₁
  have hS : (s.heap.push { cls := .type "list", data := .seq #[] }).get? s.heap.objs.size = some { cls := .type "list", data := .seq #[] } := Heap.get?_push_size _ rfl
  refine ⟨⟨_, hS, rfl⟩, F.args_list_init_2 _ _, ?_⟩
  show wpAny _ _ (do let old ← Builtin.List.listItems (.ref s.heap.objs.size); Builtin.List.listUpdate (.ref s.heap.objs.size) (fun _ => #[]); letGo old.toList.reverse; Builtin.List.listExtendWith (.ref s.heap.objs.size) (.ref it) .none) _ _ _
  refine wpAny_bind ?_; unfold Builtin.List.listItems
  refine wpAny_bind (wpAny_seqItems hS rfl (wpAny_pure ?_))
  show wpAny _ _ (updateSeq s.heap.objs.size (fun _ => #[]) >>= fun _ => letGo (#[] : Array Value).toList.reverse >>= fun _ => Builtin.List.listExtendWith (.ref s.heap.objs.size) (.ref it) .none) _ _ _
  refine wpAny_bind (wpAny_updateSeq hS rfl ?_)
  have hS2 := Heap.get?_update_self (Obj.mapSeq (fun _ => (#[] : Array Value))) hS rfl
  have keep : ∀ b o, b ≠ s.heap.objs.size → s.heap.get? b = some o → ((s.heap.push { cls := .type "list", data := .seq #[] }).update s.heap.objs.size (Obj.mapSeq (fun _ => (#[] : Array Value)))).get? b = some o :=
    fun b o hb e => (Heap.get?_update_other _ _ (Ne.symm hb)).trans (Heap.get?_push_of_some _ e)
  have ni : s.heap.objs.size ≠ it := Nat.ne_of_gt (Heap.lt_size hoi)
  have nl : s.heap.objs.size ≠ l := Nat.ne_of_gt (Heap.lt_size hol)
  refine wpAny_bind (wpAny_letGo ?_)
  refine ext_rev (A := A.in1) hh (hit.at fun o e => keep it o (Ne.symm ni) e) ?_ hne hn ni nl hS2 fun h' tk acc c' hk hS' hacc => ?_
  · obtain ⟨o, ho, hc, n, hd⟩ := hl
    exact ⟨o, keep l o (Ne.symm nl) ho, hc, n, hd⟩
  · exact ⟨rfl, hQ h' tk acc c' (fun b o hb e => hk b o (Nat.ne_of_lt (Heap.lt_size e)) hb (keep b o (Nat.ne_of_lt (Heap.lt_size e)) e)) hS' hacc⟩
end
section
variable {X : Cx}
def tListRev (K : PySem.W.Frag) (te : TE) : TE := fun σ H Q => te σ H fun v H1 => ∃ (a : Addr) (xs : List V), v = .ref a ∧ SqL K H1 a xs ∧ ∀ q, H1 q = none → Q (.ref q) (upd H1 q (.lst xs.reverse))
theorem pe_listRev {e : Expr} {te : TE} {p p2 pos pos2 : Pos} (hc : X.calm = true) (hg : Gl X "list") (hm : X.mg "list" = none) (hg2 : Gl X "reversed") (hm2 : X.mg "reversed" = none) (he : PE X e te)
    (hs : starEach [e] X.env = (false, eval e X.env) :: starEach [] X.env := by rfl)
    (hs2 : starEach [.Call (.Name "reversed" p2) [e] [] pos2] X.env = (false, eval (.Call (.Name "reversed" p2) [e] [] pos2) X.env) :: starEach [] X.env := by rfl) :
    PE X (.Call (.Name "list" p) [.Call (.Name "reversed" p2) [e] [] pos2] [] pos) (tListRev X.K te) := by
  refine ⟨fun pins s σ H Q I h => ?_⟩
  refine Call_ (ld_blt I hg hm (by decide +kernel : bootBuiltins "list" = some (.type "list")) (PyProof.Rows.callWith_type1 (args_cons ?_ hs2) hs2 rfl))
  refine Call_ (ld_blt I hg2 hm2 PyProof.Rows.boot_reversed (PyProof.Rows.callWith_type1 (args_cons (thn (he.run pins s σ H _ I h) fun u s1 ⟨v, H1, I1, r1, q1⟩ => args_nil ?_) hs) hs rfl))
  obtain ⟨a, xs, rfl, hq, q⟩ := q1
  obtain rfl : u = Value.ref a := r1
  obtain ⟨its, rv, pl, hz⟩ := I1.list hq
  refine call_reversed_list pl.isList (args_nil ?_)
  have isl := pl.isList
  obtain ⟨ol, hol, _⟩ := id isl
  have far : a ≠ s1.heap.objs.size := Nat.ne_of_lt (Heap.lt_size hol)
  have hn : its.toArray.size ≤ sizeLine := by rw [List.size_toArray, ← rv.length]; exact hz
  refine call_list_rev (s := { s1 with heap := s1.heap.push (revObj a ((its.toArray.size : Int) - 1)) }) (I1.ok.hd hc) ⟨_, Heap.get?_push_size _ rfl, rfl, rfl⟩ (isl.push _) far hn fun h' tk acc c' hk hg' hi => ?_
  have kp : ∀ b o, s1.heap.get? b = some o → h'.get? b = some o := fun b o e => hk b o (Nat.ne_of_lt (Heap.lt_size e)) (Heap.get?_push_of_some _ e)
  have big : s1.heap.objs.size ≤ (s1.heap.push (revObj a ((its.toArray.size : Int) - 1))).objs.size := by rw [Heap.size_push]; exact Nat.le_succ _
  refine ⟨.ref _, upd H1 _ (.lst xs.reverse), I1.laid (t' := tk) kp big ⟨by rw [List.length_reverse]; exact hz, acc.toList, c', RT.vals_rev rv hi, ?_⟩, rfl, q _ (I1.hok.fresh big)⟩
  rw [Array.toArray_toList]
  exact hg'
end
end Rn
namespace Rn
open PySem PySem.Spec PyProof.Rows L2
open Sq64 (States Marking Arc)

/-! ### len(set(a list)): how many different ones -/
section
variable {P : Program} {w : World} {A : Around} {E : Value → Shared → Prop} {s : Shared}
/-- the loop that puts a list's tuples into a set; what bounds it is how many are different -/
theorem fill_tups {I : Addr} {fp wr : List Addr} {G : Array GenState → Array GenState → Prop} {n : Nat} {Pv : Nat → Value → Prop} {St : Nat → Shared → Prop} {R : Result → Shared → Prop}
    (W : WalksS P w A.in1 I fp wr G n Pv St) (S : Addr) (off : S ∉ fp) (ks : List (Addr × List Int)) (few : ∀ L : List (Addr × List Int), (L.map (·.2)).Nodup → (∀ p ∈ L, p ∈ ks) → L.length < 63) (val : ∀ i v, Pv i v → ∃ p, ks[i]? = some p ∧ v = .ref p.1)
    (hp0 : Heap) (tup : ∀ p ∈ ks, IsT P w hp0 p.2 p.1) (noS : hp0.get? S = none) (noW : ∀ b ∈ wr, hp0.get? b = none) (un : A.in1.units < cLine) :
    ∀ (m i : Nat) (s : Shared), n - i = m → i ≤ n → St i s → (∀ b o, hp0.get? b = some o → s.heap.get? b = some o) → (∃ L es ep t, SetTR P w s.heap S L es ep t ∧ Got ks i L) →
      (∀ s' L es ep t, Moved (S :: wr) G s s' → SetTR P w s'.heap S L es ep t → Got ks n L → (∀ b o, hp0.get? b = some o → s'.heap.get? b = some o) → R (.ok (.ret .none)) s') →
      codeAny (model P w) A (.builtin "set.update.loop" ⟨[.ref S, .ref I], []⟩) R s := by
  have offW : S ∉ wr := fun z => off (W.sub _ z)
  have inS : ∀ b ∈ wr, b ∈ S :: wr := fun b hb => List.mem_cons_of_mem _ hb
  have stand : ∀ {s s' : Shared}, Moved wr G s s' → (∀ b o, hp0.get? b = some o → s.heap.get? b = some o) → ∀ b o, hp0.get? b = some o → s'.heap.get? b = some o :=
    fun mv st b o e => mv.heap b o (fun hb => by rw [noW b hb] at e; cases e) (st b o e)
  intro m; induction m with
  | zero =>
    intro i s em hi st kp ⟨L, es, ep, t, T0, got⟩ fin
    obtain rfl : i = n := by omega
    refine codeAny_builtin F.entry_set_update_loop ?_; rw [Around.under_plainId F.plain_set_update_loop _]
    show wpAny _ A.in1 (pyNext (.ref I) >>= _) _ _ s; refine wpAny_bind (W.done s _ _ st fun s' mv => ?_)
    have kp' := stand mv kp
    show wpAny _ A.in1 (ret Value.none) _ _ s'
    exact wpAny_pure (fin s' L es ep t (mv.mono inS) (T0.keep (fun o e => mv.heap S o offW e) fun p hp => isT_keep (tup p (List.mem_of_mem_take (got.sub p hp))) kp') got kp')
  | succ m ih =>
    intro i s em hi st kp ⟨L, es, ep, t, T0, got⟩ fin
    have lt : i < n := by omega
    refine codeAny_builtin F.entry_set_update_loop ?_; rw [Around.under_plainId F.plain_set_update_loop _]
    show wpAny _ A.in1 (pyNext (.ref I) >>= _) _ _ s; refine wpAny_bind (W.item i s _ _ lt st fun v s' hv st' mv => ?_)
    obtain ⟨p, hp, rfl⟩ := val i v hv
    have kp' := stand mv kp
    have subs : ∀ p ∈ L, p ∈ ks := fun p hp => List.mem_of_mem_take (got.sub p hp)
    have T1 : SetTR P w s'.heap S L es ep t := T0.keep (fun o e => mv.heap S o offW e) fun q hq => isT_keep (tup q (subs q hq)) kp'
    have tp : IsT P w s'.heap p.2 p.1 := isT_keep (tup p (List.mem_of_getElem? hp)) kp'
    show wpAny _ A.in1 (holding [Value.ref p.1] (setAdd S (.ref p.1)) >>= _) _ _ s'; refine wpAny_bind (wpAny_holding ?_)
    unfold setAdd; refine wpAny_holding ?_; refine wpAny_bind (wpAny_pyHash_tuple un tp ?_)
    refine add_at (s := { s' with toks := s'.toks + (p.2.length + 1) }) T1 tp un (by have := few L T1.nd subs; omega) fun b h' L' es' ep' t' sb T2 c1 c2 => ?_
    have got' : Got ks (i + 1) L' := by
      by_cases c : p.2 ∈ L.map (·.2)
      · rw [c1 c]; exact got.same hp c
      · exact got.more hp (c2 c)
    have kp2 : ∀ b o, hp0.get? b = some o → h'.get? b = some o := fun b o e => (sb.2 b (fun z => by rw [z, noS] at e; cases e)).trans (kp' b o e)
    refine wpAny_pure ⟨plainId_quiet F.plain_set_update_loop _, ih (i + 1) _ (by omega) lt (W.frame _ s' _ _ st' (Nat.le_add_right _ _) fun b hb o e => ?_) kp2 ⟨L', es', ep', t', T2, got'⟩ fun s2 L2 es2 ep2 t2 mv2 T3 got2 kp3 => ?_⟩
    · rw [sb.2 b (fun z : b = S => off (z ▸ hb))]; exact e
    · refine fin s2 L2 es2 ep2 t2 (Moved.trans W.gtrans ((mv.mono inS).then_heap (Nat.le_add_right _ _) fun b o hb e => ?_) mv2) T3 got2 kp3
      rw [sb.2 b (fun z : b = S => hb (by rw [z]; exact List.mem_cons_self))]; exact e
abbrev set0 (w : World) : Obj := { cls := .type "set", dict := none, data := .set #[] 0 (.fresh 0 0 (!w.params.followText "set-order")) }
set_option maxHeartbeats 8000000 in
theorem call_set_few {l : Addr} {items : Array Value} (ks : List (Addr × List Int)) {Q : Value → Shared → Prop} (hh : A.handled = none) (hl : s.heap.IsList l items) (hit : items.toList = ks.map fun p => Value.ref p.1)
    (tup : ∀ p ∈ ks, IsT P w s.heap p.2 p.1) (few : ∀ L : List (Addr × List Int), (L.map (·.2)).Nodup → (∀ p ∈ L, p ∈ ks) → L.length < 63) (un : A.units + 3 < cLine)
    (h : ∀ (h' : Heap) (tk : Nat) L es ep t, SetTR P w h' s.heap.objs.size L es ep t → Got ks ks.length L → (∀ b o, s.heap.get? b = some o → h'.get? b = some o) → Q (.ref s.heap.objs.size) { s with heap := h', toks := tk }) :
    wpAny (model P w) A (call (.type "set") [.ref l]) Q E s := by
  have sz : items.size = ks.length := by
    have z := congrArg List.length hit
    rw [Array.length_toList, List.length_map] at z; exact z
  obtain ⟨c, tl, hmro⟩ := F.called_set.mro
  have hmade := F.called_set.made; have hsub := F.called_set.sub
  refine wpAny_call (codeAny_of_tree ?_); show wpAny _ _ (callAny (.type "set") _) _ _ _
  refine wpAny_pure ⟨Code.quiet_builtin _ (by decide +kernel), codeAny_builtin F.entry_type_call ?_⟩; rw [Around.under_plain (weight_type_call_type "set" [.ref l] []) rfl]
  have h1 := F.called_set.notType; have h2 := F.called_set.canCreate; have hct := F.typeCall_set_1 (.ref l)
  repeat (any_goals (first | assumption | wp_step))
  refine codeAny_mono (code_set_led1 (.ref l) (E := E) (Q₁ := fun obj s₁ => obj = .ref s.heap.objs.size ∧ s₁ = { s with heap := s.heap.push (set0 w) }) ⟨rfl, rfl⟩) fun r s₁ hr => ?_
  cases r with
  | error e => exact hr
  | ok fl =>
    cases fl with
    | ret obj =>
      obtain ⟨rfl, rfl⟩ := hr
      have nw : (s.heap.push (set0 w)).get? s.heap.objs.size = some (set0 w) := Heap.get?_push_size _ rfl
      have hT : Shared.TypeIs { s with heap := s.heap.push (set0 w) } (.ref s.heap.objs.size) "set" := ⟨_, nw, rfl⟩
      have hli := F.called_set.init.lookup; have hbi := F.called_set.init.bind (.ref s.heap.objs.size)
      repeat (any_goals (first | assumption | wp_step))
      refine codeAny_mono (codeAny_call_builtin (R := wants (fun r s₂ => r = .none ∧ ∃ h' tk L es ep t, s₂ = { s with heap := h', toks := tk } ∧ SetTR P w h' s.heap.objs.size L es ep t ∧ Got ks ks.length L ∧ (∀ b o, s.heap.get? b = some o → h'.get? b = some o)) E) F.called_set.init.plain F.entry_set_init (check_set_init_1 hT ?_)) fun r₂ s₂ hr₂ => ?_
      · obtain ⟨ol, hol, hcl, nl, hdl⟩ := hl
        obtain ⟨ocls, odict, odata, oslots⟩ := ol
        simp only at hcl hdl
        subst hcl; subst hdl
        have hol' : (s.heap.push (set0 w)).get? l = some { cls := .type "list", dict := odict, data := .seq items nl, slots := oslots } := Heap.get?_push_of_some _ hol
        have hsls := F.sub_list_set; have hslf := F.sub_list_frozenset
        have hne : (Value.type "list" == Value.type "dict") = false := by decide
        have il : (s.heap.push (set0 w)).IsList l items := ⟨_, hol', rfl, nl, rfl⟩
        unfold Builtin.«set.__init__» noKeywords Builtin.Frozenset.updateFrom
        generalize hPI : pyIter = PI
        wp_walk
        subst hPI
        refine wpAny_pyIter_list il ?_; refine wpAny_bind (wpAny_runValue ?_)
        have lS : l < s.heap.objs.size := Heap.lt_size hol
        have hh3 : A.in1.in1.in1.handled = none := by simp [hh]
        have neI : l ≠ (s.heap.push (set0 w)).objs.size := by rw [Heap.size_push]; exact Nat.ne_of_lt (Nat.lt_succ_of_lt lS)
        have off : s.heap.objs.size ∉ [(s.heap.push (set0 w)).objs.size, l] := by
          rw [Heap.size_push]; intro z
          rcases List.mem_cons.mp z with z | z
          · exact Nat.ne_of_lt (Nat.lt_succ_self _) z
          · exact Nat.ne_of_gt lS (List.mem_singleton.mp z)
        have val : ∀ (i : Nat) (v : Value), items[i]? = some v → ∃ p, ks[i]? = some p ∧ v = .ref p.1 := fun i v hv => by
          have z : items.toList[i]? = some v := by rw [Array.getElem?_toList]; exact hv
          rw [hit] at z
          exact map_get z
        have gone : ∀ b, s.heap.objs.size ≤ b → s.heap.get? b = none := fun b hb => by
          cases z : s.heap.get? b with
          | none => rfl
          | some o => exact absurd (Nat.lt_of_lt_of_le (Heap.lt_size z) hb) (Nat.lt_irrefl _)
        refine fill_tups ((Walks.list hh3 _ l neI items).toS) s.heap.objs.size off ks few val s.heap tup (gone _ (Nat.le_refl _)) (fun b hb => gone b (by rw [List.mem_singleton.mp hb, Heap.size_push]; exact Nat.le_succ _)) un (items.size - 0) 0 _ (by omega) (Nat.zero_le _)
          ⟨⟨_, Heap.get?_push_size _ rfl, rfl, rfl⟩, (il.push _)⟩ (fun b o e => Heap.get?_push_of_some _ (Heap.get?_push_of_some _ e)) ?st ?fin
        case st => exact ⟨[], #[], 0, _, setTR_fresh (Heap.get?_push_of_some _ nw), Got.zero ks⟩
        case fin =>
          intro s' L es ep t mv T1 got kp
          obtain ⟨h', g2, d', tk', os'⟩ := s'
          obtain rfl : g2 = s.gens := mv.gens
          obtain rfl : d' = s.drawn := mv.drawn
          obtain rfl : os' = s.os := mv.os
          show wpAny _ _ _ _ _ _; refine wpAny_pure ?_; show wpAny _ _ (ret Value.none) _ _ _
          rw [sz] at got
          exact wpAny_pure ⟨rfl, h', tk', L, es, ep, t, rfl, T1, got, kp⟩
      · cases r₂ with
        | error e => exact hr₂
        | ok fl₂ =>
          cases fl₂ with
          | ret r =>
            obtain ⟨rfl, h', tk, L, es, ep, t, rfl, T1, got, kp⟩ := hr₂
            repeat (any_goals (first | assumption | wp_step))
            exact h _ _ _ _ _ _ T1 got kp
          | _ => exact hr₂.elim
    | _ => exact hr.elim
end
section
variable {X : Cx}
/-- len(set(xs)), xs a list of tuples of ints, few of them different -/
def tLenSetT (K : PySem.W.Frag) (ta : TE) : TE := fun σ H Q => ta σ H fun x H1 => ∃ (l : Addr) (ks : List (Addr × List Int)), x = .ref l ∧ SqL K H1 l (ks.map fun p => V.ref p.1) ∧ (∀ p ∈ ks, SqT K H1 p.1 (p.2.map V.int)) ∧
  (distinct (ks.map (·.2))).length < 63 ∧ Q (.int ((distinct (ks.map (·.2))).length : Nat)) H1
theorem pe_lenSetT {a : Expr} {ta : TE} {p p2 q pos : Pos} {k : Nat} (hr : Room k X.A) (hc : X.calm = true) (hg : Gl X "len") (hm : X.mg "len" = none) (hg2 : Gl X "set") (hm2 : X.mg "set" = none) (ha : PE X a ta)
    (na : starEach [a] X.env = (false, eval a X.env) :: starEach [] X.env := by rfl) : PE X (.Call (.Name "len" p) [.Call (.Name "set" p2) [a] [] q] [] pos) (tLenSetT X.K ta) := by
  refine ⟨fun pins s σ H Q I h => ?_⟩
  refine Call_ (ld_blt I hg hm boot_len (PyProof.Rows.callWith_builtin1 (PyProof.Rows.args_cons ?_ rfl) rfl rfl))
  refine Call_ (ld_blt I hg2 hm2 boot_set (PyProof.Rows.callWith_type1 (PyProof.Rows.args_cons (thn (ha.run pins s σ H _ I h) fun v s1 ⟨x, H1, I1, r1, q1⟩ => PyProof.Rows.args_nil ?_) na) na rfl))
  obtain ⟨l, ks, rfl, hl, hk, hf, q1⟩ := q1
  cases r1
  obtain ⟨its, rv, pl, hz⟩ := I1.list hl
  have few : ∀ L : List (Addr × List Int), (L.map (·.2)).Nodup → (∀ p ∈ L, p ∈ ks) → L.length < 63 := fun L nd sub => by
    have z := nodup_len (m := distinct (ks.map (·.2))) nd fun y hy => by
      obtain ⟨p, hp, rfl⟩ := List.mem_map.mp hy
      exact mem_distinct.mpr (List.mem_map.mpr ⟨p, sub p hp, rfl⟩)
    rw [List.length_map] at z; omega
  refine call_set_few (P := X.prog) (w := X.w) ks (I1.ok.hd hc) pl.isList (by simpa using refs_of_vals rv) (fun p hp => I1.isT (hk p hp)) few (by have := hr.un; omega) fun h' tk L es ep t R g kp => ?_
  refine PyProof.Rows.args_nil ?_
  have I2 : Inv X pins σ H1 { s1 with heap := h', toks := tk } := I1.kept fun b o e => kp b o e
  have len : L.length = (distinct (ks.map (·.2))).length := by
    have z := distinct_len (l := ks.map (·.2)) R.nd fun y => ⟨fun hy => ?_, fun hy => ?_⟩
    · rw [List.length_map] at z; exact z
    · obtain ⟨p, hp, rfl⟩ := List.mem_map.mp hy
      exact List.mem_map.mpr ⟨p, List.mem_of_mem_take (g.sub p hp), rfl⟩
    · obtain ⟨p, hp, rfl⟩ := List.mem_map.mp hy
      exact g.all p (by rw [List.take_length]; exact hp)
  obtain ⟨o, ho, hex, hd⟩ := R.ob
  have es_len : es.size = L.length := SetTR.size (s := { s1 with heap := h', toks := tk }) R
  refine call_len_set ho hex hd (SetTR.fits (s := { s1 with heap := h', toks := tk }) R) (by rw [es_len]; omega) ⟨.int ((distinct (ks.map (·.2))).length : Nat), H1, I2.tok _, ⟨_, by rw [es_len, len]⟩, q1⟩
/-- len(set(xs)), xs a list of ints -/
def tLenSetD (K : PySem.W.Frag) (ta : TE) : TE := fun σ H Q => ta σ H fun x H1 => ∃ (l : Addr) (ns : List Int), x = .ref l ∧ SqL K H1 l (ns.map V.int) ∧ ns.length ≤ 4000 ∧ Q (.int ((distinct ns).length : Nat)) H1
theorem met_nodup (l : List Int) : ∀ acc : List Int, acc.Nodup → (l.foldl PyProof.Rows.step_dedup acc).Nodup ∧ ∀ x, x ∈ l.foldl PyProof.Rows.step_dedup acc ↔ x ∈ acc ∨ x ∈ l := by
  induction l with
  | nil => intro acc h; exact ⟨h, fun x => by simp⟩
  | cons a l ih =>
    intro acc h
    rw [List.foldl_cons]
    unfold PyProof.Rows.step_dedup at ih ⊢
    split
    · rename_i c
      have ha : a ∈ acc := by
        obtain ⟨y, hy, e⟩ := List.any_eq_true.mp c
        exact eq_of_beq e ▸ hy
      obtain ⟨z1, z2⟩ := ih acc h
      refine ⟨z1, fun x => (z2 x).trans ⟨fun q => q.imp_right (List.mem_cons_of_mem _), fun q => q.elim Or.inl fun z => ?_⟩⟩
      rcases List.mem_cons.mp z with e | e
      · exact Or.inl (e ▸ ha)
      · exact Or.inr e
    · rename_i c
      have ha : a ∉ acc := fun z => c (List.any_eq_true.mpr ⟨a, z, beq_self_eq_true a⟩)
      obtain ⟨z1, z2⟩ := ih (acc ++ [a]) (by
        rw [List.nodup_append]
        refine ⟨h, List.nodup_cons.mpr ⟨List.not_mem_nil, List.nodup_nil⟩, fun x hx y hy e => ?_⟩
        rw [List.mem_singleton] at hy
        exact ha (hy ▸ e ▸ hx))
      refine ⟨z1, fun x => (z2 x).trans ?_⟩
      rw [List.mem_append, List.mem_singleton, List.mem_cons, or_assoc]
theorem met_len (ns : List Int) : (PyProof.Rows.firstMet (fun i => ns.getD i 0) ns.length).length = (distinct ns).length := by
  have e : (List.range ns.length).map (fun i => ns.getD i 0) = ns := by
    apply List.ext_getElem?
    intro i
    by_cases h : i < ns.length
    · rw [List.getElem?_map, List.getElem?_range h, List.getElem?_eq_getElem h]
      show some (ns.getD i 0) = _
      rw [List.getD_eq_getElem?_getD, List.getElem?_eq_getElem h]; rfl
    · rw [List.getElem?_eq_none (by simp; omega), List.getElem?_eq_none (by omega)]
  unfold PyProof.Rows.firstMet
  rw [e]
  obtain ⟨z1, z2⟩ := met_nodup ns [] List.nodup_nil
  exact distinct_len z1 fun x => (z2 x).trans (by simp)
theorem pe_lenSetD {a : Expr} {ta : TE} {p p2 q pos : Pos} (hc : X.calm = true) (hg : Gl X "len") (hm : X.mg "len" = none) (hg2 : Gl X "set") (hm2 : X.mg "set" = none) (ha : PE X a ta)
    (na : starEach [a] X.env = (false, eval a X.env) :: starEach [] X.env := by rfl) : PE X (.Call (.Name "len" p) [.Call (.Name "set" p2) [a] [] q] [] pos) (tLenSetD X.K ta) := by
  refine ⟨fun pins s σ H Q I h => ?_⟩
  refine Call_ (ld_blt I hg hm boot_len (PyProof.Rows.callWith_builtin1 (PyProof.Rows.args_cons ?_ rfl) rfl rfl))
  refine Call_ (ld_blt I hg2 hm2 boot_set (PyProof.Rows.callWith_type1 (PyProof.Rows.args_cons (thn (ha.run pins s σ H _ I h) fun v s1 ⟨x, H1, I1, r1, q1⟩ => PyProof.Rows.args_nil ?_) na) na rfl))
  obtain ⟨l, ns, rfl, hq, hf, q1⟩ := q1
  cases r1
  obtain ⟨its, r, pl, hz⟩ := I1.list hq
  have il : its.toArray.size = ns.length := by rw [List.size_toArray, ← r.length, List.length_map]
  refine call_set_list (I1.ok.hd hc) pl.isList (by simpa using RZ.intsAre_vals r) (by rw [il]; unfold scanBound; omega) fun h' tk hS hk => ?_
  refine PyProof.Rows.args_nil ?_
  rw [il, met_len] at hS
  obtain ⟨o, es, ep, t, ho, hex, hd, _, _, _, hfit, hn⟩ := hS
  have I2 : Inv X pins σ H1 { s1 with heap := h', toks := tk } := I1.kept fun b o e => hk b o (Heap.lt_size e) e
  have small := distinct_le ns
  exact call_len_set ho hex hd hfit (by rw [hn]; omega) ⟨.int ((distinct ns).length : Nat), H1, I2.tok _, ⟨_, by rw [hn]⟩, q1⟩
end
end Rn
namespace Rn
open PySem PySem.Spec PyProof.Rows L2
open Sq64 (States Marking Arc)

section
variable {P : Program} {w : World} {K : PySem.W.Frag} {mg : Str → Option Value} {base : Heap} {C : Cs}

/-! ### has_a_fork(arcs) -/
def pairI (q : Nat × Nat) : List Int := [(q.1 : Int), (q.2 : Int)]
theorem pairI_inj {p q : Nat × Nat} (h : pairI p = pairI q) : p = q := by
  obtain ⟨a, b⟩ := p
  obtain ⟨c, d⟩ := q
  simp only [pairI, List.cons.injEq, and_true] at h
  have h1 := Int.ofNat.inj h.1
  have h2 := Int.ofNat.inj h.2
  rw [h1, h2]
theorem nodup_inj {α β : Type} {f : α → β} (hf : ∀ a b, f a = f b → a = b) {l : List α} : (l.map f).Nodup ↔ l.Nodup := by
  unfold List.Nodup
  rw [List.pairwise_map]
  exact ⟨fun h => h.imp fun z e => z (by rw [e]), fun h => h.imp fun z e => z (hf _ _ e)⟩
def grid : List (List Int) := (List.range 9).flatMap fun (a : Nat) => (List.range 6).map fun (b : Nat) => [(a : Int), (b : Int)]
theorem grid_len : grid.length = 54 := by decide +kernel
theorem mem_grid {a b : Nat} (h1 : a < 9) (h2 : b < 6) : pairI (a, b) ∈ grid := by
  unfold grid
  rw [List.mem_flatMap]
  exact ⟨a, List.mem_range.mpr h1, List.mem_map.mpr ⟨b, List.mem_range.mpr h2, rfl⟩⟩
def prs (arcs : List Arc) : List (Nat × Nat) := arcs.map fun x => (x.1, x.2.1)
def spFork : Sp := fun vs H Q _ => ∃ (a : Addr) (arcs : List Arc), vs = [.ref a] ∧ LsOf Tup3 H a arcs ∧ arcs.length ≤ 400 ∧ (∀ x ∈ arcs, x.1 < 9 ∧ x.2.1 < 6) ∧ ∀ (H' : Hp) (b : Bool), Same H H' → (b = true ↔ ¬ (prs arcs).Nodup) → Q (.bl b) H'
theorem ok_has_a_fork (T : Txt K mg C) (h : At K mg "has_a_fork" (top 44) ["arcs"]) : Dfn P w K mg base 1 "has_a_fork" ["arcs"] spFork := by
  have sc : FnScope ["arcs", "arc"] ["arcs"] (defScope (top 44)) := ⟨rfl, rfl, rfl, by decide +kernel, rfl, by decide +kernel, by decide +kernel⟩
  refine Dfn.mk h sc (fun vs H Q E h => ?_) (fun f cdv A outer s H vs Q E hr h => ⟨_, (pss_one (ps_ret (pe_cmpR op_lt (pe_lenSetT hr rfl rfl T.len rfl T.set (pe_lc (own := [("arc", 1)]) (g := gName 1) rfl sc.nd (pi_list (pv 0)) (blkOk_by (own := [("arc", 1)]) (N := ["arcs", "arc"]) (sc := defScope (top 44)) (by decide +kernel)) (fun _ _ _ _ _ => pg_name (i := 1) sc.nd rfl (Or.inl rfl)) (fun _ _ _ _ _ => pts_nil) (fun _ _ _ _ _ => (pe_tup (pa_cons (pe_ix (ix_tupK (K := K) rfl) (pv 1) pe_int (fun _ _ => rfl)) (pa_cons (pe_ix (ix_tupK (K := K) rfl) (pv 1) pe_int (fun _ _ => rfl)) pa_nil)))))) (pe_callB call_len_seq (by rfl) T.len PySem.boot_len (pa_cons (pv 0) pa_nil)) (nomark _)))), ?_⟩)
  · obtain ⟨a, arcs, rfl, _⟩ := h; rfl
  · obtain ⟨a, arcs, rfl, ha, hfew, hin, k⟩ := h
    obtain ⟨vs, hv, hl, g1, g2⟩ := ha.get
    refine ⟨_, rfl, a, rfl, ⟨_, SqL.of hv⟩, fun D hD => lc_list (K := K) (a := a) (xs := vs) (fun i H' => Grow Tup2 H H' D (prs (arcs.take i))) (Grow.start hD) (fun i H' _ G => SqL.of (G.same _ _ hv)) ?_ ?_⟩
    · rintro i y H' hi G
      obtain ⟨p, x, rfl, hxi, rx⟩ := g2 i y hi
      have hx := G.same _ _ rx
      obtain ⟨acc, hacc, hlen⟩ := G.at
      refine ⟨rfl, lcY ⟨_, rfl, p, _, _, _, rfl, rfl, SqT.of hx, rfl, _, rfl, p, _, _, _, rfl, rfl, SqT.of hx, rfl, by show 2 ≤ sizeLine; decide, fun p1 n1 => ?_⟩⟩
      have s1 := same_new (o := HO.tup [nV x.1, nV x.2.1]) n1
      refine ⟨acc, s1 _ _ hacc, ?_, Grow.eq (Grow.push (x := (x.1, x.2.1)) (G.keep up_tup2 s1) (s1 _ _ hacc) ?_) ?_⟩
      · rw [hlen, prs, List.length_map]
        exact small (m := 400) (Nat.le_trans (take_len hxi) hfew)
      · show hid _ D p1 = _
        rw [hid_at (fun e => by rw [e, hacc] at n1; cases n1)]
        exact upd_same
      · unfold prs
        rw [take_more hxi, List.map_append]; rfl
    · rintro H2 G2
      rw [hl, List.take_length] at G2
      obtain ⟨ps, e, h1, k1⟩ := G2.done up_tup2
      have ek : (ps.map fun p => (p.1, pairI p.2)).map (·.2) = (prs arcs).map pairI := by rw [List.map_map, ← e, List.map_map]; rfl
      have hb : (distinct ((prs arcs).map pairI)).length ≤ 54 := by
        rw [← grid_len]
        refine nodup_len distinct_nodup fun y hy => ?_
        obtain ⟨q, hq, rfl⟩ := List.mem_map.mp (mem_distinct.mp hy)
        obtain ⟨x, hx, rfl⟩ := List.mem_map.mp hq
        exact mem_grid (hin x hx).1 (hin x hx).2
      refine ⟨D, ps.map fun p => (p.1, pairI p.2), rfl, SqL.of (by rw [List.map_map]; exact h1), fun p hp => ?_, by rw [ek]; omega, ?_⟩
      · obtain ⟨q, hq, rfl⟩ := List.mem_map.mp hp
        exact SqT.of (k1 q hq)
      · rw [ek]
        refine ⟨_, rfl, a, _, rfl, .inl (SqL.of (G2.same _ _ hv)), _, _, rfl, rfl, ?_⟩
        refine k H2 _ G2.same ?_
        rw [decide_eq_true_eq, hl, ← nodup_inj (f := pairI) (fun _ _ => pairI_inj), ← distinct_lt]
        have el : ((prs arcs).map pairI).length = arcs.length := by unfold prs; simp
        rw [el]
        omega
/-! ### lacks_an_event(k, arcs) -/
theorem distinct_cast (l : List Nat) : (distinct (l.map fun (x : Nat) => (x : Int))).length = (distinct l).length := by
  have z := distinct_len (l := l.map fun (x : Nat) => (x : Int)) (m := (distinct l).map fun (x : Nat) => (x : Int)) ((nodup_inj (f := fun x : Nat => (x : Int)) (fun a b e => Int.ofNat.inj e)).mpr distinct_nodup) fun x => by
    simp only [List.mem_map, mem_distinct]
  rw [List.length_map] at z
  exact z.symm
def spLacksEvent : Sp := fun vs H Q _ => ∃ (a : Addr) (kk : Nat) (arcs : List Arc), vs = [nV kk, .ref a] ∧ LsOf Tup3 H a arcs ∧ arcs.length ≤ 400 ∧ (∀ x ∈ arcs, x.2.1 < kk) ∧ ∀ (H' : Hp) (b : Bool), Same H H' → (b = true ↔ ¬ ∀ e, e < kk → e ∈ arcs.map fun x => x.2.1) → Q (.bl b) H'
theorem ok_lacks_an_event (T : Txt K mg C) (h : At K mg "lacks_an_event" (top 45) ["k", "arcs"]) : Dfn P w K mg base 1 "lacks_an_event" ["k", "arcs"] spLacksEvent := by
  have sc : FnScope ["k", "arcs", "arc"] ["k", "arcs"] (defScope (top 45)) := ⟨rfl, rfl, rfl, by decide +kernel, rfl, by decide +kernel, by decide +kernel⟩
  refine Dfn.mk h sc (fun vs H Q E h => ?_) (fun f cdv A outer s H vs Q E hr h => ⟨_, (pss_one (ps_ret (pe_cmpR op_lt (pe_lenSetD rfl rfl T.len rfl T.set (pe_lc (own := [("arc", 2)]) (g := gName 2) rfl sc.nd (pi_list (pv 1)) (blkOk_by (own := [("arc", 2)]) (N := ["k", "arcs", "arc"]) (sc := defScope (top 45)) (by decide +kernel)) (fun _ _ _ _ _ => pg_name (i := 2) sc.nd rfl (Or.inl rfl)) (fun _ _ _ _ _ => pts_nil) (fun _ _ _ _ _ => (pe_ix (ix_tupK (K := K) rfl) (pv 2) pe_int (fun _ _ => rfl))))) (pv 0) (nomark _)))), ?_⟩)
  · obtain ⟨a, kk, arcs, rfl, _⟩ := h; rfl
  · obtain ⟨a, kk, arcs, rfl, ha, hfew, hin, k⟩ := h
    obtain ⟨vs, hv, hl, g1, g2⟩ := ha.get
    refine ⟨_, rfl, a, rfl, ⟨_, SqL.of hv⟩, fun D hD => lc_list (K := K) (a := a) (xs := vs) (fun i H' => GrowV H H' D (((arcs.take i).map fun x => (x.2.1 : Int)).map V.int)) (GrowV.start hD) (fun i H' _ G => SqL.of (G.same _ _ hv)) ?_ ?_⟩
    · rintro i y H' hi G
      obtain ⟨p, x, rfl, hxi, rx⟩ := g2 i y hi
      have hx := G.same _ _ rx
      refine ⟨rfl, lcY ⟨_, rfl, p, _, _, _, rfl, rfl, SqT.of hx, rfl, _, G.2, ?_, GrowV.eq G.put ?_⟩⟩
      · rw [List.length_map, List.length_map]
        exact small (m := 400) (Nat.le_trans (take_len hxi) hfew)
      · rw [take_more hxi, List.map_append, List.map_append]; rfl
    · rintro H2 G2
      rw [hl, List.take_length] at G2
      refine ⟨D, _, rfl, SqL.of G2.2, by rw [List.length_map]; omega, _, rfl, _, _, rfl, rfl, ?_⟩
      refine k H2 _ G2.same ?_
      have e1 : (arcs.map fun x => (x.2.1 : Int)) = (arcs.map fun x => x.2.1).map fun (x : Nat) => (x : Int) := by rw [List.map_map]; rfl
      have z := nodup_full (l := distinct (arcs.map fun x => x.2.1)) (n := kk) distinct_nodup fun x hx => by
        obtain ⟨q, hq, rfl⟩ := List.mem_map.mp (mem_distinct.mp hx)
        exact hin q hq
      have z2 := nodup_len (l := distinct (arcs.map fun x => x.2.1)) (m := List.range kk) distinct_nodup fun x hx => by
        obtain ⟨q, hq, rfl⟩ := List.mem_map.mp (mem_distinct.mp hx)
        exact List.mem_range.mpr (hin q hq)
      rw [List.length_range] at z2
      rw [decide_eq_true_eq, e1, distinct_cast]
      constructor
      · intro hlt hall
        have := z.mpr fun x hx => mem_distinct.mpr (hall x hx)
        omega
      · intro hno
        have : ¬ (distinct (arcs.map fun x => x.2.1)).length = kk := fun e => hno fun x hx => mem_distinct.mp (z.mp e x hx)
        omega
/-! ### refusal_of(n, k, numbers) -/
def spRefusal : Sp := fun vs H Q _ => ∃ (a : Addr) (n kk : Int) (ns : List Nat), vs = [.int n, .int kk, .ref a] ∧ Ls H a ns ∧ ns.length ≤ 1024 ∧ ∀ H' : Hp, Same H H' → Q (.int (refusal n kk ns)) H'
theorem ok_refusal_of (T : Txt K mg C) (D_arcs_told : Dfn P w K mg base 1 "arcs_told" ["numbers"] spArcsTold) (D_is_there : Dfn P w K mg base 1 "is_there" ["n", "k", "arc"] spThere) (D_has_a_fork : Dfn P w K mg base 1 "has_a_fork" ["arcs"] spFork)
    (D_lacks_an_event : Dfn P w K mg base 1 "lacks_an_event" ["k", "arcs"] spLacksEvent) (D_lacks_a_state : Dfn P w K mg base 1 "lacks_a_state" ["n", "arcs"] spLacksState) (h : At K mg "refusal_of" (top 42) ["n", "k", "numbers"]) : Dfn P w K mg base 2 "refusal_of" ["n", "k", "numbers"] spRefusal := by
  have sc : FnScope ["n", "k", "numbers", "arcs", "arc"] ["n", "k", "numbers"] (defScope (top 42)) := ⟨rfl, rfl, rfl, by decide +kernel, rfl, by decide +kernel, by decide +kernel⟩
  refine Dfn.mk h sc (fun vs H Q E h => ?_) (fun f cdv A outer s H vs Q E hr h => ⟨_, (pss_cons (ps_if (pt_not (PW.pt (pw_and (pt_chain op_le op_le pe_int (pv 0) (pe_con T.cMOST_STATES rfl)) (pw_and1 (pt_chain op_le op_le pe_int (pv 1) (pe_con T.cMOST_EVENTS rfl)))))) (pss_one (ps_ret (pe_con T.cNOT_THERE rfl))) pss_nil)
      (pss_cons (ps_if (pt_cmpR op_ne (pe_op op_mod (pe_callB call_len_seq (by rfl) T.len PySem.boot_len (pa_cons (pv 2) pa_nil)) (pe_con T.cNUMBERS_OF_AN_ARC rfl)) pe_int (nomark _)) (pss_one (ps_ret (pe_con T.cILL_FORMED rfl))) pss_nil)
      (pss_cons (ps_set (i := 3) sc.nd rfl (Or.inl rfl) (pe_fn D_arcs_told (hr.mono (by decide)) rfl (pa_cons (pv 2) pa_nil)))
      (pss_cons (ps_if (pt_not (pt_val (pe_callB (cr_all rfl) (by rfl) T.all (by decide +kernel) (pa_cons (pe_lc (own := [("arc", 4)]) (g := gName 4) rfl sc.nd (pi_list (pv 3)) (blkOk_by (own := [("arc", 4)]) (N := ["n", "k", "numbers", "arcs", "arc"]) (sc := defScope (top 42)) (by decide +kernel)) (fun _ _ _ _ _ => pg_name (i := 4) sc.nd rfl (Or.inl rfl)) (fun _ _ _ _ _ => pts_nil) (fun _ _ _ _ _ => (pe_fn D_is_there (hr.mono (by decide)) rfl (pa_cons (pv 0) (pa_cons (pv 1) (pa_cons (pv 4) pa_nil)))))) pa_nil)))) (pss_one (ps_ret (pe_con T.cNOT_THERE rfl))) pss_nil)
      (pss_cons (ps_if (PW.pt (pw_or (pt_val (pe_fn D_has_a_fork (hr.mono (by decide)) rfl (pa_cons (pv 3) pa_nil))) (pw_or (pt_val (pe_fn D_lacks_an_event (hr.mono (by decide)) rfl (pa_cons (pv 1) (pa_cons (pv 3) pa_nil)))) (pw_or1 (pt_val (pe_fn D_lacks_a_state (hr.mono (by decide)) rfl (pa_cons (pv 0) (pa_cons (pv 3) pa_nil)))))))) (pss_one (ps_ret (pe_con T.cNOT_AS_SAID rfl))) pss_nil)
      (pss_one (ps_ret (pe_con T.cNOT_REFUSED rfl)))))))), ?_⟩)
  · obtain ⟨a, n, kk, ns, rfl, _⟩ := h; rfl
  · obtain ⟨a, n, kk, ns, rfl, ha, hfew, k⟩ := h
    have bad : ¬ (1 ≤ n ∧ n ≤ 9 ∧ 1 ≤ kk ∧ kk ≤ 6) → Q (.int (-1)) H := fun c => by
      have := k H (Same.refl H)
      rwa [refusal, if_pos c] at this
    refine ⟨_, rfl, _, _, rfl, rfl, _, rfl, ?_⟩
    by_cases c1 : 1 ≤ n
    · rw [decide_eq_true c1]
      refine iteT ⟨_, _, rfl, rfl, _, rfl, ?_⟩
      by_cases c2 : n ≤ 9
      · rw [decide_eq_true c2]
        refine iteT ⟨_, rfl, _, _, rfl, rfl, _, rfl, ?_⟩
        by_cases c3 : 1 ≤ kk
        · rw [decide_eq_true c3]
          refine iteT ⟨_, _, rfl, rfl, _, rfl, ?_⟩
          by_cases c4 : kk ≤ 6
          · rw [decide_eq_true c4]
            refine iteF ?_
            have c : 1 ≤ n ∧ n ≤ 9 ∧ 1 ≤ kk ∧ kk ≤ 6 := ⟨c1, c2, c3, c4⟩
            refine ⟨_, rfl, a, _, rfl, .inl (SqL.of ha), _, _, rfl, rfl, (by show (0 : Int) < 3; decide), rfl, _, rfl, ?_⟩
            have em : ((!decide (V.int (((ns.map nV).length : Int) % 3) = V.int 0)) = true) ↔ ¬ ns.length % 3 = 0 := by
              rw [Bool.not_eq_true', decide_eq_false_iff_not, List.length_map]
              refine not_congr ⟨fun z => ?_, fun z => ?_⟩
              · have := V.int.inj z; omega
              · refine congrArg V.int ?_; omega
            refine ite2 (fun q => ?_) (fun q => ?_)
            · have := k H (Same.refl H)
              rw [refusal, if_neg (fun z => z c), if_pos (em.mp q)] at this
              exact this
            · have h3 : ns.length % 3 = 0 := by
                refine Decidable.byContradiction fun z => q (em.mpr z)
              have k2 : ∀ H' : Hp, Same H H' → Q (.int (if ¬ ((arcsOf ns).all fun a => decide ((a.1 : Int) < n) && (decide ((a.2.1 : Int) < kk) && decide ((a.2.2 : Int) < n))) = true then -1 else if Sq64.sound ⟨n.toNat, kk.toNat, arcsOf ns⟩ = false then -4 else 0)) H' := fun H' S => by
                have := k H' S
                rwa [refusal, if_neg (fun z => z c), if_neg (fun z => z h3)] at this
              refine ⟨_, rfl, a, ns, rfl, ha, hfew, h3, fun H1 p1 S1 n1 L1 => ?_⟩
              obtain ⟨vs, hv, hl, g1, g2⟩ := L1.get
              have hal : (arcsOf ns).length ≤ 400 := by rw [arcsOf_len]; omega
              refine ⟨_, rfl, p1, rfl, ⟨_, SqL.of hv⟩, fun D hD => lc_list (K := K) (a := p1) (xs := vs) (fun i H' => GrowV H1 H' D ((((arcsOf ns).take i).map fun a => decide ((a.1 : Int) < n) && (decide ((a.2.1 : Int) < kk) && decide ((a.2.2 : Int) < n))).map V.bl)) (GrowV.start hD) (fun i H' _ G => SqL.of (G.same _ _ hv)) ?_ ?_⟩
              · rintro i y H' hi G
                obtain ⟨p, x, rfl, hxi, rx⟩ := g2 i y hi
                refine ⟨rfl, lcY ⟨_, rfl, _, rfl, _, rfl, p, n, kk, x, rfl, G.same _ _ rx, _, G.2, ?_, GrowV.eq G.put ?_⟩⟩
                · rw [List.length_map, List.length_map]
                  exact small (m := 400) (Nat.le_trans (take_len hxi) hal)
                · rw [take_more hxi, List.map_append, List.map_append]; rfl
              · rintro H2 G2
                rw [hl, List.take_length] at G2
                refine ⟨D, _, rfl, SqL.of G2.2, _, rfl, ?_⟩
                have ea : ((arcsOf ns).map fun a => decide ((a.1 : Int) < n) && (decide ((a.2.1 : Int) < kk) && decide ((a.2.2 : Int) < n))).all id = (arcsOf ns).all fun a => decide ((a.1 : Int) < n) && (decide ((a.2.1 : Int) < kk) && decide ((a.2.2 : Int) < n)) := by rw [List.all_map]; rfl
                rw [ea]
                by_cases c5 : ((arcsOf ns).all fun a => decide ((a.1 : Int) < n) && (decide ((a.2.1 : Int) < kk) && decide ((a.2.2 : Int) < n))) = true
                · rw [c5]
                  refine iteF ?_
                  have k3 : ∀ H' : Hp, Same H H' → Q (.int (if Sq64.sound ⟨n.toNat, kk.toNat, arcsOf ns⟩ = false then -4 else 0)) H' := fun H' S => by
                    have := k2 H' S
                    rwa [if_neg (fun z => z c5)] at this
                  have hin : ∀ x ∈ arcsOf ns, x.1 < n.toNat ∧ x.2.1 < kk.toNat ∧ x.2.2 < n.toNat := fun x hx => by
                    have := List.all_eq_true.mp c5 x hx
                    simp only [Bool.and_eq_true, decide_eq_true_eq] at this
                    omega
                  have hs := sound_iff ⟨n.toNat, kk.toNat, arcsOf ns⟩ (by show 1 ≤ n.toNat; omega) fun a h => (hin a h).2.2
                  have S2 : Same H H2 := S1.trans G2.same
                  have L2 := up_of up_tup3 _ _ _ _ G2.same L1
                  have no : ¬ Sq64.sound ⟨n.toNat, kk.toNat, arcsOf ns⟩ = true → ∀ H' : Hp, Same H H' → Q (.int (-4)) H' := fun z H' S => by
                    have := k3 H' S
                    rwa [if_pos (Bool.eq_false_iff.mpr z)] at this
                  refine ⟨_, rfl, p1, arcsOf ns, rfl, L2, hal, fun x hx => by have := hin x hx; omega, fun H3 b1 S3 e1 => ⟨_, rfl, ?_⟩⟩
                  cases b1 with
                  | true => exact iteT (iteT (no (fun z => (e1.mp rfl) (hs.mp z).1) H3 (S2.trans S3)))
                  | false =>
                    have f1 : (prs (arcsOf ns)).Nodup := Decidable.byContradiction fun z => Bool.noConfusion (e1.mpr z)
                    refine iteF ⟨_, rfl, _, rfl, p1, kk.toNat, arcsOf ns, ?_, up_of up_tup3 _ _ _ _ S3 L2, hal, fun x hx => (hin x hx).2.1, fun H4 b2 S4 e2 => ⟨_, rfl, ?_⟩⟩
                    · have : (kk.toNat : Int) = kk := Int.toNat_of_nonneg (by omega)
                      unfold nV; rw [this]; rfl
                    · cases b2 with
                      | true => exact iteT (iteT (no (fun z => (e2.mp rfl) (hs.mp z).2.1) H4 ((S2.trans S3).trans S4)))
                      | false =>
                        have f2 : ∀ e, e < kk.toNat → e ∈ (arcsOf ns).map fun x => x.2.1 := Classical.byContradiction fun z => Bool.noConfusion (e2.mpr z)
                        refine iteF ⟨_, rfl, _, rfl, p1, n.toNat, arcsOf ns, ?_, up_of up_tup3 _ _ _ _ (S3.trans S4) L2, by omega, by omega, fun x hx => ⟨(hin x hx).1, (hin x hx).2.2⟩, fun H5 b3 S5 e3 => ⟨_, rfl, ?_⟩⟩
                        · have : (n.toNat : Int) = n := Int.toNat_of_nonneg (by omega)
                          unfold nV; rw [this]; rfl
                        · have S5' : Same H H5 := ((S2.trans S3).trans S4).trans S5
                          cases b3 with
                          | false => exact iteT (no (fun z => Bool.noConfusion (e3.mpr (hs.mp z).2.2)) H5 S5')
                          | true =>
                            refine iteF ?_
                            have := k3 H5 S5'
                            rw [if_neg (by rw [hs.mpr ⟨f1, f2, e3.mp rfl⟩]; decide)] at this
                            exact this
                · have c5' := Bool.eq_false_iff.mpr c5
                  rw [c5']
                  refine iteT ?_
                  have := k2 H2 (S1.trans G2.same)
                  rw [if_pos c5] at this
                  exact this
          · rw [decide_eq_false c4]
            exact iteT (bad (by omega))
        · rw [decide_eq_false c3]
          exact iteF ⟨_, rfl, iteT (bad (by omega))⟩
      · rw [decide_eq_false c2]
        exact iteF (iteT (bad (by omega)))
    · rw [decide_eq_false c1]
      exact iteF ⟨_, rfl, iteF (iteT (bad (by omega)))⟩
end
end Rn
namespace Rn
open PySem PySem.Spec PyProof.Rows L2
open Sq64 (States Marking Arc)

/-! ### questions once each -/
theorem nodup_flat {α β : Type} {f : α → List β} {l : List α} (h1 : l.Nodup) (h2 : ∀ a ∈ l, (f a).Nodup) (h3 : ∀ a b, a ≠ b → ∀ x, x ∈ f a → x ∈ f b → False) : (l.flatMap f).Nodup := by
  induction l with
  | nil => exact List.nodup_nil
  | cons a l ih =>
    rw [List.flatMap_cons, List.nodup_append]
    have n := List.nodup_cons.mp h1
    refine ⟨h2 a (List.mem_cons_self ..), ih n.2 fun b hb => h2 b (List.mem_cons_of_mem _ hb), fun x hx y hy e => ?_⟩
    obtain ⟨b, hb, hy⟩ := List.mem_flatMap.mp hy
    exact h3 a b (fun z => n.1 (z ▸ hb)) x hx (e ▸ hy)
theorem nodup_mapI {α β : Type} {f : α → β} (hf : ∀ a b, f a = f b → a = b) {l : List α} (h : l.Nodup) : (l.map f).Nodup := by
  unfold List.Nodup at h ⊢
  rw [List.pairwise_map]
  exact h.imp fun z e => z (hf _ _ e)
theorem questions_nodup (g : Sn) : g.questions.Nodup := by
  rw [questions_eq, List.nodup_append]
  refine ⟨?_, ?_, fun x hx y hy e => ?_⟩
  · refine nodup_flat List.nodup_range (fun s _ => nodup_mapI (fun a b e => ?_) List.nodup_range) fun a b n x hx hy => ?_
    · simp only [Sq64.Question.states.injEq] at e; omega
    · obtain ⟨_, _, rfl⟩ := List.mem_map.mp hx
      obtain ⟨_, _, e⟩ := List.mem_map.mp hy
      simp only [Sq64.Question.states.injEq] at e
      exact n e.1.symm
  · refine nodup_flat List.nodup_range (fun s _ => nodup_mapI (fun a b e => ?_) (List.Pairwise.filter _ List.nodup_range)) fun a b n x hx hy => ?_
    · simp only [Sq64.Question.event.injEq] at e; exact e.2
    · obtain ⟨_, _, rfl⟩ := List.mem_map.mp hx
      obtain ⟨_, _, e⟩ := List.mem_map.mp hy
      simp only [Sq64.Question.event.injEq] at e
      exact n e.1.symm
  · unfold twoStates at hx
    unfold stateEvents at hy
    simp only [List.mem_flatMap, List.mem_map] at hx hy
    obtain ⟨_, _, _, _, rfl⟩ := hx
    obtain ⟨_, _, _, _, rfl⟩ := hy
    cases e
section
variable {P : Program} {w : World} {K : PySem.W.Frag} {mg : Str → Option Value} {base : Heap} {C : Cs}

def qK (q : Qn) : List Key := (qN q).map fun (x : Nat) => Sum.inl (x : Int)
theorem qK_kV (q : Qn) : (qK q).map kV = (qN q).map nV := by cases q <;> rfl
theorem qK_inj {p q : Qn} (h : qK p = qK q) : p = q := by
  refine qN_inj ?_
  have h2 := congrArg (List.map kV) h
  rw [qK_kV, qK_kV] at h2
  have inj : ∀ l m : List Nat, l.map nV = m.map nV → l = m := by
    intro l
    induction l with
    | nil => intro m e; cases m with
      | nil => rfl
      | cons _ _ => cases e
    | cons a l ih => intro m e; cases m with
      | nil => cases e
      | cons b m =>
        have e1 := List.cons.inj e
        rw [Int.ofNat.inj (V.int.inj e1.1), ih m e1.2]
  exact inj _ _ h2
theorem QAt.key {H : Hp} {a : Addr} {q : Qn} (h : QAt H a q) : H a = some (.tup ((qK q).map kV)) := by rw [qK_kV]; exact h
/-! ### tellers_of_each(questions, regions) -/
def Tells (g : Sn) (kvs : List (List Key × V)) (qs : List Qn) (rs : List States) : Prop := kvs.length ≤ 200 ∧ ∀ q ∈ qs, valV kvs (qK q) = some (.int ((tellersN g rs q : Nat) : Int))
def spTellers (C : Cs) : Sp := fun vs H Q _ => ∃ (a b : Addr) (g : Sn) (qs : List Qn) (rs : List States), vs = [.ref a, .ref b] ∧ LsOf QAt H a qs ∧ LsOf (RegAt C g) H b rs ∧ (∀ q ∈ qs, qOk g q) ∧ qs.length ≤ 135 ∧ rs.length ≤ 1600 ∧
  ∀ (H' : Hp) (d : Addr) (kvs : List (List Key × V)), Same H H' → H d = none → H' d = some (.dT kvs) → Tells g kvs qs rs → Q (.ref d) H'
theorem ok_tellers_of_each (T : Txt K mg C) (D_tells_apart : Dfn P w K mg base 1 "tells_apart" ["region", "question"] (spTells C)) (h : At K mg "tellers_of_each" (top 27) ["questions", "regions"]) : Dfn P w K mg base 2 "tellers_of_each" ["questions", "regions"] (spTellers C) := by
  have sc : FnScope ["questions", "regions", "tellers", "question", "region"] ["questions", "regions"] (defScope (top 27)) := ⟨rfl, rfl, rfl, by decide +kernel, rfl, by decide +kernel, by decide +kernel⟩
  refine Dfn.mk h sc (fun vs H Q E h => ?_) (fun f cdv A outer s H vs Q E hr h => ⟨_, (pss_cons (ps_set (i := 2) sc.nd rfl (Or.inl rfl) pe_dnewT)
      (pss_cons (ps_for PassesOwn.never rfl (pi_list (pv 0)) (pg_name (i := 3) sc.nd rfl (Or.inr rfl)) (pss_one (ps_dput (hu_of hr) (pv 2) (pv 3) (pe_callB call_len_seq (by rfl) T.len PySem.boot_len (pa_cons (pe_lc (own := [("region", 4)]) (g := gName 4) rfl sc.nd (pi_list (pv 1)) (blkOk_by (own := [("region", 4)]) (N := ["questions", "regions", "tellers", "question", "region"]) (sc := defScope (top 27)) (by decide +kernel)) (fun _ _ _ _ _ => pg_name (i := 4) sc.nd rfl (Or.inl rfl)) (fun _ _ _ _ _ => pts_one (pt_val (pe_fn D_tells_apart (hr.mono (by decide)) rfl (pa_cons (pv 4) (pa_cons (pv 3) pa_nil))))) (fun _ _ _ _ _ => (pv 4))) pa_nil)) rfl)))
      (pss_one (ps_ret (pv 2))))), ?_⟩)
  · obtain ⟨a, b, g, qs, rs, rfl, _⟩ := h; rfl
  · obtain ⟨a, b, g, qs, rs, rfl, ha, hb, hq, hqn, hrn, k⟩ := h
    obtain ⟨vs, hv, hl, g1, g2⟩ := ha.get
    obtain ⟨us, hu, hul, u1, u2⟩ := hb.get
    intro d hd
    refine ⟨_, rfl, a, rfl, ⟨_, SqL.of ((same_new hd) _ _ hv)⟩, for_list (K := K) (a := a) (xs := vs) (fun i σ H' => ∃ (kvs : List (List Key × V)) (v1 v2 : Option V), σ = [some (.ref a), some (.ref b), some (.ref d), v1, v2] ∧ Same H (hid H' d) ∧ H' d = some (.dT kvs) ∧ kvs.length ≤ i ∧ ∀ q ∈ qs.take i, valV kvs (qK q) = some (.int ((tellersN g rs q : Nat) : Int)))
      ⟨[], none, none, rfl, same_start hd, upd_same, Nat.le_refl _, fun q hq => by simp at hq⟩ (fun i σ H' _ ⟨_, _, _, _, S, _⟩ => SqL.of (hid_same _ _ (S _ _ hv))) ?_ ?_⟩
    · rintro i y σ H' hi ⟨kvs, v1, v2, rfl, S, hd', hkl, hk⟩
      obtain ⟨p, q, rfl, hqi, rx⟩ := g2 i y hi
      have S' : Same H H' := S.trans hid_same
      have hil : i < 135 := by have := get_lt hqi; omega
      refine ⟨_, rfl, b, rfl, ⟨_, SqL.of (S' _ _ hu)⟩, fun D hD => lc_list (K := K) (a := b) (xs := us) (fun j H2 => Grow (RegAt C g) H' H2 D ((rs.take j).filter fun r => g.answers r q)) (Grow.start hD) (fun j H2 _ G => SqL.of (G.same _ _ (S' _ _ hu))) ?_ ?_⟩
      · rintro j y H2 hj G
        obtain ⟨pr, r, rfl, hrj, rr⟩ := u2 j y hj
        have rr' : RegAt C g H' pr r := up_reg _ _ _ _ S' rr
        refine ⟨rfl, ?_⟩
        refine ⟨_, rfl, _, rfl, pr, p, g, r, q, rfl, up_reg _ _ _ _ G.same rr', G.same _ _ (S' _ _ rx), hq q (get_mem hqi), _, rfl, ite2 (fun c => ?_) (fun c => ?_)⟩
        · obtain ⟨acc, hacc, hlen⟩ := G.at
          refine ⟨_, rfl, acc, hacc, ?_, Grow.eq (Grow.push (x := r) G hacc (up_reg _ _ _ _ G.1 rr')) ?_⟩
          · rw [hlen]
            exact small (m := 1600) (Nat.le_trans (List.length_filter_le ..) (Nat.le_trans (take_len hrj) hrn))
          · rw [take_more hrj, List.filter_append, List.filter_cons_of_pos (p := fun r => g.answers r q) c]; rfl
        · refine Grow.eq G ?_
          rw [take_more hrj, List.filter_append, List.filter_cons_of_neg (p := fun r => g.answers r q) c]; simp
      · rintro H2 G2
        rw [hul, List.take_length] at G2
        obtain ⟨acc, hacc, hlen⟩ := G2.at
        have hd2 := G2.same _ _ hd'
        have hp2 : QAt H2 p q := G2.same _ _ (S' _ _ rx)
        refine ⟨D, acc, rfl, .inl (SqL.of hacc), _, rfl, _, rfl, d, _, rfl, DPut.t hd2 hp2.key (small (m := 200) (by omega)), ?_⟩
        refine ⟨_, _, _, rfl, ?_, upd_same, ?_, fun q' hq' => ?_⟩
        · rw [hid_upd]; exact S.trans (hid_mono G2.same)
        · have := length_putK kvs (qK q) (V.int (acc.length : Nat)); omega
        · rw [valV_put]
          have ec : acc.length = tellersN g rs q := by rw [hlen]; unfold tellersN; rw [List.countP_eq_length_filter]
          by_cases e : q' = q
          · subst e; rw [if_pos rfl, ec]
          · rw [if_neg (fun z => e (qK_inj z))]
            rw [take_more hqi] at hq'
            rcases List.mem_append.mp hq' with z | z
            · exact hk q' z
            · rw [List.mem_singleton] at z; exact absurd z e
    · rintro σ H' ⟨kvs, v1, v2, rfl, S, hd', hkl, hk⟩
      rw [hl, List.take_length] at hk
      exact ⟨_, rfl, k H' d kvs (S.trans hid_same) hd hd' ⟨by omega, hk⟩⟩
end
end Rn
namespace Rn
open PySem PySem.Spec PyProof.Rows L2
open Sq64 (States Marking Arc)

theorem hid2_upd {H : Hp} {d l : Addr} {o : HO} : hid (hid (upd H l o) d) l = hid (hid H d) l := by
  funext b
  by_cases e : b = l
  · rw [e, hid_self, hid_self]
  · rw [hid_at e, hid_at e]
    by_cases e2 : b = d
    · rw [e2, hid_self, hid_self]
    · rw [hid_at e2, hid_at e2, upd_ne e]
theorem hid_kind' {H : Hp} {p q : Addr} {o u : HO} (hp : H p = some o) (hq : H q = some u) (d : u ≠ o) : hid H p q = some u := by
  rw [hid_at (ne_of hq hp d)]; exact hq
theorem drop_get {α : Type} {l : List α} {i : Nat} {x : α} (h : l[i]? = some x) : l.drop i = x :: l.drop (i + 1) := by
  obtain ⟨h1, h2⟩ := List.getElem?_eq_some_iff.mp h
  rw [List.drop_eq_getElem_cons h1, h2]
theorem rev_get {α : Type} {l : List α} {i : Nat} {x : α} (hi : i < l.length) (h : l[l.length - 1 - i]? = some x) : l.reverse[i]? = some x := by
  rw [List.getElem?_reverse hi]; exact h
section
variable {P : Program} {w : World} {K : PySem.W.Frag} {mg : Str → Option Value} {base : Heap} {C : Cs}

/-! ### places_in_order(seen, regions) -/
def spPlaces (C : Cs) : Sp := fun vs H Q _ => ∃ (a b : Addr) (g : Sn), vs = [.ref a, .ref b] ∧ SeenAt C H a g ∧ Okg g ∧ LsOf (RegAt C g) H b g.regions ∧ ∀ (H' : Hp) (p : Addr), Same H H' → H p = none → LsOf (RegAt C g) H' p g.places → Q (.ref p) H'
theorem ok_places_in_order (T : Txt K mg C) (D_questions_in_order : Dfn P w K mg base 3 "questions_in_order" ["seen"] (spQs C fun g => g.questions)) (D_tellers_of_each : Dfn P w K mg base 2 "tellers_of_each" ["questions", "regions"] (spTellers C))
    (D_tells_apart : Dfn P w K mg base 1 "tells_apart" ["region", "question"] (spTells C)) (h : At K mg "places_in_order" (top 26) ["seen", "regions"]) : Dfn P w K mg base 4 "places_in_order" ["seen", "regions"] (spPlaces C) := by
  have sc : FnScope ["seen", "regions", "asked", "tellers", "staying", "region", "told", "question"] ["seen", "regions"] (defScope (top 26)) := ⟨rfl, rfl, rfl, by decide +kernel, rfl, by decide +kernel, by decide +kernel⟩
  refine Dfn.mk h sc (fun vs H Q E h => ?_) (fun f cdv A outer s H vs Q E hr h => ⟨_, (pss_cons (ps_set (i := 2) sc.nd rfl (Or.inl rfl) (pe_fn D_questions_in_order (hr.mono (by decide)) rfl (pa_cons (pv 0) pa_nil)))
      (pss_cons (ps_set (i := 3) sc.nd rfl (Or.inr rfl) (pe_fn D_tellers_of_each (hr.mono (by decide)) rfl (pa_cons (pv 2) (pa_cons (pv 1) pa_nil))))
      (pss_cons (ps_set (i := 4) sc.nd rfl (Or.inl rfl) (pe_lst pa_nil))
      (pss_cons (ps_for PassesOwn.never rfl (pi_reversed rfl T.reversed (pa_cons (pv 1) pa_nil)) (pg_name (i := 5) sc.nd rfl (Or.inr rfl)) (pss_cons (ps_setLc (i := 6) (own := [("question", 7)]) (g := gName 7) rfl sc.nd rfl rfl (sw_true rfl rfl rfl (by decide +kernel)) (pi_list (pv 2)) (blkOk_by (own := [("question", 7)]) (N := ["seen", "regions", "asked", "tellers", "staying", "region", "told", "question"]) (sc := defScope (top 26)) (by decide +kernel)) (fun _ _ _ _ _ => pg_name (i := 7) sc.nd rfl (Or.inl rfl)) (fun _ _ _ _ _ => pts_one (pt_val (pe_fn D_tells_apart (hr.mono (by decide)) rfl (pa_cons (pv 5) (pa_cons (pv 7) pa_nil))))) (fun _ _ _ _ _ => (pv 7)))
      (pss_one (ps_if (pt_val (pe_callB (cr_all rfl) (by rfl) T.all (by decide +kernel) (pa_cons (pe_lc (own := [("question", 7)]) (g := gName 7) rfl sc.nd (pi_list (pv 6)) (blkOk_by (own := [("question", 7)]) (N := ["seen", "regions", "asked", "tellers", "staying", "region", "told", "question"]) (sc := defScope (top 26)) (by decide +kernel)) (fun _ _ _ _ _ => pg_name (i := 7) sc.nd rfl (Or.inl rfl)) (fun _ _ _ _ _ => pts_nil) (fun _ _ _ _ _ => (pe_cmpR op_gt (pe_dget (hu_of hr) (pv 3) (pv 7) (fun _ _ => rfl)) pe_int (nomark _)))) pa_nil))) (pss_one (ps_for PassesOwn.never rfl (pi_list (pv 6)) (pg_name (i := 7) sc.nd rfl (Or.inl rfl)) (pss_one (ps_daug (hu_of hr) (pv 3) (pv 7) pe_int in_sub (fun _ _ _ => rfl))))) (pss_one (ps_expr (pe_bm PySem.F.plainAttrs_list PySem.F.slot_list_append PySem.F.type_list_append mt_append (pv 4) (pa_cons (pv 5) pa_nil))))))))
      (pss_one (ps_ret (pe_listRev rfl rfl T.list rfl T.reversed (pv 4)))))))), ?_⟩)
  · obtain ⟨a, b, g, rfl, _⟩ := h; rfl
  · obtain ⟨a, b, g, rfl, ha, hg, hb, k⟩ := h
    have hqf := questions_few hg.n9 hg.k6
    have hrf := regions_few g hg.n1 hg.n9
    refine ⟨_, rfl, a, g, rfl, ha, hg, fun H1 p1 S1 n1 L1 => ?_⟩
    dsimp only at L1
    have hb1 := up_of up_reg _ _ _ _ S1 hb
    refine ⟨_, rfl, _, rfl, p1, b, g, g.questions, g.regions, rfl, L1, hb1, questions_ok g, hqf, hrf, fun H2 d kvs0 S2 n2 hd2 t2 => ?_⟩
    refine ⟨by show 0 ≤ sizeLine; decide, fun l hl0 => ?_⟩
    have hdl : d ≠ l := fun e => by rw [e, hl0] at hd2; cases hd2
    obtain ⟨vs, hv, hvl, g1, g2⟩ := L1.get
    obtain ⟨us, hu, hul, u1, u2⟩ := hb1.get
    have base1 : Same H1 (hid (hid (upd H2 l (.lst [])) d) l) := by
      rw [hid2_upd]
      have z : hid (hid H2 d) l = hid H2 d := hid_free (by rw [hid_at (fun e => hdl e.symm)]; exact hl0)
      rw [z]
      exact same_hid S2 n2
    refine ⟨_, rfl, b, us, rfl, SqL.of ((base1.trans (hid_same.trans hid_same)) _ _ hu), ?_⟩
    refine RT.for_Itv (K := K) (a := b) (xs := us) (fun i σ H' => ∃ (kept : List States) (kvs : List (List Key × V)) (ps : List (Addr × States)) (v1 v2 v3 : Option V),
        σ = [some (.ref a), some (.ref b), some (.ref p1), some (.ref d), some (.ref l), v1, v2, v3] ∧ Same H1 (hid (hid H' d) l) ∧ H' d = some (.dT kvs) ∧ Tells g kvs g.questions (kept ++ g.regions.reverse.drop i) ∧
        H' l = some (.lst (ps.map fun p => V.ref p.1)) ∧ ps.map (·.2) = kept.reverse ∧ (∀ p ∈ ps, RegAt C g H1 p.1 p.2) ∧ kept.length ≤ i ∧ g.lean kept (g.regions.reverse.drop i) = g.places)
      ⟨[], kvs0, [], none, none, none, rfl, base1, by rw [upd_ne hdl]; exact hd2, ?_, upd_same, rfl, (fun p hp => nomatch hp), Nat.zero_le _, rfl⟩ (fun i σ H' ⟨_, _, _, _, _, _, _, S, _⟩ => SqL.of ((S.trans (hid_same.trans hid_same)) _ _ hu)) ?_ ?_
    · refine ⟨t2.1, fun q hq => ?_⟩
      rw [t2.2 q hq]
      have e : tellersN g g.regions q = tellersN g ([] ++ g.regions.reverse.drop 0) q := by
        unfold tellersN
        rw [List.drop_zero, List.nil_append, List.countP_reverse]
      rw [e]
    · rintro i y σ H' hi hy ⟨kept, kvs, ps, v1, v2, v3, rfl, S, hd', ht', hl', eps, hps, hkl, hlean⟩
      obtain ⟨pr, r, rfl, hrg, rr⟩ := u2 _ y hy
      rw [hul] at hi hrg
      have hri := rev_get hi hrg
      have hdrop := drop_get hri
      rw [hdrop] at ht' hlean
      have SH : Same H1 H' := S.trans (hid_same.trans hid_same)
      -- told
      refine ⟨_, rfl, p1, rfl, ⟨_, SqL.of (SH _ _ hv)⟩, fun D1 hD1 => lc_list (K := K) (a := p1) (xs := vs) (fun j H3 => Grow QAt H' H3 D1 ((g.questions.take j).filter fun q => g.answers r q)) (Grow.start hD1) (fun j H3 _ G => SqL.of (G.same _ _ (SH _ _ hv))) ?_ ?_⟩
      · rintro j y H3 hj G
        obtain ⟨pq, q, rfl, hqj, rq⟩ := g2 j y hj
        have rq' : QAt H' pq q := SH _ _ rq
        refine ⟨rfl, ?_⟩
        refine ⟨_, rfl, _, rfl, pr, pq, g, r, q, rfl, up_reg _ _ _ _ (SH.trans G.same) rr, G.same _ _ rq', questions_ok g q (get_mem hqj), _, rfl, ite2 (fun c => ?_) (fun c => ?_)⟩
        · obtain ⟨acc, hacc, hlen⟩ := G.at
          refine ⟨_, rfl, acc, hacc, ?_, Grow.eq (Grow.push (x := q) G hacc (G.1 _ _ rq')) ?_⟩
          · rw [hlen]
            exact small (m := 135) (Nat.le_trans (List.length_filter_le ..) (Nat.le_trans (take_len hqj) hqf))
          · rw [take_more hqj, List.filter_append, List.filter_cons_of_pos (p := fun q => g.answers r q) c]; rfl
        · refine Grow.eq G ?_
          rw [take_more hqj, List.filter_append, List.filter_cons_of_neg (p := fun q => g.answers r q) c]; simp
      · rintro H4 G4
        rw [hvl, List.take_length] at G4
        generalize htold : (g.questions.filter fun q => g.answers r q) = told at G4
        have hsub : ∀ q ∈ told, q ∈ g.questions := fun q hq => by rw [← htold] at hq; exact (List.mem_filter.mp hq).1
        have htn : told.length ≤ 135 := by rw [← htold]; exact Nat.le_trans (List.length_filter_le ..) hqf
        have L4 := G4.done up_q
        obtain ⟨ws, hw, hwl, w1, w2⟩ := L4.get
        have hd4 := G4.same _ _ hd'
        -- all([...])
        refine ⟨_, rfl, D1, rfl, ⟨_, SqL.of hw⟩, fun D2 hD2 => lc_list (K := K) (a := D1) (xs := ws) (fun j H3 => GrowV H4 H3 D2 (((told.take j).map fun q => decide (1 < tellersN g (kept ++ r :: g.regions.reverse.drop (i + 1)) q)).map V.bl)) (GrowV.start hD2) (fun j H3 _ G => SqL.of (G.same _ _ hw)) ?_ ?_⟩
        · rintro j y H3 hj G
          obtain ⟨pq, q, rfl, hqj, rq⟩ := w2 j y hj
          have rq' : QAt H3 pq q := G.same _ _ rq
          have hcnt := ht'.2 q (hsub q (get_mem hqj))
          have dg := DGet.t (G.same _ _ hd4) rq'.key
          rw [hcnt] at dg
          refine ⟨rfl, lcY ⟨_, rfl, _, rfl, d, _, rfl, dg, _, _, rfl, rfl, _, G.2, ?_, GrowV.eq G.put ?_⟩⟩
          · rw [List.length_map, List.length_map]
            exact small (m := 135) (Nat.le_trans (take_len hqj) htn)
          · rw [take_more hqj, List.map_append, List.map_append]
            show _ ++ [V.bl (decide ((1 : Int) < ((tellersN g (kept ++ r :: g.regions.reverse.drop (i + 1)) q : Nat) : Int)))] = _
            have e : decide ((1 : Int) < ((tellersN g (kept ++ r :: g.regions.reverse.drop (i + 1)) q : Nat) : Int)) = decide (1 < tellersN g (kept ++ r :: g.regions.reverse.drop (i + 1)) q) := by
              rw [Bool.eq_iff_iff, decide_eq_true_eq, decide_eq_true_eq]; omega
            rw [e]; rfl
        · rintro H5 G5
          rw [hwl, List.take_length] at G5
          refine ⟨D2, _, rfl, SqL.of G5.2, _, rfl, ?_⟩
          have ea : (told.map fun q => decide (1 < tellersN g (kept ++ r :: g.regions.reverse.drop (i + 1)) q)).all id = told.all fun q => decide (1 < tellersN g (kept ++ r :: g.regions.reverse.drop (i + 1)) q) := by rw [List.all_map]; rfl
          rw [ea]
          have S5 : Same H' H5 := G4.same.trans G5.same
          have S5' : Same H1 (hid (hid H5 d) l) := S.trans (hid_mono (hid_mono S5))
          have hd5 := S5 _ _ hd'
          have hl5 := S5 _ _ hl'
          refine ite2 (fun c => ?_) (fun c => ?_)
          · -- it goes
            refine ⟨_, rfl, D1, rfl, ⟨_, SqL.of (G5.same _ _ hw)⟩, for_list (K := K) (a := D1) (xs := ws) (fun j σ H6 => ∃ (kvs2 : List (List Key × V)) (v3 : Option V), σ = [some (.ref a), some (.ref b), some (.ref p1), some (.ref d), some (.ref l), some (.ref pr), some (.ref D1), v3] ∧
                Same (hid H5 d) (hid H6 d) ∧ H6 d = some (.dT kvs2) ∧ kvs2.length = kvs.length ∧ ∀ q ∈ g.questions, valV kvs2 (qK q) = some (.int ((tellersN g (kept ++ r :: g.regions.reverse.drop (i + 1)) q : Nat) - (if q ∈ told.take j then 1 else 0 : Int))))
              ⟨kvs, v3, rfl, Same.refl _, hd5, rfl, fun q hq => ?_⟩ (fun j σ H6 _ ⟨_, _, _, S6, _⟩ => SqL.of (hid_same _ _ (S6 _ _ (hid_kind' hd5 (G5.same _ _ hw) (by intro z; cases z))))) ?_ ?_⟩
            · rw [ht'.2 q hq]
              simp
            · rintro j y σ H6 hj ⟨kvs2, v3, rfl, S6, hd6, hkl2, hval⟩
              obtain ⟨pq, q, rfl, hqj, rq⟩ := w2 j y hj
              have rq6 : QAt H6 pq q := hid_same _ _ (S6 _ _ (hid_kind' hd5 (G5.same _ _ rq) (by intro z; cases z)))
              have hqq := hsub q (get_mem hqj)
              have dg := DGet.t hd6 rq6.key
              rw [hval q hqq] at dg
              refine ⟨_, rfl, _, rfl, d, _, rfl, dg, _, _, rfl, rfl, _, DPut.t hd6 rq6.key (small (m := 200) (by have := ht'.1; omega)), ?_⟩
              have hnd : told.Nodup := by rw [← htold]; exact List.Pairwise.filter _ (questions_nodup g)
              have hnot : q ∉ told.take j := fun z => by
                have hn2 : (told.take (j + 1)).Nodup := List.Pairwise.sublist (List.take_sublist _ _) hnd
                rw [take_more hqj, List.nodup_append] at hn2
                exact hn2.2.2 q z q (List.mem_singleton.mpr rfl) rfl
              refine ⟨_, _, rfl, by rw [hid_upd]; exact S6, upd_same, ?_, fun q' hq' => ?_⟩
              · rw [← hkl2]
                unfold putK
                rw [valV_any, hval q hqq]
                simp
              · rw [valV_put]
                by_cases e : q' = q
                · subst e
                  rw [if_pos rfl, if_neg hnot, if_pos (by rw [take_more hqj]; exact List.mem_append_right _ (List.mem_singleton.mpr rfl))]
                  simp
                · rw [if_neg (fun z => e (qK_inj z)), hval q' hq']
                  have em : (q' ∈ told.take (j + 1)) ↔ q' ∈ told.take j := by
                    rw [take_more hqj, List.mem_append, List.mem_singleton]
                    exact ⟨fun z => z.elim id fun z => absurd z e, Or.inl⟩
                  by_cases z : q' ∈ told.take j
                  · rw [if_pos z, if_pos (em.mpr z)]
                  · rw [if_neg z, if_neg (fun u => z (em.mp u))]
            · rintro σ H6 ⟨kvs2, v3, rfl, S6, hd6, hkl2, hval⟩
              rw [hwl, List.take_length] at hval
              have hl6 : H6 l = some (.lst (ps.map fun p => V.ref p.1)) := hid_same _ _ (S6 _ _ (by rw [hid_at (fun e => hdl e.symm)]; exact hl5))
              refine ⟨kept, kvs2, ps, _, _, _, rfl, S5'.trans (hid_mono S6), hd6, ⟨by rw [hkl2]; exact ht'.1, fun q hq => ?_⟩, hl6, eps, hps, by omega, ?_⟩
              · rw [hval q hq, tellers_go g kept (g.regions.reverse.drop (i + 1)) r q]
                by_cases z : g.answers r q = true
                · rw [if_pos z]
                  have hm : q ∈ told := by rw [← htold]; exact List.mem_filter.mpr ⟨hq, z⟩
                  rw [if_pos hm]
                  have hp : 0 < tellersN g (kept ++ r :: g.regions.reverse.drop (i + 1)) q := by
                    unfold tellersN
                    rw [List.countP_pos_iff]
                    exact ⟨r, List.mem_append_right _ (List.mem_cons_self ..), z⟩
                  have : ((tellersN g (kept ++ r :: g.regions.reverse.drop (i + 1)) q : Nat) : Int) - 1 = ((tellersN g (kept ++ r :: g.regions.reverse.drop (i + 1)) q - 1 : Nat) : Int) := by omega
                  rw [this]
                · rw [if_neg z]
                  have hm : q ∉ told := fun u => by rw [← htold] at u; exact z (List.mem_filter.mp u).2
                  rw [if_neg hm]; simp
              · rw [← hlean, lean_go g kept _ r (by rw [htold]; exact c)]
          · -- it stays
            refine ⟨_, rfl, tyL hl5, _, rfl, l, _, _, rfl, rfl, hl5, ?_, ?_⟩
            · rw [List.length_map]
              have : ps.length = kept.length := by
                have := congrArg List.length eps
                rw [List.length_map, List.length_reverse] at this
                exact this
              exact small (m := 1600) (by omega)
            · refine ⟨r :: kept, kvs, ps ++ [(pr, r)], _, _, _, rfl, by rw [hid2_upd]; exact S5', by rw [upd_ne hdl]; exact hd5, ⟨ht'.1, fun q hq => ?_⟩, ?_, ?_, fun p hp => ?_, by simp; omega, ?_⟩
              · rw [ht'.2 q hq, tellers_stay]
              · rw [upd_same, List.map_append]; rfl
              · rw [List.map_append, eps, List.reverse_cons]; rfl
              · rcases List.mem_append.mp hp with z | z
                · exact hps p z
                · rw [List.mem_singleton] at z; subst z; exact rr
              · rw [← hlean, lean_stay g kept _ r (by rw [htold]; exact Bool.eq_false_iff.mpr c)]
    · rintro σ H' ⟨kept, kvs, ps, v1, v2, v3, rfl, S, hd', ht', hl', eps, hps, hkl, hlean⟩
      have ed : g.regions.reverse.drop us.length = [] := by rw [hul]; exact List.drop_of_length_le (by rw [List.length_reverse]; exact Nat.le_refl _)
      rw [ed] at hlean
      have hlean' : kept = g.places := hlean
      subst hlean'
      have SH : Same H H' := S1.trans (S.trans (hid_same.trans hid_same))
      refine ⟨_, rfl, l, _, rfl, SqL.of hl', fun p hp => k _ p (SH.trans (same_new hp)) (SH.free hp) ⟨ps.reverse, ?_, ?_, fun q hq => ?_⟩⟩
      · rw [List.map_reverse, eps, List.reverse_reverse]
      · rw [upd_same, List.map_reverse]
      · exact up_reg _ _ _ _ ((S.trans (hid_same.trans hid_same)).trans (same_new hp)) (hps q (List.mem_reverse.mp hq))
end
end Rn
namespace Rn
open PySem PySem.Spec PyProof.Rows L2
open Sq64 (States Marking Arc)

section
variable {P : Program} {w : World} {K : PySem.W.Frag} {mg : Str → Option Value} {base : Heap} {C : Cs}

/-! ### places_crossed(places, event, way) -/
theorem dec_int (x y : Int) : decide (V.int x = V.int y) = (x == y) := by
  rw [Bool.eq_iff_iff, decide_eq_true_eq, beq_iff_eq]; exact ⟨V.int.inj, fun z => by rw [z]⟩
def spCrossed (C : Cs) : Sp := fun vs H Q _ => ∃ (a : Addr) (e : Nat) (x : Int) (g : Sn) (ps : List States), vs = [.ref a, nV e, .int x] ∧ LsOf (RegAt C g) H a ps ∧ e < g.k ∧ ps.length ≤ 1600 ∧ ∀ (H' : Hp) (p : Addr), Same H H' → H p = none → Ls H' p (crossedN g ps e x) → Q (.ref p) H'
theorem ok_places_crossed (T : Txt K mg C) (h : At K mg "places_crossed" (top 14) ["places", "event", "way"]) : Dfn P w K mg base 1 "places_crossed" ["places", "event", "way"] (spCrossed C) := by
  have sc : FnScope ["places", "event", "way", "number"] ["places", "event", "way"] (defScope (top 14)) := ⟨rfl, rfl, rfl, by decide +kernel, rfl, by decide +kernel, by decide +kernel⟩
  refine Dfn.mk h sc (fun vs H Q E h => ?_) (fun f cdv A outer s H vs Q E hr h => ⟨_, (pss_one (ps_ret (pe_lc (own := [("number", 3)]) (g := gName 3) rfl sc.nd (pi_range1 rfl T.range (pa_cons (pe_callB call_len_seq (by rfl) T.len PySem.boot_len (pa_cons (pv 0) pa_nil)) pa_nil)) (blkOk_by (own := [("number", 3)]) (N := ["places", "event", "way", "number"]) (sc := defScope (top 14)) (by decide +kernel)) (fun _ _ _ _ _ => pg_name (i := 3) sc.nd rfl (Or.inl rfl)) (fun _ _ _ _ _ => pts_one (pt_cmpR op_eq (pe_ix (ix_listK (K := K) rfl) (pe_fldK (K := K) rfl (pe_ix (ix_listK (K := K) rfl) (pv 0) (pv 3) (fun _ _ => rfl)) rfl) (pv 1) (fun _ _ => rfl)) (pv 2) (nomark _))) (fun _ _ _ _ _ => (pv 3))))), ?_⟩)
  · obtain ⟨a, e, x, g, ps, rfl, _⟩ := h; rfl
  · obtain ⟨a, e, x, g, ps, rfl, ha, he, hfew, k⟩ := h
    obtain ⟨vs, hv, hl, g1, g2⟩ := ha.get
    refine ⟨_, rfl, a, _, rfl, .inl (SqL.of hv), (vs.length : Int), rfl, (small_int (by omega)).1, (small_int (by omega)).2, fun D hD => ?_⟩
    refine lc_rng (n := vs.length) (fun i H' => GrowV H H' D (((List.range i).filter fun j => wayI g (ps.getD j []) e == x).map nV)) (GrowV.start hD) ?_ ?_
    · rintro i H' hi G
      have hr : ps[i]? = some (ps.getD i []) := by
        rw [List.getD_eq_getElem?_getD, List.getElem?_eq_getElem (by omega)]; rfl
      obtain ⟨p, hp, dx, s, ww, h1, h2, h3⟩ := g1 i _ hr
      have hw : (waysOf g (ps.getD i []))[e]? = some (wayI g (ps.getD i []) e) := get_map (by rw [List.getElem?_range he])
      refine ⟨rfl, ?_⟩
      refine ⟨_, rfl, _, rfl, a, _, _, _, rfl, rfl, SqL.of (G.same _ _ hv), atI_nat hp, p, C.reg, dx, _, _, rfl, G.same _ _ h1, T.reg, T.reg_ways, (lk_past (by decide +kernel)).trans lk_here, _, rfl, ww, _, _, _, rfl, rfl, SqL.of (G.same _ _ h3), atI_nat (get_map hw), _, rfl, rfl, _, rfl, ?_⟩
      rw [dec_int]
      refine ite2 (fun c => ?_) (fun c => ?_)
      · refine ⟨_, rfl, _, G.2, ?_, GrowV.eq G.put ?_⟩
        · rw [List.length_map]
          refine small (m := 1600) (Nat.le_trans (List.length_filter_le ..) ?_)
          rw [List.length_range]; omega
        · rw [List.range_succ, List.filter_append, List.filter_cons_of_pos (p := fun j => wayI g (ps.getD j []) e == x) c, List.map_append]; rfl
      · refine GrowV.eq G ?_
        rw [List.range_succ, List.filter_append, List.filter_cons_of_neg (p := fun j => wayI g (ps.getD j []) e == x) c]; simp
    · rintro H2 G2
      rw [hl] at G2
      exact k H2 D G2.same hD G2.2
/-! ### Net(places, k) -/
def spNet (C : Cs) : Sp := fun vs H Q _ => ∃ (p dx a : Addr) (g : Sn), vs = [.ref p, .ref a, nV g.k] ∧ H p = some (.ins C.net dx []) ∧ LsOf (RegAt C g) H a g.places ∧ g.k ≤ 6 ∧ g.places.length ≤ 1600 ∧ ∀ H' : Hp, NetAt C H' p g → Same (hid H p) H' → Q .non H'
theorem ok_Net (T : Txt K mg C) (hx : mg "Net" = some (.ref C.net)) (mk : PySem.W.makesIn K C.net = true) (kc : PySem.W.keepIn K (.ref C.net) = true) (D_places_crossed : Dfn P w K mg base 1 "places_crossed" ["places", "event", "way"] (spCrossed C)) (h : AtM K C.net "__init__" "Net.__init__" (inClass (top 13) 0) ["self", "places", "k"]) :
    Di P w K mg base C.net 2 "Net" ["self", "places", "k"] (spNet C) := by
  have sc : FnScope ["self", "places", "k", "place", "event"] ["self", "places", "k"] (defScope (inClass (top 13) 0)) := ⟨rfl, rfl, rfl, by decide +kernel, rfl, by decide +kernel, by decide +kernel⟩
  refine Di.mk hx mk kc h sc (fun vs H Q E h => ?_) (fun f cdv A outer s H vs Q E hr h => ⟨_, (pss_cons (ps_fld (pv 0) (pe_lc (own := [("place", 3)]) (g := gName 3) rfl sc.nd (pi_list (pv 1)) (blkOk_by (own := [("place", 3)]) (N := ["self", "places", "k", "place", "event"]) (sc := defScope (inClass (top 13) 0)) (by decide +kernel)) (fun _ _ _ _ _ => pg_name (i := 3) sc.nd rfl (Or.inl rfl)) (fun _ _ _ _ _ => pts_nil) (fun _ _ _ _ _ => (pe_ifExp (pt_cmpR (in_seqK (K := K) rfl) pe_int (pe_fldK (K := K) rfl (pv 3) rfl) rfl) pe_int pe_int))) rfl)
      (pss_cons (ps_fld (pv 0) (pe_lc (own := [("event", 4)]) (g := gName 4) rfl sc.nd (pi_range1 rfl T.range (pa_cons (pv 2) pa_nil)) (blkOk_by (own := [("event", 4)]) (N := ["self", "places", "k", "place", "event"]) (sc := defScope (inClass (top 13) 0)) (by decide +kernel)) (fun _ _ _ _ _ => pg_name (i := 4) sc.nd rfl (Or.inl rfl)) (fun _ _ _ _ _ => pts_nil) (fun _ _ _ _ _ => (pe_fn D_places_crossed (hr.mono (by decide)) rfl (pa_cons (pv 1) (pa_cons (pv 4) (pa_cons (pe_con T.cLEAVES rfl) pa_nil)))))) rfl)
      (pss_one (ps_fld (pv 0) (pe_lc (own := [("event", 4)]) (g := gName 4) rfl sc.nd (pi_range1 rfl T.range (pa_cons (pv 2) pa_nil)) (blkOk_by (own := [("event", 4)]) (N := ["self", "places", "k", "place", "event"]) (sc := defScope (inClass (top 13) 0)) (by decide +kernel)) (fun _ _ _ _ _ => pg_name (i := 4) sc.nd rfl (Or.inl rfl)) (fun _ _ _ _ _ => pts_nil) (fun _ _ _ _ _ => (pe_fn D_places_crossed (hr.mono (by decide)) rfl (pa_cons (pv 1) (pa_cons (pv 4) (pa_cons (pe_con T.cENTERS rfl) pa_nil)))))) rfl)))), ?_⟩)
  · obtain ⟨p, dx, a, g, rfl, _⟩ := h; rfl
  · obtain ⟨p, dx, a, g, rfl, hp, ha, hk, hfew, k⟩ := h
    have haP : LsOf (RegAt C g) (hid H p) a g.places := by
      obtain ⟨ps, e, h1, k1⟩ := ha
      refine ⟨ps, e, hid_kind' hp h1 (by intro z; cases z), fun q hq => ?_⟩
      obtain ⟨d2, s2, w2, h2, h3, h4⟩ := k1 q hq
      exact ⟨d2, s2, w2, hid_kind' hp h2 (by intro z; injection z with _ _ z3; cases z3), hid_kind' hp h3 (by intro z; cases z), hid_kind' hp h4 (by intro z; cases z)⟩
    obtain ⟨vs, hv, hl, g1, g2⟩ := haP.get
    -- first_marking
    refine ⟨_, rfl, a, rfl, ⟨_, SqL.of (hid_same _ _ hv)⟩, fun D1 hD1 => lc_list (K := K) (a := a) (xs := vs) (fun i H' => GrowV H H' D1 (((g.places.take i).map fun r => r.contains 0).map bV)) (GrowV.start hD1) (fun i H' _ G => SqL.of (G.same _ _ (hid_same _ _ hv))) ?_ ?_⟩
    · rintro i y H' hi G
      obtain ⟨q, r, rfl, hri, d2, s2, w2, h2, h3, h4⟩ := g2 i y hi
      refine ⟨rfl, lcY ⟨_, rfl, q, C.reg, d2, _, _, rfl, G.same _ _ (hid_same _ _ h2), T.reg, T.reg_states, lk_here, s2, _, rfl, .inl (SqL.of (G.same _ _ (hid_same _ _ h3))), rfl, flat_ls r, _, rfl, ?_⟩⟩
      have ec : (if false then !inV (V.int 0) (r.map nV) else inV (V.int 0) (r.map nV)) = r.contains 0 := by rw [if_neg (by decide)]; exact in_ls (x := 0)
      rw [ec]
      have fin : ∀ b : Bool, r.contains 0 = b → ∃ acc, H' D1 = some (HO.lst acc) ∧ acc.length < sizeLine ∧ GrowV H (upd H' D1 (.lst (acc ++ [bV b]))) D1 (((g.places.take (i + 1)).map fun r => r.contains 0).map bV) := fun b e => by
        refine ⟨_, G.2, ?_, GrowV.eq G.put ?_⟩
        · rw [List.length_map, List.length_map]
          exact small (m := 1600) (Nat.le_trans (take_len hri) hfew)
        · rw [take_more hri, List.map_append, List.map_append, ← e]; rfl
      cases e : r.contains 0 with
      | true => exact iteT (fin true e)
      | false => exact iteF (fin false e)
    · rintro H1 G1
      rw [hl, List.take_length] at G1
      have hp1 := G1.same _ _ hp
      refine ⟨_, rfl, p, C.net, dx, [], rfl, hp1, T.net, T.net_first_marking, (by show 0 < 1000; decide), ?_⟩
      generalize hA : upd H1 p (HO.ins C.net dx (putF "first_marking" (V.ref D1) [])) = HA
      have hpA : HA p = some (.ins C.net dx [("first_marking", .ref D1)]) := by rw [← hA]; exact upd_same
      have SA : Same (hid H p) (hid HA p) := by rw [← hA, hid_upd]; exact hid_mono G1.same
      have mA : MkAt (hid HA p) D1 (g.marking 0) := by
        rw [← hA, hid_upd]
        exact hid_kind' hp1 G1.2 (by intro z; cases z)
      have aA := up_of up_reg _ _ _ _ (SA.trans hid_same) haP
      refine ⟨_, rfl, (g.k : Int), rfl, (small_int (by omega)).1, (small_int (by omega)).2, fun D2 hD2 => lc_rng (n := g.k) (fun i H' => Grow Ls HA H' D2 ((List.range i).map fun x => crossedN g g.places x 2)) (Grow.start hD2) ?_ ?_⟩
      · rintro i H' hi G
        refine ⟨rfl, lcY ⟨_, rfl, _, rfl, a, i, 2, g, g.places, rfl, up_of up_reg _ _ _ _ G.same aA, hi, hfew, fun H2 p2 S2 n2 L2 => ?_⟩⟩
        obtain ⟨acc, hacc, hlen⟩ := (G.keep up_ls S2).at
        refine ⟨acc, hacc, ?_, Grow.eq (Grow.push (x := crossedN g g.places i 2) (G.keep up_ls S2) hacc ?_) ?_⟩
        · rw [hlen, List.length_map, List.length_range]
          exact small (m := 6) (by omega)
        · show hid H2 D2 p2 = _
          rw [hid_at (fun e => by rw [e] at n2; obtain ⟨_, z, _⟩ := G.at; rw [z] at n2; cases n2)]
          exact L2
        · rw [List.range_succ, List.map_append]; rfl
      · rintro HB GB
        have hpB := GB.same _ _ hpA
        refine ⟨_, rfl, p, C.net, dx, _, rfl, hpB, T.net, T.net_left_by_event, (by show 1 < 1000; decide), ?_⟩
        generalize hBe : upd HB p (HO.ins C.net dx (putF "left_by_event" (V.ref D2) [("first_marking", V.ref D1)])) = HC
        have hpC : HC p = some (.ins C.net dx [("first_marking", .ref D1), ("left_by_event", .ref D2)]) := by rw [← hBe]; exact upd_same
        have SC : Same (hid HA p) (hid HC p) := by rw [← hBe, hid_upd]; exact hid_mono GB.same
        have lC : LsOf Ls (hid HC p) D2 ((List.range g.k).map fun x => crossedN g g.places x 2) := by
          rw [← hBe, hid_upd]
          obtain ⟨ps, e, h1, k1⟩ := GB.done up_ls
          exact ⟨ps, e, hid_kind' hpB h1 (by intro z; cases z), fun q hq => hid_kind' hpB (k1 q hq) (by intro z; cases z)⟩
        have aC := up_of up_reg _ _ _ _ ((SA.trans SC).trans hid_same) haP
        refine ⟨_, rfl, (g.k : Int), rfl, (small_int (by omega)).1, (small_int (by omega)).2, fun D3 hD3 => lc_rng (n := g.k) (fun i H' => Grow Ls HC H' D3 ((List.range i).map fun x => crossedN g g.places x 1)) (Grow.start hD3) ?_ ?_⟩
        · rintro i H' hi G
          refine ⟨rfl, lcY ⟨_, rfl, _, rfl, a, i, 1, g, g.places, rfl, up_of up_reg _ _ _ _ G.same aC, hi, hfew, fun H2 p2 S2 n2 L2 => ?_⟩⟩
          obtain ⟨acc, hacc, hlen⟩ := (G.keep up_ls S2).at
          refine ⟨acc, hacc, ?_, Grow.eq (Grow.push (x := crossedN g g.places i 1) (G.keep up_ls S2) hacc ?_) ?_⟩
          · rw [hlen, List.length_map, List.length_range]
            exact small (m := 6) (by omega)
          · show hid H2 D3 p2 = _
            rw [hid_at (fun e => by rw [e] at n2; obtain ⟨_, z, _⟩ := G.at; rw [z] at n2; cases n2)]
            exact L2
          · rw [List.range_succ, List.map_append]; rfl
        · rintro HD GD
          have hpD := GD.same _ _ hpC
          refine ⟨_, rfl, p, C.net, dx, _, rfl, hpD, T.net, T.net_entered_by_event, (by show 2 < 1000; decide), ?_⟩
          have SD : Same (hid HC p) (hid HD p) := hid_mono GD.same
          have eD : LsOf Ls (hid HD p) D3 ((List.range g.k).map fun x => crossedN g g.places x 1) := by
            obtain ⟨ps, e, h1, k1⟩ := GD.done up_ls
            exact ⟨ps, e, hid_kind' hpD h1 (by intro z; cases z), fun q hq => hid_kind' hpD (k1 q hq) (by intro z; cases z)⟩
          have up : ∀ o, Same (hid HD p) (upd HD p o) := fun o => by
            have z : Same (hid HD p) (hid (upd HD p o) p) := by rw [hid_upd]; exact Same.refl _
            exact z.trans hid_same
          refine k _ ⟨dx, D1, D2, D3, upd_same, ?_, ?_, ?_⟩ ?_
          · exact ((SC.trans SD).trans (up _)) _ _ mA
          · exact up_of up_ls _ _ _ _ (SD.trans (up _)) lC
          · exact up_of up_ls _ _ _ _ (up _) eD
          · exact ((SA.trans SC).trans SD).trans (up _)
/-! ### Net.may_happen(event, marking) -/
theorem bV_zero (l : List Bool) : (if true then !inV (V.int 0) (l.map bV) else inV (V.int 0) (l.map bV)) = l.all id := by
  rw [if_pos rfl]
  unfold inV
  rw [List.any_map, List.not_any_eq_all_not]
  refine all_congrM fun b _ => ?_
  cases b <;> rfl
theorem bV_one (l : List Bool) : (if true then !inV (V.int 1) (l.map bV) else inV (V.int 1) (l.map bV)) = l.all fun b => !b := by
  rw [if_pos rfl]
  unfold inV
  rw [List.any_map, List.not_any_eq_all_not]
  refine all_congrM fun b _ => ?_
  cases b <;> rfl
theorem flat_bV (l : List Bool) : (l.map bV).all flatV = true := by
  rw [List.all_eq_true]; intro v hv
  obtain ⟨x, _, rfl⟩ := List.mem_map.mp hv
  rfl
theorem crossed_lt {g : Sn} {ps : List States} {e : Nat} {x : Int} {i : Nat} (h : i ∈ crossedN g ps e x) : i < ps.length := List.mem_range.mp (List.mem_filter.mp h).1
theorem crossed_len (g : Sn) (ps : List States) (e : Nat) (x : Int) : (crossedN g ps e x).length ≤ ps.length := by
  unfold crossedN
  refine Nat.le_trans (List.length_filter_le ..) ?_
  rw [List.length_range]; exact Nat.le_refl _
def spMay (C : Cs) : Sp := fun vs H Q _ => ∃ (n m : Addr) (e : Nat) (g : Sn) (mk : Marking), vs = [.ref n, nV e, .ref m] ∧ NetAt C H n g ∧ e < g.k ∧ MkAt H m mk ∧ List.length mk = g.places.length ∧ g.places.length ≤ 1600 ∧ ∀ H' : Hp, Same H H' → Q (.bl (g.may mk e)) H'
theorem ok_may_happen (T : Txt K mg C) (h : AtM K C.net "may_happen" "Net.may_happen" (inClass (top 13) 1) ["self", "event", "marking"]) : Dm P w K mg base C.net 1 "may_happen" ["self", "event", "marking"] (spMay C) := by
  have sc : FnScope ["self", "event", "marking", "left", "entered", "place"] ["self", "event", "marking"] (defScope (inClass (top 13) 1)) := ⟨rfl, rfl, rfl, by decide +kernel, rfl, by decide +kernel, by decide +kernel⟩
  refine Dm.mk T.net h sc (fun vs H Q E h => ?_) (fun f cdv A outer s H vs Q E hr h => ⟨_, (pss_cons (ps_setLc (i := 3) (own := [("place", 5)]) (g := gName 5) rfl sc.nd rfl rfl (sw_true rfl rfl rfl (by decide +kernel)) (pi_list (pe_ix (ix_listK (K := K) rfl) (pe_fldK (K := K) rfl (pv 0) rfl) (pv 1) (fun _ _ => rfl))) (blkOk_by (own := [("place", 5)]) (N := ["self", "event", "marking", "left", "entered", "place"]) (sc := defScope (inClass (top 13) 1)) (by decide +kernel)) (fun _ _ _ _ _ => pg_name (i := 5) sc.nd rfl (Or.inl rfl)) (fun _ _ _ _ _ => pts_nil) (fun _ _ _ _ _ => (pe_ix (ix_listK (K := K) rfl) (pv 2) (pv 5) (fun _ _ => rfl))))
      (pss_cons (ps_setLc (i := 4) (own := [("place", 5)]) (g := gName 5) rfl sc.nd rfl rfl (sw_true rfl rfl rfl (by decide +kernel)) (pi_list (pe_ix (ix_listK (K := K) rfl) (pe_fldK (K := K) rfl (pv 0) rfl) (pv 1) (fun _ _ => rfl))) (blkOk_by (own := [("place", 5)]) (N := ["self", "event", "marking", "left", "entered", "place"]) (sc := defScope (inClass (top 13) 1)) (by decide +kernel)) (fun _ _ _ _ _ => pg_name (i := 5) sc.nd rfl (Or.inl rfl)) (fun _ _ _ _ _ => pts_nil) (fun _ _ _ _ _ => (pe_ix (ix_listK (K := K) rfl) (pv 2) (pv 5) (fun _ _ => rfl))))
      (pss_one (ps_ret (pe_and (pe_cmpR (notIn_seqK (K := K) rfl) pe_int (pv 3) rfl) (pe_one (pe_cmpR (notIn_seqK (K := K) rfl) pe_int (pv 4) rfl))))))), ?_⟩)
  · obtain ⟨n, m, e, g, mk, rfl, _⟩ := h; rfl
  · obtain ⟨n, m, e, g, mk, rfl, ⟨dx, fm, lb, eb, h1, h2, h3, h4⟩, he, hm, hml, hfew, k⟩ := h
    obtain ⟨vs, hv, hl, g1, g2⟩ := h3.get
    obtain ⟨us, hu, hul, u1, u2⟩ := h4.get
    obtain ⟨pl, hpl, rl⟩ := g1 e _ (get_map (by rw [List.getElem?_range he]))
    obtain ⟨pe, hpe, re⟩ := u1 e _ (get_map (by rw [List.getElem?_range he]))
    have mget : ∀ i, i < g.places.length → mk[i]? = some (mk.getD i false) := fun i hi => by
      rw [List.getD_eq_getElem?_getD, List.getElem?_eq_getElem (by omega)]; rfl
    refine ⟨_, rfl, n, C.net, dx, _, _, rfl, h1, T.net, T.net_left_by_event, (lk_past (by decide +kernel)).trans lk_here, _, rfl, lb, _, _, _, rfl, rfl, SqL.of hv, atI_nat hpl, pl, rfl, ⟨_, SqL.of rl⟩, fun D1 hD1 => lc_list (K := K) (a := pl) (xs := (crossedN g g.places e 2).map nV)
      (fun i H' => GrowV H H' D1 ((((crossedN g g.places e 2).take i).map fun i => mk.getD i false).map bV)) (GrowV.start hD1) (fun i H' _ G => SqL.of (G.same _ _ rl)) ?_ ?_⟩
    · rintro i y H' hi G
      obtain ⟨x, hxi, rfl⟩ := map_get hi
      have hx := crossed_lt (get_mem hxi)
      refine ⟨rfl, lcY ⟨_, rfl, _, rfl, m, _, _, _, rfl, rfl, SqL.of (G.same _ _ hm), atI_nat (get_map (mget x hx)), _, G.2, ?_, GrowV.eq G.put ?_⟩⟩
      · rw [List.length_map, List.length_map]
        exact small (m := 1600) (Nat.le_trans (take_len hxi) (Nat.le_trans (crossed_len ..) hfew))
      · rw [take_more hxi, List.map_append, List.map_append]; rfl
    · rintro H1 G1
      rw [List.length_map, List.take_length] at G1
      refine ⟨_, rfl, n, C.net, dx, _, _, rfl, G1.same _ _ h1, T.net, T.net_entered_by_event, (lk_past (by decide +kernel)).trans ((lk_past (by decide +kernel)).trans lk_here), _, rfl, eb, _, _, _, rfl, rfl, SqL.of (G1.same _ _ hu), atI_nat hpe, pe, rfl, ⟨_, SqL.of (G1.same _ _ re)⟩, fun D2 hD2 => lc_list (K := K) (a := pe) (xs := (crossedN g g.places e 1).map nV)
        (fun i H' => GrowV H1 H' D2 ((((crossedN g g.places e 1).take i).map fun i => mk.getD i false).map bV)) (GrowV.start hD2) (fun i H' _ G => SqL.of (G.same _ _ (G1.same _ _ re))) ?_ ?_⟩
      · rintro i y H' hi G
        obtain ⟨x, hxi, rfl⟩ := map_get hi
        have hx := crossed_lt (get_mem hxi)
        refine ⟨rfl, lcY ⟨_, rfl, _, rfl, m, _, _, _, rfl, rfl, SqL.of (G.same _ _ (G1.same _ _ hm)), atI_nat (get_map (mget x hx)), _, G.2, ?_, GrowV.eq G.put ?_⟩⟩
        · rw [List.length_map, List.length_map]
          exact small (m := 1600) (Nat.le_trans (take_len hxi) (Nat.le_trans (crossed_len ..) hfew))
        · rw [take_more hxi, List.map_append, List.map_append]; rfl
      · rintro H2 G2
        rw [List.length_map, List.take_length] at G2
        have kk := k H2 (G1.same.trans G2.same)
        rw [may_eq g mk e hml] at kk
        refine ⟨_, rfl, D1, _, rfl, .inl (SqL.of (G2.same _ _ G1.2)), rfl, flat_bV _, _, rfl, ?_⟩
        rw [bV_zero, List.all_map]
        have e1 : (crossedN g g.places e 2).all (id ∘ fun i => mk.getD i false) = (crossedN g g.places e 2).all fun i => mk.getD i false := rfl
        rw [e1]
        refine ite2 (fun c => ?_) (fun c => ?_)
        · refine ⟨_, rfl, D2, _, rfl, .inl (SqL.of G2.2), rfl, flat_bV _, ?_⟩
          rw [bV_one, List.all_map]
          rw [c, Bool.true_and] at kk
          exact kk
        · rw [Bool.eq_false_iff.mpr c, Bool.false_and] at kk
          exact kk
/-! ### Net.marking_behind(event, marking) -/
def spBehind (C : Cs) : Sp := fun vs H Q _ => ∃ (n m : Addr) (e : Nat) (g : Sn) (mk : Marking), vs = [.ref n, nV e, .ref m] ∧ NetAt C H n g ∧ e < g.k ∧ MkAt H m mk ∧ List.length mk = g.places.length ∧ g.places.length ≤ 1600 ∧ ∀ (H' : Hp) (p : Addr), Same H H' → H p = none → MkAt H' p (g.fired mk e) → Q (.ref p) H'
theorem ok_marking_behind (T : Txt K mg C) (h : AtM K C.net "marking_behind" "Net.marking_behind" (inClass (top 13) 2) ["self", "event", "marking"]) : Dm P w K mg base C.net 1 "marking_behind" ["self", "event", "marking"] (spBehind C) := by
  have sc : FnScope ["self", "event", "marking", "changed", "place"] ["self", "event", "marking"] (defScope (inClass (top 13) 2)) := ⟨rfl, rfl, rfl, by decide +kernel, rfl, by decide +kernel, by decide +kernel⟩
  refine Dm.mk T.net h sc (fun vs H Q E h => ?_) (fun f cdv A outer s H vs Q E hr h => ⟨_, (pss_cons (ps_set (i := 3) sc.nd rfl (Or.inl rfl) (pe_callTy call_list_of (by rfl) T.list (by decide +kernel) (pa_cons (pv 2) pa_nil)))
      (pss_cons (ps_for PassesOwn.never rfl (pi_list (pe_ix (ix_listK (K := K) rfl) (pe_fldK (K := K) rfl (pv 0) rfl) (pv 1) (fun _ _ => rfl))) (pg_name (i := 4) sc.nd rfl (Or.inl rfl)) (pss_one (ps_asg pe_int (pg_sub (pv 3) (pv 4) set_list))))
      (pss_cons (ps_for PassesOwn.never rfl (pi_list (pe_ix (ix_listK (K := K) rfl) (pe_fldK (K := K) rfl (pv 0) rfl) (pv 1) (fun _ _ => rfl))) (pg_name (i := 4) sc.nd rfl (Or.inl rfl)) (pss_one (ps_asg pe_int (pg_sub (pv 3) (pv 4) set_list))))
      (pss_one (ps_ret (pv 3)))))), ?_⟩)
  · obtain ⟨n, m, e, g, mk, rfl, _⟩ := h; rfl
  · obtain ⟨n, m, e, g, mk, rfl, ⟨dx, fm, lb, eb, h1, h2, h3, h4⟩, he, hm, hml, hfew, k⟩ := h
    obtain ⟨vs, hv, hl, g1, g2⟩ := h3.get
    obtain ⟨us, hu, hul, u1, u2⟩ := h4.get
    obtain ⟨pl, hpl, rl⟩ := g1 e _ (get_map (by rw [List.getElem?_range he]))
    obtain ⟨pe, hpe, re⟩ := u1 e _ (get_map (by rw [List.getElem?_range he]))
    refine ⟨_, rfl, m, _, rfl, .inl (SqL.of hm), fun l hl0 => ?_⟩
    have S0 := same_new (o := HO.lst (mk.map bV)) hl0
    refine ⟨_, rfl, n, C.net, dx, _, _, rfl, S0 _ _ h1, T.net, T.net_left_by_event, (lk_past (by decide +kernel)).trans lk_here, _, rfl, lb, _, _, _, rfl, rfl, SqL.of (S0 _ _ hv), atI_nat hpl, pl, rfl, ⟨_, SqL.of (S0 _ _ rl)⟩, for_list (K := K) (a := pl) (xs := (crossedN g g.places e 2).map nV)
      (fun i σ H' => (∃ v : Option V, σ = [some (.ref n), some (nV e), some (.ref m), some (.ref l), v]) ∧ GrowV H H' l ((setAll mk ((crossedN g g.places e 2).take i) false).map bV)) ⟨⟨none, rfl⟩, GrowV.start hl0⟩ (fun i σ H' _ ⟨_, G⟩ => SqL.of (G.same _ _ rl)) ?_ ?_⟩
    · rintro i y σ H' hi ⟨⟨v, rfl⟩, G⟩
      obtain ⟨x, hxi, rfl⟩ := map_get hi
      have hx := crossed_lt (get_mem hxi)
      refine ⟨_, rfl, _, rfl, l, _, _, x, rfl, rfl, G.2, ixN_nat (by rw [List.length_map, setAll_len]; omega), ⟨_, rfl⟩, GrowV.eq G.put ?_⟩
      rw [take_more hxi]
      unfold setAll
      rw [List.foldl_append]
      show _ = List.map bV (List.set _ x false)
      rw [List.map_set]; rfl
    · rintro σ H1 ⟨⟨v, rfl⟩, G1⟩
      rw [List.length_map, List.take_length] at G1
      refine ⟨_, rfl, n, C.net, dx, _, _, rfl, G1.same _ _ h1, T.net, T.net_entered_by_event, (lk_past (by decide +kernel)).trans ((lk_past (by decide +kernel)).trans lk_here), _, rfl, eb, _, _, _, rfl, rfl, SqL.of (G1.same _ _ hu), atI_nat hpe, pe, rfl, ⟨_, SqL.of (G1.same _ _ re)⟩, for_list (K := K) (a := pe) (xs := (crossedN g g.places e 1).map nV)
        (fun i σ H' => (∃ v : Option V, σ = [some (.ref n), some (nV e), some (.ref m), some (.ref l), v]) ∧ GrowV H H' l ((setAll (setAll mk (crossedN g g.places e 2) false) ((crossedN g g.places e 1).take i) true).map bV)) ⟨⟨v, rfl⟩, G1⟩ (fun i σ H' _ ⟨_, G⟩ => SqL.of (G.same _ _ re)) ?_ ?_⟩
      · rintro i y σ H' hi ⟨⟨v, rfl⟩, G⟩
        obtain ⟨x, hxi, rfl⟩ := map_get hi
        have hx := crossed_lt (get_mem hxi)
        refine ⟨_, rfl, _, rfl, l, _, _, x, rfl, rfl, G.2, ixN_nat (by rw [List.length_map, setAll_len, setAll_len]; omega), ⟨_, rfl⟩, GrowV.eq G.put ?_⟩
        rw [take_more hxi]
        unfold setAll
        rw [List.foldl_append]
        show _ = List.map bV (List.set _ x true)
        rw [List.map_set]; rfl
      · rintro σ H2 ⟨⟨v, rfl⟩, G2⟩
        rw [List.length_map, List.take_length, ← fired_eq g mk e hml] at G2
        exact ⟨_, rfl, k H2 l G2.same hl0 G2.2⟩
end
end Rn
namespace Rn
open PySem PySem.Spec PyProof.Rows L2
open Sq64 (States Marking Arc)

section
variable {P : Program} {w : World} {K : PySem.W.Frag} {mg : Str → Option Value} {base : Heap} {C : Cs}

/-! ### Net.next_markings(marking) -/
def MkN (H0 : Hp) (H : Hp) (a : Addr) (m : Marking) : Prop := MkAt H a m ∧ H0 a = none
theorem up_mkN {H0 : Hp} : Up (MkN H0) := fun _ _ _ _ s h => ⟨s _ _ h.1, h.2⟩
def spNext (C : Cs) : Sp := fun vs H Q _ => ∃ (n m : Addr) (g : Sn) (mk : Marking), vs = [.ref n, .ref m] ∧ NetAt C H n g ∧ g.k ≤ 6 ∧ MkAt H m mk ∧ List.length mk = g.places.length ∧ g.places.length ≤ 1600 ∧ ∀ (H' : Hp) (p : Addr), Same H H' → H p = none → LsOf (MkN H) H' p (succs g mk) → Q (.ref p) H'
theorem ok_next_markings (T : Txt K mg C) (D_may_happen : Dm P w K mg base C.net 1 "may_happen" ["self", "event", "marking"] (spMay C)) (D_marking_behind : Dm P w K mg base C.net 1 "marking_behind" ["self", "event", "marking"] (spBehind C)) (h : AtM K C.net "next_markings" "Net.next_markings" (inClass (top 13) 3) ["self", "marking"]) :
    Dm P w K mg base C.net 2 "next_markings" ["self", "marking"] (spNext C) := by
  have sc : FnScope ["self", "marking", "happening", "event"] ["self", "marking"] (defScope (inClass (top 13) 3)) := ⟨rfl, rfl, rfl, by decide +kernel, rfl, by decide +kernel, by decide +kernel⟩
  refine Dm.mk T.net h sc (fun vs H Q E h => ?_) (fun f cdv A outer s H vs Q E hr h => ⟨_, (pss_cons (ps_setLc (i := 2) (own := [("event", 3)]) (g := gName 3) rfl sc.nd rfl rfl (sw_true rfl rfl rfl (by decide +kernel)) (pi_range1 rfl T.range (pa_cons (pe_callB call_len_seq (by rfl) T.len PySem.boot_len (pa_cons (pe_fldK (K := K) rfl (pv 0) rfl) pa_nil)) pa_nil)) (blkOk_by (own := [("event", 3)]) (N := ["self", "marking", "happening", "event"]) (sc := defScope (inClass (top 13) 3)) (by decide +kernel)) (fun _ _ _ _ _ => pg_name (i := 3) sc.nd rfl (Or.inl rfl)) (fun _ _ _ _ _ => pts_one (pt_val (pe_mt (pv 0) D_may_happen (hr.mono (by decide)) (pa_cons (pv 3) (pa_cons (pv 1) pa_nil))))) (fun _ _ _ _ _ => (pv 3)))
      (pss_one (ps_ret (pe_lc (own := [("event", 3)]) (g := gName 3) rfl sc.nd (pi_list (pv 2)) (blkOk_by (own := [("event", 3)]) (N := ["self", "marking", "happening", "event"]) (sc := defScope (inClass (top 13) 3)) (by decide +kernel)) (fun _ _ _ _ _ => pg_name (i := 3) sc.nd rfl (Or.inl rfl)) (fun _ _ _ _ _ => pts_nil) (fun _ _ _ _ _ => (pe_mt (pv 0) D_marking_behind (hr.mono (by decide)) (pa_cons (pv 3) (pa_cons (pv 1) pa_nil)))))))), ?_⟩)
  · obtain ⟨n, m, g, mk, rfl, _⟩ := h; rfl
  · obtain ⟨n, m, g, mk, rfl, hN, hk, hm, hml, hfew, k⟩ := h
    obtain ⟨dx, fm, lb, eb, h1, h2, h3, h4⟩ := id hN
    have look : ∀ x : Str, (x == ("first_marking" : Str)) = false → (x == ("left_by_event" : Str)) = false → (x == ("entered_by_event" : Str)) = false → List.lookup x ([("first_marking", V.ref fm), ("left_by_event", V.ref lb), ("entered_by_event", V.ref eb)] : List (Str × V)) = none := fun x a b c => (lk_past a).trans ((lk_past b).trans ((lk_past c).trans rfl))
    obtain ⟨vs, hv, hl, g1, g2⟩ := h3.get
    have hvk : vs.length = g.k := by rw [hl]; simp
    refine ⟨_, rfl, n, C.net, dx, _, _, rfl, h1, T.net, T.net_left_by_event, (lk_past (by decide +kernel)).trans lk_here, lb, _, rfl, .inl (SqL.of hv), (vs.length : Int), rfl, (small_int (by omega)).1, (small_int (by omega)).2, fun D1 hD1 => ?_⟩
    refine lc_rng (n := vs.length) (fun i H' => GrowV H H' D1 (((List.range i).filter (g.may mk)).map nV)) (GrowV.start hD1) ?_ ?_
    · rintro i H' hi G
      refine ⟨rfl, ?_⟩
      refine ⟨_, rfl, n, dx, _, rfl, G.same _ _ h1, look _ (by decide +kernel) (by decide +kernel) (by decide +kernel), _, rfl, _, rfl, n, m, i, g, mk, rfl, up_net _ _ _ _ G.same hN, by omega, G.same _ _ hm, hml, hfew, fun H2 S2 => ⟨_, rfl, ite2 (fun c => ?_) (fun c => ?_)⟩⟩
      · have G2 := G.keep S2
        refine ⟨_, rfl, _, G2.2, ?_, GrowV.eq G2.put ?_⟩
        · rw [List.length_map]
          refine small (m := 6) (Nat.le_trans (List.length_filter_le ..) ?_)
          rw [List.length_range]; omega
        · rw [List.range_succ, List.filter_append, List.filter_cons_of_pos c, List.map_append]; rfl
      · refine GrowV.eq (G.keep S2) ?_
        rw [List.range_succ, List.filter_append, List.filter_cons_of_neg c]; simp
    · rintro H1 G1
      rw [hvk] at G1
      refine ⟨_, rfl, D1, rfl, ⟨_, SqL.of G1.2⟩, fun D2 hD2 => lc_list (K := K) (a := D1) (xs := ((List.range g.k).filter (g.may mk)).map nV) (fun i H' => Grow (MkN H) H1 H' D2 ((((List.range g.k).filter (g.may mk)).take i).map (g.fired mk))) (Grow.start hD2) (fun i H' _ G => SqL.of (G.same _ _ G1.2)) ?_ ?_⟩
      · rintro i y H' hi G
        obtain ⟨e, hei, rfl⟩ := map_get hi
        have hek : e < g.k := List.mem_range.mp (List.mem_filter.mp (get_mem hei)).1
        have S' : Same H H' := G1.same.trans G.same
        refine ⟨rfl, lcY ⟨_, rfl, n, dx, _, rfl, S' _ _ h1, look _ (by decide +kernel) (by decide +kernel) (by decide +kernel), _, rfl, _, rfl, n, m, e, g, mk, rfl, up_net _ _ _ _ S' hN, hek, S' _ _ hm, hml, hfew, fun H2 p2 S2 n2 M2 => ?_⟩⟩
        obtain ⟨acc, hacc, hlen⟩ := (G.keep up_mkN S2).at
        refine ⟨acc, hacc, ?_, Grow.eq (Grow.push (x := g.fired mk e) (G.keep up_mkN S2) hacc ⟨?_, S'.free n2⟩) ?_⟩
        · rw [hlen, List.length_map]
          refine small (m := 6) (Nat.le_trans (take_len hei) (Nat.le_trans (List.length_filter_le ..) ?_))
          rw [List.length_range]; exact hk
        · show hid H2 D2 p2 = _
          rw [hid_at (fun z => by rw [z] at n2; obtain ⟨_, q, _⟩ := G.at; rw [q] at n2; cases n2)]
          exact M2
        · rw [take_more hei, List.map_append]; rfl
      · rintro H2 G2
        rw [List.length_map, List.take_length] at G2
        exact k H2 D2 (G1.same.trans G2.same) (G1.same.free hD2) (G2.done up_mkN)
/-! ### markings_come_to(net, most_events) -/
def mK (m : Marking) : List Key := List.map (fun b => Sum.inl (if b = true then (1 : Int) else 0)) m
theorem mK_kV (m : Marking) : (mK m).map kV = List.map bV m := by
  unfold mK
  rw [List.map_map]; rfl
theorem mK_inj {m q : Marking} (h : mK m = mK q) : m = q := by
  induction m generalizing q with
  | nil => cases q with
    | nil => rfl
    | cons _ _ => cases h
  | cons a m ih => cases q with
    | nil => cases h
    | cons b q =>
      have h1 := List.cons.inj h
      have e1 : (if a = true then (1 : Int) else 0) = if b = true then (1 : Int) else 0 := Sum.inl.inj h1.1
      have e2 : a = b := by cases a <;> cases b <;> first | rfl | (simp at e1)
      rw [e2, ih h1.2]
def kvsOf (l : List Marking) : List (List Key × V) := l.map fun m => (mK m, V.bl true)
theorem kvs_has (l : List Marking) (m : Marking) : (valV (kvsOf l) (mK m)).isSome = l.contains m := by
  rw [← valV_any]
  unfold kvsOf
  rw [List.any_map, List.contains_eq_any_beq]
  congr 1
  funext x
  show decide (mK x = mK m) = (m == x)
  rw [Bool.eq_iff_iff, decide_eq_true_eq, beq_iff_eq]
  exact ⟨fun z => (mK_inj z).symm, fun z => by rw [z]⟩
theorem kvs_add (l : List Marking) (m : Marking) (h : ¬ l.contains m = true) : putK (kvsOf l) (mK m) (.bl true) = kvsOf (l ++ [m]) := by
  have hn : valV (kvsOf l) (mK m) = none := by
    rw [← Option.not_isSome_iff_eq_none, kvs_has]; exact h
  rw [putK_new _ hn]
  unfold kvsOf
  rw [List.map_append]; rfl
def spComeTo (C : Cs) : Sp := fun vs H Q _ => ∃ (n : Addr) (g : Sn) (t : Nat), vs = [.ref n, nV t] ∧ NetAt C H n g ∧ g.k ≤ 6 ∧ g.places.length ≤ 1600 ∧ t ≤ 10 ∧ ∀ (H' : Hp) (p : Addr) (ys : List V), Same H H' → H' p = some (.lst ys) → ys.length = (g.comes t [g.marking 0]).length → Q (.ref p) H'
theorem ok_markings_come_to (T : Txt K mg C) (D_next_markings : Dm P w K mg base C.net 2 "next_markings" ["self", "marking"] (spNext C)) (h : At K mg "markings_come_to" (top 15) ["net", "most_events"]) : Dfn P w K mg base 3 "markings_come_to" ["net", "most_events"] (spComeTo C) := by
  have sc : FnScope ["net", "most_events", "known", "newest", "turn", "found", "marking", "behind"] ["net", "most_events"] (defScope (top 15)) := ⟨rfl, rfl, rfl, by decide +kernel, rfl, by decide +kernel, by decide +kernel⟩
  refine Dfn.mk h sc (fun vs H Q E h => ?_) (fun f cdv A outer s H vs Q E hr h => ⟨_, (pss_cons (ps_set (i := 2) sc.nd rfl (Or.inl rfl) (pe_dispT (hu_of hr) (pe_callTy call_tuple_of (by rfl) T.tuple (by decide +kernel) (pa_cons (pe_fldK (K := K) rfl (pv 0) rfl) pa_nil)) pe_bl))
      (pss_cons (ps_set (i := 3) sc.nd rfl (Or.inl rfl) (pe_lst (pa_cons (pe_fldK (K := K) rfl (pv 0) rfl) pa_nil)))
      (pss_cons (ps_for PassesOwn.never rfl (pi_range1 rfl T.range (pa_cons (pv 1) pa_nil)) (pg_name (i := 4) sc.nd rfl (Or.inl rfl)) (pss_cons (ps_set (i := 5) sc.nd rfl (Or.inl rfl) (pe_lst pa_nil))
      (pss_cons (ps_for PassesOwn.never rfl (pi_list (pv 3)) (pg_name (i := 6) sc.nd rfl (Or.inl rfl)) (pss_one (ps_for PassesOwn.never rfl (pi_list (pe_mt (pv 0) D_next_markings (hr.mono (by decide)) (pa_cons (pv 6) pa_nil))) (pg_name (i := 7) sc.nd rfl (Or.inl rfl)) (pss_one (ps_if (pt_cmp (pc_dnotin (hu_of hr) (pe_callTy call_tuple_of (by rfl) T.tuple (by decide +kernel) (pa_cons (pv 7) pa_nil)) (pv 2))) (pss_cons (ps_dput (hu_of hr) (pv 2) (pe_callTy call_tuple_of (by rfl) T.tuple (by decide +kernel) (pa_cons (pv 7) pa_nil)) pe_bl rfl)
      (pss_one (ps_expr (pe_bm PySem.F.plainAttrs_list PySem.F.slot_list_append PySem.F.type_list_append mt_append (pv 5) (pa_cons (pv 7) pa_nil))))) pss_nil)))))
      (pss_one (ps_set (i := 3) sc.nd rfl (Or.inl rfl) (pv 5))))))
      (pss_one (ps_ret (pe_callTy (call_list_dT rfl) (by rfl) T.list (by decide +kernel) (pa_cons (pv 2) pa_nil))))))), ?_⟩)
  · obtain ⟨n, g, t, rfl, _⟩ := h; rfl
  · obtain ⟨n, g, t, rfl, hN, hk, hfew, ht, k⟩ := h
    obtain ⟨dx, fm, lb, eb, h1, h2, h3, h4⟩ := id hN
    have look : List.lookup ("next_markings" : Str) ([("first_marking", V.ref fm), ("left_by_event", V.ref lb), ("entered_by_event", V.ref eb)] : List (Str × V)) = none := (lk_past (by decide +kernel)).trans ((lk_past (by decide +kernel)).trans ((lk_past (by decide +kernel)).trans rfl))
    intro d hd
    have Sd := same_new (o := HO.dT []) hd
    refine ⟨_, rfl, n, C.net, dx, _, _, rfl, Sd _ _ h1, T.net, T.net_first_marking, lk_here, fm, _, rfl, .inl ⟨SqL.of (Sd _ _ h2), fun tp htp => ?_⟩⟩
    have S1 := Sd.trans (same_new (o := HO.tup ((g.marking 0).map bV)) htp)
    have hdt : d ≠ tp := fun e => by rw [← e, upd_same] at htp; cases htp
    refine ⟨mK (g.marking 0), tp, _, rfl, by rw [mK_kV]; exact upd_same, by rw [upd_ne hdt]; exact upd_same, ?_⟩
    -- known = {..}
    generalize hA : upd (upd (upd H d (HO.dT [])) tp (HO.tup ((g.marking 0).map bV))) d (HO.dT [(mK (g.marking 0), V.bl true)]) = HA
    have SA : Same H (hid HA d) := by
      rw [← hA, hid_upd]
      exact same_hid S1 hd
    have hdA : HA d = some (.dT (kvsOf [g.marking 0])) := by rw [← hA]; exact upd_same
    refine ⟨_, rfl, n, C.net, dx, _, _, rfl, (SA.trans hid_same) _ _ h1, T.net, T.net_first_marking, lk_here, by show 1 ≤ sizeLine; decide, fun nw hnw => ?_⟩
    have hdn : nw ≠ d := fun e => by rw [e, hdA] at hnw; cases hnw
    have SB : Same HA (upd HA nw (.lst [V.ref fm])) := same_new hnw
    refine ⟨_, rfl, (t : Int), rfl, (small_int (by omega)).1, (small_int (by omega)).2, ?_⟩
    refine for_rng (lo := 0) (n := t) (fun i σ H' => ∃ (old new : List Marking) (nw : Addr) (v1 v2 v3 v4 : Option V), σ = [some (.ref n), some (nV t), some (.ref d), some (.ref nw), v1, v2, v3, v4] ∧ Same H (hid H' d) ∧ H' d = some (.dT (kvsOf (old ++ new))) ∧ LsOf MkAt (hid H' d) nw new ∧
        Front g i old new ∧ g.comes (t - i) (old ++ new) = g.comes t [g.marking 0])
      ⟨[], [g.marking 0], nw, none, none, none, none, rfl, SA.trans (hid_mono SB), SB _ _ hdA, ?_, front_start g, rfl⟩ ?_ ?_
    · refine ⟨[(fm, g.marking 0)], rfl, ?_, fun p hp => ?_⟩
      · rw [hid_at hdn]; exact upd_same
      · rw [List.mem_singleton] at hp
        subst hp
        exact (SA.trans (hid_mono SB)) _ _ h2
    · rintro i σ H' hi ⟨old, new, nw, v1, v2, v3, v4, rfl, S, hd', hnew, F, hcomes⟩
      refine ⟨by show 0 ≤ sizeLine; decide, fun l hl0 => ?_⟩
      have hdl : d ≠ l := fun e => by rw [e, hl0] at hd'; cases hd'
      obtain ⟨vs, hv, hvl, g1, g2⟩ := hnew.get
      have base1 : Same (hid H' d) (hid (hid (upd H' l (.lst [])) d) l) := by
        rw [hid2_upd]
        have z : hid (hid H' d) l = hid H' d := hid_free (by rw [hid_at (fun e => hdl e.symm)]; exact hl0)
        rw [z]; exact Same.refl _
      have up2 : ∀ {Hx : Hp}, Same (hid H' d) (hid (hid Hx d) l) → Same (hid H' d) Hx := fun z => z.trans (hid_same.trans hid_same)
      have hl0d : hid H' d l = none := by rw [hid_at (fun e => hdl e.symm)]; exact hl0
      -- the invariant while l1 of all that comes has been gone through
      let J : List Marking → Hp → Prop := fun l1 H2 => Same (hid H' d) (hid (hid H2 d) l) ∧ ∃ found : List Marking, l1.foldl addM (old ++ new) = (old ++ new) ++ found ∧ H2 d = some (.dT (kvsOf ((old ++ new) ++ found))) ∧
        ∃ ps : List (Addr × Marking), ps.map (·.2) = found ∧ H2 l = some (.lst (ps.map fun p => V.ref p.1)) ∧ ∀ p ∈ ps, MkAt (hid (hid H2 d) l) p.1 p.2
      refine ⟨_, rfl, nw, rfl, ⟨_, SqL.of (up2 base1 _ _ hv)⟩, for_list (K := K) (a := nw) (xs := vs) (fun a σ H2 => (∃ v3 v4 : Option V, σ = [some (.ref n), some (nV t), some (.ref d), some (.ref nw), some (nV (0 + i)), some (.ref l), v3, v4]) ∧ J ((new.take a).flatMap (succs g)) H2)
        ⟨⟨v3, v4, rfl⟩, base1, [], by simp, by rw [upd_ne hdl, List.append_nil]; exact hd', [], rfl, upd_same, (fun p hp => nomatch hp)⟩ (fun a σ H2 _ ⟨_, j⟩ => SqL.of (up2 j.1 _ _ hv)) ?_ ?_⟩
      · rintro a y σ H2 ha ⟨⟨v3, v4, rfl⟩, j2⟩
        obtain ⟨pm, m, rfl, hma, rm⟩ := g2 a y ha
        have hml := F.len m (List.mem_append_right _ (get_mem hma))
        have SN : Same H H2 := S.trans (up2 j2.1)
        have hl2 : ∃ ys, H2 l = some (.lst ys) := by obtain ⟨_, _, _, _, ps, _, z, _⟩ := j2; exact ⟨_, z⟩
        have hd2 : ∃ kv, H2 d = some (.dT kv) := by obtain ⟨_, _, _, z, _⟩ := j2; exact ⟨_, z⟩
        refine ⟨_, rfl, n, dx, _, rfl, SN _ _ h1, look, _, rfl, n, pm, g, m, rfl, up_net _ _ _ _ SN hN, hk, up2 j2.1 _ _ rm, hml, hfew, fun H3 q3 S3 n3 L3 => ⟨q3, rfl, ?_⟩⟩
        obtain ⟨us, hu, hul, u1, u2⟩ := L3.get
        have hq3d : q3 ≠ d := fun e => by obtain ⟨_, z⟩ := hd2; rw [e, z] at n3; cases n3
        have hq3l : q3 ≠ l := fun e => by obtain ⟨_, z⟩ := hl2; rw [e, z] at n3; cases n3
        have keep : ∀ {Hx : Hp}, Same (hid (hid H3 d) l) (hid (hid Hx d) l) → Hx q3 = some (.lst us) := fun z => hid_same _ _ (hid_same _ _ (z _ _ (by rw [hid_at hq3l, hid_at hq3d]; exact hu)))
        refine ⟨⟨_, SqL.of hu⟩, for_list (K := K) (a := q3) (xs := us) (fun b σ H4 => (∃ v4 : Option V, σ = [some (.ref n), some (nV t), some (.ref d), some (.ref nw), some (nV (0 + i)), some (.ref l), some (.ref pm), v4]) ∧ Same (hid (hid H3 d) l) (hid (hid H4 d) l) ∧ J ((new.take a).flatMap (succs g) ++ (succs g m).take b) H4)
          ⟨⟨v4, rfl⟩, Same.refl _, ?_⟩ (fun b σ H4 _ ⟨_, z, _⟩ => SqL.of (keep z)) ?_ ?_⟩
        · obtain ⟨z1, found, e1, e2, ps, e3, e4, e5⟩ := j2
          exact ⟨z1.trans (hid_mono (hid_mono S3)), found, by simpa using e1, S3 _ _ e2, ps, e3, S3 _ _ e4, fun p hp => (hid_mono (hid_mono S3)) _ _ (e5 p hp)⟩
        · rintro b y σ H4 hb ⟨⟨v4, rfl⟩, z4, j4⟩
          obtain ⟨pb, x, rfl, hxb, rb, nb2⟩ := u2 b y hb
          obtain ⟨j41, found, e1, e2, ps, e3, e4, e5⟩ := j4
          have hpbd : pb ≠ d := fun e => by obtain ⟨_, z⟩ := hd2; rw [e, z] at nb2; cases nb2
          have hpbl : pb ≠ l := fun e => by obtain ⟨_, z⟩ := hl2; rw [e, z] at nb2; cases nb2
          have rb4 : MkAt (hid (hid H4 d) l) pb x := z4 _ _ (by rw [hid_at hpbl, hid_at hpbd]; exact rb)
          have rb4' : H4 pb = some (.lst (List.map bV x)) := hid_same _ _ (hid_same _ _ rb4)
          have enext : (new.take a).flatMap (succs g) ++ (succs g m).take (b + 1) = ((new.take a).flatMap (succs g) ++ (succs g m).take b) ++ [x] := by rw [take_more hxb, List.append_assoc]
          have esplit : new.flatMap (succs g) = ((new.take a).flatMap (succs g) ++ (succs g m).take (b + 1)) ++ ((succs g m).drop (b + 1) ++ (new.drop (a + 1)).flatMap (succs g)) := by
            have e6 : new = new.take a ++ (m :: new.drop (a + 1)) := by rw [← drop_get hma, List.take_append_drop]
            have e7 : (succs g m).take (b + 1) ++ (succs g m).drop (b + 1) = succs g m := List.take_append_drop _ _
            have e8 : new.flatMap (succs g) = (new.take a).flatMap (succs g) ++ (succs g m ++ (new.drop (a + 1)).flatMap (succs g)) := by
              have e9 : new.flatMap (succs g) = (new.take a ++ (m :: new.drop (a + 1))).flatMap (succs g) := congrArg (fun l => List.flatMap (succs g) l) e6
              rw [List.flatMap_append, List.flatMap_cons] at e9
              exact e9
            rw [e8, List.append_assoc, ← List.append_assoc ((succs g m).take (b + 1)), e7]
          have hbound := part_few hk F _ _ esplit
          rw [enext, List.foldl_append, e1] at hbound
          have hkb := kb_mono (i + 1) (by omega)
          have hb1 : ((old ++ new) ++ found).length ≤ 15000000 := Nat.le_trans (addM_len _ x).1 (Nat.le_trans hbound hkb)
          refine ⟨_, rfl, pb, _, rfl, .inl ⟨SqL.of rb4', fun t1 ht1 => ?_⟩⟩
          have s1 := same_new (o := HO.tup (List.map bV x)) ht1
          refine ⟨_, rfl, d, _, rfl, DGet.t (k := mK x) (s1 _ _ e2) (by rw [mK_kV]; exact upd_same), _, rfl, ?_⟩
          rw [kvs_has]
          refine ite2 (fun c => ?_) (fun c => ?_)
          · have hc : ¬ ((old ++ new) ++ found).contains x = true := by simpa using c
            refine ⟨_, rfl, _, rfl, pb, _, rfl, .inl ⟨SqL.of (s1 _ _ rb4'), fun t2 ht2 => ?_⟩⟩
            have s2 := s1.trans (same_new (o := HO.tup (List.map bV x)) ht2)
            refine ⟨d, _, rfl, DPut.t (k := mK x) (s2 _ _ e2) (by rw [mK_kV]; exact upd_same) ?_, ?_⟩
            · unfold kvsOf
              rw [List.length_map]
              exact small (m := 15000000) hb1
            · rw [kvs_add _ _ hc]
              have hl6 : ∀ o, upd (upd (upd H4 t1 (.tup (List.map bV x))) t2 (.tup (List.map bV x))) d o l = some (.lst (ps.map fun p => V.ref p.1)) := fun o => by rw [upd_ne (fun e => hdl e.symm)]; exact s2 _ _ e4
              refine ⟨_, rfl, tyL (hl6 _), _, rfl, l, _, _, rfl, rfl, hl6 _, ?_, ?_⟩
              · have e8 : ps.length = found.length := by rw [← e3, List.length_map]
                rw [List.length_map, e8]
                rw [List.length_append (as := old ++ new)] at hb1
                exact small (m := 15000000) (by omega)
              · have hH : ∀ (o u : HO), hid (hid (upd (upd (upd (upd H4 t1 (.tup (List.map bV x))) t2 (.tup (List.map bV x))) d o) l u) d) l = hid (hid (upd (upd H4 t1 (.tup (List.map bV x))) t2 (.tup (List.map bV x))) d) l := fun o u => by rw [hid2_upd, hid_upd]
                have s2' := hid_mono (l := l) (hid_mono (l := d) s2)
                refine ⟨⟨_, rfl⟩, by rw [hH]; exact z4.trans s2', by rw [hH]; exact j41.trans s2', found ++ [x], ?_, ?_, ps ++ [(pb, x)], by rw [List.map_append, e3]; rfl, by rw [upd_same, List.map_append]; rfl, fun p hp => ?_⟩
                · rw [enext, List.foldl_append, e1]
                  show addM _ x = _
                  unfold addM
                  rw [if_neg hc, List.append_assoc]
                · rw [upd_ne hdl, upd_same, List.append_assoc]
                · rw [hH]
                  rcases List.mem_append.mp hp with q | q
                  · exact s2' _ _ (e5 p q)
                  · rw [List.mem_singleton] at q
                    subst q
                    exact s2' _ _ rb4
          · have hc : ((old ++ new) ++ found).contains x = true := by
              cases z : ((old ++ new) ++ found).contains x with
              | true => rfl
              | false => exact absurd (by rw [z]; rfl) c
            have s1' := hid_mono (l := l) (hid_mono (l := d) s1)
            refine ⟨⟨_, rfl⟩, z4.trans s1', j41.trans s1', found, ?_, s1 _ _ e2, ps, e3, s1 _ _ e4, fun p hp => s1' _ _ (e5 p hp)⟩
            rw [enext, List.foldl_append, e1]
            show addM _ x = _
            unfold addM
            rw [if_pos hc]
        · rintro σ H4 ⟨⟨v4, rfl⟩, z4, j4⟩
          rw [hul, List.take_length] at j4
          refine ⟨⟨_, _, rfl⟩, ?_⟩
          have e9 : (new.take (a + 1)).flatMap (succs g) = (new.take a).flatMap (succs g) ++ succs g m := by rw [take_more hma, List.flatMap_append]; simp
          rw [e9]; exact j4
      · rintro σ H2 ⟨⟨v3, v4, rfl⟩, j2⟩
        rw [hvl, List.take_length] at j2
        obtain ⟨j21, found, e1, e2, ps, e3, e4, e5⟩ := j2
        obtain ⟨found', f1, f2, _⟩ := front_turn hk F
        have ef : found = found' := by rw [e1] at f1; exact List.append_cancel_left f1
        subst ef
        refine ⟨_, rfl, old ++ new, found, l, _, _, _, _, rfl, (S.trans j21).trans hid_same, e2, ⟨ps, e3, ?_, fun p hp => hid_same _ _ (e5 p hp)⟩, f2, ?_⟩
        · rw [hid_at (fun e => hdl e.symm)]; exact e4
        · have et : t - i = (t - (i + 1)) + 1 := by omega
          rw [et, comes_new g _ old new F.done, e1] at hcomes
          exact hcomes
    · rintro σ H' ⟨old, new, nw, v1, v2, v3, v4, rfl, S, hd', hnew, F, hcomes⟩
      rw [Nat.sub_self] at hcomes
      refine ⟨_, rfl, d, _, rfl, .inl hd', fun p bs hp hbs => ?_⟩
      have SH : Same H H' := S.trans hid_same
      refine k _ p _ (SH.trans (same_new hp)) upd_same ?_
      rw [List.length_map]
      have el : (kvsOf (old ++ new)).length = bs.length := Paired.length hbs
      unfold kvsOf at el
      rw [List.length_map] at el
      rw [← hcomes, ← el]
      rfl
end
end Rn
namespace Rn
open PySem PySem.Spec PyProof.Rows L2
open Sq64 (States Marking Arc)

section
variable {P : Program} {w : World} {K : PySem.W.Frag} {mg : Str → Option Value} {base : Heap} {C : Cs}

/-! ### counted(numbers) -/
def spCounted : Sp := fun vs H Q _ => ∃ (a : Addr) (xs : List V), vs = [.ref a] ∧ H a = some (.lst xs) ∧ xs.length ≤ 5000 ∧ ∀ (H' : Hp) (p : Addr), Same H H' → H p = none → H' p = some (.lst (V.int (xs.length : Nat) :: xs)) → Q (.ref p) H'
theorem ok_counted (T : Txt K mg C) (h : At K mg "counted" (top 59) ["numbers"]) : Dfn P w K mg base 1 "counted" ["numbers"] spCounted := by
  have sc : FnScope ["numbers"] ["numbers"] (defScope (top 59)) := ⟨rfl, rfl, rfl, by decide +kernel, rfl, by decide +kernel, by decide +kernel⟩
  refine Dfn.mk h sc (fun vs H Q E h => ?_) (fun f cdv A outer s H vs Q E hr h => ⟨_, (pss_one (ps_ret (pe_op op_cat (pe_lst (pa_cons (pe_callB call_len_seq (by rfl) T.len PySem.boot_len (pa_cons (pv 0) pa_nil)) pa_nil)) (pv 0)))), ?_⟩)
  · obtain ⟨a, xs, rfl, _⟩ := h; rfl
  · obtain ⟨a, xs, rfl, ha, hfew, k⟩ := h
    refine ⟨_, rfl, a, _, rfl, .inl (SqL.of ha), by show 1 ≤ sizeLine; decide, fun l1 h1 => ?_⟩
    refine ⟨_, rfl, l1, a, _, _, rfl, rfl, upd_same, (same_new h1) _ _ ha, smallE (m := 6000) (by simp; omega), fun p hp => ?_⟩
    exact k _ p ((same_new h1).trans (same_new hp)) ((same_new h1).free hp) upd_same
/-! ### regions_counted(regions) -/
def told (rs : List States) : List Int := (rs.length : Int) :: Sq64.ints (rs.flatMap fun r => r.length :: r)
theorem map_ints (l : List Nat) : (Sq64.ints l).map V.int = l.map nV := by
  unfold Sq64.ints; rw [List.map_map]; rfl
def spRegCounted (C : Cs) : Sp := fun vs H Q _ => ∃ (a : Addr) (g : Sn) (rs : List States), vs = [.ref a] ∧ LsOf (RegAt C g) H a rs ∧ rs.length ≤ 1600 ∧ (∀ r ∈ rs, r.length ≤ 9) ∧ ∀ (H' : Hp) (p : Addr), Same H H' → H p = none → LsI H' p (told rs) → Q (.ref p) H'
theorem ok_regions_counted (T : Txt K mg C) (D_counted : Dfn P w K mg base 1 "counted" ["numbers"] spCounted) (h : At K mg "regions_counted" (top 60) ["regions"]) : Dfn P w K mg base 2 "regions_counted" ["regions"] (spRegCounted C) := by
  have sc : FnScope ["regions", "answer", "region"] ["regions"] (defScope (top 60)) := ⟨rfl, rfl, rfl, by decide +kernel, rfl, by decide +kernel, by decide +kernel⟩
  refine Dfn.mk h sc (fun vs H Q E h => ?_) (fun f cdv A outer s H vs Q E hr h => ⟨_, (pss_cons (ps_set (i := 1) sc.nd rfl (Or.inl rfl) (pe_lst (pa_cons (pe_callB call_len_seq (by rfl) T.len PySem.boot_len (pa_cons (pv 0) pa_nil)) pa_nil)))
      (pss_cons (ps_for PassesOwn.never rfl (pi_list (pv 0)) (pg_name (i := 2) sc.nd rfl (Or.inl rfl)) (pss_one (ps_expr (pe_bm PySem.F.plainAttrs_list PySem.F.slot_list_extend PySem.F.type_list_extend mt_extend (pv 1) (pa_cons (pe_fn D_counted (hr.mono (by decide)) rfl (pa_cons (pe_fldK (K := K) rfl (pv 2) rfl) pa_nil)) pa_nil)))))
      (pss_one (ps_ret (pv 1))))), ?_⟩)
  · obtain ⟨a, g, rs, rfl, _⟩ := h; rfl
  · obtain ⟨a, g, rs, rfl, ha, hfew, hr9, k⟩ := h
    obtain ⟨vs, hv, hl, g1, g2⟩ := ha.get
    refine ⟨_, rfl, a, _, rfl, .inl (SqL.of hv), by show 1 ≤ sizeLine; decide, fun l hl0 => ?_⟩
    refine ⟨_, rfl, a, rfl, ⟨_, SqL.of ((same_new hl0) _ _ hv)⟩, for_list (K := K) (a := a) (xs := vs) (fun i σ H' => (∃ v : Option V, σ = [some (.ref a), some (.ref l), v]) ∧ GrowV H H' l (V.int (rs.length : Nat) :: ((rs.take i).flatMap fun r => r.length :: r).map nV))
      ⟨⟨none, rfl⟩, by rw [← hl]; exact GrowV.start hl0⟩ (fun i σ H' _ ⟨_, G⟩ => SqL.of (G.same _ _ hv)) ?_ ?_⟩
    · rintro i y σ H' hi ⟨⟨v, rfl⟩, G⟩
      obtain ⟨p, r, rfl, hri, dx, s, ww, h1, h2, h3⟩ := g2 i y hi
      have hr := hr9 r (get_mem hri)
      refine ⟨_, rfl, tyL G.2, _, rfl, p, C.reg, dx, _, _, rfl, G.same _ _ h1, T.reg, T.reg_states, lk_here, s, _, rfl, G.same _ _ h2, by rw [List.length_map]; omega, fun H2 p2 S2 n2 e2 => ?_⟩
      have G2 := G.keep S2
      refine ⟨l, p2, _, _, rfl, rfl, G2.2, e2, ?_, ⟨_, rfl⟩, GrowV.eq G2.put ?_⟩
      · have := length_flatMap_le (fun r : List Nat => r.length :: r) 10 (rs.take i) (fun r hr => by
          have := hr9 r (List.mem_of_mem_take hr)
          simp only [List.length_cons]; omega)
        have ht := take_len hri
        simp only [List.length_cons, List.length_map]
        exact smallE (m := 20000) (by omega)
      · rw [take_more hri, List.flatMap_append, List.map_append]
        simp [nV]
    · rintro σ H' ⟨⟨v, rfl⟩, G⟩
      rw [hl, List.take_length] at G
      refine ⟨_, rfl, k H' l G.same hl0 ?_⟩
      unfold LsI told
      rw [List.map_cons, map_ints]
      exact G.2
/-! ### is_rising(states) -/
def spRising : Sp := fun vs H Q _ => ∃ (a : Addr) (ns : List Nat), vs = [.ref a] ∧ Ls H a ns ∧ ns.length ≤ 1024 ∧ ∀ H' : Hp, Same H H' → Q (.bl (Sq64.rising ns)) H'
theorem ok_is_rising (T : Txt K mg C) (h : At K mg "is_rising" (top 61) ["states"]) : Dfn P w K mg base 1 "is_rising" ["states"] spRising := by
  have sc : FnScope ["states", "place"] ["states"] (defScope (top 61)) := ⟨rfl, rfl, rfl, by decide +kernel, rfl, by decide +kernel, by decide +kernel⟩
  refine Dfn.mk h sc (fun vs H Q E h => ?_) (fun f cdv A outer s H vs Q E hr h => ⟨_, (pss_one (ps_ret (pe_callB (cr_all rfl) (by rfl) T.all (by decide +kernel) (pa_cons (pe_lc (own := [("place", 1)]) (g := gName 1) rfl sc.nd (pi_range1 rfl T.range (pa_cons (pe_op op_sub (pe_callB call_len_seq (by rfl) T.len PySem.boot_len (pa_cons (pv 0) pa_nil)) pe_int) pa_nil)) (blkOk_by (own := [("place", 1)]) (N := ["states", "place"]) (sc := defScope (top 61)) (by decide +kernel)) (fun _ _ _ _ _ => pg_name (i := 1) sc.nd rfl (Or.inl rfl)) (fun _ _ _ _ _ => pts_nil) (fun _ _ _ _ _ => (pe_cmpR op_lt (pe_ix (ix_listK (K := K) rfl) (pv 0) (pv 1) (fun _ _ => rfl)) (pe_ix (ix_listK (K := K) rfl) (pv 0) (pe_op op_add (pv 1) pe_int) (fun _ _ => rfl)) (nomark _)))) pa_nil)))), ?_⟩)
  · obtain ⟨a, ns, rfl, _⟩ := h; rfl
  · obtain ⟨a, ns, rfl, ha, hfew, k⟩ := h
    refine ⟨_, rfl, a, _, rfl, .inl (SqL.of ha), _, _, rfl, rfl, _, rfl, ?_, ?_, fun D hD => ?_⟩
    · rw [List.length_map]; omega
    · rw [List.length_map]; omega
    · have en : (((ns.map nV).length : Int) - 1).toNat = ns.length - 1 := by rw [List.length_map]; omega
      rw [en]
      refine lc_rng (n := ns.length - 1) (fun i H' => GrowV H H' D (((List.range i).map fun i => decide (ns.getD i 0 < ns.getD (i + 1) 0)).map V.bl)) (GrowV.start hD) ?_ ?_
      · rintro i H' hi G
        have e1 : ns[i]? = some (ns.getD i 0) := by rw [List.getD_eq_getElem?_getD, List.getElem?_eq_getElem (by omega)]; rfl
        have e2 : ns[i + 1]? = some (ns.getD (i + 1) 0) := by rw [List.getD_eq_getElem?_getD, List.getElem?_eq_getElem (by omega)]; rfl
        have hA := G.same _ _ ha
        refine ⟨rfl, lcY ⟨_, rfl, _, rfl, a, _, _, _, rfl, rfl, SqL.of hA, atI_nat (get_map e1), _, rfl, _, rfl, _, _, rfl, rfl, a, _, _, _, rfl, rfl, SqL.of hA, at_of (j := i + 1) (by omega) (get_map e2), _, _, rfl, rfl, _, G.2, ?_, GrowV.eq G.put ?_⟩⟩
        · rw [List.length_map, List.length_map, List.length_range]
          exact small (m := 1024) (by omega)
        · rw [List.range_succ, List.map_append, List.map_append]
          show _ ++ [V.bl (decide (((ns.getD i 0 : Nat) : Int) < ((ns.getD (i + 1) 0 : Nat) : Int)))] = _
          have e : decide (((ns.getD i 0 : Nat) : Int) < ((ns.getD (i + 1) 0 : Nat) : Int)) = decide (ns.getD i 0 < ns.getD (i + 1) 0) := by
            rw [Bool.eq_iff_iff, decide_eq_true_eq, decide_eq_true_eq]; omega
          rw [e]; rfl
      · rintro H2 G2
        refine ⟨D, _, rfl, SqL.of G2.2, ?_⟩
        have := k H2 G2.same
        rw [rising_all] at this
        rw [List.all_map]
        exact this
/-! ### Reader -/
def rdF (b : Addr) (i : Nat) : List (Str × V) := [("numbers", .ref b), ("at", nV i)]
def RdAt (C : Cs) (H : Hp) (r b : Addr) (i : Nat) : Prop := ∃ dx, H r = some (.ins C.rd dx (rdF b i))
def spReader (C : Cs) : Sp := fun vs H Q _ => ∃ (p dx b : Addr), vs = [.ref p, .ref b] ∧ H p = some (.ins C.rd dx []) ∧ ∀ H' : Hp, RdAt C H' p b 0 → Same (hid H p) H' → Q .non H'
theorem ok_Reader (T : Txt K mg C) (hx : mg "Reader" = some (.ref C.rd)) (mk : PySem.W.makesIn K C.rd = true) (kc : PySem.W.keepIn K (.ref C.rd) = true) (h : AtM K C.rd "__init__" "Reader.__init__" (inClass (top 29) 0) ["self", "numbers"]) : Di P w K mg base C.rd 1 "Reader" ["self", "numbers"] (spReader C) := by
  have sc : FnScope ["self", "numbers"] ["self", "numbers"] (defScope (inClass (top 29) 0)) := ⟨rfl, rfl, rfl, by decide +kernel, rfl, by decide +kernel, by decide +kernel⟩
  refine Di.mk hx mk kc h sc (fun vs H Q E h => ?_) (fun f cdv A outer s H vs Q E hr h => ⟨_, (pss_cons (ps_fld (pv 0) (pv 1) rfl)
      (pss_one (ps_fld (pv 0) pe_int rfl))), ?_⟩)
  · obtain ⟨p, dx, b, rfl, _⟩ := h; rfl
  · obtain ⟨p, dx, b, rfl, hp, k⟩ := h
    refine ⟨_, rfl, _, rfl, p, C.rd, dx, [], rfl, hp, T.rd, T.rd_numbers, (by show 0 < 1000; decide), ?_⟩
    refine ⟨_, rfl, p, C.rd, dx, _, rfl, upd_same, T.rd, T.rd_at, (by show 1 < 1000; decide), ?_⟩
    refine k _ ⟨dx, upd_same⟩ ?_
    rw [upd_upd]
    have z : Same (hid H p) (hid (upd H p (HO.ins C.rd dx (putF "at" (V.int 0) (putF "numbers" (V.ref b) [])))) p) := by rw [hid_upd]; exact Same.refl _
    exact z.trans hid_same
def spEnded (C : Cs) (K : PySem.W.Frag) : Sp := fun vs H Q _ => ∃ (r b : Addr) (i : Nat) (xs : List V), vs = [.ref r] ∧ RdAt C H r b i ∧ SqL K H b xs ∧ Q (.bl (decide (xs.length ≤ i))) H
theorem ok_ended (T : Txt K mg C) (h : AtM K C.rd "ended" "Reader.ended" (inClass (top 29) 1) ["self"]) : Dm P w K mg base C.rd 1 "ended" ["self"] (spEnded C K) := by
  have sc : FnScope ["self"] ["self"] (defScope (inClass (top 29) 1)) := ⟨rfl, rfl, rfl, by decide +kernel, rfl, by decide +kernel, by decide +kernel⟩
  refine Dm.mk T.rd h sc (fun vs H Q E h => ?_) (fun f cdv A outer s H vs Q E hr h => ⟨_, (pss_one (ps_ret (pe_cmpR op_ge (pe_fldK (K := K) rfl (pv 0) rfl) (pe_callB call_len_seq (by rfl) T.len PySem.boot_len (pa_cons (pe_fldK (K := K) rfl (pv 0) rfl) pa_nil)) (nomark _)))), ?_⟩)
  · obtain ⟨r, b, i, xs, rfl, _⟩ := h; rfl
  · obtain ⟨r, b, i, xs, rfl, ⟨dx, hr⟩, hb, k⟩ := h
    refine ⟨_, rfl, r, C.rd, dx, _, _, rfl, hr, T.rd, T.rd_at, (lk_past (by decide +kernel)).trans lk_here, _, rfl, r, C.rd, dx, _, _, rfl, hr, T.rd, T.rd_numbers, lk_here, b, _, rfl, .inl hb, _, _, rfl, rfl, ?_⟩
    have e : decide ((xs.length : Int) ≤ (i : Int)) = decide (xs.length ≤ i) := by
      rw [Bool.eq_iff_iff, decide_eq_true_eq, decide_eq_true_eq]; omega
    rw [← e] at k
    exact k
def spNumber (C : Cs) (K : PySem.W.Frag) : Sp := fun vs H Q _ => ∃ (r b : Addr) (i : Nat) (xs : List V) (v : V), vs = [.ref r] ∧ RdAt C H r b i ∧ SqL K H b xs ∧ xs[i]? = some v ∧ ∀ H' : Hp, RdAt C H' r b (i + 1) → hid H' r = hid H r → Q v H'
theorem ok_number (T : Txt K mg C) (h : AtM K C.rd "number" "Reader.number" (inClass (top 29) 2) ["self"]) : Dm P w K mg base C.rd 1 "number" ["self"] (spNumber C K) := by
  have sc : FnScope ["self", "read"] ["self"] (defScope (inClass (top 29) 2)) := ⟨rfl, rfl, rfl, by decide +kernel, rfl, by decide +kernel, by decide +kernel⟩
  refine Dm.mk T.rd h sc (fun vs H Q E h => ?_) (fun f cdv A outer s H vs Q E hr h => ⟨_, (pss_cons (ps_set (i := 1) sc.nd rfl (Or.inl rfl) (pe_ix (ix_listK (K := K) rfl) (pe_fldK (K := K) rfl (pv 0) rfl) (pe_fldK (K := K) rfl (pv 0) rfl) (fun _ _ => rfl)))
      (pss_cons (ps_fldaug (pv 0) pe_int in_add)
      (pss_one (ps_ret (pv 1))))), ?_⟩)
  · obtain ⟨r, b, i, xs, v, rfl, _⟩ := h; rfl
  · obtain ⟨r, b, i, xs, v, rfl, ⟨dx, hr⟩, hb, hv, k⟩ := h
    refine ⟨_, rfl, r, C.rd, dx, _, _, rfl, hr, T.rd, T.rd_numbers, lk_here, _, rfl, r, C.rd, dx, _, _, rfl, hr, T.rd, T.rd_at, (lk_past (by decide +kernel)).trans lk_here, b, _, _, _, rfl, rfl, hb, atI_nat hv, ?_⟩
    refine ⟨_, rfl, r, C.rd, dx, _, _, rfl, hr, T.rd, T.rd_at, (lk_past (by decide +kernel)).trans lk_here, _, _, rfl, rfl, dx, _, hr, (by show 2 < 1000; decide), ?_⟩
    exact ⟨_, rfl, k _ ⟨dx, upd_same⟩ hid_upd⟩
theorem cut_nat (xs : List V) (i s : Nat) (h : i + s ≤ xs.length) : cutV xs (some (i : Int)) (some ((i : Int) + (s : Int))) = (xs.drop i).take s := by
  unfold cutV
  have e1 : HT.sIx xs.length 0 (some (i : Int)) = i := (HT.sIx_nat _ _ i).trans (Nat.min_eq_left (by omega))
  have e2 : HT.sIx xs.length xs.length (some ((i : Int) + (s : Int))) = i + s := by
    rw [← Int.natCast_add]
    exact (HT.sIx_nat _ _ (i + s)).trans (Nat.min_eq_left (by omega))
  rw [e1, e2, Nat.add_sub_cancel_left]
def spRow (C : Cs) (K : PySem.W.Frag) : Sp := fun vs H Q _ => ∃ (r b : Addr) (i s : Nat) (xs : List V), vs = [.ref r] ∧ RdAt C H r b i ∧ SqL K (hid H r) b xs ∧ xs[i]? = some (nV s) ∧ i + 1 + s ≤ xs.length ∧
  ∀ (H' : Hp) (p : Addr), RdAt C H' r b (i + 1 + s) → Same (hid H r) (hid H' r) → H p = none → H' p = some (.lst ((xs.drop (i + 1)).take s)) → Q (.ref p) H'
theorem ok_row (T : Txt K mg C) (D_number : Dm P w K mg base C.rd 1 "number" ["self"] (spNumber C K)) (h : AtM K C.rd "row" "Reader.row" (inClass (top 29) 3) ["self"]) : Dm P w K mg base C.rd 2 "row" ["self"] (spRow C K) := by
  have sc : FnScope ["self", "size", "read"] ["self"] (defScope (inClass (top 29) 3)) := ⟨rfl, rfl, rfl, by decide +kernel, rfl, by decide +kernel, by decide +kernel⟩
  refine Dm.mk T.rd h sc (fun vs H Q E h => ?_) (fun f cdv A outer s H vs Q E hr h => ⟨_, (pss_cons (ps_set (i := 1) sc.nd rfl (Or.inl rfl) (pe_mt0 (pv 0) D_number (hr.mono (by decide))))
      (pss_cons (ps_set (i := 2) sc.nd rfl (Or.inl rfl) (pe_slice sl_list (pe_fldK (K := K) rfl (pv 0) rfl) (po_some (pe_fldK (K := K) rfl (pv 0) rfl)) (po_some (pe_op op_add (pe_fldK (K := K) rfl (pv 0) rfl) (pv 1)))))
      (pss_cons (ps_fldaug (pv 0) (pv 1) in_add)
      (pss_one (ps_ret (pv 2)))))), ?_⟩)
  · obtain ⟨r, b, i, s, xs, rfl, _⟩ := h; rfl
  · obtain ⟨r, b, i, s, xs, rfl, ⟨dx, hr⟩, hb, hv, hlen, k⟩ := h
    refine ⟨_, rfl, r, dx, _, rfl, hr, (lk_past (by decide +kernel)).trans ((lk_past (by decide +kernel)).trans rfl), r, b, i, xs, nV s, rfl, ⟨dx, hr⟩, hid_same.seq hb, hv, fun H1 ⟨dx1, hr1⟩ e1 => ?_⟩
    have hb1 : SqL K H1 b xs := hid_same.seq (by rw [e1]; exact hb)
    refine ⟨_, rfl, r, C.rd, dx1, _, _, rfl, hr1, T.rd, T.rd_numbers, lk_here, _, rfl, r, C.rd, dx1, _, _, rfl, hr1, T.rd, T.rd_at, (lk_past (by decide +kernel)).trans lk_here, _, rfl, _, rfl, r, C.rd, dx1, _, _, rfl, hr1, T.rd, T.rd_at, (lk_past (by decide +kernel)).trans lk_here, _, rfl, _, _, rfl, rfl, _, rfl, b, xs, rfl, hb1, fun p hp => ?_⟩
    have ecut : cutV xs (some (((i + 1 : Nat) : Int))) (some (((i + 1 : Nat) : Int) + (s : Int))) = (xs.drop (i + 1)).take s := cut_nat xs (i + 1) s hlen
    have hrp : r ≠ p := fun e => by rw [← e, hr1] at hp; cases hp
    refine ⟨_, rfl, r, C.rd, dx1, _, _, rfl, (by rw [upd_ne hrp]; exact hr1), T.rd, T.rd_at, (lk_past (by decide +kernel)).trans lk_here, _, rfl, _, _, rfl, rfl, dx1, _, (by rw [upd_ne hrp]; exact hr1), (by show 2 < 1000; decide), ?_⟩
    refine ⟨_, rfl, k _ p ⟨dx1, upd_same⟩ ?_ ?_ ?_⟩
    · rw [hid_upd, ← e1]
      exact hid_mono (same_new hp)
    · have z : hid H1 r p = none := by rw [hid_at (fun e => hrp e.symm)]; exact hp
      rw [e1, hid_at (fun e => hrp e.symm)] at z
      exact z
    · rw [upd_ne (fun e => hrp e.symm), upd_same]
      exact congrArg (fun l => some (HO.lst l)) ecut
end
end Rn
namespace Rn
open PySem PySem.Spec PyProof.Rows L2
open Sq64 (States Marking Arc)

/-! ### the line -/
def lineF (s r p n : Addr) : List (Str × V) := [("seen", .ref s), ("regions_seen", .ref r), ("places_kept", .ref p), ("net_made", .ref n)]
def LineAt (C : Cs) (H : Hp) (a : Addr) (g : Sn) : Prop := ∃ dx s r p n, H a = some (.ins C.line dx (lineF s r p n)) ∧ SeenAt C (hid H a) s g ∧ LsOf (RegAt C g) (hid H a) r g.regions ∧ LsOf (RegAt C g) (hid H a) p g.places ∧ NetAt C (hid H a) n g ∧ Okg g
theorem up_line {C : Cs} : Up (LineAt C) := fun _ _ _ _ S ⟨dx, s, r, p, n, h, h1, h2, h3, h4, h5⟩ =>
  ⟨dx, s, r, p, n, S _ _ h, up_seen _ _ _ _ (hid_mono S) h1, up_of up_reg _ _ _ _ (hid_mono S) h2, up_of up_reg _ _ _ _ (hid_mono S) h3, up_net _ _ _ _ (hid_mono S) h4, h5⟩
theorem lk_put {f : Str} {v : V} : ∀ {fs : List (Str × V)}, (putF f v fs).lookup f = some v
  | [] => lk_here
  | (g, x) :: r => by
    by_cases e : g = f
    · subst e; rw [put_here]; exact lk_here
    · rw [put_past e, lk_past (beq_eq_false_iff_ne.mpr (fun z => e z.symm))]; exact lk_put
theorem lk_put_ne {f g : Str} {v : V} (h : (g == f) = false) : ∀ {fs : List (Str × V)}, (putF f v fs).lookup g = fs.lookup g
  | [] => lk_past h
  | (k, x) :: r => by
    by_cases e : k = f
    · subst e; rw [put_here, lk_past h, lk_past h]
    · rw [put_past e]
      cases q : (g == k) with
      | true =>
        have e2 : g = k := eq_of_beq q
        subst e2; rw [lk_here, lk_here]
      | false => rw [lk_past q, lk_past q]; exact lk_put_ne h
theorem put_len {f : Str} {v : V} : ∀ {fs : List (Str × V)}, (putF f v fs).length ≤ fs.length + 1
  | [] => Nat.le_refl _
  | (k, x) :: r => by
    by_cases e : k = f
    · subst e; rw [put_here]; simp
    · rw [put_past e]
      have := put_len (f := f) (v := v) (fs := r)
      simp only [List.length_cons]; omega
section
variable {C : Cs} {H : Hp} {a Cl dx : Addr} {fs : List (Str × V)} {g : Sn}
theorem ins_ne {q C2 d2 : Addr} {f2 : List (Str × V)} (h : H a = some (.ins Cl dx fs)) (h2 : H q = some (.ins C2 d2 f2)) {f : Str} {v : V} (l1 : fs.lookup f = none) (l2 : f2.lookup f = some v) : q ≠ a := fun e => by
  rw [e, h] at h2
  injection h2 with z
  injection z with _ _ z3
  rw [z3, l2] at l1
  cases l1
theorem reg_hid (h : H a = some (.ins Cl dx fs)) (l : fs.lookup ("states" : Str) = none) {q : Addr} {r : States} (hr : RegAt C g H q r) : RegAt C g (hid H a) q r := by
  obtain ⟨d2, s2, w2, h2, h3, h4⟩ := hr
  refine ⟨d2, s2, w2, ?_, hid_kind' h h3 (by intro z; cases z), hid_kind' h h4 (by intro z; cases z)⟩
  rw [hid_at (ins_ne h h2 l lk_here)]; exact h2
theorem regs_hid (h : H a = some (.ins Cl dx fs)) (l : fs.lookup ("states" : Str) = none) {q : Addr} {rs : List States} (hr : LsOf (RegAt C g) H q rs) : LsOf (RegAt C g) (hid H a) q rs := by
  obtain ⟨ps, e, h1, k1⟩ := hr
  exact ⟨ps, e, hid_kind' h h1 (by intro z; cases z), fun p hp => reg_hid h l (k1 p hp)⟩
theorem seen_hid (h : H a = some (.ins Cl dx fs)) (l : fs.lookup ("n" : Str) = none) {q : Addr} (hr : SeenAt C H q g) : SeenAt C (hid H a) q g := by
  obtain ⟨d2, b2, h2, ps, e, h3, k3⟩ := hr
  refine ⟨d2, b2, ?_, ps, e, hid_kind' h h3 (by intro z; cases z), fun p hp => ?_⟩
  · rw [hid_at (ins_ne h h2 l lk_here)]; exact h2
  · obtain ⟨qs, e2, h4, k4⟩ := k3 p hp
    exact ⟨qs, e2, hid_kind' h h4 (by intro z; cases z), fun r hr => hid_kind' h (k4 r hr) (by intro z; cases z)⟩
theorem rows_hid (h : H a = some (.ins Cl dx fs)) {q : Addr} {rs : List (List Nat)} (hr : LsOf Ls H q rs) : LsOf Ls (hid H a) q rs := by
  obtain ⟨ps, e, h1, k1⟩ := hr
  exact ⟨ps, e, hid_kind' h h1 (by intro z; cases z), fun p hp => hid_kind' h (k1 p hp) (by intro z; cases z)⟩
theorem net_hid (h : H a = some (.ins Cl dx fs)) (l : fs.lookup ("first_marking" : Str) = none) {q : Addr} (hr : NetAt C H q g) : NetAt C (hid H a) q g := by
  obtain ⟨d2, m2, l2, e2, h2, h3, h4, h5⟩ := hr
  refine ⟨d2, m2, l2, e2, ?_, hid_kind' h h3 (by intro z; cases z), rows_hid h h4, rows_hid h h5⟩
  rw [hid_at (ins_ne h h2 l lk_here)]; exact h2
end
/-- the fields of a line, ahead of and behind its first telling -/
def Fs (fs : List (Str × V)) : Prop := fs = [] ∨ ∃ s r p n, fs = lineF s r p n
theorem Fs.clear {fs : List (Str × V)} (h : Fs fs) : fs.lookup ("states" : Str) = none ∧ fs.lookup ("n" : Str) = none ∧ fs.lookup ("first_marking" : Str) = none ∧ fs.length ≤ 4 := by
  rcases h with rfl | ⟨s, r, p, n, rfl⟩
  · exact ⟨rfl, rfl, rfl, by decide⟩
  · have look : ∀ x : Str, (x == ("seen" : Str)) = false → (x == ("regions_seen" : Str)) = false → (x == ("places_kept" : Str)) = false → (x == ("net_made" : Str)) = false → List.lookup x (lineF s r p n) = none := fun x a b c d => (lk_past a).trans ((lk_past b).trans ((lk_past c).trans ((lk_past d).trans rfl)))
    exact ⟨look "states" (by decide +kernel) (by decide +kernel) (by decide +kernel) (by decide +kernel), look _ (by decide +kernel) (by decide +kernel) (by decide +kernel) (by decide +kernel), look _ (by decide +kernel) (by decide +kernel) (by decide +kernel) (by decide +kernel), Nat.le_refl _⟩
theorem Fs.all {fs : List (Str × V)} (h : Fs fs) (s r p n : Addr) : putF "net_made" (.ref n) (putF "places_kept" (.ref p) (putF "regions_seen" (.ref r) (putF "seen" (.ref s) fs))) = lineF s r p n := by
  rcases h with rfl | ⟨s0, r0, p0, n0, rfl⟩ <;> rfl
section
variable {P : Program} {w : World} {K : PySem.W.Frag} {mg : Str → Option Value} {base : Heap} {C : Cs}

/-! ### Line.tell(seen) -/
def spTell (C : Cs) : Sp := fun vs H Q _ => ∃ (a s dx : Addr) (fs : List (Str × V)) (g : Sn), vs = [.ref a, .ref s] ∧ H a = some (.ins C.line dx fs) ∧ Fs fs ∧ SeenAt C (hid H a) s g ∧ Okg g ∧ ∀ H' : Hp, LineAt C H' a g → Same (hid H a) (hid H' a) → Q .non H'
theorem ok_tell (T : Txt K mg C) (D_regions_in_order : Dfn P w K mg base 4 "regions_in_order" ["seen"] (spRegions C)) (D_places_in_order : Dfn P w K mg base 4 "places_in_order" ["seen", "regions"] (spPlaces C)) (D_Net : Di P w K mg base C.net 2 "Net" ["self", "places", "k"] (spNet C)) (h : AtM K C.line "tell" "Line.tell" (inClass (top 58) 1) ["self", "seen"]) :
    Dm P w K mg base C.line 5 "tell" ["self", "seen"] (spTell C) := by
  have sc : FnScope ["self", "seen"] ["self", "seen"] (defScope (inClass (top 58) 1)) := ⟨rfl, rfl, rfl, by decide +kernel, rfl, by decide +kernel, by decide +kernel⟩
  refine Dm.mk T.line h sc (fun vs H Q E h => ?_) (fun f cdv A outer s H vs Q E hr h => ⟨_, (pss_cons (ps_fld (pv 0) (pv 1) rfl)
      (pss_cons (ps_fld (pv 0) (pe_fn D_regions_in_order (hr.mono (by decide)) rfl (pa_cons (pv 1) pa_nil)) rfl)
      (pss_cons (ps_fld (pv 0) (pe_fn D_places_in_order (hr.mono (by decide)) rfl (pa_cons (pv 1) (pa_cons (pe_fldK (K := K) rfl (pv 0) rfl) pa_nil))) rfl)
      (pss_one (ps_fld (pv 0) (pe_mk D_Net (hr.mono (by decide)) rfl (pa_cons (pe_fldK (K := K) rfl (pv 0) rfl) (pa_cons (pe_fldK (K := K) rfl (pv 1) rfl) pa_nil))) rfl))))), ?_⟩)
  · obtain ⟨a, s, dx, fs, g, rfl, _⟩ := h; rfl
  · obtain ⟨a, s, dx, fs, g, rfl, ha, hfs, hs, hg, k⟩ := h
    obtain ⟨n1, n2, n3, hfl⟩ := hfs.clear
    refine ⟨_, rfl, _, rfl, a, C.line, dx, fs, rfl, ha, T.line, T.line_seen, (by omega), ?_⟩
    generalize e1 : putF "seen" (V.ref s) fs = fs1
    have l1 : fs1.length ≤ 5 := by rw [← e1]; have := put_len (f := "seen") (v := V.ref s) (fs := fs); omega
    have m1 : fs1.lookup ("states" : Str) = none := by rw [← e1, lk_put_ne (by decide +kernel)]; exact n1
    have m2 : fs1.lookup ("n" : Str) = none := by rw [← e1, lk_put_ne (by decide +kernel)]; exact n2
    have m3 : fs1.lookup ("first_marking" : Str) = none := by rw [← e1, lk_put_ne (by decide +kernel)]; exact n3
    generalize eH1 : upd H a (HO.ins C.line dx fs1) = H1
    have ha1 : H1 a = some (.ins C.line dx fs1) := by rw [← eH1]; exact upd_same
    have hh1 : hid H1 a = hid H a := by rw [← eH1, hid_upd]
    have hs1 : SeenAt C (hid H1 a) s g := by rw [hh1]; exact hs
    -- regions
    refine ⟨_, rfl, s, g, rfl, up_seen _ _ _ _ hid_same hs1, hg, fun H2 r S2 nr L2 => ⟨_, rfl, a, C.line, dx, fs1, rfl, S2 _ _ ha1, T.line, T.line_regions_seen, (by omega), ?_⟩⟩
    generalize e2 : putF "regions_seen" (V.ref r) fs1 = fs2
    have l2 : fs2.length ≤ 6 := by rw [← e2]; have := put_len (f := "regions_seen") (v := V.ref r) (fs := fs1); omega
    have m1b : fs2.lookup ("states" : Str) = none := by rw [← e2, lk_put_ne (by decide +kernel)]; exact m1
    have m3b : fs2.lookup ("first_marking" : Str) = none := by rw [← e2, lk_put_ne (by decide +kernel)]; exact m3
    have lr2 : fs2.lookup ("regions_seen" : Str) = some (.ref r) := by rw [← e2]; exact lk_put
    generalize eH2 : upd H2 a (HO.ins C.line dx fs2) = H2'
    have ha2 : H2' a = some (.ins C.line dx fs2) := by rw [← eH2]; exact upd_same
    have hh2 : hid H2' a = hid H2 a := by rw [← eH2, hid_upd]
    have hS2 : Same (hid H1 a) (hid H2' a) := by rw [hh2]; exact hid_mono S2
    have hs2 : SeenAt C (hid H2' a) s g := up_seen _ _ _ _ hS2 hs1
    have hr2 : LsOf (RegAt C g) (hid H2' a) r g.regions := by rw [hh2]; exact regs_hid (S2 _ _ ha1) m1 L2
    -- places
    refine ⟨_, rfl, _, rfl, a, C.line, dx, fs2, _, rfl, ha2, T.line, T.line_regions_seen, lr2, s, r, g, rfl, up_seen _ _ _ _ hid_same hs2, hg, up_of up_reg _ _ _ _ hid_same hr2, fun H3 p S3 np L3 => ⟨_, rfl, a, C.line, dx, fs2, rfl, S3 _ _ ha2, T.line, T.line_places_kept, (by omega), ?_⟩⟩
    generalize e3 : putF "places_kept" (V.ref p) fs2 = fs3
    have l3 : fs3.length ≤ 7 := by rw [← e3]; have := put_len (f := "places_kept") (v := V.ref p) (fs := fs2); omega
    have m3c : fs3.lookup ("first_marking" : Str) = none := by rw [← e3, lk_put_ne (by decide +kernel)]; exact m3b
    have lp3 : fs3.lookup ("places_kept" : Str) = some (.ref p) := by rw [← e3]; exact lk_put
    generalize eH3 : upd H3 a (HO.ins C.line dx fs3) = H3'
    have ha3 : H3' a = some (.ins C.line dx fs3) := by rw [← eH3]; exact upd_same
    have hh3 : hid H3' a = hid H3 a := by rw [← eH3, hid_upd]
    have hS3 : Same (hid H2' a) (hid H3' a) := by rw [hh3]; exact hid_mono S3
    have hs3 : SeenAt C (hid H3' a) s g := up_seen _ _ _ _ hS3 hs2
    have hr3 := up_of up_reg _ _ _ _ hS3 hr2
    have hp3 : LsOf (RegAt C g) (hid H3' a) p g.places := by rw [hh3]; exact regs_hid (S3 _ _ ha2) m1b L3
    -- the net
    obtain ⟨dxs, bs, hsn, _⟩ := id hs3
    refine ⟨_, rfl, a, C.line, dx, fs3, _, rfl, ha3, T.line, T.line_places_kept, lp3, _, rfl, s, C.seen, dxs, _, _, rfl, hid_same _ _ hsn, T.seen, T.seen_k, (lk_past (by decide +kernel)).trans lk_here, ?_⟩
    intro x dx4 nx ndx ne
    have nx' : upd H3' dx4 (.own x) x = none := by rw [upd_ne (fun e => ne e.symm)]; exact nx
    have Sm : Same H3' (upd (upd H3' dx4 (.own x)) x (.ins C.net dx4 [])) := (same_new ndx).trans (same_new nx')
    refine ⟨x, dx4, p, g, rfl, upd_same, up_of up_reg _ _ _ _ Sm (up_of up_reg _ _ _ _ hid_same hp3), hg.k6, Nat.le_trans (places_len g) (regions_few g hg.n1 hg.n9), fun H4 N4 S4 => ⟨rfl, ?_⟩⟩
    have SH4 : Same H3' H4 := same_made nx ndx S4
    refine ⟨_, rfl, a, C.line, dx, fs3, rfl, SH4 _ _ ha3, T.line, T.line_net_made, (by omega), ?_⟩
    have efs : putF "net_made" (V.ref x) fs3 = lineF s r p x := by rw [← e3, ← e2, ← e1]; exact hfs.all s r p x
    rw [efs]
    have hS4 : ∀ o, Same (hid H3' a) (hid (upd H4 a o) a) := fun o => by rw [hid_upd]; exact hid_mono SH4
    refine k _ ⟨dx, s, r, p, x, upd_same, up_seen _ _ _ _ (hS4 _) hs3, up_of up_reg _ _ _ _ (hS4 _) hr3, up_of up_reg _ _ _ _ (hS4 _) hp3, ?_, hg⟩ ?_
    · rw [hid_upd]; exact net_hid (SH4 _ _ ha3) m3c N4
    · rw [← hh1]; exact ((hS2.trans hS3).trans (hS4 _))
/-! ### Line() -/
def spLineNew (C : Cs) : Sp := fun vs H Q _ => ∃ (a dx : Addr), vs = [.ref a] ∧ H a = some (.ins C.line dx []) ∧ ∀ H' : Hp, LineAt C H' a Sq64.fresh → Same (hid H a) (hid H' a) → Q .non H'
theorem ok_Line (T : Txt K mg C) (hx : mg "Line" = some (.ref C.line)) (mk : PySem.W.makesIn K C.line = true) (kc : PySem.W.keepIn K (.ref C.line) = true) (D_tell : Dm P w K mg base C.line 5 "tell" ["self", "seen"] (spTell C)) (D_seen_before_any_begin : Dfn P w K mg base 4 "seen_before_any_begin" [] (spFresh C)) (h : AtM K C.line "__init__" "Line.__init__" (inClass (top 58) 0) ["self"]) :
    Di P w K mg base C.line 6 "Line" ["self"] (spLineNew C) := by
  have sc : FnScope ["self"] ["self"] (defScope (inClass (top 58) 0)) := ⟨rfl, rfl, rfl, by decide +kernel, rfl, by decide +kernel, by decide +kernel⟩
  refine Di.mk hx mk kc h sc (fun vs H Q E h => ?_) (fun f cdv A outer s H vs Q E hr h => ⟨_, (pss_one (ps_expr (pe_mt (pv 0) D_tell (hr.mono (by decide)) (pa_cons (pe_fn0 D_seen_before_any_begin (hr.mono (by decide)) rfl) pa_nil)))), ?_⟩)
  · obtain ⟨a, dx, rfl, _⟩ := h; rfl
  · obtain ⟨a, dx, rfl, ha, k⟩ := h
    refine ⟨_, rfl, a, dx, _, rfl, ha, rfl, rfl, fun H1 s S1 n1 L1 => ?_⟩
    refine ⟨a, s, dx, [], Sq64.fresh, rfl, S1 _ _ ha, Or.inl rfl, seen_hid (S1 _ _ ha) rfl L1, fresh_ok, fun H2 LA S2 => ?_⟩
    exact k H2 LA ((hid_mono S1).trans S2)
end
end Rn
namespace Rn
open PySem PySem.Spec PyProof.Rows L2
open Sq64 (States Marking Arc)

/-- what a call answers: the state then, the numbers -/
def Ans (C : Cs) (a : Addr) (r : Sn × Sq64.Out) (H : Hp) (Q : VK) : Prop := ∀ (H' : Hp) (p : Addr), LineAt C H' a r.1 → Same (hid H a) (hid H' a) → H p = none → LsI H' p (r.2.value :: r.2.out) → Q (.ref p) H'
def spL0 (C : Cs) (c : Sq64.Call) : Sp := fun vs H Q _ => ∃ (a : Addr) (g : Sn), vs = [.ref a] ∧ LineAt C H a g ∧ Ans C a (g.step c) H Q
def spL1 (C : Cs) (c : List Nat → Sq64.Call) : Sp := fun vs H Q _ => ∃ (a b : Addr) (g : Sn) (ns : List Nat), vs = [.ref a, .ref b] ∧ LineAt C H a g ∧ Ls (hid H a) b ns ∧ ns.length ≤ 1024 ∧ Ans C a (g.step (c ns)) H Q
theorem region_len {g : Sn} (hg : Okg g) {r : States} (h : r ∈ g.regions) : r.length ≤ 9 := by
  rw [regions_eq g hg.n1 hg.n9] at h
  have h1 := (List.mem_filter.mp h).1
  have := choices_rows (n := g.n) (by have := hg.n9; omega) (j := g.n - 1) (by have := hg.n1; omega) r h1
  have := hg.n9
  omega
theorem place_len {g : Sn} (hg : Okg g) {r : States} (h : r ∈ g.places) : r.length ≤ 9 := by
  rcases lean_sub g g.regions.reverse [] r h with q | q
  · cases q
  · exact region_len hg (List.mem_reverse.mp q)
theorem lf_seen {s r p n : Addr} : List.lookup ("seen" : Str) (lineF s r p n) = some (.ref s) := lk_here
theorem lf_regions {s r p n : Addr} : List.lookup ("regions_seen" : Str) (lineF s r p n) = some (.ref r) := (lk_past (by decide +kernel)).trans lk_here
theorem lf_places {s r p n : Addr} : List.lookup ("places_kept" : Str) (lineF s r p n) = some (.ref p) := (lk_past (by decide +kernel)).trans ((lk_past (by decide +kernel)).trans lk_here)
theorem lf_net {s r p n : Addr} : List.lookup ("net_made" : Str) (lineF s r p n) = some (.ref n) := (lk_past (by decide +kernel)).trans ((lk_past (by decide +kernel)).trans ((lk_past (by decide +kernel)).trans lk_here))
theorem lf_none {s r p n : Addr} {x : Str} (a : (x == ("seen" : Str)) = false) (b : (x == ("regions_seen" : Str)) = false) (c : (x == ("places_kept" : Str)) = false) (d : (x == ("net_made" : Str)) = false) : List.lookup x (lineF s r p n) = none :=
  (lk_past a).trans ((lk_past b).trans ((lk_past c).trans ((lk_past d).trans rfl)))
section
variable {P : Program} {w : World} {K : PySem.W.Frag} {mg : Str → Option Value} {base : Heap} {C : Cs}

theorem ok_regions (T : Txt K mg C) (D_regions_counted : Dfn P w K mg base 2 "regions_counted" ["regions"] (spRegCounted C)) (h : AtM K C.line "regions" "Line.regions" (inClass (top 58) 3) ["self"]) : Dm P w K mg base C.line 3 "regions" ["self"] (spL0 C .regions) := by
  have sc : FnScope ["self"] ["self"] (defScope (inClass (top 58) 3)) := ⟨rfl, rfl, rfl, by decide +kernel, rfl, by decide +kernel, by decide +kernel⟩
  refine Dm.mk T.line h sc (fun vs H Q E h => ?_) (fun f cdv A outer s H vs Q E hr h => ⟨_, (pss_one (ps_ret (pe_fn D_regions_counted (hr.mono (by decide)) rfl (pa_cons (pe_fldK (K := K) rfl (pv 0) rfl) pa_nil)))), ?_⟩)
  · obtain ⟨a, g, rfl, _⟩ := h; rfl
  · obtain ⟨a, g, rfl, hL, k⟩ := h
    obtain ⟨dx, s, r, p, n, ha, h1, h2, h3, h4, hg⟩ := id hL
    exact ⟨_, rfl, a, C.line, dx, _, _, rfl, ha, T.line, T.line_regions_seen, lf_regions, r, g, g.regions, rfl, up_of up_reg _ _ _ _ hid_same h2, regions_few g hg.n1 hg.n9, fun q hq => region_len hg hq, fun H' q S nq L => k H' q (up_line _ _ _ _ S hL) (hid_mono S) nq L⟩
theorem ok_places (T : Txt K mg C) (D_regions_counted : Dfn P w K mg base 2 "regions_counted" ["regions"] (spRegCounted C)) (h : AtM K C.line "places" "Line.places" (inClass (top 58) 6) ["self"]) : Dm P w K mg base C.line 3 "places" ["self"] (spL0 C .places) := by
  have sc : FnScope ["self"] ["self"] (defScope (inClass (top 58) 6)) := ⟨rfl, rfl, rfl, by decide +kernel, rfl, by decide +kernel, by decide +kernel⟩
  refine Dm.mk T.line h sc (fun vs H Q E h => ?_) (fun f cdv A outer s H vs Q E hr h => ⟨_, (pss_one (ps_ret (pe_fn D_regions_counted (hr.mono (by decide)) rfl (pa_cons (pe_fldK (K := K) rfl (pv 0) rfl) pa_nil)))), ?_⟩)
  · obtain ⟨a, g, rfl, _⟩ := h; rfl
  · obtain ⟨a, g, rfl, hL, k⟩ := h
    obtain ⟨dx, s, r, p, n, ha, h1, h2, h3, h4, hg⟩ := id hL
    exact ⟨_, rfl, a, C.line, dx, _, _, rfl, ha, T.line, T.line_places_kept, lf_places, p, g, g.places, rfl, up_of up_reg _ _ _ _ hid_same h3, Nat.le_trans (places_len g) (regions_few g hg.n1 hg.n9), fun q hq => place_len hg hq, fun H' q S nq L => k H' q (up_line _ _ _ _ S hL) (hid_mono S) nq L⟩
/-! ### crosses -/
theorem waysOf_spec (g : Sn) (r : List Nat) : ((List.range g.k).map fun e => match g.crosses r e with
    | none => (-1 : Int)
    | some x => (x : Int)) = waysOf g r := by
  unfold waysOf wayI wayO
  rfl
theorem ok_crosses (T : Txt K mg C) (D_is_rising : Dfn P w K mg base 1 "is_rising" ["states"] spRising) (D_ways_across : Dfn P w K mg base 3 "ways_across" ["seen", "states"] (spWays C)) (h : AtM K C.line "crosses" "Line.crosses" (inClass (top 58) 4) ["self", "states"]) : Dm P w K mg base C.line 4 "crosses" ["self", "states"] (spL1 C .crosses) := by
  have sc : FnScope ["self", "states", "ways", "state"] ["self", "states"] (defScope (inClass (top 58) 4)) := ⟨rfl, rfl, rfl, by decide +kernel, rfl, by decide +kernel, by decide +kernel⟩
  refine Dm.mk T.line h sc (fun vs H Q E h => ?_) (fun f cdv A outer s H vs Q E hr h => ⟨_, (pss_cons (ps_if (pt_not (PW.pt (pw_and (pt_val (pe_fn D_is_rising (hr.mono (by decide)) rfl (pa_cons (pv 1) pa_nil))) (pw_and1 (pt_val (pe_callB (cr_all rfl) (by rfl) T.all (by decide +kernel) (pa_cons (pe_lc (own := [("state", 3)]) (g := gName 3) rfl sc.nd (pi_list (pv 1)) (blkOk_by (own := [("state", 3)]) (N := ["self", "states", "ways", "state"]) (sc := defScope (inClass (top 58) 4)) (by decide +kernel)) (fun _ _ _ _ _ => pg_name (i := 3) sc.nd rfl (Or.inl rfl)) (fun _ _ _ _ _ => pts_nil) (fun _ _ _ _ _ => (pe_cmpR op_lt (pv 3) (pe_fldK (K := K) rfl (pe_fldK (K := K) rfl (pv 0) rfl) rfl) (nomark _)))) pa_nil))))))) (pss_one (ps_ret (pe_lst (pa_cons (pe_con T.cILL_FORMED rfl) pa_nil)))) pss_nil)
      (pss_cons (ps_set (i := 2) sc.nd rfl (Or.inl rfl) (pe_fn D_ways_across (hr.mono (by decide)) rfl (pa_cons (pe_fldK (K := K) rfl (pv 0) rfl) (pa_cons (pv 1) pa_nil))))
      (pss_one (ps_ret (pe_op op_cat (pe_lst (pa_cons (pe_ifExp (pt_cmpR (in_seqK (K := K) rfl) (pe_con T.cNO_WAY rfl) (pv 2) rfl) pe_int pe_int) pa_nil)) (pv 2)))))), ?_⟩)
  · obtain ⟨a, b, g, ns, rfl, _⟩ := h; rfl
  · obtain ⟨a, b, g, ns, rfl, hL, hb0, hfew, k⟩ := h
    obtain ⟨dx, s, r, p, n, ha, h1, h2, h3, h4, hg⟩ := id hL
    have hb : Ls H b ns := hid_same _ _ hb0
    obtain ⟨dxs, bs, hsn, hsa⟩ := id h1
    have bad : ∀ H' : Hp, Same H H' → (Sq64.rising ns = false ∨ (ns.any fun s => decide (g.n ≤ s)) = true) → tRet (tLst (tCons (tC (.int (-3))) tNil)) { nx := fun _ H' => Q .non H', rt := Q } [some (.ref a), some (.ref b), none, none] H' := fun H' S c => by
      refine ⟨by show 1 ≤ sizeLine; decide, fun q hq => ?_⟩
      have e : g.step (.crosses ns) = (g, Sq64.says (-3)) := if_pos c
      refine k _ q ?_ ?_ (S.free hq) ?_
      · rw [e]; exact up_line _ _ _ _ (S.trans (same_new hq)) hL
      · exact hid_mono (S.trans (same_new hq))
      · rw [e]; exact upd_same
    refine ⟨_, rfl, b, ns, rfl, hb, hfew, fun H1 S1 => ⟨_, rfl, ?_⟩⟩
    cases hr : Sq64.rising ns with
    | false => exact iteF (iteT (bad H1 S1 (Or.inl hr)))
    | true =>
      refine iteT ⟨_, rfl, b, rfl, ⟨_, SqL.of (S1 _ _ hb)⟩, fun D hD => lc_list (K := K) (a := b) (xs := ns.map nV) (fun i H' => GrowV H1 H' D (((ns.take i).map fun s => decide (s < g.n)).map V.bl)) (GrowV.start hD) (fun i H' _ G => SqL.of (G.same _ _ (S1 _ _ hb))) ?_ ?_⟩
      · rintro i y H' hi G
        obtain ⟨x, hxi, rfl⟩ := map_get hi
        have S' : Same H H' := S1.trans G.same
        refine ⟨rfl, lcY ⟨_, rfl, _, rfl, a, C.line, dx, _, _, rfl, S' _ _ ha, T.line, T.line_seen, lf_seen, s, C.seen, dxs, _, _, rfl, S' _ _ (hid_same _ _ hsn), T.seen, T.seen_n, lk_here, _, _, rfl, rfl, _, G.2, ?_, GrowV.eq G.put ?_⟩⟩
        · rw [List.length_map, List.length_map]
          exact small (m := 1024) (Nat.le_trans (take_len hxi) hfew)
        · rw [take_more hxi, List.map_append, List.map_append]
          show _ ++ [V.bl (decide ((x : Int) < (g.n : Int)))] = _
          have e : decide ((x : Int) < (g.n : Int)) = decide (x < g.n) := by
            rw [Bool.eq_iff_iff, decide_eq_true_eq, decide_eq_true_eq]; omega
          rw [e]; rfl
      · rintro H2 G2
        rw [List.length_map, List.take_length] at G2
        refine ⟨D, _, rfl, SqL.of G2.2, _, rfl, ?_⟩
        have ea : (ns.map fun s => decide (s < g.n)).all id = !(ns.any fun s => decide (g.n ≤ s)) := by
          rw [List.all_map, List.not_any_eq_all_not]
          refine all_congrM fun s _ => ?_
          show decide (s < g.n) = !decide (g.n ≤ s)
          rw [Bool.eq_iff_iff, Bool.not_eq_true', decide_eq_true_eq, decide_eq_false_iff_not]; omega
        rw [ea]
        have S2 : Same H H2 := S1.trans G2.same
        cases hn : (ns.any fun s => decide (g.n ≤ s)) with
        | true => exact iteT (bad H2 S2 (Or.inr hn))
        | false =>
          refine iteF ?_
          have e : g.step (.crosses ns) = (g, ⟨if g.region ns = true then 1 else 0, waysOf g ns⟩) := by
            show (if _ then _ else _) = _
            rw [if_neg (fun z => by
              rcases z with z | z
              · rw [hr] at z; cases z
              · rw [hn] at z; cases z)]
            rfl
          refine ⟨_, rfl, a, C.line, dx, _, _, rfl, S2 _ _ ha, T.line, T.line_seen, lf_seen, _, rfl, s, b, g, ns, rfl, up_seen _ _ _ _ S2 (up_seen _ _ _ _ hid_same h1), hg, S2 _ _ hb, fun H3 pw S3 nw L3 => ?_⟩
          have S3' : Same H H3 := S2.trans S3
          refine ⟨_, rfl, pw, _, rfl, .inl (SqL.of L3), rfl, flat_lsI _, _, rfl, ?_⟩
          have ec : (if false then !inV (V.int (-1)) ((waysOf g ns).map V.int) else inV (V.int (-1)) ((waysOf g ns).map V.int)) = !g.region ns := by
            rw [if_neg (by decide), in_lsI, region_ways, Bool.not_not]
          rw [ec]
          have fin : ∀ z : Int, z = (if g.region ns = true then 1 else 0) → ([V.int z] : List V).length ≤ sizeLine ∧ ∀ q, H3 q = none → tVar 2 [some (.ref a), some (.ref b), some (.ref pw), none] (upd H3 q (.lst [V.int z])) fun y H4 => rCat (.ref q) y H4 Q := fun z ez => by
            refine ⟨by show 1 ≤ sizeLine; decide, fun q hq => ⟨_, rfl, q, pw, _, _, rfl, rfl, upd_same, (same_new hq) _ _ L3, ?_, fun q2 hq2 => ?_⟩⟩
            · rw [List.length_map]
              unfold waysOf
              rw [List.length_map, List.length_range]
              exact smallE (m := 10) (by have := hg.k6; simp; omega)
            · have S5 := S3'.trans ((same_new (o := HO.lst [V.int z]) hq).trans (same_new (o := HO.lst ([V.int z] ++ (waysOf g ns).map V.int)) hq2))
              refine k _ q2 ?_ (hid_mono S5) ((S3'.trans (same_new hq)).free hq2) ?_
              · rw [e]; exact up_line _ _ _ _ S5 hL
              · rw [e]
                show upd _ _ _ q2 = some (.lst (((if g.region ns = true then (1 : Int) else 0) :: waysOf g ns).map V.int))
                rw [← ez]; exact upd_same
          cases hreg : g.region ns with
          | true => exact iteF (fin 1 (by rw [hreg]; rfl))
          | false => exact iteT (fin 0 (by rw [hreg]; rfl))
/-! ### open_ones -/
theorem open_spec (l : List Qn) : (l.flatMap fun q => match q with
      | .states s t => [0, s, t]
      | .event s e => [1, s, e]) = l.flatMap qN := by
  refine congrArg (fun f => List.flatMap f l) ?_
  funext q
  cases q <;> rfl
theorem ok_open_ones (T : Txt K mg C) (D_open_questions : Dfn P w K mg base 4 "open_questions" ["seen", "regions"] (spOpen C)) (h : AtM K C.line "open_ones" "Line.open_ones" (inClass (top 58) 5) ["self"]) : Dm P w K mg base C.line 5 "open_ones" ["self"] (spL0 C .open_) := by
  have sc : FnScope ["self", "found", "answer", "question"] ["self"] (defScope (inClass (top 58) 5)) := ⟨rfl, rfl, rfl, by decide +kernel, rfl, by decide +kernel, by decide +kernel⟩
  refine Dm.mk T.line h sc (fun vs H Q E h => ?_) (fun f cdv A outer s H vs Q E hr h => ⟨_, (pss_cons (ps_set (i := 1) sc.nd rfl (Or.inl rfl) (pe_fn D_open_questions (hr.mono (by decide)) rfl (pa_cons (pe_fldK (K := K) rfl (pv 0) rfl) (pa_cons (pe_fldK (K := K) rfl (pv 0) rfl) pa_nil))))
      (pss_cons (ps_set (i := 2) sc.nd rfl (Or.inl rfl) (pe_lst (pa_cons (pe_callB call_len_seq (by rfl) T.len PySem.boot_len (pa_cons (pv 1) pa_nil)) pa_nil)))
      (pss_cons (ps_for PassesOwn.never rfl (pi_list (pv 1)) (pg_name (i := 3) sc.nd rfl (Or.inl rfl)) (pss_one (ps_expr (pe_bm PySem.F.plainAttrs_list PySem.F.slot_list_extend PySem.F.type_list_extend mt_extendT (pv 2) (pa_cons (pv 3) pa_nil)))))
      (pss_one (ps_ret (pv 2)))))), ?_⟩)
  · obtain ⟨a, g, rfl, _⟩ := h; rfl
  · obtain ⟨a, g, rfl, hL, k⟩ := h
    obtain ⟨dx, s, r, p, n, ha, h1, h2, h3, h4, hg⟩ := id hL
    refine ⟨_, rfl, a, C.line, dx, _, _, rfl, ha, T.line, T.line_seen, lf_seen, _, rfl, a, C.line, dx, _, _, rfl, ha, T.line, T.line_regions_seen, lf_regions, s, r, g, g.regions, rfl, up_seen _ _ _ _ hid_same h1, hg, up_of up_reg _ _ _ _ hid_same h2, fun H1 p1 S1 n1 L1 => ?_⟩
    generalize hop : g.open_ g.regions = op at L1
    have hopl : op.length ≤ 135 := by rw [← hop, open_eq]; exact Nat.le_trans (List.length_filter_le ..) (questions_few hg.n9 hg.k6)
    obtain ⟨vs, hv, hl, g1, g2⟩ := L1.get
    refine ⟨_, rfl, p1, _, rfl, .inl (SqL.of hv), by show 1 ≤ sizeLine; decide, fun l hl0 => ?_⟩
    refine ⟨_, rfl, p1, rfl, ⟨_, SqL.of ((same_new hl0) _ _ hv)⟩, for_list (K := K) (a := p1) (xs := vs) (fun i σ H' => (∃ v : Option V, σ = [some (.ref a), some (.ref p1), some (.ref l), v]) ∧ GrowV H1 H' l (V.int (op.length : Nat) :: ((op.take i).flatMap qN).map nV))
      ⟨⟨none, rfl⟩, by rw [← hl]; exact GrowV.start hl0⟩ (fun i σ H' _ ⟨_, G⟩ => SqL.of (G.same _ _ hv)) ?_ ?_⟩
    · rintro i y σ H' hi ⟨⟨v, rfl⟩, G⟩
      obtain ⟨q, x, rfl, hxi, rx⟩ := g2 i y hi
      refine ⟨_, rfl, tyL G.2, _, rfl, l, q, _, _, rfl, rfl, G.2, G.same _ _ rx, ?_, ⟨_, rfl⟩, GrowV.eq G.put ?_⟩
      · have h3 : ∀ z : Qn, (qN z).length = 3 := fun z => by cases z <;> rfl
        have := length_flatMap_le qN 3 (op.take i) (fun z _ => by rw [h3]; exact Nat.le_refl _)
        have ht := take_len hxi
        simp only [List.length_cons, List.length_map, h3]
        exact smallE (m := 1000) (by omega)
      · rw [take_more hxi, List.flatMap_append, List.map_append]
        simp
    · rintro σ H' ⟨⟨v, rfl⟩, G⟩
      rw [hl, List.take_length] at G
      have S' : Same H H' := S1.trans G.same
      refine ⟨_, rfl, k H' l (up_line _ _ _ _ S' hL) (hid_mono S') (S1.free hl0) ?_⟩
      have e : g.step .open_ = (g, ⟨(op.length : Int), Sq64.ints (op.flatMap qN)⟩) := by
        rw [← hop, ← open_spec]; rfl
      rw [e]
      show LsI H' l ((op.length : Int) :: Sq64.ints (op.flatMap qN))
      unfold LsI
      rw [List.map_cons, map_ints]
      exact G.2
/-! ### net -/
def netN (g : Sn) (e : Nat) : List Nat := (crossedN g g.places e 2).length :: crossedN g g.places e 2 ++ ((crossedN g g.places e 1).length :: crossedN g g.places e 1)
theorem net_spec (g : Sn) : g.step .net = (g, ⟨(g.places.length : Int), Sq64.ints ((g.places.map fun r => if r.contains 0 = true then 1 else 0) ++ (List.range g.k).flatMap (netN g))⟩) := by
  have e : (fun e => ((List.range g.places.length).filter fun i => g.crosses ((g.places[i]?).getD []) e == some 2).length :: ((List.range g.places.length).filter fun i => g.crosses ((g.places[i]?).getD []) e == some 2) ++ (((List.range g.places.length).filter fun i => g.crosses ((g.places[i]?).getD []) e == some 1).length :: ((List.range g.places.length).filter fun i => g.crosses ((g.places[i]?).getD []) e == some 1))) = netN g := by
    funext e
    rw [crossed_spec g g.places e 2, crossed_spec g g.places e 1]; rfl
  rw [← e]; rfl
theorem mark_spec (g : Sn) : (g.places.map fun r => if r.contains 0 = true then 1 else 0).map nV = List.map bV (g.marking 0) := by
  unfold Sq64.Seen.marking
  rw [List.map_map, List.map_map]
  refine List.map_congr_left fun r _ => ?_
  show nV (if r.contains 0 = true then 1 else 0) = bV (r.contains 0)
  cases r.contains 0 <;> rfl
theorem ok_net (T : Txt K mg C) (D_counted : Dfn P w K mg base 1 "counted" ["numbers"] spCounted) (h : AtM K C.line "net" "Line.net" (inClass (top 58) 7) ["self"]) : Dm P w K mg base C.line 2 "net" ["self"] (spL0 C .net) := by
  have sc : FnScope ["self", "answer", "event"] ["self"] (defScope (inClass (top 58) 7)) := ⟨rfl, rfl, rfl, by decide +kernel, rfl, by decide +kernel, by decide +kernel⟩
  refine Dm.mk T.line h sc (fun vs H Q E h => ?_) (fun f cdv A outer s H vs Q E hr h => ⟨_, (pss_cons (ps_set (i := 1) sc.nd rfl (Or.inl rfl) (pe_fn D_counted (hr.mono (by decide)) rfl (pa_cons (pe_fldK (K := K) rfl (pe_fldK (K := K) rfl (pv 0) rfl) rfl) pa_nil)))
      (pss_cons (ps_for PassesOwn.never rfl (pi_range1 rfl T.range (pa_cons (pe_fldK (K := K) rfl (pe_fldK (K := K) rfl (pv 0) rfl) rfl) pa_nil)) (pg_name (i := 2) sc.nd rfl (Or.inl rfl)) (pss_cons (ps_expr (pe_bm PySem.F.plainAttrs_list PySem.F.slot_list_extend PySem.F.type_list_extend mt_extend (pv 1) (pa_cons (pe_fn D_counted (hr.mono (by decide)) rfl (pa_cons (pe_ix (ix_listK (K := K) rfl) (pe_fldK (K := K) rfl (pe_fldK (K := K) rfl (pv 0) rfl) rfl) (pv 2) (fun _ _ => rfl)) pa_nil)) pa_nil)))
      (pss_one (ps_expr (pe_bm PySem.F.plainAttrs_list PySem.F.slot_list_extend PySem.F.type_list_extend mt_extend (pv 1) (pa_cons (pe_fn D_counted (hr.mono (by decide)) rfl (pa_cons (pe_ix (ix_listK (K := K) rfl) (pe_fldK (K := K) rfl (pe_fldK (K := K) rfl (pv 0) rfl) rfl) (pv 2) (fun _ _ => rfl)) pa_nil)) pa_nil))))))
      (pss_one (ps_ret (pv 1))))), ?_⟩)
  · obtain ⟨a, g, rfl, _⟩ := h; rfl
  · obtain ⟨a, g, rfl, hL, k⟩ := h
    obtain ⟨dx, s, r, p, n, ha, h1, h2, h3, h4, hg⟩ := id hL
    obtain ⟨dxs, bs, hsn, hsa⟩ := id h1
    obtain ⟨dxn, fm, lb, eb, hn, hm, hlb, heb⟩ := id (up_net _ _ _ _ hid_same h4)
    have hpl : g.places.length ≤ 1600 := Nat.le_trans (places_len g) (regions_few g hg.n1 hg.n9)
    have hk6 := hg.k6
    obtain ⟨vs, hv, hvl, g1, g2⟩ := hlb.get
    obtain ⟨us, hu, hul, u1, u2⟩ := heb.get
    have lfm : List.lookup ("left_by_event" : Str) ([("first_marking", V.ref fm), ("left_by_event", V.ref lb), ("entered_by_event", V.ref eb)] : List (Str × V)) = some (.ref lb) := (lk_past (by decide +kernel)).trans lk_here
    have lem : List.lookup ("entered_by_event" : Str) ([("first_marking", V.ref fm), ("left_by_event", V.ref lb), ("entered_by_event", V.ref eb)] : List (Str × V)) = some (.ref eb) := (lk_past (by decide +kernel)).trans ((lk_past (by decide +kernel)).trans lk_here)
    refine ⟨_, rfl, a, C.line, dx, _, _, rfl, ha, T.line, T.line_net_made, lf_net, n, C.net, dxn, _, _, rfl, hn, T.net, T.net_first_marking, lk_here, fm, _, rfl, hm, by rw [List.length_map, marking_len]; omega, fun H1 l S1 nl L1 => ?_⟩
    have hl1 : GrowV H H1 l (V.int (g.places.length : Nat) :: List.map bV (g.marking 0)) := by
      refine ⟨same_hid S1 nl, ?_⟩
      rw [List.length_map, marking_len] at L1
      exact L1
    refine ⟨_, rfl, a, C.line, dx, _, _, rfl, S1 _ _ ha, T.line, T.line_seen, lf_seen, s, C.seen, dxs, _, _, rfl, S1 _ _ (hid_same _ _ hsn), T.seen, T.seen_k, (lk_past (by decide +kernel)).trans lk_here, (g.k : Int), rfl, (small_int (by omega)).1, (small_int (by omega)).2, ?_⟩
    refine for_rng (lo := 0) (n := g.k) (fun i σ H' => (∃ v : Option V, σ = [some (.ref a), some (.ref l), v]) ∧ GrowV H H' l (V.int (g.places.length : Nat) :: (List.map bV (g.marking 0) ++ ((List.range i).flatMap (netN g)).map nV))) ⟨⟨none, rfl⟩, GrowV.eq hl1 (by simp)⟩ ?_ ?_
    · rintro i σ H' hi ⟨⟨v, rfl⟩, G⟩
      rw [Nat.zero_add]
      obtain ⟨pl, hpl2, rl⟩ := g1 i _ (get_map (by rw [List.getElem?_range hi]))
      obtain ⟨pe, hpe, re⟩ := u1 i _ (get_map (by rw [List.getElem?_range hi]))
      have c2 := crossed_len g g.places i 2
      have c1 := crossed_len g g.places i 1
      have hflat := length_flatMap_le (netN g) 3202 (List.range i) (fun e _ => by
        have := crossed_len g g.places e 2
        have := crossed_len g g.places e 1
        unfold netN
        simp only [List.length_append, List.length_cons]; omega)
      rw [List.length_range] at hflat
      refine ⟨_, rfl, tyL G.2, _, rfl, a, C.line, dx, _, _, rfl, G.same _ _ ha, T.line, T.line_net_made, lf_net, n, C.net, dxn, _, _, rfl, G.same _ _ hn, T.net, T.net_left_by_event, lfm, _, rfl, lb, _, _, _, rfl, rfl, SqL.of (G.same _ _ hv), atI_nat hpl2, pl, _, rfl, G.same _ _ rl, by rw [List.length_map]; omega, fun H2 p2 S2 n2 e2 => ?_⟩
      have G2 := G.keep S2
      refine ⟨l, p2, _, _, rfl, rfl, G2.2, e2, ?_, ?_⟩
      · simp only [List.length_cons, List.length_append, List.length_map, marking_len]
        exact smallE (m := 40000) (by omega)
      · have G3 := G2.put (ws := (V.int (g.places.length : Nat) :: (List.map bV (g.marking 0) ++ ((List.range i).flatMap (netN g)).map nV)) ++ (V.int ((crossedN g g.places i 2).map nV).length :: (crossedN g g.places i 2).map nV))
        refine ⟨_, rfl, tyL G3.2, _, rfl, a, C.line, dx, _, _, rfl, G3.same _ _ ha, T.line, T.line_net_made, lf_net, n, C.net, dxn, _, _, rfl, G3.same _ _ hn, T.net, T.net_entered_by_event, lem, _, rfl, eb, _, _, _, rfl, rfl, SqL.of (G3.same _ _ hu), atI_nat hpe, pe, _, rfl, G3.same _ _ re, by rw [List.length_map]; omega, fun H4 p4 S4 n4 e4 => ?_⟩
        have G4 := G3.keep S4
        refine ⟨l, p4, _, _, rfl, rfl, G4.2, e4, ?_, ⟨_, rfl⟩, GrowV.eq G4.put ?_⟩
        · simp only [List.length_cons, List.length_append, List.length_map, marking_len]
          exact smallE (m := 40000) (by omega)
        · rw [List.range_succ, List.flatMap_append]
          simp [netN, nV]
    · rintro σ H' ⟨⟨v, rfl⟩, G⟩
      refine ⟨_, rfl, k H' l (up_line _ _ _ _ G.same hL) (hid_mono G.same) nl ?_⟩
      rw [net_spec]
      show LsI H' l ((g.places.length : Int) :: Sq64.ints ((g.places.map fun r => if r.contains 0 = true then 1 else 0) ++ (List.range g.k).flatMap (netN g)))
      unfold LsI
      rw [List.map_cons, map_ints, List.map_append, mark_spec]
      exact G.2
/-! ### play -/
theorem ok_play (T : Txt K mg C) (D_may_happen : Dm P w K mg base C.net 1 "may_happen" ["self", "event", "marking"] (spMay C)) (D_marking_behind : Dm P w K mg base C.net 1 "marking_behind" ["self", "event", "marking"] (spBehind C)) (h : AtM K C.line "play" "Line.play" (inClass (top 58) 8) ["self", "events"]) : Dm P w K mg base C.line 2 "play" ["self", "events"] (spL1 C .play) := by
  have sc : FnScope ["self", "events", "marking", "event"] ["self", "events"] (defScope (inClass (top 58) 8)) := ⟨rfl, rfl, rfl, by decide +kernel, rfl, by decide +kernel, by decide +kernel⟩
  refine Dm.mk T.line h sc (fun vs H Q E h => ?_) (fun f cdv A outer s H vs Q E hr h => ⟨_, (pss_cons (ps_set (i := 2) sc.nd rfl (Or.inl rfl) (pe_fldK (K := K) rfl (pe_fldK (K := K) rfl (pv 0) rfl) rfl))
      (pss_cons (ps_for PassesOwn.never rfl (pi_list (pv 1)) (pg_name (i := 3) sc.nd rfl (Or.inl rfl)) (pss_cons (ps_if (PW.pt (pw_or (pt_cmpR op_ge (pv 3) (pe_fldK (K := K) rfl (pe_fldK (K := K) rfl (pv 0) rfl) rfl) (nomark _)) (pw_or1 (pt_not (pt_val (pe_mt (pe_fldK (K := K) rfl (pv 0) rfl) D_may_happen (hr.mono (by decide)) (pa_cons (pv 3) (pa_cons (pv 2) pa_nil)))))))) (pss_one (ps_ret (pe_lst (pa_cons (pe_con T.cMAY_NOT_HAPPEN rfl) pa_nil)))) pss_nil)
      (pss_one (ps_set (i := 2) sc.nd rfl (Or.inl rfl) (pe_mt (pe_fldK (K := K) rfl (pv 0) rfl) D_marking_behind (hr.mono (by decide)) (pa_cons (pv 3) (pa_cons (pv 2) pa_nil)))))))
      (pss_one (ps_ret (pe_op op_cat (pe_lst (pa_cons (pe_callB call_len_seq (by rfl) T.len PySem.boot_len (pa_cons (pv 1) pa_nil)) pa_nil)) (pv 2)))))), ?_⟩)
  · obtain ⟨a, b, g, ns, rfl, _⟩ := h; rfl
  · obtain ⟨a, b, g, ns, rfl, hL, hb0, hfew, k⟩ := h
    obtain ⟨dx, s, r, p, n, ha, h1, h2, h3, h4, hg⟩ := id hL
    have hb : Ls H b ns := hid_same _ _ hb0
    obtain ⟨dxs, bs, hsn, hsa⟩ := id h1
    have hN := up_net _ _ _ _ hid_same h4
    obtain ⟨dxn, fm, lb, eb, hn, hm, hlb, heb⟩ := id hN
    have hpl : g.places.length ≤ 1600 := Nat.le_trans (places_len g) (regions_few g hg.n1 hg.n9)
    have look : ∀ x : Str, (x == ("first_marking" : Str)) = false → (x == ("left_by_event" : Str)) = false → (x == ("entered_by_event" : Str)) = false → List.lookup x ([("first_marking", V.ref fm), ("left_by_event", V.ref lb), ("entered_by_event", V.ref eb)] : List (Str × V)) = none := fun x a b c => (lk_past a).trans ((lk_past b).trans ((lk_past c).trans rfl))
    refine ⟨_, rfl, a, C.line, dx, _, _, rfl, ha, T.line, T.line_net_made, lf_net, n, C.net, dxn, _, _, rfl, hn, T.net, T.net_first_marking, lk_here, ?_⟩
    refine ⟨_, rfl, b, rfl, ⟨_, SqL.of hb⟩, for_list (K := K) (a := b) (xs := ns.map nV) (fun i σ H' => ∃ (m : Addr) (mk : Marking) (v : Option V), σ = [some (.ref a), some (.ref b), some (.ref m), v] ∧ Same H H' ∧ MkAt H' m mk ∧ List.length mk = g.places.length ∧ g.play (g.marking 0) ns = g.play mk (ns.drop i))
      ⟨fm, g.marking 0, none, rfl, Same.refl H, hm, marking_len g 0, rfl⟩ (fun i σ H' _ ⟨_, _, _, _, S, _⟩ => SqL.of (S _ _ hb)) ?_ ?_⟩
    · rintro i y σ H' hi ⟨m, mk, v, rfl, S, hM, hml, hplay⟩
      obtain ⟨e, hei, rfl⟩ := map_get hi
      rw [drop_get hei] at hplay
      have bad : ∀ (H' : Hp) (v1 v2 : Option V), Same H H' → (decide (e < g.k) && g.may mk e) = false → tRet (tLst (tCons (tC (.int (-6))) tNil)) { nx := fun σ H' => False, rt := Q, bk := fun _ _ => False, ct := fun _ _ => False } [some (.ref a), some (.ref b), v1, v2] H' := fun H' v1 v2 S c => by
        refine ⟨by show 1 ≤ sizeLine; decide, fun q hq => ?_⟩
        have e0 : g.play (g.marking 0) ns = none := by
          rw [hplay]
          show (if (decide (e < g.k) && g.may mk e) = true then _ else _) = _
          rw [c, if_neg (by decide)]
        have e : g.step (.play ns) = (g, Sq64.says (-6)) := by
          show (match g.play (g.marking 0) ns with
            | none => (g, Sq64.says (-6))
            | some m => (g, ⟨ns.length, List.map (fun b => if b = true then 1 else 0) m⟩)) = _
          rw [e0]
        refine k _ q ?_ (hid_mono (S.trans (same_new hq))) (S.free hq) ?_
        · rw [e]; exact up_line _ _ _ _ (S.trans (same_new hq)) hL
        · rw [e]; exact upd_same
      refine ⟨_, rfl, _, rfl, a, C.line, dx, _, _, rfl, S _ _ ha, T.line, T.line_seen, lf_seen, s, C.seen, dxs, _, _, rfl, S _ _ (hid_same _ _ hsn), T.seen, T.seen_k, (lk_past (by decide +kernel)).trans lk_here, _, _, rfl, rfl, _, rfl, ?_⟩
      have ec : decide ((g.k : Int) ≤ (e : Int)) = !decide (e < g.k) := by
        rw [Bool.eq_iff_iff, Bool.not_eq_true', decide_eq_true_eq, decide_eq_false_iff_not]; omega
      rw [ec]
      by_cases hek : e < g.k
      · rw [decide_eq_true hek]
        refine iteF ⟨_, rfl, a, C.line, dx, _, _, rfl, S _ _ ha, T.line, T.line_net_made, lf_net, n, dxn, _, rfl, S _ _ hn, look _ (by decide +kernel) (by decide +kernel) (by decide +kernel), _, rfl, _, rfl, n, m, e, g, mk, rfl, up_net _ _ _ _ S hN, hek, hM, hml, hpl, fun H1 S1 => ⟨_, rfl, ?_⟩⟩
        cases hmay : g.may mk e with
        | false => exact iteT (bad H1 _ _ (S.trans S1) (by rw [hmay, Bool.and_false]))
        | true =>
          refine iteF ?_
          refine ⟨_, rfl, a, C.line, dx, _, _, rfl, (S.trans S1) _ _ ha, T.line, T.line_net_made, lf_net, n, dxn, _, rfl, (S.trans S1) _ _ hn, look _ (by decide +kernel) (by decide +kernel) (by decide +kernel), _, rfl, _, rfl, n, m, e, g, mk, rfl, up_net _ _ _ _ (S.trans S1) hN, hek, S1 _ _ hM, hml, hpl, fun H2 p2 S2 n2 M2 => ?_⟩
          refine ⟨p2, g.fired mk e, _, rfl, (S.trans S1).trans S2, M2, fired_len g mk e hml, ?_⟩
          rw [hplay]
          show (if (decide (e < g.k) && g.may mk e) = true then _ else _) = _
          rw [decide_eq_true hek, hmay, if_pos (show (true && true) = true from rfl)]
      · rw [decide_eq_false hek]
        exact iteT (iteT (bad H' _ _ S (by rw [decide_eq_false hek, Bool.false_and])))
    · rintro σ H' ⟨m, mk, v, rfl, S, hM, hml, hplay⟩
      rw [List.length_map, List.drop_length] at hplay
      have hplay' : g.play (g.marking 0) ns = some mk := hplay
      have e : g.step (.play ns) = (g, ⟨(ns.length : Int), List.map (fun b => if b = true then 1 else 0) mk⟩) := by
        show (match g.play (g.marking 0) ns with
          | none => (g, Sq64.says (-6))
          | some m => (g, ⟨(ns.length : Int), List.map (fun b => if b = true then 1 else 0) m⟩)) = _
        rw [hplay']
      refine ⟨_, rfl, b, _, rfl, .inl (SqL.of (S _ _ hb)), by show 1 ≤ sizeLine; decide, fun q hq => ⟨_, rfl, q, m, _, _, rfl, rfl, upd_same, (same_new hq) _ _ hM, ?_, fun q2 hq2 => ?_⟩⟩
      · rw [List.length_map]
        exact smallE (m := 2000) (by simp; omega)
      · have S5 := S.trans ((same_new (o := HO.lst [V.int ((ns.map nV).length : Nat)]) hq).trans (same_new (o := HO.lst ([V.int ((ns.map nV).length : Nat)] ++ List.map bV mk)) hq2))
        refine k _ q2 ?_ (hid_mono S5) ((S.trans (same_new hq)).free hq2) ?_
        · rw [e]; exact up_line _ _ _ _ S5 hL
        · rw [e]
          show upd _ _ _ q2 = some (.lst (((ns.length : Int) :: List.map (fun b => if b = true then 1 else 0) mk).map V.int))
          rw [upd_same, List.map_cons, List.map_map, List.length_map]
          rfl
/-! ### same -/
theorem ok_same (T : Txt K mg C) (D_open_questions : Dfn P w K mg base 4 "open_questions" ["seen", "regions"] (spOpen C)) (D_markings_come_to : Dfn P w K mg base 3 "markings_come_to" ["net", "most_events"] (spComeTo C)) (h : AtM K C.line "same" "Line.same" (inClass (top 58) 9) ["self"]) : Dm P w K mg base C.line 5 "same" ["self"] (spL0 C .same) := by
  have sc : FnScope ["self", "still_open", "come_to"] ["self"] (defScope (inClass (top 58) 9)) := ⟨rfl, rfl, rfl, by decide +kernel, rfl, by decide +kernel, by decide +kernel⟩
  refine Dm.mk T.line h sc (fun vs H Q E h => ?_) (fun f cdv A outer s H vs Q E hr h => ⟨_, (pss_cons (ps_set (i := 1) sc.nd rfl (Or.inl rfl) (pe_fn D_open_questions (hr.mono (by decide)) rfl (pa_cons (pe_fldK (K := K) rfl (pv 0) rfl) (pa_cons (pe_fldK (K := K) rfl (pv 0) rfl) pa_nil))))
      (pss_cons (ps_set (i := 2) sc.nd rfl (Or.inl rfl) (pe_fn D_markings_come_to (hr.mono (by decide)) rfl (pa_cons (pe_fldK (K := K) rfl (pv 0) rfl) (pa_cons (pe_op op_add (pe_fldK (K := K) rfl (pe_fldK (K := K) rfl (pv 0) rfl) rfl) pe_int) pa_nil))))
      (pss_one (ps_ret (pe_lst (pa_cons (pe_ifExp (pt_cmpR op_eq (pe_callB call_len_seq (by rfl) T.len PySem.boot_len (pa_cons (pv 1) pa_nil)) pe_int (nomark _)) pe_int pe_int) (pa_cons (pe_callB call_len_seq (by rfl) T.len PySem.boot_len (pa_cons (pv 2) pa_nil)) pa_nil))))))), ?_⟩)
  · obtain ⟨a, g, rfl, _⟩ := h; rfl
  · obtain ⟨a, g, rfl, hL, k⟩ := h
    obtain ⟨dx, s, r, p, n, ha, h1, h2, h3, h4, hg⟩ := id hL
    obtain ⟨dxs, bs, hsn, hsa⟩ := id h1
    have hn9 := hg.n9
    refine ⟨_, rfl, a, C.line, dx, _, _, rfl, ha, T.line, T.line_seen, lf_seen, _, rfl, a, C.line, dx, _, _, rfl, ha, T.line, T.line_regions_seen, lf_regions, s, r, g, g.regions, rfl, up_seen _ _ _ _ hid_same h1, hg, up_of up_reg _ _ _ _ hid_same h2, fun H1 p1 S1 n1 L1 => ?_⟩
    generalize hop : g.open_ g.regions = op at L1
    obtain ⟨vs, hv, hl, g1, g2⟩ := L1.get
    refine ⟨_, rfl, a, C.line, dx, _, _, rfl, S1 _ _ ha, T.line, T.line_net_made, lf_net, _, rfl, a, C.line, dx, _, _, rfl, S1 _ _ ha, T.line, T.line_seen, lf_seen, s, C.seen, dxs, _, _, rfl, S1 _ _ (hid_same _ _ hsn), T.seen, T.seen_n, lk_here, _, _, rfl, rfl, n, g, g.n + 1, rfl, up_net _ _ _ _ S1 (up_net _ _ _ _ hid_same h4), hg.k6, Nat.le_trans (places_len g) (regions_few g hg.n1 hg.n9), by omega, fun H2 p2 ys S2 e2 hy => ?_⟩
    refine ⟨_, rfl, p1, _, rfl, .inl (SqL.of (S2 _ _ hv)), rfl, _, rfl, ?_⟩
    have S' : Same H H2 := S1.trans S2
    have fin : ∀ z : Int, z = (if op.isEmpty = true then 1 else 0) → tVar 2 [some (.ref a), some (.ref p1), some (.ref p2)] H2 fun x H3 => ∃ q ws, [x] = [V.ref q] ∧ (SqL K H3 q ws ∨ SqT K H3 q ws) ∧ ([V.int z, V.int (ws.length : Nat)] : List V).length ≤ sizeLine ∧ ∀ q, H3 q = none → Q (.ref q) (upd H3 q (.lst [V.int z, V.int (ws.length : Nat)])) := fun z ez => by
      refine ⟨_, rfl, p2, ys, rfl, .inl (SqL.of e2), by show 2 ≤ sizeLine; decide, fun q hq => ?_⟩
      have e : g.step .same = (g, ⟨if op.isEmpty = true then 1 else 0, [((g.comes (g.n + 1) [g.marking 0]).length : Int)]⟩) := by rw [← hop]; rfl
      refine k _ q ?_ (hid_mono (S'.trans (same_new hq))) (S'.free hq) ?_
      · rw [e]; exact up_line _ _ _ _ (S'.trans (same_new hq)) hL
      · rw [e]
        show upd _ _ _ q = some (.lst (((if op.isEmpty = true then (1 : Int) else 0) :: [((g.comes (g.n + 1) [g.marking 0]).length : Int)]).map V.int))
        rw [← ez, ← hy]
        exact upd_same
    cases op with
    | nil =>
      have hz : vs.length = 0 := hl
      rw [hz]
      exact iteT (fin 1 rfl)
    | cons q0 op =>
      have hz : vs.length = op.length + 1 := hl
      rw [hz]
      have c : decide (V.int ((op.length + 1 : Nat) : Int) = V.int 0) = false := by
        rw [dec_int, beq_eq_false_iff_ne]; omega
      rw [c]
      exact iteF (fin 0 rfl)
/-! ### begin -/
def spBegin (C : Cs) : Sp := fun vs H Q _ => ∃ (a b : Addr) (n kk : Int) (g : Sn) (ns : List Nat), vs = [.ref a, .int n, .int kk, .ref b] ∧ LineAt C H a g ∧ Ls (hid H a) b ns ∧ ns.length ≤ 1024 ∧ 0 ≤ n ∧ 0 ≤ kk ∧ Ans C a (g.step (.begin_ n.toNat kk.toNat ns)) H Q
theorem ok_begin (T : Txt K mg C) (D_refusal_of : Dfn P w K mg base 2 "refusal_of" ["n", "k", "numbers"] spRefusal) (D_arcs_told : Dfn P w K mg base 1 "arcs_told" ["numbers"] spArcsTold) (D_tell : Dm P w K mg base C.line 5 "tell" ["self", "seen"] (spTell C)) (D_Seen : Di P w K mg base C.seen 2 "Seen" ["self", "n", "k", "arcs"] (spSeen C))
    (h : AtM K C.line "begin" "Line.begin" (inClass (top 58) 2) ["self", "n", "k", "numbers"]) : Dm P w K mg base C.line 6 "begin" ["self", "n", "k", "numbers"] (spBegin C) := by
  have sc : FnScope ["self", "n", "k", "numbers", "refusal", "arcs"] ["self", "n", "k", "numbers"] (defScope (inClass (top 58) 2)) := ⟨rfl, rfl, rfl, by decide +kernel, rfl, by decide +kernel, by decide +kernel⟩
  refine Dm.mk T.line h sc (fun vs H Q E h => ?_) (fun f cdv A outer s H vs Q E hr h => ⟨_, (pss_cons (ps_set (i := 4) sc.nd rfl (Or.inl rfl) (pe_fn D_refusal_of (hr.mono (by decide)) rfl (pa_cons (pv 1) (pa_cons (pv 2) (pa_cons (pv 3) pa_nil)))))
      (pss_cons (ps_if (pt_cmpR op_ne (pv 4) (pe_con T.cNOT_REFUSED rfl) (nomark _)) (pss_one (ps_ret (pe_lst (pa_cons (pv 4) pa_nil)))) pss_nil)
      (pss_cons (ps_set (i := 5) sc.nd rfl (Or.inl rfl) (pe_fn D_arcs_told (hr.mono (by decide)) rfl (pa_cons (pv 3) pa_nil)))
      (pss_cons (ps_expr (pe_mt (pv 0) D_tell (hr.mono (by decide)) (pa_cons (pe_mk D_Seen (hr.mono (by decide)) rfl (pa_cons (pv 1) (pa_cons (pv 2) (pa_cons (pv 5) pa_nil)))) pa_nil)))
      (pss_one (ps_ret (pe_lst (pa_cons (pe_callB call_len_seq (by rfl) T.len PySem.boot_len (pa_cons (pv 5) pa_nil)) pa_nil)))))))), ?_⟩)
  · obtain ⟨a, b, n, kk, g, ns, rfl, _⟩ := h; rfl
  · obtain ⟨a, b, n, kk, g, ns, rfl, hL, hb0, hfew, hn0, hk0, k⟩ := h
    obtain ⟨dx, s, r, p, nt, ha, h1, h2, h3, h4, hg⟩ := id hL
    have hb : Ls H b ns := hid_same _ _ hb0
    refine ⟨_, rfl, _, rfl, _, rfl, b, n, kk, ns, rfl, hb, hfew, fun H1 S1 => ?_⟩
    refine ⟨_, rfl, rfl, _, rfl, ?_⟩
    by_cases c : refusal n kk ns = 0
    · have cd : (!decide (V.int (refusal n kk ns) = V.int 0)) = false := by rw [dec_int, c]; rfl
      rw [cd]
      refine iteF ?_
      obtain ⟨e, c1, c2, c3, c4⟩ := begin_taken g n kk ns c
      have hok := begin_ok hfew c
      refine ⟨_, rfl, b, ns, rfl, S1 _ _ hb, hfew, c2, fun H2 p2 S2 n2 L2 => ?_⟩
      have S2' : Same H H2 := S1.trans S2
      refine ⟨_, rfl, a, dx, _, rfl, S2' _ _ ha, lf_none (by decide +kernel) (by decide +kernel) (by decide +kernel) (by decide +kernel), _, rfl, _, rfl, _, rfl, ?_⟩
      intro x dx3 nx ndx ne
      have nx' : upd H2 dx3 (.own x) x = none := by rw [upd_ne (fun e => ne e.symm)]; exact nx
      have Sm : Same H2 (upd (upd H2 dx3 (.own x)) x (.ins C.seen dx3 [])) := (same_new ndx).trans (same_new nx')
      have en : V.int n = nV n.toNat := by unfold nV; rw [Int.toNat_of_nonneg hn0]
      have ek : V.int kk = nV kk.toNat := by unfold nV; rw [Int.toNat_of_nonneg hk0]
      refine ⟨x, dx3, p2, n.toNat, kk.toNat, arcsOf ns, by rw [← en, ← ek]; rfl, upd_same, up_of up_tup3 _ _ _ _ Sm L2, by omega, by rw [arcsOf_len]; omega, fun H3 SA S3 => ⟨rfl, ?_⟩⟩
      have S3' : Same H2 H3 := same_made nx ndx S3
      have ha3 : H3 a = some (.ins C.line dx (lineF s r p nt)) := S3' _ _ (S2' _ _ ha)
      refine ⟨a, x, dx, _, ⟨n.toNat, kk.toNat, arcsOf ns⟩, rfl, ha3, Or.inr ⟨s, r, p, nt, rfl⟩, seen_hid ha3 (lf_none (by decide +kernel) (by decide +kernel) (by decide +kernel) (by decide +kernel)) SA, hok, fun H4 LA S4 => ?_⟩
      obtain ⟨vs, hv, hl, _, _⟩ := L2.get
      have hv4 : H4 p2 = some (.lst vs) := hid_same _ _ (S4 _ _ (hid_kind' ha3 (S3' _ _ hv) (by intro z; cases z)))
      refine ⟨_, rfl, p2, _, rfl, .inl (SqL.of hv4), by show 1 ≤ sizeLine; decide, fun q hq => ?_⟩
      have S0 : Same (hid H a) (hid H4 a) := (hid_mono (S2'.trans S3')).trans S4
      refine k _ q ?_ (S0.trans (hid_mono (same_new hq))) ?_ ?_
      · rw [e]; exact up_line _ _ _ _ (same_new hq) LA
      · cases z : H q with
        | none => rfl
        | some o =>
          by_cases eq : q = a
          · rw [eq] at hq
            obtain ⟨_, _, _, _, _, hq2, _⟩ := LA
            rw [hq2] at hq; cases hq
          · have := hid_same _ _ (S0 q o (by rw [hid_at eq]; exact z))
            rw [this] at hq; cases hq
      · rw [e]
        show upd _ _ _ q = some (.lst ([((arcsOf ns).length : Int)].map V.int))
        rw [upd_same, hl]; rfl
    · have cd : (!decide (V.int (refusal n kk ns) = V.int 0)) = true := by
        rw [dec_int, Bool.not_eq_true', beq_eq_false_iff_ne]; exact c
      rw [cd]
      have e := begin_refused g n kk ns hn0 hk0 c
      refine iteT ⟨_, rfl, by show 1 ≤ sizeLine; decide, fun q hq => ?_⟩
      refine k _ q ?_ (hid_mono (S1.trans (same_new hq))) (S1.free hq) ?_
      · rw [e]; exact up_line _ _ _ _ (S1.trans (same_new hq)) hL
      · rw [e]; exact upd_same
end
end Rn
namespace Rn
open PySem PySem.Spec PyProof.Rows L2
open Sq64 (States Marking Arc)

/-! ### a list that a call knows nothing of stays as it is -/
section
variable {P : Program} {w : World} {K : PySem.W.Frag} {mg : Str → Option Value} {base : Heap}
def frm (sp : Sp) : Sp := fun vs H Q E => ∃ l xs, H l = some (.lst xs) ∧ sp vs (hid H l) (fun v H' => H' l = none → Q v (upd H' l (.lst xs))) E
theorem objOk_mono {H H' : Hp} {h : Heap} (ht : ∀ b xs, H b = some (.tup xs) → H' b = some (.tup xs)) (ho : ∀ b x, H b = some (.own x) → H' b = some (.own x)) {a : Addr} : ∀ {o : HO}, ObjOk P w H h a o → ObjOk P w H' h a o
  | .lst _, x => x
  | .tup _, x => x
  | .dK _, x => x
  | .dT _, ⟨z, y, xs, r, q⟩ => ⟨z, y, xs, Paired.mapP r fun _ _ z => ⟨z.1, ht _ _ z.2.1, z.2.2⟩, q⟩
  | .set _ _, x => x
  | .ins _ _ _, ⟨x, q⟩ => ⟨ho _ _ x, q⟩
  | .own _, x => x
  | .xd _, x => x
  | .met _ _, x => x
  | .rng _ _, x => x
  | .frz _ u, ⟨e, x⟩ => ⟨e, objOk_mono ht ho (o := u) x⟩
  | .tbl _, x => x
  | .ext _, x => x
theorem FnOk.frm {k : Nat} {f : Addr} {fd : FuncData} {ps : List Str} {sp : Sp} (F : FnOk P w K mg base CX0 k f fd ps sp) : FnOk P w K mg base CX0 k f fd ps (Rn.frm sp) := by
  refine ⟨fun vs H Q E ⟨l, xs, _, h⟩ => F.len vs _ _ _ h, fun A outer s H args us vs Q E hr e0 hb r ⟨l, xs, hl, h⟩ => ?_⟩
  have hnone : ∀ b, H b = none → hid H l b = none := fun b z => by
    by_cases e : b = l
    · rw [e]; exact hid_self
    · rw [hid_at e]; exact z
  have ht1 : ∀ b ys, H b = some (.tup ys) → hid H l b = some (.tup ys) := fun b ys z => hid_kind' hl z (by intro q; cases q)
  have ho1 : ∀ b x, H b = some (.own x) → hid H l b = some (.own x) := fun b x z => hid_kind' hl z (by intro q; cases q)
  have hok0 : HOk P w (hid H l) s.heap := fun a o z => objOk_mono ht1 ho1 (e0.hok a o (hid_same _ _ z))
  have e1 : Env0 P w K mg base A outer s (hid H l) := ⟨e0.frames, e0.mod, fun b o z => ⟨(e0.bs b o z).1, hnone b (e0.bs b o z).2⟩, e0.bsz, e0.funs, fun b z => hnone b (e0.frf b z), hok0, e0.bare⟩
  have okl := e0.hok l _ hl
  obtain ⟨z1, its, n, z2, z3⟩ := id okl
  have nfr : l ∉ frs outer := fun z => by have := e0.frf l z; rw [hl] at this; cases this
  refine codeAny_mono (F.run A outer s (hid H l) args us vs _ E hr e1 hb r h) fun r s' x => ?_
  cases r with
  | error e => exact x
  | ok fl =>
    cases fl with
    | next => exact x
    | brk => exact x
    | cont => exact x
    | ret u =>
      obtain ⟨v, H', os, bare, un, hok', rv, q⟩ := x
      have hl' : H' l = none := un.free l _ z3 hid_self (by simp)
      have kl := un.keep l _ z3 hid_self nfr (by simp)
      have ne : ∀ {b o}, H' b = some o → b ≠ l := fun z e => by rw [e, hl'] at z; cases z
      refine ⟨v, upd H' l (.lst xs), os, bare, ⟨?_, ?_, ?_, ?_, ?_, ?_, ?_⟩, fun a o z => ?_, rv, q hl'⟩
      · exact fun b o hb hn hf hx => un.keep b o hb (hnone b hn) hf hx
      · exact fun b o hb hn hf hx => un.slot b o hb (hnone b hn) hf hx
      · intro b o hb hn hx
        rw [upd_ne (fun e => by rw [e, hl] at hn; cases hn)]
        exact un.free b o hb (hnone b hn) hx
      · exact un.there
      · intro b ys hb
        have z := un.tups b ys (ht1 b ys hb)
        rw [upd_ne (ne z)]; exact z
      · intro b o u hb
        have z := un.frzs b o u (hid_kind' hl hb (by intro q; cases q))
        rw [upd_ne (ne z)]; exact z
      · intro b ps hb
        obtain ⟨more, z⟩ := un.tbls b ps (hid_kind' hl hb (by intro q; cases q))
        exact ⟨more, by rw [upd_ne (ne z)]; exact z⟩
      · by_cases e : a = l
        · subst e
          rw [upd_same] at z
          cases z
          exact ⟨z1, its, n, z2, kl⟩
        · rw [upd_ne e] at z
          refine objOk_mono (fun b ys y => ?_) (fun b y2 y => ?_) (hok' a o z)
          · rw [upd_ne (ne y)]; exact y
          · rw [upd_ne (ne y)]; exact y
theorem Dfn.frm {k : Nat} {x : Str} {ps : List Str} {sp : Sp} (D : Dfn P w K mg base k x ps sp) : Dfn P w K mg base k x ps (Rn.frm sp) := by
  obtain ⟨f, fd, hm, kp, b, F⟩ := D
  exact ⟨f, fd, hm, kp, b, FnOk.frm F⟩
end
theorem hid_comm {H : Hp} {a b : Addr} : hid (hid H a) b = hid (hid H b) a := by
  funext c
  by_cases e1 : c = a
  · subst e1
    by_cases e2 : c = b
    · subst e2; rfl
    · rw [hid_at e2, hid_self, hid_self]
  · by_cases e2 : c = b
    · subst e2; rw [hid_self, hid_at e1, hid_self]
    · rw [hid_at e2, hid_at e1, hid_at e1, hid_at e2]
theorem rd_none {b : Addr} {i : Nat} {x : Str} (h1 : (x == ("numbers" : Str)) = false) (h2 : (x == ("at" : Str)) = false) : List.lookup x (rdF b i) = none := (lk_past h1).trans ((lk_past h2).trans rfl)
section
variable {C : Cs} {H : Hp} {a r b : Addr} {i : Nat} {g : Sn}
theorem line_rd (hL : LineAt C H a g) (hR : RdAt C H r b i) : a ≠ r := by
  obtain ⟨dx, s, q, p, n, ha, _⟩ := hL
  obtain ⟨d2, hr⟩ := hR
  exact ins_ne hr ha (rd_none (x := "seen") (by decide +kernel) (by decide +kernel)) lf_seen
theorem line_hid (hL : LineAt C H a g) (hR : RdAt C H r b i) : LineAt C (hid H r) a g := by
  have ne := line_rd hL hR
  obtain ⟨dx, s, q, p, n, ha, h1, h2, h3, h4, h5⟩ := hL
  obtain ⟨d2, hr⟩ := hR
  have hr' : hid H a r = some (.ins C.rd d2 (rdF b i)) := by rw [hid_at (fun e => ne e.symm)]; exact hr
  refine ⟨dx, s, q, p, n, by rw [hid_at ne]; exact ha, ?_, ?_, ?_, ?_, h5⟩
  · rw [hid_comm]; exact seen_hid hr' (rd_none (by decide +kernel) (by decide +kernel)) h1
  · rw [hid_comm]; exact regs_hid hr' (rd_none (by decide +kernel) (by decide +kernel)) h2
  · rw [hid_comm]; exact regs_hid hr' (rd_none (by decide +kernel) (by decide +kernel)) h3
  · rw [hid_comm]; exact net_hid hr' (rd_none (by decide +kernel) (by decide +kernel)) h4
end
section
variable {P : Program} {w : World} {K : PySem.W.Frag} {mg : Str → Option Value} {base : Heap} {C : Cs}

/-! ### answer_without_numbers(line, call) -/
def bareOf (c : Int) : Sq64.Call := if c = 2 then .regions else if c = 4 then .open_ else if c = 5 then .places else if c = 6 then .net else .same
theorem iteTd {c : Bool} {A B : Prop} (hc : c = true) (h : A) : if c = true then A else B := by rw [if_pos hc]; exact h
theorem iteFd {c : Bool} {A B : Prop} (hc : c = false) (h : B) : if c = true then A else B := by rw [hc, if_neg Bool.false_ne_true]; exact h
def spBare (C : Cs) : Sp := fun vs H Q _ => ∃ (a : Addr) (c : Int) (g : Sn), vs = [.ref a, .int c] ∧ LineAt C H a g ∧ (c = 2 ∨ c = 4 ∨ c = 5 ∨ c = 6 ∨ c = 8) ∧ Ans C a (g.step (bareOf c)) H Q
theorem ok_answer_without_numbers (T : Txt K mg C) (D_regions : Dm P w K mg base C.line 3 "regions" ["self"] (spL0 C .regions)) (D_open_ones : Dm P w K mg base C.line 5 "open_ones" ["self"] (spL0 C .open_)) (D_places : Dm P w K mg base C.line 3 "places" ["self"] (spL0 C .places)) (D_net : Dm P w K mg base C.line 2 "net" ["self"] (spL0 C .net))
    (D_same : Dm P w K mg base C.line 5 "same" ["self"] (spL0 C .same)) (h : At K mg "answer_without_numbers" (top 63) ["line", "call"]) : Dfn P w K mg base 6 "answer_without_numbers" ["line", "call"] (spBare C) := by
  have sc : FnScope ["line", "call"] ["line", "call"] (defScope (top 63)) := ⟨rfl, rfl, rfl, by decide +kernel, rfl, by decide +kernel, by decide +kernel⟩
  refine Dfn.mk h sc (fun vs H Q E h => ?_) (fun f cdv A outer s H vs Q E hr h => ⟨_, (pss_cons (ps_if (pt_cmpR op_eq (pv 1) (pe_con T.cREGIONS rfl) (nomark _)) (pss_one (ps_ret (pe_mt0 (pv 0) D_regions (hr.mono (by decide))))) pss_nil)
      (pss_cons (ps_if (pt_cmpR op_eq (pv 1) (pe_con T.cOPEN_ONES rfl) (nomark _)) (pss_one (ps_ret (pe_mt0 (pv 0) D_open_ones (hr.mono (by decide))))) pss_nil)
      (pss_cons (ps_if (pt_cmpR op_eq (pv 1) (pe_con T.cPLACES rfl) (nomark _)) (pss_one (ps_ret (pe_mt0 (pv 0) D_places (hr.mono (by decide))))) pss_nil)
      (pss_cons (ps_if (pt_cmpR op_eq (pv 1) (pe_con T.cNET rfl) (nomark _)) (pss_one (ps_ret (pe_mt0 (pv 0) D_net (hr.mono (by decide))))) pss_nil)
      (pss_cons (ps_if (pt_cmpR op_eq (pv 1) (pe_con T.cSAME rfl) (nomark _)) (pss_one (ps_ret (pe_mt0 (pv 0) D_same (hr.mono (by decide))))) pss_nil)
      (pss_one ps_never)))))), ?_⟩)
  · obtain ⟨a, c, g, rfl, _⟩ := h; rfl
  · obtain ⟨a, c, g, rfl, hL, hc, k⟩ := h
    obtain ⟨dx, s, q, p, n, ha, _⟩ := id hL
    refine ⟨_, rfl, rfl, _, rfl, ?_⟩
    rcases hc with rfl | rfl | rfl | rfl | rfl
    · exact iteTd (by decide +kernel) ⟨_, rfl, a, dx, _, rfl, ha, lf_none (by decide +kernel) (by decide +kernel) (by decide +kernel) (by decide +kernel), a, g, rfl, hL, k⟩
    · refine iteFd (by decide +kernel) ⟨_, rfl, rfl, _, rfl, ?_⟩
      exact iteTd (by decide +kernel) ⟨_, rfl, a, dx, _, rfl, ha, lf_none (by decide +kernel) (by decide +kernel) (by decide +kernel) (by decide +kernel), a, g, rfl, hL, k⟩
    · refine iteFd (by decide +kernel) ⟨_, rfl, rfl, _, rfl, ?_⟩
      refine iteFd (by decide +kernel) ⟨_, rfl, rfl, _, rfl, ?_⟩
      exact iteTd (by decide +kernel) ⟨_, rfl, a, dx, _, rfl, ha, lf_none (by decide +kernel) (by decide +kernel) (by decide +kernel) (by decide +kernel), a, g, rfl, hL, k⟩
    · refine iteFd (by decide +kernel) ⟨_, rfl, rfl, _, rfl, ?_⟩
      refine iteFd (by decide +kernel) ⟨_, rfl, rfl, _, rfl, ?_⟩
      refine iteFd (by decide +kernel) ⟨_, rfl, rfl, _, rfl, ?_⟩
      exact iteTd (by decide +kernel) ⟨_, rfl, a, dx, _, rfl, ha, lf_none (by decide +kernel) (by decide +kernel) (by decide +kernel) (by decide +kernel), a, g, rfl, hL, k⟩
    · refine iteFd (by decide +kernel) ⟨_, rfl, rfl, _, rfl, ?_⟩
      refine iteFd (by decide +kernel) ⟨_, rfl, rfl, _, rfl, ?_⟩
      refine iteFd (by decide +kernel) ⟨_, rfl, rfl, _, rfl, ?_⟩
      refine iteFd (by decide +kernel) ⟨_, rfl, rfl, _, rfl, ?_⟩
      exact iteTd (by decide +kernel) ⟨_, rfl, a, dx, _, rfl, ha, lf_none (by decide +kernel) (by decide +kernel) (by decide +kernel) (by decide +kernel), a, g, rfl, hL, k⟩
/-! ### answer_of_one(line, reader) -/
def spOne (C : Cs) (K : PySem.W.Frag) : Sp := fun vs H Q _ => ∃ (a r b : Addr) (i : Nat) (g : Sn) (ns : List Int) (B : Hp) (p : Int) (rr t : List Int) (c : List (List Int)), vs = [.ref a, .ref r] ∧ LineAt C H a g ∧ RdAt C H r b i ∧ Same B H ∧ B a = none ∧ B r = none ∧ SqL K B b (ns.map V.int) ∧
  ns.drop i = p :: rr ∧ CallF p rr c t ∧ Sq64Neutral.asked1 c = true ∧
  ∀ (H' : Hp) (q : Addr), LineAt C H' a (Sq64Neutral.step g c).1 → RdAt C H' r b (ns.length - t.length) → Same B H' → H q = none → LsI H' q (Sq64Neutral.step g c).2 → Q (.ref q) H'
theorem drop_next {ns : List Int} {i : Nat} {p : Int} {rr : List Int} (h : ns.drop i = p :: rr) : ns[i]? = some p ∧ ns.drop (i + 1) = rr ∧ ns.length = i + 1 + rr.length := by
  have h1 : (ns.drop i)[0]? = some p := by rw [h]; rfl
  rw [List.getElem?_drop, Nat.add_zero] at h1
  have h2 := drop_get h1
  rw [h] at h2
  have h3 := (List.cons.inj h2).2
  refine ⟨h1, h3.symm, ?_⟩
  have h4 := congrArg List.length h3
  rw [List.length_drop] at h4
  have := get_lt h1
  omega
theorem nat_list {r : List Int} (h : r.all (fun z => Sq64Neutral.natural z 64) = true) : (r.map Int.toNat).map nV = r.map V.int := by
  rw [List.map_map]
  refine List.map_congr_left fun z hz => ?_
  have := List.all_eq_true.mp h z hz
  unfold Sq64Neutral.natural at this
  rw [Bool.and_eq_true, decide_eq_true_eq] at this
  show V.int ((z.toNat : Nat) : Int) = V.int z
  rw [Int.toNat_of_nonneg this.1]
theorem ok_answer_of_one (T : Txt K mg C) (D_number : Dm P w K mg base C.rd 1 "number" ["self"] (spNumber C K)) (D_row : Dm P w K mg base C.rd 2 "row" ["self"] (spRow C K)) (D_begin : Dm P w K mg base C.line 6 "begin" ["self", "n", "k", "numbers"] (spBegin C)) (D_crosses : Dm P w K mg base C.line 4 "crosses" ["self", "states"] (spL1 C .crosses))
    (D_play : Dm P w K mg base C.line 2 "play" ["self", "events"] (spL1 C .play)) (D_answer_without_numbers : Dfn P w K mg base 6 "answer_without_numbers" ["line", "call"] (spBare C)) (h : At K mg "answer_of_one" (top 62) ["line", "reader"]) : Dfn P w K mg base 7 "answer_of_one" ["line", "reader"] (spOne C K) := by
  have sc : FnScope ["line", "reader", "call", "n", "k"] ["line", "reader"] (defScope (top 62)) := ⟨rfl, rfl, rfl, by decide +kernel, rfl, by decide +kernel, by decide +kernel⟩
  refine Dfn.mk h sc (fun vs H Q E h => ?_) (fun f cdv A outer s H vs Q E hr h => ⟨_, (pss_cons (ps_set (i := 2) sc.nd rfl (Or.inl rfl) (pe_mt0 (pv 1) D_number (hr.mono (by decide))))
      (pss_cons (ps_if (pt_cmpR op_eq (pv 2) (pe_con T.cBEGIN rfl) (nomark _)) (pss_cons (ps_set (i := 3) sc.nd rfl (Or.inl rfl) (pe_mt0 (pv 1) D_number (hr.mono (by decide))))
      (pss_cons (ps_set (i := 4) sc.nd rfl (Or.inl rfl) (pe_mt0 (pv 1) D_number (hr.mono (by decide))))
      (pss_one (ps_ret (pe_mt (pv 0) D_begin (hr.mono (by decide)) (pa_cons (pv 3) (pa_cons (pv 4) (pa_cons (pe_mt0 (pv 1) D_row (hr.mono (by decide))) pa_nil)))))))) pss_nil)
      (pss_cons (ps_if (pt_cmpR op_eq (pv 2) (pe_con T.cCROSSES rfl) (nomark _)) (pss_one (ps_ret (pe_mt (pv 0) D_crosses (hr.mono (by decide)) (pa_cons (pe_mt0 (pv 1) D_row (hr.mono (by decide))) pa_nil)))) pss_nil)
      (pss_cons (ps_if (pt_cmpR op_eq (pv 2) (pe_con T.cPLAY rfl) (nomark _)) (pss_one (ps_ret (pe_mt (pv 0) D_play (hr.mono (by decide)) (pa_cons (pe_mt0 (pv 1) D_row (hr.mono (by decide))) pa_nil)))) pss_nil)
      (pss_one (ps_ret (pe_fn D_answer_without_numbers (hr.mono (by decide)) rfl (pa_cons (pv 0) (pa_cons (pv 2) pa_nil))))))))), ?_⟩)
  · obtain ⟨a, r, b, i, g, ns, B, p, rr, t, c, rfl, _⟩ := h; rfl
  · obtain ⟨a, r, b, i, g, ns, B, p, rr, t, c, rfl, hL, hR, SB, Ba, Br, hb, hd, hc, hq, k⟩ := h
    have nar := line_rd hL hR
    have lnum : ∀ {b i}, List.lookup ("number" : Str) (rdF b i) = none := fun {b i} => rd_none (by decide +kernel) (by decide +kernel)
    have lrow : ∀ {b i}, List.lookup ("row" : Str) (rdF b i) = none := fun {b i} => rd_none (by decide +kernel) (by decide +kernel)
    have hLr := line_hid hL hR
    have SBr : Same B (hid H r) := same_hid SB Br
    obtain ⟨g0, d0, len0⟩ := drop_next hd
    obtain ⟨dx0, hr0⟩ := id hR
    -- reading one number keeps all but the reader
    have freed : ∀ {Hx : Hp} {j : Nat}, RdAt C Hx r b j → Same (hid H r) (hid Hx r) → ∀ {q : Addr}, Hx q = none → H q = none := fun {Hx j} hx sx {q} hq => by
      cases z : H q with
      | none => rfl
      | some o =>
        by_cases e : q = r
        · obtain ⟨_, y⟩ := hx; rw [e, y] at hq; cases hq
        · have := hid_same _ _ (sx q o (by rw [hid_at e]; exact z))
          rw [this] at hq; cases hq
    -- what the line's own call leaves
    have ends : ∀ {Hx : Hp} {j : Nat} {r0 : Sn × Sq64.Out}, RdAt C Hx r b j → Same (hid H r) (hid Hx r) → Sq64Neutral.step g c = (r0.1, r0.2.value :: r0.2.out) → j = ns.length - t.length → Ans C a r0 Hx Q := fun {Hx j r0} hx sx es ej H' q LA SA nq L => by
      have hx' : RdAt C (hid Hx a) r b j := by obtain ⟨d, y⟩ := hx; exact ⟨d, by rw [hid_at (fun e => nar e.symm)]; exact y⟩
      have hx2 : RdAt C H' r b j := by obtain ⟨d, y⟩ := hx'; exact ⟨d, hid_same _ _ (SA _ _ y)⟩
      refine k H' q ?_ ?_ ?_ (freed hx sx nq) ?_
      · rw [es]; exact LA
      · rw [← ej]; exact hx2
      · have s1 : Same B Hx := (SBr.trans sx).trans hid_same
        exact ((same_hid s1 Ba).trans SA).trans hid_same
      · rw [es]; exact L
    refine ⟨_, rfl, r, dx0, _, rfl, hr0, lnum, r, b, i, _, V.int p, rfl, hR, SB.seq hb, get_map g0, fun H1 R1 e1 => ?_⟩
    have L1 : LineAt C H1 a g := up_line _ _ _ _ hid_same (by rw [e1]; exact hLr)
    have s1 : Same (hid H r) (hid H1 r) := by rw [e1]; exact Same.refl _
    obtain ⟨dx1, hr1⟩ := id R1
    obtain ⟨dxl, sl, ql, pl, nl, ha1, _⟩ := id L1
    refine ⟨_, rfl, rfl, _, rfl, ?_⟩
    cases hc with
    | @begin x0 x1 s r' h0 hl =>
      refine iteTd (by decide +kernel) ?_
      obtain ⟨g1, d1, len1⟩ := drop_next d0
      obtain ⟨g2, d2, len2⟩ := drop_next d1
      obtain ⟨g3, d3, len3⟩ := drop_next d2
      simp only [Sq64Neutral.asked1, Bool.and_eq_true] at hq
      obtain ⟨q1, q2, q3⟩ := hq
      unfold Sq64Neutral.natural at q1 q2
      rw [Bool.and_eq_true, decide_eq_true_eq] at q1 q2
      unfold Sq64Neutral.long at q3
      rw [Bool.and_eq_true, decide_eq_true_eq] at q3
      have SB1 : SqL K H1 b (ns.map V.int) := (SBr.trans (s1.trans hid_same)).seq hb
      refine ⟨_, rfl, r, dx1, _, rfl, hr1, lnum, r, b, i + 1, _, V.int x0, rfl, R1, SB1, get_map g1, fun H2 R2 e2 => ?_⟩
      have s2 : Same (hid H r) (hid H2 r) := by rw [e2, e1]; exact Same.refl _
      obtain ⟨dx2, hr2⟩ := id R2
      have SB2 : SqL K H2 b (ns.map V.int) := (SBr.trans (s2.trans hid_same)).seq hb
      refine ⟨_, rfl, r, dx2, _, rfl, hr2, lnum, r, b, i + 1 + 1, _, V.int x1, rfl, R2, SB2, get_map g2, fun H3 R3 e3 => ?_⟩
      have s3 : Same (hid H r) (hid H3 r) := by rw [e3, e2, e1]; exact Same.refl _
      obtain ⟨dx3, hr3⟩ := id R3
      have L3 : LineAt C H3 a g := up_line _ _ _ _ (s3.trans hid_same) hLr
      obtain ⟨dxl3, sl3, ql3, pl3, nl3, ha3, _⟩ := id L3
      have es : V.int s = nV s.toNat := by unfold nV; rw [Int.toNat_of_nonneg h0]
      refine ⟨_, rfl, a, dxl3, _, rfl, ha3, lf_none (by decide +kernel) (by decide +kernel) (by decide +kernel) (by decide +kernel), _, rfl, _, rfl, _, rfl, r, dx3, _, rfl, hr3, lrow, r, b, i + 1 + 1 + 1, s.toNat, ns.map V.int, rfl, R3, (SBr.trans s3).seq hb, by rw [← es]; exact get_map g3, by rw [List.length_map]; omega, fun H4 p4 R4 S4 n4 e4 => ?_⟩
      have s4 : Same (hid H r) (hid H4 r) := s3.trans S4
      have L4 : LineAt C H4 a g := up_line _ _ _ _ (s4.trans hid_same) hLr
      have er : ((ns.map V.int).drop (i + 1 + 1 + 1 + 1)).take s.toNat = ((r'.take s.toNat).map Int.toNat).map nV := by
        rw [nat_list q3.2, ← List.map_drop, d3, ← List.map_take]
      rw [er] at e4
      obtain ⟨dxl4, sl4, ql4, pl4, nl4, ha4, _⟩ := id L4
      refine ⟨a, p4, x0, x1, g, (r'.take s.toNat).map Int.toNat, rfl, L4, hid_kind' ha4 e4 (by intro z; cases z), by rw [List.length_map]; exact q3.1, q1.1, q2.1, ends R4 s4 rfl ?_⟩
      rw [List.length_drop]; omega
    | @row _ s r' hp h0 hl =>
      have ne1 : decide (V.int p = V.int 1) = false := by rw [dec_int, beq_eq_false_iff_ne]; omega
      refine iteFd ne1 ⟨_, rfl, rfl, _, rfl, ?_⟩
      obtain ⟨g1, d1, len1⟩ := drop_next d0
      have es : V.int s = nV s.toNat := by unfold nV; rw [Int.toNat_of_nonneg h0]
      rcases hp with rfl | rfl
      · refine iteTd (by decide +kernel) ?_
        simp only [Sq64Neutral.asked1] at hq
        unfold Sq64Neutral.long at hq
        rw [Bool.and_eq_true, decide_eq_true_eq] at hq
        refine ⟨_, rfl, a, dxl, _, rfl, ha1, lf_none (by decide +kernel) (by decide +kernel) (by decide +kernel) (by decide +kernel), _, rfl, r, dx1, _, rfl, hr1, lrow, r, b, i + 1, s.toNat, ns.map V.int, rfl, R1, (SBr.trans s1).seq hb, by rw [← es]; exact get_map g1, by rw [List.length_map]; omega, fun H4 p4 R4 S4 n4 e4 => ?_⟩
        have s4 : Same (hid H r) (hid H4 r) := s1.trans S4
        have L4 : LineAt C H4 a g := up_line _ _ _ _ (s4.trans hid_same) hLr
        have er : ((ns.map V.int).drop (i + 1 + 1)).take s.toNat = ((r'.take s.toNat).map Int.toNat).map nV := by
          rw [nat_list hq.2, ← List.map_drop, d1, ← List.map_take]
        rw [er] at e4
        obtain ⟨dxl4, sl4, ql4, pl4, nl4, ha4, _⟩ := id L4
        refine ⟨a, p4, g, (r'.take s.toNat).map Int.toNat, rfl, L4, hid_kind' ha4 e4 (by intro z; cases z), by rw [List.length_map]; exact hq.1, ends R4 s4 rfl ?_⟩
        rw [List.length_drop]; omega
      · refine iteFd (by decide +kernel) ⟨_, rfl, rfl, _, rfl, ?_⟩
        refine iteTd (by decide +kernel) ?_
        simp only [Sq64Neutral.asked1] at hq
        unfold Sq64Neutral.long at hq
        rw [Bool.and_eq_true, decide_eq_true_eq] at hq
        refine ⟨_, rfl, a, dxl, _, rfl, ha1, lf_none (by decide +kernel) (by decide +kernel) (by decide +kernel) (by decide +kernel), _, rfl, r, dx1, _, rfl, hr1, lrow, r, b, i + 1, s.toNat, ns.map V.int, rfl, R1, (SBr.trans s1).seq hb, by rw [← es]; exact get_map g1, by rw [List.length_map]; omega, fun H4 p4 R4 S4 n4 e4 => ?_⟩
        have s4 : Same (hid H r) (hid H4 r) := s1.trans S4
        have L4 : LineAt C H4 a g := up_line _ _ _ _ (s4.trans hid_same) hLr
        have er : ((ns.map V.int).drop (i + 1 + 1)).take s.toNat = ((r'.take s.toNat).map Int.toNat).map nV := by
          rw [nat_list hq.2, ← List.map_drop, d1, ← List.map_take]
        rw [er] at e4
        obtain ⟨dxl4, sl4, ql4, pl4, nl4, ha4, _⟩ := id L4
        refine ⟨a, p4, g, (r'.take s.toNat).map Int.toNat, rfl, L4, hid_kind' ha4 e4 (by intro z; cases z), by rw [List.length_map]; exact hq.1, ends R4 s4 rfl ?_⟩
        rw [List.length_drop]; omega
    | bare hp =>
      have ne1 : decide (V.int p = V.int 1) = false := by rw [dec_int, beq_eq_false_iff_ne]; omega
      have ne3 : decide (V.int p = V.int 3) = false := by rw [dec_int, beq_eq_false_iff_ne]; omega
      have ne7 : decide (V.int p = V.int 7) = false := by rw [dec_int, beq_eq_false_iff_ne]; omega
      refine iteFd ne1 ⟨_, rfl, rfl, _, rfl, iteFd ne3 ⟨_, rfl, rfl, _, rfl, iteFd ne7 ?_⟩⟩
      refine ⟨_, rfl, _, rfl, a, p, g, rfl, L1, hp, ends R1 s1 ?_ (by omega)⟩
      rcases hp with rfl | rfl | rfl | rfl | rfl <;> rfl
end
end Rn
namespace Rn
open PySem PySem.Spec PyProof.Rows L2
open Sq64 (States Marking Arc)

section
variable {P : Program} {w : World} {K : PySem.W.Frag} {mg : Str → Option Value} {base : Heap} {C : Cs}

/-! ### answers(calls) -/
def spAns (K : PySem.W.Frag) : Sp := fun vs H Q _ => ∃ (b : Addr) (ns : List Int), vs = [.ref b] ∧ SqL K H b (ns.map V.int) ∧ PySq64.answers_asked ns = true ∧ ∀ (H' : Hp) (p : Addr), H' p = some (.lst ((PySq64.answers ns).map V.int)) → Q (.ref p) H'
theorem step_ok {g : Sn} (hg : Okg g) {p : Int} {rr t : List Int} {c : List (List Int)} (hc : CallF p rr c t) (hq : Sq64Neutral.asked1 c = true) : 1 ≤ (Sq64Neutral.step g c).2.length := by
  cases hc with
  | begin h0 hl => exact Nat.le_add_left 1 _
  | row hp h0 hl => rcases hp with rfl | rfl <;> exact Nat.le_add_left 1 _
  | bare hp => rcases hp with rfl | rfl | rfl | rfl | rfl <;> exact Nat.le_add_left 1 _
theorem callF_len {p : Int} {rr t : List Int} {c : List (List Int)} (hc : CallF p rr c t) : t.length ≤ rr.length ∧ ∃ m, t = rr.drop m := by
  cases hc with
  | @begin x0 x1 s r h0 hl => exact ⟨by simp only [List.length_drop, List.length_cons]; omega, s.toNat + 3, by simp [List.drop]⟩
  | @row p s r hp h0 hl => exact ⟨by simp only [List.length_drop, List.length_cons]; omega, s.toNat + 1, by simp [List.drop]⟩
  | bare hp => exact ⟨Nat.le_refl _, 0, rfl⟩
theorem ok_answers (T : Txt K mg C) (D_Line : Di P w K mg base C.line 6 "Line" ["self"] (spLineNew C)) (D_Reader : Di P w K mg base C.rd 1 "Reader" ["self", "numbers"] (spReader C)) (D_ended : Dm P w K mg base C.rd 1 "ended" ["self"] (spEnded C K)) (D0 : Dfn P w K mg base 7 "answer_of_one" ["line", "reader"] (spOne C K)) {fa : Addr} {fd : FuncData} (F : Fun K "answers" "answers" (top 64) fa fd) :
    FnOk P w K mg base CX0 9 fa fd ["calls"] (spAns K) := by
  have sc : FnScope ["calls", "line", "reader", "given", "answer"] ["calls"] (defScope (top 64)) := ⟨rfl, rfl, rfl, by decide +kernel, rfl, by decide +kernel, by decide +kernel⟩
  have D_answer_of_one := D0.frm
  refine F.ok sc (fun vs H Q E h => ?_) (fun cdv A outer s H vs Q E hr h => ⟨_, (pss_cons (ps_set (i := 1) sc.nd rfl (Or.inl rfl) (pe_mk0 D_Line (hr.mono (by decide)) rfl))
      (pss_cons (ps_set (i := 2) sc.nd rfl (Or.inl rfl) (pe_mk D_Reader (hr.mono (by decide)) rfl (pa_cons (pv 0) pa_nil)))
      (pss_cons (ps_set (i := 3) sc.nd rfl (Or.inl rfl) (pe_lst pa_nil))
      (pss_cons (ps_while PassesOwn.never (pt_not (pt_val (pe_mt0 (pv 2) D_ended (hr.mono (by decide))))) (pss_cons (ps_set (i := 4) sc.nd rfl (Or.inl rfl) (pe_fn D_answer_of_one (hr.mono (by decide)) rfl (pa_cons (pv 1) (pa_cons (pv 2) pa_nil))))
      (pss_cons (ps_expr (pe_bm PySem.F.plainAttrs_list PySem.F.slot_list_append PySem.F.type_list_append mt_append (pv 3) (pa_cons (pe_callB call_len_seq (by rfl) T.len PySem.boot_len (pa_cons (pv 4) pa_nil)) pa_nil)))
      (pss_one (ps_expr (pe_bm PySem.F.plainAttrs_list PySem.F.slot_list_extend PySem.F.type_list_extend mt_extend (pv 3) (pa_cons (pv 4) pa_nil)))))))
      (pss_one (ps_ret (pv 3))))))), ?_⟩)
  · obtain ⟨b, ns, rfl, _⟩ := h; rfl
  · obtain ⟨b, ns, rfl, hb, hask, k⟩ := h
    obtain ⟨cs, hcs, hans, hc60, hcq, houts⟩ := answers_due hask
    -- line = Line()
    intro a dxa na ndxa nea
    refine ⟨a, dxa, rfl, upd_same, fun H1 LA S1 => ⟨rfl, ?_⟩⟩
    have Sa : Same H H1 := same_made na ndxa (S1.trans hid_same)
    have ha1 : ∃ o, H1 a = some o := by obtain ⟨_, _, _, _, _, z, _⟩ := LA; exact ⟨_, z⟩
    -- reader = Reader(calls)
    refine ⟨_, rfl, ?_⟩
    intro r dxr nr ndxr ner
    refine ⟨r, dxr, b, rfl, upd_same, fun H2 RA S2 => ⟨rfl, ?_⟩⟩
    have Sr : Same H1 H2 := same_made nr ndxr S2
    have LA2 := up_line _ _ _ _ Sr LA
    -- given = []
    refine ⟨by show 0 ≤ sizeLine; decide, fun l hl0 => ?_⟩
    have S02 : Same H H2 := Sa.trans Sr
    have har : H r = none := Sa.free nr
    refine ⟨fun m σ H' => ∃ (Hb : Hp) (i : Nat) (g : Sn) (cs2 : List (List (List Int))) (f : Nat) (done : List Int) (v : Option V), m = cs2.length ∧ σ = [some (.ref b), some (.ref a), some (.ref r), some (.ref l), v] ∧ H' = upd Hb l (.lst (done.map V.int)) ∧ Hb l = none ∧
        LineAt C Hb a g ∧ RdAt C Hb r b i ∧ Same H Hb ∧ PyFlat.calls PySq64.shape f (ns.drop i) = some cs2 ∧ (∀ c ∈ cs2, Sq64Neutral.asked1 c = true) ∧ PySq64.answers ns = done ++ due g cs2 ∧ done.length + Sq64Neutral.outs g cs2 + cs2.length ≤ 1000100,
      ⟨cs.length, H2, 0, Sq64.fresh, cs, ns.length, [], none, rfl, rfl, rfl, hl0, LA2, RA, S02, hcs, hcq, hans, by simp only [List.length_nil]; omega⟩, ?_⟩
    rintro m σ H' ⟨Hb, i, g, cs2, f, done, v, rfl, rfl, rfl, hbl, hL, hR, SB, hcalls, hasked, hdue, hbound⟩
    have new := same_new (o := HO.lst (done.map V.int)) hbl
    obtain ⟨dx1, hr1⟩ := id hR
    refine ⟨_, rfl, r, dx1, _, rfl, new _ _ hr1, rd_none (by decide +kernel) (by decide +kernel), r, b, i, ns.map V.int, rfl, ⟨dx1, new _ _ hr1⟩, (SB.trans new).seq hb, _, rfl, ?_⟩
    rw [List.length_map]
    by_cases hi : ns.length ≤ i
    · rw [decide_eq_true hi]
      refine iteF ?_
      have e0 : ns.drop i = [] := List.drop_of_length_le hi
      rw [e0] at hcalls
      have e1 := calls_nil hcalls
      subst e1
      refine ⟨_, rfl, k _ l ?_⟩
      rw [upd_same, hdue]
      show _ = some (HO.lst ((done ++ []).map V.int))
      rw [List.append_nil]
    · rw [decide_eq_false hi]
      refine iteT ⟨_, fun σ' H' p' => p', ?_⟩
      obtain ⟨p, rr, hd⟩ : ∃ p rr, ns.drop i = p :: rr := by
        cases z : ns.drop i with
        | nil =>
          have := congrArg List.length z
          rw [List.length_drop] at this
          simp at this
          omega
        | cons p rr => exact ⟨p, rr, rfl⟩
      rw [hd] at hcalls
      obtain ⟨f2, c, t, cs3, hc, hcalls2, rfl⟩ := calls_inv hcalls
      have hq := hasked c (List.mem_cons_self ..)
      rw [due_cons] at hdue
      rw [outs_cons, List.length_cons] at hbound
      obtain ⟨g0, d0, len0⟩ := drop_next hd
      obtain ⟨ht, mm, htm⟩ := callF_len hc
      have hhid : hid (upd Hb l (.lst (done.map V.int))) l = Hb := by rw [hid_upd, hid_free hbl]
      refine ⟨_, rfl, _, rfl, l, done.map V.int, upd_same, ?_⟩
      rw [hhid]
      refine ⟨a, r, b, i, g, ns, H, p, rr, t, c, rfl, hL, hR, SB, na, har, hb, hd, hc, hq, fun H3 q LA3 RA3 S3 nq L3 hl3 => ?_⟩
      have hql : q ≠ l := fun e => by
        rw [e] at L3
        have z : H3 l = some (.lst ((Sq64Neutral.step g c).2.map V.int)) := L3
        rw [hl3] at z; cases z
      generalize hst : Sq64Neutral.step g c = st at *
      obtain ⟨g', ans⟩ := st
      have L3' : H3 q = some (.lst (ans.map V.int)) := L3
      refine ⟨_, rfl, tyL upd_same, _, rfl, q, _, rfl, .inl (SqL.of (by rw [upd_ne hql]; exact L3')), l, _, _, rfl, rfl, upd_same, ?_, ?_⟩
      · rw [List.length_map]
        exact small (m := 1000100) (by dsimp only at hbound; omega)
      · rw [upd_upd]
        refine ⟨_, rfl, tyL upd_same, _, rfl, l, q, _, _, rfl, rfl, upd_same, by rw [upd_ne hql]; exact L3', ?_, ?_⟩
        · simp only [List.length_append, List.length_map, List.length_cons, List.length_nil]
          exact smallE (m := 1000200) (by dsimp only at hbound; omega)
        · rw [upd_upd]
          refine ⟨cs3.length, by simp, H3, ns.length - t.length, g', cs3, f2, done ++ (((ans.length : Nat) : Int) :: ans), _, rfl, rfl, ?_, hl3, LA3, RA3, S3, ?_, fun c hc => hasked c (List.mem_cons_of_mem _ hc), ?_, ?_⟩
          · rw [List.map_append, List.map_cons, List.length_map]
            simp
          · have e5 : ns.drop (ns.length - t.length) = t := by
              have e6 : t = ns.drop (i + 1 + mm) := by rw [htm, ← d0, List.drop_drop]
              have e7 : t.length = ns.length - (i + 1 + mm) := by rw [e6, List.length_drop]
              by_cases z : i + 1 + mm ≤ ns.length
              · have e8 : ns.length - t.length = i + 1 + mm := by omega
                rw [e8]; exact e6.symm
              · have e8 : t.length = 0 := by omega
                have e9 : t = [] := List.length_eq_zero_iff.mp e8
                rw [e9, List.length_nil, Nat.sub_zero]
                exact List.drop_of_length_le (Nat.le_refl _)
            rw [e5]; exact hcalls2
          · rw [hdue]
            simp
          · dsimp only at hbound
            simp only [List.length_append, List.length_cons]
            omega
end
end Rn
namespace Rn
open PySem PySem.Spec PyProof.Rows L2
open Sq64 (States Marking Arc)

structure AllAt (K : PySem.W.Frag) (mg : Str → Option Value) (C : Cs) : Prop where
  a_ways_across : At K mg "ways_across" (top 6) ["seen", "states"]
  a_way_of_event : At K mg "way_of_event" (top 7) ["arcs", "inside"]
  a_way_of_arc : At K mg "way_of_arc" (top 8) ["arc", "inside"]
  a_regions_in_order : At K mg "regions_in_order" (top 9) ["seen"]
  a_choices_in_order : At K mg "choices_in_order" (top 10) ["n"]
  a_with_one_more : At K mg "with_one_more" (top 11) ["rows", "n"]
  a_places_crossed : At K mg "places_crossed" (top 14) ["places", "event", "way"]
  a_markings_come_to : At K mg "markings_come_to" (top 15) ["net", "most_events"]
  a_questions_in_order : At K mg "questions_in_order" (top 19) ["seen"]
  a_questions_of_two_states : At K mg "questions_of_two_states" (top 20) ["seen"]
  a_questions_of_state_and_event : At K mg "questions_of_state_and_event" (top 21) ["seen"]
  a_tells_apart : At K mg "tells_apart" (top 22) ["region", "question"]
  a_is_told_apart : At K mg "is_told_apart" (top 23) ["regions", "question"]
  a_open_questions : At K mg "open_questions" (top 24) ["seen", "regions"]
  a_places_in_order : At K mg "places_in_order" (top 26) ["seen", "regions"]
  a_tellers_of_each : At K mg "tellers_of_each" (top 27) ["questions", "regions"]
  a_arcs_by : At K mg "arcs_by" (top 39) ["event", "arcs"]
  a_seen_before_any_begin : At K mg "seen_before_any_begin" (top 40) []
  a_arcs_told : At K mg "arcs_told" (top 41) ["numbers"]
  a_refusal_of : At K mg "refusal_of" (top 42) ["n", "k", "numbers"]
  a_is_there : At K mg "is_there" (top 43) ["n", "k", "arc"]
  a_has_a_fork : At K mg "has_a_fork" (top 44) ["arcs"]
  a_lacks_an_event : At K mg "lacks_an_event" (top 45) ["k", "arcs"]
  a_lacks_a_state : At K mg "lacks_a_state" (top 46) ["n", "arcs"]
  a_counted : At K mg "counted" (top 59) ["numbers"]
  a_regions_counted : At K mg "regions_counted" (top 60) ["regions"]
  a_is_rising : At K mg "is_rising" (top 61) ["states"]
  a_answer_of_one : At K mg "answer_of_one" (top 62) ["line", "reader"]
  a_answer_without_numbers : At K mg "answer_without_numbers" (top 63) ["line", "call"]
  a_Region_new : AtM K C.reg "__init__" "Region.__init__" (inClass (top 5) 0) ["self", "states", "ways"]
  a_Net_new : AtM K C.net "__init__" "Net.__init__" (inClass (top 13) 0) ["self", "places", "k"]
  a_Net_may_happen : AtM K C.net "may_happen" "Net.may_happen" (inClass (top 13) 1) ["self", "event", "marking"]
  a_Net_marking_behind : AtM K C.net "marking_behind" "Net.marking_behind" (inClass (top 13) 2) ["self", "event", "marking"]
  a_Net_next_markings : AtM K C.net "next_markings" "Net.next_markings" (inClass (top 13) 3) ["self", "marking"]
  a_Reader_new : AtM K C.rd "__init__" "Reader.__init__" (inClass (top 29) 0) ["self", "numbers"]
  a_Reader_ended : AtM K C.rd "ended" "Reader.ended" (inClass (top 29) 1) ["self"]
  a_Reader_number : AtM K C.rd "number" "Reader.number" (inClass (top 29) 2) ["self"]
  a_Reader_row : AtM K C.rd "row" "Reader.row" (inClass (top 29) 3) ["self"]
  a_Seen_new : AtM K C.seen "__init__" "Seen.__init__" (inClass (top 38) 0) ["self", "n", "k", "arcs"]
  a_Seen_has_arc : AtM K C.seen "has_arc" "Seen.has_arc" (inClass (top 38) 1) ["self", "state", "event"]
  a_Line_new : AtM K C.line "__init__" "Line.__init__" (inClass (top 58) 0) ["self"]
  a_Line_tell : AtM K C.line "tell" "Line.tell" (inClass (top 58) 1) ["self", "seen"]
  a_Line_begin : AtM K C.line "begin" "Line.begin" (inClass (top 58) 2) ["self", "n", "k", "numbers"]
  a_Line_regions : AtM K C.line "regions" "Line.regions" (inClass (top 58) 3) ["self"]
  a_Line_crosses : AtM K C.line "crosses" "Line.crosses" (inClass (top 58) 4) ["self", "states"]
  a_Line_open_ones : AtM K C.line "open_ones" "Line.open_ones" (inClass (top 58) 5) ["self"]
  a_Line_places : AtM K C.line "places" "Line.places" (inClass (top 58) 6) ["self"]
  a_Line_net : AtM K C.line "net" "Line.net" (inClass (top 58) 7) ["self"]
  a_Line_play : AtM K C.line "play" "Line.play" (inClass (top 58) 8) ["self", "events"]
  a_Line_same : AtM K C.line "same" "Line.same" (inClass (top 58) 9) ["self"]
  g_Region : mg "Region" = some (.ref C.reg)
  mk_Region : PySem.W.makesIn K C.reg = true
  kc_Region : PySem.W.keepIn K (.ref C.reg) = true
  g_Net : mg "Net" = some (.ref C.net)
  mk_Net : PySem.W.makesIn K C.net = true
  kc_Net : PySem.W.keepIn K (.ref C.net) = true
  g_Reader : mg "Reader" = some (.ref C.rd)
  mk_Reader : PySem.W.makesIn K C.rd = true
  kc_Reader : PySem.W.keepIn K (.ref C.rd) = true
  g_Seen : mg "Seen" = some (.ref C.seen)
  mk_Seen : PySem.W.makesIn K C.seen = true
  kc_Seen : PySem.W.keepIn K (.ref C.seen) = true
  g_Line : mg "Line" = some (.ref C.line)
  mk_Line : PySem.W.makesIn K C.line = true
  kc_Line : PySem.W.keepIn K (.ref C.line) = true
theorem all_ok {P : Program} {w : World} {K : PySem.W.Frag} {mg : Str → Option Value} {C : Cs} (T : Txt K mg C) (A : AllAt K mg C) {fa : Addr} {fd : FuncData} (F : Fun K "answers" "answers" (top 64) fa fd) (base : Heap) : FnOk P w K mg base CX0 9 fa fd ["calls"] (spAns K) := by
  have D_way_of_arc := ok_way_of_arc (P := P) (w := w) (base := base) T A.a_way_of_arc
  have D_way_of_event := ok_way_of_event (P := P) (w := w) (base := base) T D_way_of_arc A.a_way_of_event
  have D_ways_across := ok_ways_across (P := P) (w := w) (base := base) T D_way_of_event A.a_ways_across
  have D_Region := ok_Region (P := P) (w := w) (base := base) T A.g_Region A.mk_Region A.kc_Region A.a_Region_new
  have D_with_one_more := ok_with_one_more (P := P) (w := w) (base := base) T A.a_with_one_more
  have D_choices := ok_choices_in_order (P := P) (w := w) (base := base) T D_with_one_more A.a_choices_in_order
  have D_regions_in_order := ok_regions_in_order (P := P) (w := w) (base := base) T D_choices D_ways_across D_Region A.a_regions_in_order
  have D_has_arc := ok_has_arc (P := P) (w := w) (base := base) T A.a_Seen_has_arc
  have D_q2 := ok_questions_of_two_states (P := P) (w := w) (base := base) T A.a_questions_of_two_states
  have D_qe := ok_questions_of_state_and_event (P := P) (w := w) (base := base) T D_has_arc A.a_questions_of_state_and_event
  have D_qs := ok_questions_in_order (P := P) (w := w) (base := base) T D_q2 D_qe A.a_questions_in_order
  have D_tells := ok_tells_apart (P := P) (w := w) (base := base) T A.a_tells_apart
  have D_told := ok_is_told_apart (P := P) (w := w) (base := base) T D_tells A.a_is_told_apart
  have D_open := ok_open_questions (P := P) (w := w) (base := base) T D_qs D_told A.a_open_questions
  have D_arcs_by := ok_arcs_by (P := P) (w := w) (base := base) T A.a_arcs_by
  have D_Seen := ok_Seen (P := P) (w := w) (base := base) T A.g_Seen A.mk_Seen A.kc_Seen D_arcs_by A.a_Seen_new
  have D_seen0 := ok_seen_before (P := P) (w := w) (base := base) T D_Seen A.a_seen_before_any_begin
  have D_arcs_told := ok_arcs_told (P := P) (w := w) (base := base) T A.a_arcs_told
  have D_is_there := ok_is_there (P := P) (w := w) (base := base) T A.a_is_there
  have D_lacks_a_state := ok_lacks_a_state (P := P) (w := w) (base := base) T A.a_lacks_a_state
  have D_has_a_fork := ok_has_a_fork (P := P) (w := w) (base := base) T A.a_has_a_fork
  have D_lacks_an_event := ok_lacks_an_event (P := P) (w := w) (base := base) T A.a_lacks_an_event
  have D_refusal := ok_refusal_of (P := P) (w := w) (base := base) T D_arcs_told D_is_there D_has_a_fork D_lacks_an_event D_lacks_a_state A.a_refusal_of
  have D_tellers := ok_tellers_of_each (P := P) (w := w) (base := base) T D_tells A.a_tellers_of_each
  have D_places_in_order := ok_places_in_order (P := P) (w := w) (base := base) T D_qs D_tellers D_tells A.a_places_in_order
  have D_crossed := ok_places_crossed (P := P) (w := w) (base := base) T A.a_places_crossed
  have D_Net := ok_Net (P := P) (w := w) (base := base) T A.g_Net A.mk_Net A.kc_Net D_crossed A.a_Net_new
  have D_may := ok_may_happen (P := P) (w := w) (base := base) T A.a_Net_may_happen
  have D_behind := ok_marking_behind (P := P) (w := w) (base := base) T A.a_Net_marking_behind
  have D_next := ok_next_markings (P := P) (w := w) (base := base) T D_may D_behind A.a_Net_next_markings
  have D_come := ok_markings_come_to (P := P) (w := w) (base := base) T D_next A.a_markings_come_to
  have D_counted := ok_counted (P := P) (w := w) (base := base) T A.a_counted
  have D_regions_counted := ok_regions_counted (P := P) (w := w) (base := base) T D_counted A.a_regions_counted
  have D_rising := ok_is_rising (P := P) (w := w) (base := base) T A.a_is_rising
  have D_Reader := ok_Reader (P := P) (w := w) (base := base) T A.g_Reader A.mk_Reader A.kc_Reader A.a_Reader_new
  have D_ended := ok_ended (P := P) (w := w) (base := base) T A.a_Reader_ended
  have D_number := ok_number (P := P) (w := w) (base := base) T A.a_Reader_number
  have D_row := ok_row (P := P) (w := w) (base := base) T D_number A.a_Reader_row
  have D_tell := ok_tell (P := P) (w := w) (base := base) T D_regions_in_order D_places_in_order D_Net A.a_Line_tell
  have D_Line := ok_Line (P := P) (w := w) (base := base) T A.g_Line A.mk_Line A.kc_Line D_tell D_seen0 A.a_Line_new
  have D_regions := ok_regions (P := P) (w := w) (base := base) T D_regions_counted A.a_Line_regions
  have D_places := ok_places (P := P) (w := w) (base := base) T D_regions_counted A.a_Line_places
  have D_crosses := ok_crosses (P := P) (w := w) (base := base) T D_rising D_ways_across A.a_Line_crosses
  have D_open_ones := ok_open_ones (P := P) (w := w) (base := base) T D_open A.a_Line_open_ones
  have D_net := ok_net (P := P) (w := w) (base := base) T D_counted A.a_Line_net
  have D_play := ok_play (P := P) (w := w) (base := base) T D_may D_behind A.a_Line_play
  have D_same := ok_same (P := P) (w := w) (base := base) T D_open D_come A.a_Line_same
  have D_begin := ok_begin (P := P) (w := w) (base := base) T D_refusal D_arcs_told D_tell D_Seen A.a_Line_begin
  have D_without := ok_answer_without_numbers (P := P) (w := w) (base := base) T D_regions D_open_ones D_places D_net D_same A.a_answer_without_numbers
  have D_one := ok_answer_of_one (P := P) (w := w) (base := base) T D_number D_row D_begin D_crosses D_play D_without A.a_answer_of_one
  exact ok_answers (P := P) (w := w) (base := base) T D_Line D_Reader D_ended D_one F
theorem at_mk {K : PySem.W.Frag} {h : Heap} {mg : Str → Option Value} (X : K.In h) (G : h.Ns mainGlobals mg) {x : Str} {st : Stmt} {ps : List Str} {f : Addr} {oc : Value} {od an : Option Addr} {osl : Array (Option Value)} {kV doc pm cdv ct : Value}
    (a : PySem.W.nsIn K mainGlobals x = some (some (.ref f))) (l : K.lookup f = some ⟨oc, od, .func (PySem.W.fnOf x x (defArgs st) (defBody st) (defScope st) .none kV doc pm an cdv ct), osl⟩) (c : PySem.W.codeIn K cdv x = true) (k : PySem.W.keepIn K (.ref f) = true)
    (b : ∀ (kV doc pm : Value) (an : Option Addr) (cdv ct : Value) (us : List Value), us.length = ps.length → bindArgs (PySem.W.fnOf x x (defArgs st) (defBody st) (defScope st) .none kV doc pm an cdv ct) ⟨us, []⟩ = pure (ps.zip us)) : At K mg x st ps :=
  ⟨f, _, PySem.W.mg_of X G a, fun_mk (st := st) l c k, (fun_mk (st := st) l c k).binds b⟩
theorem atM_mk {K : PySem.W.Frag} {C : Addr} {m qual : Str} {st : Stmt} {ps : List Str} {f : Addr} {oc : Value} {od an : Option Addr} {osl : Array (Option Value)} {kV doc pm cdv ct : Value}
    (a : PySem.W.findIn K (.ref C) m = some (some (.ref f))) (i : PySem.W.isFn K (.ref f) = true) (l : K.lookup f = some ⟨oc, od, .func (PySem.W.fnOf m qual (defArgs st) (defBody st) (defScope st) .none kV doc pm an cdv ct), osl⟩) (c : PySem.W.codeIn K cdv qual = true) (k : PySem.W.keepIn K (.ref f) = true)
    (b : ∀ (kV doc pm : Value) (an : Option Addr) (cdv ct : Value) (us : List Value), us.length = ps.length → bindArgs (PySem.W.fnOf m qual (defArgs st) (defBody st) (defScope st) .none kV doc pm an cdv ct) ⟨us, []⟩ = pure (ps.zip us)) : AtM K C m qual st ps :=
  ⟨f, _, ⟨a, i, k⟩, fun_mk (st := st) l c k, (fun_mk (st := st) l c k).binds b⟩
theorem con_mk {K : PySem.W.Frag} {h : Heap} {mg : Str → Option Value} (X : K.In h) (G : h.Ns mainGlobals mg) {x : Str} {i : Int} {t : Tok} (a : PySem.W.nsIn K mainGlobals x = some (some (.int i t))) : ∃ t, mg x = some (.int i t) := ⟨t, PySem.W.mg_of X G a⟩
theorem end_mk {P : Program} {w : World} {K : PySem.W.Frag} {h : Heap} {mg : Str → Option Value} {fa : Addr} (X : K.In h) (G : h.Ns mainGlobals mg) (hfa : mg "answers" = some (.ref fa)) {c1 c2 c3 c4 c5 : Addr}
    (_g1 : PySem.W.nsIn K mainGlobals "Region" = some (some (.ref c1))) (_g2 : PySem.W.nsIn K mainGlobals "Net" = some (some (.ref c2))) (_g3 : PySem.W.nsIn K mainGlobals "Reader" = some (some (.ref c3))) (_g4 : PySem.W.nsIn K mainGlobals "Seen" = some (some (.ref c4))) (_g5 : PySem.W.nsIn K mainGlobals "Line" = some (some (.ref c5)))
    {f : Addr} {oc : Value} {od an : Option Addr} {osl : Array (Option Value)} {kV doc pm cdv ct : Value}
    (a : PySem.W.nsIn K mainGlobals "answers" = some (some (.ref f))) (l : K.lookup f = some ⟨oc, od, .func (PySem.W.fnOf "answers" "answers" (defArgs (top 64)) (defBody (top 64)) (defScope (top 64)) .none kV doc pm an cdv ct), osl⟩) (c : PySem.W.codeIn K cdv "answers" = true) (k : PySem.W.keepIn K (.ref f) = true)
    (T : Txt K mg ⟨c1, c2, c3, c4, c5⟩) (A : AllAt K mg ⟨c1, c2, c3, c4, c5⟩) :
    ∃ fd : FuncData, (∀ (s : Shared) (us : List Value), us.length = (["calls"] : List Str).length → BindsTo s fd ⟨us, []⟩ ((["calls"] : List Str).zip us)) ∧ ∀ base : Heap, K.In base → base.Ns mainGlobals mg → FnOk P w K mg base CX0 9 fa fd ["calls"] (spAns K) := by
  have e := hfa.symm.trans (PySem.W.mg_of X G a)
  cases e
  exact ⟨PySem.W.fnOf "answers" "answers" (defArgs (top 64)) (defBody (top 64)) (defScope (top 64)) .none kV doc pm an cdv ct, fun s us hu => match us, hu with | [_], _ => .of_eq rfl, fun base _ _ => all_ok T A (fun_mk (st := top 64) l c k) base⟩
theorem na_mk {K : PySem.W.Frag} {C : Addr} {f : Str} (h : PySem.W.findIn K (.ref C) f = some none) : NoAttr K C f := h
theorem cls_mk {K : PySem.W.Frag} {C : Addr} (a : PySem.W.plainGet K C Str.empty = true) (b : PySem.W.hasDictIn K C = true) (c : PySem.W.plainOver K C = true) (d : PySem.W.findIn K (.ref C) "__setattr__" = some (some (.builtin "object.__setattr__"))) : Cls K C := ⟨a, b, c, d⟩
end Rn
open PySem PySem.W PyProof.Rows
set_option maxRecDepth 100000 in
set_option maxHeartbeats 0 in
theorem PySem.Challenge.cw_regionnets_s01_answers_holds : PySem.Challenge.rw_regionnets_s01_answers.Holds := by
  w_on; k_headS; (case hw => exact ⟨[.list [.int 2]], by decide +kernel, by decide +kernel⟩)
  k_fillS
  refine L2.walk_specK (r := PySem.Challenge.rw_regionnets_s01_answers) (k := 9) (CX := L2.CX0) (ps := ["calls"]) (sp := Rn.spAns) (by decide +kernel) rfl rfl ⟨rfl, by decide, by decide⟩ (fun w h Y => PySem.W.kIn_of Y) ?F ?S (fun _ _ _ _ z => z)
  case F =>
    intro w mg fa h Y KX G hmg
    refine' Rn.end_mk KX G hmg ?g1 ?g2 ?g3 ?g4 ?g5 ?an ?al ?ac ?ak ?T ?A
    (case g1 => k_is); (case g2 => k_is); (case g3 => k_is); (case g4 => k_is); (case g5 => k_is)
    (case an => k_is); (case al => k_is); (case ac => k_is); (case ak => k_is)
    case T =>
      refine' Rn.Txt.mk (PySem.W.mg_none_of KX G ?t0) (PySem.W.mg_none_of KX G ?t1) (PySem.W.mg_none_of KX G ?t2) (PySem.W.mg_none_of KX G ?t3) (PySem.W.mg_none_of KX G ?t4) (PySem.W.mg_none_of KX G ?t5) (PySem.W.mg_none_of KX G ?t6) (PySem.W.mg_none_of KX G ?t7) (Rn.con_mk KX G ?t8) (Rn.con_mk KX G ?t9) (Rn.con_mk KX G ?t10) (Rn.con_mk KX G ?t11) (Rn.con_mk KX G ?t12) (Rn.con_mk KX G ?t13) (Rn.con_mk KX G ?t14) (Rn.con_mk KX G ?t15) (Rn.con_mk KX G ?t16) (Rn.con_mk KX G ?t17) (Rn.con_mk KX G ?t18) (Rn.con_mk KX G ?t19) (Rn.con_mk KX G ?t20) (Rn.con_mk KX G ?t21) (Rn.con_mk KX G ?t22) (Rn.con_mk KX G ?t23) (Rn.con_mk KX G ?t24) (Rn.con_mk KX G ?t25) (Rn.con_mk KX G ?t26) (Rn.con_mk KX G ?t27) (Rn.con_mk KX G ?t28) (Rn.con_mk KX G ?t29) (Rn.cls_mk ?t30a ?t30b ?t30c ?t30d) (Rn.cls_mk ?t31a ?t31b ?t31c ?t31d) (Rn.cls_mk ?t32a ?t32b ?t32c ?t32d) (Rn.cls_mk ?t33a ?t33b ?t33c ?t33d) (Rn.cls_mk ?t34a ?t34b ?t34c ?t34d) (Rn.na_mk ?t35) (Rn.na_mk ?t36) (Rn.na_mk ?t37) (Rn.na_mk ?t38) (Rn.na_mk ?t39) (Rn.na_mk ?t40) (Rn.na_mk ?t41) (Rn.na_mk ?t42) (Rn.na_mk ?t43) (Rn.na_mk ?t44) (Rn.na_mk ?t45) (Rn.na_mk ?t46) (Rn.na_mk ?t47) (Rn.na_mk ?t48)
      (case t0 => k_is); (case t1 => k_is); (case t2 => k_is); (case t3 => k_is); (case t4 => k_is); (case t5 => k_is)
      (case t6 => k_is); (case t7 => k_is); (case t8 => k_is); (case t9 => k_is); (case t10 => k_is); (case t11 => k_is)
      (case t12 => k_is); (case t13 => k_is); (case t14 => k_is); (case t15 => k_is); (case t16 => k_is); (case t17 => k_is)
      (case t18 => k_is); (case t19 => k_is); (case t20 => k_is); (case t21 => k_is); (case t22 => k_is); (case t23 => k_is)
      (case t24 => k_is); (case t25 => k_is); (case t26 => k_is); (case t27 => k_is); (case t28 => k_is); (case t29 => k_is)
      (case t30a => k_is); (case t30b => k_is); (case t30c => k_is); (case t30d => k_is); (case t31a => k_is); (case t31b => k_is)
      (case t31c => k_is); (case t31d => k_is); (case t32a => k_is); (case t32b => k_is); (case t32c => k_is); (case t32d => k_is)
      (case t33a => k_is); (case t33b => k_is); (case t33c => k_is); (case t33d => k_is); (case t34a => k_is); (case t34b => k_is)
      (case t34c => k_is); (case t34d => k_is); (case t35 => k_is); (case t36 => k_is); (case t37 => k_is); (case t38 => k_is)
      (case t39 => k_is); (case t40 => k_is); (case t41 => k_is); (case t42 => k_is); (case t43 => k_is); (case t44 => k_is)
      (case t45 => k_is); (case t46 => k_is); (case t47 => k_is); (case t48 => k_is)
    case A =>
      refine' Rn.AllAt.mk (Rn.at_mk KX G ?f0a ?f0l ?f0c ?f0k (fun _ _ _ _ _ _ us hl => match us, hl with | [_, _], _ => rfl)) (Rn.at_mk KX G ?f1a ?f1l ?f1c ?f1k (fun _ _ _ _ _ _ us hl => match us, hl with | [_, _], _ => rfl)) (Rn.at_mk KX G ?f2a ?f2l ?f2c ?f2k (fun _ _ _ _ _ _ us hl => match us, hl with | [_, _], _ => rfl)) (Rn.at_mk KX G ?f3a ?f3l ?f3c ?f3k (fun _ _ _ _ _ _ us hl => match us, hl with | [_], _ => rfl)) (Rn.at_mk KX G ?f4a ?f4l ?f4c ?f4k (fun _ _ _ _ _ _ us hl => match us, hl with | [_], _ => rfl)) (Rn.at_mk KX G ?f5a ?f5l ?f5c ?f5k (fun _ _ _ _ _ _ us hl => match us, hl with | [_, _], _ => rfl)) (Rn.at_mk KX G ?f6a ?f6l ?f6c ?f6k (fun _ _ _ _ _ _ us hl => match us, hl with | [_, _, _], _ => rfl)) (Rn.at_mk KX G ?f7a ?f7l ?f7c ?f7k (fun _ _ _ _ _ _ us hl => match us, hl with | [_, _], _ => rfl)) (Rn.at_mk KX G ?f8a ?f8l ?f8c ?f8k (fun _ _ _ _ _ _ us hl => match us, hl with | [_], _ => rfl)) (Rn.at_mk KX G ?f9a ?f9l ?f9c ?f9k (fun _ _ _ _ _ _ us hl => match us, hl with | [_], _ => rfl)) (Rn.at_mk KX G ?f10a ?f10l ?f10c ?f10k (fun _ _ _ _ _ _ us hl => match us, hl with | [_], _ => rfl)) (Rn.at_mk KX G ?f11a ?f11l ?f11c ?f11k (fun _ _ _ _ _ _ us hl => match us, hl with | [_, _], _ => rfl)) (Rn.at_mk KX G ?f12a ?f12l ?f12c ?f12k (fun _ _ _ _ _ _ us hl => match us, hl with | [_, _], _ => rfl)) (Rn.at_mk KX G ?f13a ?f13l ?f13c ?f13k (fun _ _ _ _ _ _ us hl => match us, hl with | [_, _], _ => rfl)) (Rn.at_mk KX G ?f14a ?f14l ?f14c ?f14k (fun _ _ _ _ _ _ us hl => match us, hl with | [_, _], _ => rfl)) (Rn.at_mk KX G ?f15a ?f15l ?f15c ?f15k (fun _ _ _ _ _ _ us hl => match us, hl with | [_, _], _ => rfl)) (Rn.at_mk KX G ?f16a ?f16l ?f16c ?f16k (fun _ _ _ _ _ _ us hl => match us, hl with | [_, _], _ => rfl)) (Rn.at_mk KX G ?f17a ?f17l ?f17c ?f17k (fun _ _ _ _ _ _ us hl => match us, hl with | [], _ => rfl)) (Rn.at_mk KX G ?f18a ?f18l ?f18c ?f18k (fun _ _ _ _ _ _ us hl => match us, hl with | [_], _ => rfl)) (Rn.at_mk KX G ?f19a ?f19l ?f19c ?f19k (fun _ _ _ _ _ _ us hl => match us, hl with | [_, _, _], _ => rfl)) (Rn.at_mk KX G ?f20a ?f20l ?f20c ?f20k (fun _ _ _ _ _ _ us hl => match us, hl with | [_, _, _], _ => rfl)) (Rn.at_mk KX G ?f21a ?f21l ?f21c ?f21k (fun _ _ _ _ _ _ us hl => match us, hl with | [_], _ => rfl)) (Rn.at_mk KX G ?f22a ?f22l ?f22c ?f22k (fun _ _ _ _ _ _ us hl => match us, hl with | [_, _], _ => rfl)) (Rn.at_mk KX G ?f23a ?f23l ?f23c ?f23k (fun _ _ _ _ _ _ us hl => match us, hl with | [_, _], _ => rfl)) (Rn.at_mk KX G ?f24a ?f24l ?f24c ?f24k (fun _ _ _ _ _ _ us hl => match us, hl with | [_], _ => rfl)) (Rn.at_mk KX G ?f25a ?f25l ?f25c ?f25k (fun _ _ _ _ _ _ us hl => match us, hl with | [_], _ => rfl)) (Rn.at_mk KX G ?f26a ?f26l ?f26c ?f26k (fun _ _ _ _ _ _ us hl => match us, hl with | [_], _ => rfl)) (Rn.at_mk KX G ?f27a ?f27l ?f27c ?f27k (fun _ _ _ _ _ _ us hl => match us, hl with | [_, _], _ => rfl)) (Rn.at_mk KX G ?f28a ?f28l ?f28c ?f28k (fun _ _ _ _ _ _ us hl => match us, hl with | [_, _], _ => rfl)) (Rn.atM_mk ?m0a ?m0i ?m0l ?m0c ?m0k (fun _ _ _ _ _ _ us hl => match us, hl with | [_, _, _], _ => rfl)) (Rn.atM_mk ?m1a ?m1i ?m1l ?m1c ?m1k (fun _ _ _ _ _ _ us hl => match us, hl with | [_, _, _], _ => rfl)) (Rn.atM_mk ?m2a ?m2i ?m2l ?m2c ?m2k (fun _ _ _ _ _ _ us hl => match us, hl with | [_, _, _], _ => rfl)) (Rn.atM_mk ?m3a ?m3i ?m3l ?m3c ?m3k (fun _ _ _ _ _ _ us hl => match us, hl with | [_, _, _], _ => rfl)) (Rn.atM_mk ?m4a ?m4i ?m4l ?m4c ?m4k (fun _ _ _ _ _ _ us hl => match us, hl with | [_, _], _ => rfl)) (Rn.atM_mk ?m5a ?m5i ?m5l ?m5c ?m5k (fun _ _ _ _ _ _ us hl => match us, hl with | [_, _], _ => rfl)) (Rn.atM_mk ?m6a ?m6i ?m6l ?m6c ?m6k (fun _ _ _ _ _ _ us hl => match us, hl with | [_], _ => rfl)) (Rn.atM_mk ?m7a ?m7i ?m7l ?m7c ?m7k (fun _ _ _ _ _ _ us hl => match us, hl with | [_], _ => rfl)) (Rn.atM_mk ?m8a ?m8i ?m8l ?m8c ?m8k (fun _ _ _ _ _ _ us hl => match us, hl with | [_], _ => rfl)) (Rn.atM_mk ?m9a ?m9i ?m9l ?m9c ?m9k (fun _ _ _ _ _ _ us hl => match us, hl with | [_, _, _, _], _ => rfl)) (Rn.atM_mk ?m10a ?m10i ?m10l ?m10c ?m10k (fun _ _ _ _ _ _ us hl => match us, hl with | [_, _, _], _ => rfl)) (Rn.atM_mk ?m11a ?m11i ?m11l ?m11c ?m11k (fun _ _ _ _ _ _ us hl => match us, hl with | [_], _ => rfl)) (Rn.atM_mk ?m12a ?m12i ?m12l ?m12c ?m12k (fun _ _ _ _ _ _ us hl => match us, hl with | [_, _], _ => rfl)) (Rn.atM_mk ?m13a ?m13i ?m13l ?m13c ?m13k (fun _ _ _ _ _ _ us hl => match us, hl with | [_, _, _, _], _ => rfl)) (Rn.atM_mk ?m14a ?m14i ?m14l ?m14c ?m14k (fun _ _ _ _ _ _ us hl => match us, hl with | [_], _ => rfl)) (Rn.atM_mk ?m15a ?m15i ?m15l ?m15c ?m15k (fun _ _ _ _ _ _ us hl => match us, hl with | [_, _], _ => rfl)) (Rn.atM_mk ?m16a ?m16i ?m16l ?m16c ?m16k (fun _ _ _ _ _ _ us hl => match us, hl with | [_], _ => rfl)) (Rn.atM_mk ?m17a ?m17i ?m17l ?m17c ?m17k (fun _ _ _ _ _ _ us hl => match us, hl with | [_], _ => rfl)) (Rn.atM_mk ?m18a ?m18i ?m18l ?m18c ?m18k (fun _ _ _ _ _ _ us hl => match us, hl with | [_], _ => rfl)) (Rn.atM_mk ?m19a ?m19i ?m19l ?m19c ?m19k (fun _ _ _ _ _ _ us hl => match us, hl with | [_, _], _ => rfl)) (Rn.atM_mk ?m20a ?m20i ?m20l ?m20c ?m20k (fun _ _ _ _ _ _ us hl => match us, hl with | [_], _ => rfl)) (PySem.W.mg_of KX G ?cRegiona) ?cRegionb ?cRegionc (PySem.W.mg_of KX G ?cNeta) ?cNetb ?cNetc (PySem.W.mg_of KX G ?cReadera) ?cReaderb ?cReaderc (PySem.W.mg_of KX G ?cSeena) ?cSeenb ?cSeenc (PySem.W.mg_of KX G ?cLinea) ?cLineb ?cLinec
      (case f0a => k_is); (case f0l => k_is); (case f0c => k_is); (case f0k => k_is); (case f1a => k_is); (case f1l => k_is)
      (case f1c => k_is); (case f1k => k_is); (case f2a => k_is); (case f2l => k_is); (case f2c => k_is); (case f2k => k_is)
      (case f3a => k_is); (case f3l => k_is); (case f3c => k_is); (case f3k => k_is); (case f4a => k_is); (case f4l => k_is)
      (case f4c => k_is); (case f4k => k_is); (case f5a => k_is); (case f5l => k_is); (case f5c => k_is); (case f5k => k_is)
      (case f6a => k_is); (case f6l => k_is); (case f6c => k_is); (case f6k => k_is); (case f7a => k_is); (case f7l => k_is)
      (case f7c => k_is); (case f7k => k_is); (case f8a => k_is); (case f8l => k_is); (case f8c => k_is); (case f8k => k_is)
      (case f9a => k_is); (case f9l => k_is); (case f9c => k_is); (case f9k => k_is); (case f10a => k_is); (case f10l => k_is)
      (case f10c => k_is); (case f10k => k_is); (case f11a => k_is); (case f11l => k_is); (case f11c => k_is); (case f11k => k_is)
      (case f12a => k_is); (case f12l => k_is); (case f12c => k_is); (case f12k => k_is); (case f13a => k_is); (case f13l => k_is)
      (case f13c => k_is); (case f13k => k_is); (case f14a => k_is); (case f14l => k_is); (case f14c => k_is); (case f14k => k_is)
      (case f15a => k_is); (case f15l => k_is); (case f15c => k_is); (case f15k => k_is); (case f16a => k_is); (case f16l => k_is)
      (case f16c => k_is); (case f16k => k_is); (case f17a => k_is); (case f17l => k_is); (case f17c => k_is); (case f17k => k_is)
      (case f18a => k_is); (case f18l => k_is); (case f18c => k_is); (case f18k => k_is); (case f19a => k_is); (case f19l => k_is)
      (case f19c => k_is); (case f19k => k_is); (case f20a => k_is); (case f20l => k_is); (case f20c => k_is); (case f20k => k_is)
      (case f21a => k_is); (case f21l => k_is); (case f21c => k_is); (case f21k => k_is); (case f22a => k_is); (case f22l => k_is)
      (case f22c => k_is); (case f22k => k_is); (case f23a => k_is); (case f23l => k_is); (case f23c => k_is); (case f23k => k_is)
      (case f24a => k_is); (case f24l => k_is); (case f24c => k_is); (case f24k => k_is); (case f25a => k_is); (case f25l => k_is)
      (case f25c => k_is); (case f25k => k_is); (case f26a => k_is); (case f26l => k_is); (case f26c => k_is); (case f26k => k_is)
      (case f27a => k_is); (case f27l => k_is); (case f27c => k_is); (case f27k => k_is); (case f28a => k_is); (case f28l => k_is)
      (case f28c => k_is); (case f28k => k_is); (case m0a => k_is); (case m0i => k_is); (case m0l => k_is); (case m0c => k_is)
      (case m0k => k_is); (case m1a => k_is); (case m1i => k_is); (case m1l => k_is); (case m1c => k_is); (case m1k => k_is)
      (case m2a => k_is); (case m2i => k_is); (case m2l => k_is); (case m2c => k_is); (case m2k => k_is); (case m3a => k_is)
      (case m3i => k_is); (case m3l => k_is); (case m3c => k_is); (case m3k => k_is); (case m4a => k_is); (case m4i => k_is)
      (case m4l => k_is); (case m4c => k_is); (case m4k => k_is); (case m5a => k_is); (case m5i => k_is); (case m5l => k_is)
      (case m5c => k_is); (case m5k => k_is); (case m6a => k_is); (case m6i => k_is); (case m6l => k_is); (case m6c => k_is)
      (case m6k => k_is); (case m7a => k_is); (case m7i => k_is); (case m7l => k_is); (case m7c => k_is); (case m7k => k_is)
      (case m8a => k_is); (case m8i => k_is); (case m8l => k_is); (case m8c => k_is); (case m8k => k_is); (case m9a => k_is)
      (case m9i => k_is); (case m9l => k_is); (case m9c => k_is); (case m9k => k_is); (case m10a => k_is); (case m10i => k_is)
      (case m10l => k_is); (case m10c => k_is); (case m10k => k_is); (case m11a => k_is); (case m11i => k_is); (case m11l => k_is)
      (case m11c => k_is); (case m11k => k_is); (case m12a => k_is); (case m12i => k_is); (case m12l => k_is); (case m12c => k_is)
      (case m12k => k_is); (case m13a => k_is); (case m13i => k_is); (case m13l => k_is); (case m13c => k_is); (case m13k => k_is)
      (case m14a => k_is); (case m14i => k_is); (case m14l => k_is); (case m14c => k_is); (case m14k => k_is); (case m15a => k_is)
      (case m15i => k_is); (case m15l => k_is); (case m15c => k_is); (case m15k => k_is); (case m16a => k_is); (case m16i => k_is)
      (case m16l => k_is); (case m16c => k_is); (case m16k => k_is); (case m17a => k_is); (case m17i => k_is); (case m17l => k_is)
      (case m17c => k_is); (case m17k => k_is); (case m18a => k_is); (case m18i => k_is); (case m18l => k_is); (case m18c => k_is)
      (case m18k => k_is); (case m19a => k_is); (case m19i => k_is); (case m19l => k_is); (case m19c => k_is); (case m19k => k_is)
      (case m20a => k_is); (case m20i => k_is); (case m20l => k_is); (case m20c => k_is); (case m20k => k_is); (case cRegiona => k_is)
      (case cRegionb => k_is); (case cRegionc => k_is); (case cNeta => k_is); (case cNetb => k_is); (case cNetc => k_is); (case cReadera => k_is)
      (case cReaderb => k_is); (case cReaderc => k_is); (case cSeena => k_is); (case cSeenb => k_is); (case cSeenc => k_is); (case cLinea => k_is)
      (case cLineb => k_is); (case cLinec => k_is)
  case S =>
    intro K H xs a hO hwi hask hx
    cases hx with
    | cons h1 h2 =>
      cases h2
      cases h1 with
      | lst hs ha =>
        have e := L2.ints_dw a.1 _ ha
        subst e
        exact ⟨_, a.1, rfl, hs, hask, fun H' p hp => .lst (L2.SqL.of hp) (L2.dw_ints _)⟩
#print axioms PySem.Challenge.cw_regionnets_s01_answers_holds

import PyProof.Rows.All
import Wide.All
import OpenK.AllK
import Wide.FinOn
import Open.SpecLaws
import KE.OsGo
import HandS.ForSpec
import HandS.Comp
import HandS.Iter
import HandS.Walk
import HandS.SortInts
import HandS.Codes
import PySem.Challenge.RW_neighboursdesk_s01_answers
set_option Elab.async false
/-! The mathematics of the desk: the program's own reckoning, def by def, is what the specification says. Core Lean and the specification's modules alone. -/
namespace Nd
open Ie04
/-! ### sums and lists in turns -/
theorem foldl_add (l : List Int) : ∀ a : Int, l.foldl (fun s x => s + x) a = a + l.foldl (fun s x => s + x) 0 := by
  induction l with
  | nil => intro a; simp
  | cons x r ih =>
    intro a
    rw [List.foldl_cons, List.foldl_cons, ih, ih (0 + x)]
    omega
theorem sum_append (a b : List Int) : Ie04.sum (a ++ b) = Ie04.sum a + Ie04.sum b := by
  unfold Ie04.sum
  rw [List.foldl_append, foldl_add b]
theorem sum_one (x : Int) : Ie04.sum [x] = x := by
  simp [Ie04.sum]
theorem sum_nil : Ie04.sum [] = 0 := rfl
/-- the grid of values in turns: so many full rows, so many of the next -/
def rowsOf {A : Type} (w : Nat) (f : Nat → Nat → A) (j : Nat) : List A := (List.range j).flatMap fun y => (List.range w).map fun x => f x y
def partOf {A : Type} (f : Nat → Nat → A) (j i : Nat) : List A := (List.range i).map fun x => f x j
theorem rowsOf_zero {A : Type} (w : Nat) (f : Nat → Nat → A) : rowsOf w f 0 = [] := rfl
theorem partOf_zero {A : Type} (f : Nat → Nat → A) (j : Nat) : partOf f j 0 = [] := rfl
theorem rowsOf_succ {A : Type} (w : Nat) (f : Nat → Nat → A) (j : Nat) : rowsOf w f (j + 1) = rowsOf w f j ++ partOf f j w := by
  unfold rowsOf partOf
  rw [List.range_succ, List.flatMap_append]
  simp
theorem partOf_succ {A : Type} (f : Nat → Nat → A) (j i : Nat) : partOf f j (i + 1) = partOf f j i ++ [f i j] := by
  unfold partOf
  rw [List.range_succ, List.map_append]
  rfl
theorem partOf_length {A : Type} (f : Nat → Nat → A) (j i : Nat) : (partOf f j i).length = i := by
  unfold partOf
  simp
theorem rowsOf_length {A : Type} (w : Nat) (f : Nat → Nat → A) : ∀ j, (rowsOf w f j).length = j * w
  | 0 => by simp [rowsOf_zero]
  | j + 1 => by
    rw [rowsOf_succ, List.length_append, rowsOf_length w f j, partOf_length, Nat.succ_mul]
/-! ### a place in a line -/
def placeI (o n i : Int) : Int :=
  if 0 ≤ i ∧ i < n then i else if o = 0 then -1 else if o = 1 then (if i < 0 then 0 else n - 1)
  else if o = 2 then (if i.fmod (2 * n) < n then i.fmod (2 * n) else 2 * n - 1 - i.fmod (2 * n)) else i.fmod n
def foldI (e n : Nat) (i : Int) : Int := match fold e n i with
  | none => -1
  | some k => (k : Int)
theorem fold_lt {e n : Nat} {i : Int} {k : Nat} (hn : 1 ≤ n) (h : fold e n i = some k) : k < n := by
  unfold fold at h
  split at h
  · cases h
    omega
  · split at h
    · cases h
    · cases h
      split <;> omega
    · cases h
      have h2 : 0 ≤ i % (2 * (n : Int)) := Int.emod_nonneg _ (by omega)
      have h3 : i % (2 * (n : Int)) < 2 * (n : Int) := Int.emod_lt_of_pos _ (by omega)
      split <;> omega
    · cases h
      have h2 : 0 ≤ i % (n : Int) := Int.emod_nonneg _ (by omega)
      have h3 : i % (n : Int) < (n : Int) := Int.emod_lt_of_pos _ (by omega)
      omega
theorem placeI_is {e n : Nat} (he : e ≤ 3) (hn : 1 ≤ n) (i : Int) : placeI (e : Int) (n : Int) i = foldI e n i := by
  unfold placeI foldI fold
  by_cases c : 0 ≤ i ∧ i < (n : Int)
  · rw [if_pos c, if_pos c]
    dsimp only
    omega
  · rw [if_neg c, if_neg c]
    have e1 : i.fmod (2 * (n : Int)) = i % (2 * (n : Int)) := Int.fmod_eq_emod_of_nonneg _ (by omega)
    have e2 : i.fmod (n : Int) = i % (n : Int) := Int.fmod_eq_emod_of_nonneg _ (by omega)
    have h2 : 0 ≤ i % (2 * (n : Int)) := Int.emod_nonneg _ (by omega)
    have h3 : i % (2 * (n : Int)) < 2 * (n : Int) := Int.emod_lt_of_pos _ (by omega)
    have h4 : 0 ≤ i % (n : Int) := Int.emod_nonneg _ (by omega)
    match e, he with
    | 0, _ => simp
    | 1, _ =>
      simp
      split
      · rfl
      · omega
    | 2, _ =>
      simp only [e1]
      simp
      generalize i % (2 * (n : Int)) = t at *
      by_cases q : t < (n : Int)
      · rw [if_pos q, if_pos (by omega)]
        omega
      · rw [if_neg q, if_neg (by omega)]
        omega
    | 3, _ =>
      simp only [e2]
      simp
      omega
    | k + 4, h => omega
theorem foldI_range {e n : Nat} (hn : 1 ≤ n) (i : Int) : -1 ≤ foldI e n i ∧ foldI e n i < (n : Int) := by
  unfold foldI
  cases h : fold e n i with
  | none => dsimp only; omega
  | some k =>
    have := fold_lt hn h
    dsimp only
    omega
/-! ### a cell's number -/
structure Fits (p : Pic) : Prop where
  w1 : 1 ≤ p.w
  w2 : p.w ≤ 12
  h1 : 1 ≤ p.h
  h2 : p.h ≤ 12
  len : p.v.length = p.w * p.h
theorem at_outside {p : Pic} {e : Nat} {x y : Int} (h : foldI e p.w x < 0 ∨ foldI e p.h y < 0) : p.at_ e x y = 0 := by
  unfold Pic.at_
  unfold foldI at h
  cases h1 : fold e p.w x with
  | none => rfl
  | some a =>
    cases h2 : fold e p.h y with
    | none => rfl
    | some b =>
      rw [h1, h2] at h
      dsimp only at h
      omega
theorem at_inside {p : Pic} (F : Fits p) {e : Nat} {x y : Int} (h1 : ¬ foldI e p.w x < 0) (h2 : ¬ foldI e p.h y < 0) :
    ∃ j : Nat, foldI e p.h y * (p.w : Int) + foldI e p.w x = (j : Int) ∧ p.v[j]? = some (p.at_ e x y) := by
  unfold Pic.at_
  unfold foldI at h1 h2 ⊢
  cases e1 : fold e p.w x with
  | none =>
    rw [e1] at h1
    dsimp only at h1
    omega
  | some a =>
    cases e2 : fold e p.h y with
    | none =>
      rw [e2] at h2
      dsimp only at h2
      omega
    | some b =>
      dsimp only
      have la := fold_lt F.w1 e1
      have lb := fold_lt F.h1 e2
      refine ⟨b * p.w + a, by simp, ?_⟩
      have hl : b * p.w + a < p.v.length := by
        rw [F.len, Nat.mul_comm p.w p.h]
        have q : (b + 1) * p.w ≤ p.h * p.w := Nat.mul_le_mul_right _ lb
        rw [Nat.succ_mul] at q
        omega
      rw [List.getD_eq_getElem?_getD, List.getElem?_eq_getElem hl]
      rfl
end Nd

set_option Elab.async false
namespace Nd
open Ie04
/-! ### by rank: what is sorted -/
theorem insertI_perm (x : Int) : ∀ l : List Int, (insertI x l).Perm (x :: l)
  | [] => List.Perm.refl _
  | y :: l => by
    unfold insertI
    split
    · exact List.Perm.refl _
    · exact ((insertI_perm x l).cons y).trans (List.Perm.swap x y l)
theorem insertI_rises (x : Int) : ∀ l : List Int, l.Pairwise (· ≤ ·) → (insertI x l).Pairwise (· ≤ ·)
  | [], _ => by simp [insertI]
  | y :: l, h => by
    unfold insertI
    have h' := List.pairwise_cons.mp h
    split
    · rename_i c
      refine List.pairwise_cons.mpr ⟨fun z hz => ?_, h⟩
      cases hz with
      | head => exact c
      | tail _ hz => exact Int.le_trans c (h'.1 z hz)
    · rename_i c
      refine List.pairwise_cons.mpr ⟨fun z hz => ?_, insertI_rises x l h'.2⟩
      have hz' := (insertI_perm x l).mem_iff.mp hz
      cases hz' with
      | head => omega
      | tail _ hz => exact h'.1 z hz
theorem sorted_perm : ∀ l : List Int, (Ie04.sorted l).Perm l
  | [] => List.Perm.refl _
  | x :: l => (insertI_perm x _).trans ((sorted_perm l).cons x)
theorem sorted_rises : ∀ l : List Int, (Ie04.sorted l).Pairwise (· ≤ ·)
  | [] => List.Pairwise.nil
  | x :: l => insertI_rises x _ (sorted_rises l)
theorem sorted_is {l s : List Int} (hp : s.Perm l) (hs : s.Pairwise (· ≤ ·)) : s = Ie04.sorted l :=
  List.Perm.eq_of_pairwise (fun _ _ _ _ h1 h2 => Int.le_antisymm h1 h2) hs (sorted_rises l) (hp.trans (sorted_perm l).symm)
theorem sorted_length (l : List Int) : (Ie04.sorted l).length = l.length := (sorted_perm l).length_eq
/-! ### the least and the greatest -/
theorem foldl_min : ∀ (l : List Int) (a m : Int), (m = a ∨ m ∈ l) → (m ≤ a ∧ ∀ x ∈ l, m ≤ x) → l.foldl min a = m
  | [], a, m, h, g => by
    cases h with
    | inl h => exact h.symm
    | inr h => cases h
  | x :: l, a, m, h, g => by
    rw [List.foldl_cons]
    have g1 := g.2 x (List.Mem.head _)
    have g2 : ∀ z ∈ l, m ≤ z := fun z hz => g.2 z (List.Mem.tail _ hz)
    refine foldl_min l (min a x) m ?_ ⟨by omega, g2⟩
    cases h with
    | inl h => left; omega
    | inr h =>
      cases h with
      | head => left; omega
      | tail _ h => exact Or.inr h
theorem foldl_max : ∀ (l : List Int) (a m : Int), (m = a ∨ m ∈ l) → (a ≤ m ∧ ∀ x ∈ l, x ≤ m) → l.foldl max a = m
  | [], a, m, h, g => by
    cases h with
    | inl h => exact h.symm
    | inr h => cases h
  | x :: l, a, m, h, g => by
    rw [List.foldl_cons]
    have g1 := g.2 x (List.Mem.head _)
    have g2 : ∀ z ∈ l, z ≤ m := fun z hz => g.2 z (List.Mem.tail _ hz)
    refine foldl_max l (max a x) m ?_ ⟨by omega, g2⟩
    cases h with
    | inl h => left; omega
    | inr h =>
      cases h with
      | head => left; omega
      | tail _ h => exact Or.inr h
theorem least_is {l : List Int} {m : Int} (hm : m ∈ l) (hle : ∀ x ∈ l, m ≤ x) : least l = m := by
  cases l with
  | nil => cases hm
  | cons y r => exact foldl_min (y :: r) y m (Or.inr hm) ⟨hle y (List.Mem.head _), hle⟩
theorem greatest_is {l : List Int} {m : Int} (hm : m ∈ l) (hle : ∀ x ∈ l, x ≤ m) : greatest l = m := by
  cases l with
  | nil => cases hm
  | cons y r => exact foldl_max (y :: r) y m (Or.inr hm) ⟨hle y (List.Mem.head _), hle⟩
/-! ### within bounds -/
def nearB (f : Int) (x : Int) : Bool := decide (-f ≤ x) && decide (x ≤ f)
theorem small_is (p : Pic) : small p = p.v.all (nearB 1000000000000) := rfl
/-! ### the program's own numbers -/
def divI (x d : Int) : Int := (2 * x + d).fdiv (2 * d)
theorem divI_is {x d : Int} (hd : 1 ≤ d) : divI x d = near x d := by
  unfold divI near
  exact Int.fdiv_eq_ediv_of_nonneg _ (by omega)
/-- what max, min of two give: as Python chooses -/
def max2 (m n : Int) : Int := if n > m then n else m
def min2 (m n : Int) : Int := if n < m then n else m
theorem held_is (x lo hi : Int) : min2 (max2 x lo) hi = min hi (max lo x) := by
  unfold min2 max2
  split <;> split <;> omega
/-! ### weighed: one cell, all cells -/
/-- the term of a weight -/
def wterm (e : Nat) (k : Weights) (p : Pic) (x y : Int) (i j : Nat) : Int := k.get i j * p.at_ e (x + (i : Int) - ((k.a / 2 : Nat) : Int)) (y + (j : Int) - ((k.b / 2 : Nat) : Int))
def wcell (e : Nat) (k : Weights) (p : Pic) (x y : Int) : Int := Ie04.sum (rowsOf k.a (wterm e k p x y) k.b)
theorem weigh_v (e : Nat) (k : Weights) (p : Pic) : (Ie04.weigh e k p).v = rowsOf p.w (fun x y => wcell e k p (x : Int) (y : Int)) p.h := rfl
theorem weigh_w (e : Nat) (k : Weights) (p : Pic) : (Ie04.weigh e k p).w = p.w := rfl
theorem weigh_h (e : Nat) (k : Weights) (p : Pic) : (Ie04.weigh e k p).h = p.h := rfl
theorem get_is {k : Weights} (hl : k.l.length = k.a * k.b) {i j : Nat} (hi : i < k.a) (hj : j < k.b) : k.l[j * k.a + i]? = some (k.get i j) := by
  have h : j * k.a + i < k.l.length := by
    rw [hl, Nat.mul_comm k.a k.b]
    have q : (j + 1) * k.a ≤ k.b * k.a := Nat.mul_le_mul_right _ hj
    rw [Nat.succ_mul] at q
    omega
  unfold Weights.get
  rw [List.getD_eq_getElem?_getD, List.getElem?_eq_getElem h]
  rfl
theorem halfI (a : Nat) (h : a % 2 = 1) : ((a : Int) - 1).fdiv 2 = ((a / 2 : Nat) : Int) := by
  rw [Int.fdiv_eq_ediv_of_nonneg _ (by omega)]
  omega
theorem wterm_prog {e : Nat} {k : Weights} {p : Pic} {x y : Int} (i j : Nat) :
    k.get i j * p.at_ e (x - ((k.a / 2 : Nat) : Int) + (i : Int)) (y - ((k.b / 2 : Nat) : Int) + (j : Int)) = wterm e k p x y i j := by
  unfold wterm
  have e1 : x - ((k.a / 2 : Nat) : Int) + (i : Int) = x + (i : Int) - ((k.a / 2 : Nat) : Int) := by omega
  have e2 : y - ((k.b / 2 : Nat) : Int) + (j : Int) = y + (j : Int) - ((k.b / 2 : Nat) : Int) := by omega
  rw [e1, e2]
/-! ### by rank: one cell, all cells -/
def rterm (e r : Nat) (p : Pic) (x y : Int) (i j : Nat) : Int := p.at_ e (x + (i : Int) - (r : Int)) (y + (j : Int) - (r : Int))
theorem around_is (e r : Nat) (p : Pic) (x y : Int) : around e r p x y = rowsOf (2 * r + 1) (rterm e r p x y) (2 * r + 1) := rfl
def rcell (e r n : Nat) (p : Pic) (x y : Int) : Int := (Ie04.sorted (around e r p x y)).getD n 0
theorem rank_v (e r n : Nat) (p : Pic) : (Ie04.rank e r n p).v = rowsOf p.w (fun x y => rcell e r n p (x : Int) (y : Int)) p.h := rfl
theorem rterm_prog {e r : Nat} {p : Pic} {x y : Int} (i j : Nat) : p.at_ e (x - (r : Int) + (i : Int)) (y - (r : Int) + (j : Int)) = rterm e r p x y i j := by
  unfold rterm
  have e1 : x - (r : Int) + (i : Int) = x + (i : Int) - (r : Int) := by omega
  have e2 : y - (r : Int) + (j : Int) = y + (j : Int) - (r : Int) := by omega
  rw [e1, e2]
theorem rcell_at {e r n : Nat} {p : Pic} {x y : Int} (hn : n < (2 * r + 1) * (2 * r + 1)) : (Ie04.sorted (around e r p x y))[n]? = some (rcell e r n p x y) := by
  have h : n < (Ie04.sorted (around e r p x y)).length := by
    rw [sorted_length, around_is, rowsOf_length]
    exact hn
  unfold rcell
  rw [List.getD_eq_getElem?_getD, List.getElem?_eq_getElem h]
  rfl
end Nd

set_option Elab.async false
namespace Nd
open Ie04
/-! ### the list of calls, call by call -/
/-- one call of the raw list, played -/
def one (S : St) (c : List (List Int)) : St × List Int := Ie04Neutral.step S ((PyIe04.whole c).headD [])
def run : St → List (List (List Int)) → List Int
  | _, [] => []
  | S, c :: cs => ((one S c).2.length : Int) :: (one S c).2 ++ run (one S c).1 cs
theorem told_played : ∀ (cs : List (List (List Int))) (S : St), PyFlat.told (PyFlat.played (fun s c => Ie04Neutral.step s (c.headD [])) S (cs.map PyIe04.whole)) = run S cs
  | [], _ => rfl
  | c :: cs, S => by
    show ((one S c).2.length : Int) :: (one S c).2 ++ PyFlat.told (PyFlat.played (fun s c => Ie04Neutral.step s (c.headD [])) (one S c).1 (cs.map PyIe04.whole)) = _
    rw [told_played cs]
    rfl
theorem answers_run {l : List Int} {raw : List (List (List Int))} (h : PyFlat.calls PyIe04.shape l.length l = some raw) : PyIe04.answers l = run Ie04.init raw := by
  unfold PyIe04.answers PyIe04.calls
  rw [h]
  exact told_played raw Ie04.init
/-- what is asked of each raw call -/
structure CallOk (c : List (List Int)) : Prop where
  inside : PyInside.call PyIe04.bound c = true
  asked : Ie04Neutral.asked1 ((PyIe04.whole c).headD []) = true
theorem asked_open {l : List Int} (h : PyIe04.answers_asked l = true) : ∃ raw, PyFlat.calls PyIe04.shape l.length l = some raw ∧ raw.length ≤ 40 ∧ ∀ c ∈ raw, CallOk c := by
  unfold PyIe04.answers_asked at h
  cases e : PyFlat.calls PyIe04.shape l.length l with
  | none =>
    rw [e] at h
    cases h
  | some raw =>
    rw [e] at h
    dsimp only at h
    simp only [Bool.and_eq_true] at h
    obtain ⟨⟨⟨⟨h1, h2⟩, h3⟩, h4⟩, h5⟩ := h
    refine ⟨raw, rfl, of_decide_eq_true h2, fun c hc => ⟨?_, ?_⟩⟩
    · unfold PyInside.calls at h3
      exact List.all_eq_true.mp h3 c hc
    · unfold Ie04Neutral.asked at h4
      simp only [Bool.and_eq_true] at h4
      exact List.all_eq_true.mp h4.1 _ (List.mem_map.mpr ⟨PyIe04.whole c, List.mem_map.mpr ⟨c, hc, rfl⟩, rfl⟩)
theorem asked_short {l : List Int} (h : PyIe04.answers_asked l = true) : (PyIe04.answers l).length ≤ 10000000 := by
  unfold PyIe04.answers_asked at h
  cases e : PyFlat.calls PyIe04.shape l.length l with
  | none =>
    rw [e] at h
    cases h
  | some raw =>
    rw [e] at h
    dsimp only at h
    simp only [Bool.and_eq_true] at h
    exact of_decide_eq_true h.2
/-- how many whole numbers, and whether a row -/
def nW (p : Int) : Nat := if p = 0 then 2 else if p = 1 then 3 else if p = 2 then 3 else if p = 3 then 2 else if p = 4 then 2 else if p = 5 then 0 else if p = 6 then 2 else if p = 7 then 0 else if p = 8 then 0 else if p = 9 then 2 else if p = 10 then 2 else if p = 11 then 2 else 0
def hasR (p : Int) : Bool := decide (p = 0) || decide (p = 1) || decide (p = 10) || decide (p = 11)
theorem shape_some {p : Int} {n k : Nat} (h : PyIe04.shape p = some (n, k)) : 0 ≤ p ∧ p ≤ 12 ∧ n = nW p ∧ k = (if hasR p = true then 1 else 0) := by
  have hp : p = 0 ∨ p = 1 ∨ p = 2 ∨ p = 3 ∨ p = 4 ∨ p = 5 ∨ p = 6 ∨ p = 7 ∨ p = 8 ∨ p = 9 ∨ p = 10 ∨ p = 11 ∨ p = 12 := by
    apply Classical.byContradiction
    intro c
    simp only [not_or] at c
    unfold PyIe04.shape at h
    simp [c] at h
  rcases hp with rfl | rfl | rfl | rfl | rfl | rfl | rfl | rfl | rfl | rfl | rfl | rfl | rfl <;>
    (simp [PyIe04.shape] at h; simp [nW, hasR, ← h.1, ← h.2])
/-- the raw call of its parts -/
def rawOf (p : Int) (ws row : List Int) : List (List Int) := if hasR p = true then [p :: ws, row] else [p :: ws]
/-- a call at place i of l, read to place i' -/
structure Parsed (l : List Int) (i : Nat) (p : Int) (ws row : List Int) (i' : Nat) : Prop where
  p0 : 0 ≤ p
  p12 : p ≤ 12
  hp : l[i]? = some p
  hw : ws = (l.drop (i + 1)).take (nW p)
  lw : i + 1 + nW p ≤ l.length
  hno : hasR p = false → row = [] ∧ i' = i + 1 + nW p
  hyes : hasR p = true → ∃ m : Nat, l[i + 1 + nW p]? = some (m : Int) ∧ row = (l.drop (i + 2 + nW p)).take m ∧ i' = i + 2 + nW p + m
  li : i' ≤ l.length
theorem Parsed.wlen {l : List Int} {i i' : Nat} {p : Int} {ws row : List Int} (P : Parsed l i p ws row i') : ws.length = nW p := by
  rw [P.hw, List.length_take, List.length_drop]
  have := P.lw
  omega
theorem Parsed.more {l : List Int} {i i' : Nat} {p : Int} {ws row : List Int} (P : Parsed l i p ws row i') : i < i' := by
  cases h : hasR p with
  | false => have := (P.hno h).2; omega
  | true => obtain ⟨m, _, _, e⟩ := P.hyes h; omega
theorem row_some {l x s : List Int} (h : PyFlat.row l = some (x, s)) : ∃ m : Nat, ∃ r, l = (m : Int) :: r ∧ m ≤ r.length ∧ x = r.take m ∧ s = r.drop m := by
  cases l with
  | nil => cases h
  | cons n r =>
    have h : (if 0 ≤ n ∧ n.toNat ≤ r.length then some (r.take n.toNat, r.drop n.toNat) else none) = some (x, s) := h
    split at h
    · rename_i c
      simp only [Option.some.injEq, Prod.mk.injEq] at h
      refine ⟨n.toNat, r, ?_, c.2, h.1.symm, h.2.symm⟩
      congr 1
      omega
    · cases h
theorem parse_next {l : List Int} {i f : Nat} {c : List (List Int)} {cs : List (List (List Int))} (h : PyFlat.calls PyIe04.shape f (l.drop i) = some (c :: cs)) :
    ∃ p ws row i' f', Parsed l i p ws row i' ∧ c = rawOf p ws row ∧ PyFlat.calls PyIe04.shape f' (l.drop i') = some cs := by
  cases e : l.drop i with
  | nil =>
    rw [e] at h
    cases f <;> (simp [PyFlat.calls] at h)
  | cons p r =>
    rw [e] at h
    cases f with
    | zero => simp [PyFlat.calls] at h
    | succ f =>
      have hi : l[i]? = some p := by
        have q : (l.drop i)[0]? = some p := by rw [e]; rfl
        rw [List.getElem?_drop] at q
        exact q
      have hr : l.drop (i + 1) = r := by
        rw [← List.drop_drop, e]
        rfl
      have hlen : l.length = i + 1 + r.length := by
        have q : (l.drop i).length = r.length + 1 := by rw [e]; rfl
        rw [List.length_drop] at q
        omega
      unfold PyFlat.calls at h
      cases ec : PyFlat.call PyIe04.shape (p :: r) with
      | none =>
        rw [ec] at h
        cases h
      | some ct =>
        obtain ⟨c0, t⟩ := ct
        rw [ec] at h
        dsimp only at h
        cases ek : PyFlat.calls PyIe04.shape f t with
        | none =>
          rw [ek] at h
          cases h
        | some cs0 =>
          rw [ek] at h
          simp only [Option.some.injEq, List.cons.injEq] at h
          obtain ⟨h1, h2⟩ := h
          subst h1 h2
          unfold PyFlat.call at ec
          dsimp only at ec
          cases es : PyIe04.shape p with
          | none =>
            rw [es] at ec
            cases ec
          | some nk =>
            obtain ⟨n, k⟩ := nk
            rw [es] at ec
            dsimp only at ec
            obtain ⟨q0, q12, qn, qk⟩ := shape_some es
            split at ec
            · cases ec
            · rename_i hn
              cases er : PyFlat.rows k (r.drop n) with
              | none =>
                rw [er] at ec
                cases ec
              | some xt =>
                obtain ⟨xs, t'⟩ := xt
                rw [er] at ec
                simp only [Option.some.injEq, Prod.mk.injEq] at ec
                obtain ⟨h1, h2⟩ := ec
                subst h1 h2
                cases hb : hasR p with
                | false =>
                  rw [hb] at qk
                  simp at qk
                  subst qk
                  simp only [PyFlat.rows, Option.some.injEq, Prod.mk.injEq] at er
                  obtain ⟨rfl, ht⟩ := er
                  refine ⟨p, r.take n, [], i + 1 + n, f, ⟨q0, q12, hi, ?_, ?_, fun _ => ⟨rfl, ?_⟩, ?_, ?_⟩, ?_, ?_⟩
                  · rw [hr, qn]
                  · omega
                  · rw [qn]
                  · intro z
                    rw [hb] at z
                    cases z
                  · omega
                  · unfold rawOf
                    rw [hb]
                    rfl
                  · rw [← List.drop_drop, hr, ht]
                    exact ek
                | true =>
                  rw [hb] at qk
                  simp at qk
                  subst qk
                  unfold PyFlat.rows at er
                  cases ew : PyFlat.row (r.drop n) with
                  | none =>
                    rw [ew] at er
                    cases er
                  | some xs1 =>
                    obtain ⟨x1, s1⟩ := xs1
                    rw [ew] at er
                    simp only [PyFlat.rows, Option.some.injEq, Prod.mk.injEq] at er
                    obtain ⟨rfl, ht⟩ := er
                    obtain ⟨m, r1, e1, hm, e2, e3⟩ := row_some ew
                    have hl1 : l.drop (i + 1 + n) = (m : Int) :: r1 := by
                      rw [← List.drop_drop, hr, e1]
                    have hl2 : l.drop (i + 2 + n) = r1 := by
                      have z : i + 2 + n = (i + 1 + n) + 1 := by omega
                      rw [z, ← List.drop_drop, hl1]
                      rfl
                    have hlen1 : l.length = i + 2 + n + r1.length := by
                      have q : (l.drop (i + 1 + n)).length = r1.length + 1 := by rw [hl1]; rfl
                      rw [List.length_drop] at q
                      omega
                    refine ⟨p, r.take n, x1, i + 2 + n + m, f, ⟨q0, q12, hi, ?_, ?_, ?_, fun _ => ⟨m, ?_, ?_, ?_⟩, ?_⟩, ?_, ?_⟩
                    · rw [hr, qn]
                    · omega
                    · intro z
                      rw [hb] at z
                      cases z
                    · have q : (l.drop (i + 1 + n))[0]? = some (m : Int) := by rw [hl1]; rfl
                      rw [List.getElem?_drop] at q
                      rw [← qn]
                      exact q
                    · rw [← qn, hl2, e2]
                    · rw [← qn]
                    · omega
                    · unfold rawOf
                      rw [hb]
                      rfl
                    · rw [← List.drop_drop, hl2, ← e3, ht]
                      exact ek
theorem parse_end {l : List Int} {i f : Nat} (hi : i ≤ l.length) (h : PyFlat.calls PyIe04.shape f (l.drop i) = some []) : i = l.length := by
  cases e : l.drop i with
  | nil =>
    have q : (l.drop i).length = 0 := by rw [e]; rfl
    rw [List.length_drop] at q
    omega
  | cons p r =>
    rw [e] at h
    cases f with
    | zero => simp [PyFlat.calls] at h
    | succ f =>
      unfold PyFlat.calls at h
      split at h
      · cases h
      · split at h
        · cases h
        · simp at h
theorem parse_not_end {l : List Int} {i f : Nat} {c : List (List Int)} {cs : List (List (List Int))} (h : PyFlat.calls PyIe04.shape f (l.drop i) = some (c :: cs)) : i < l.length := by
  obtain ⟨p, ws, row, i', f', P, _⟩ := parse_next h
  have := P.lw
  omega
end Nd

set_option Elab.async false
namespace Nd
open Ie04
/-! ### what each call of the list is in the specification -/
theorem asked_step {c : List Int} (h : Ie04Neutral.asked1 c = true) : ∃ x, Ie04Neutral.callIn c = some x ∧ ∀ S, Ie04Neutral.step S c = Ie04.step S x := by
  unfold Ie04Neutral.asked1 at h
  cases e : Ie04Neutral.callOf c with
  | none =>
    rw [e] at h
    cases h
  | some x =>
    refine ⟨x, ?_, fun S => ?_⟩
    · unfold Ie04Neutral.callOf at e
      split at e
      · cases e
      · exact e
    · unfold Ie04Neutral.step
      rw [e]
theorem nat_some {z : Int} {n : Nat} (h : Ie04Neutral.nat z = some n) : z = (n : Int) := by
  unfold Ie04Neutral.nat at h
  split at h
  · cases h
    omega
  · cases h
theorem bind_some {A B : Type} {o : Option A} {f : A → Option B} {b : B} (h : o.bind f = some b) : ∃ a, o = some a ∧ f a = some b := by
  cases o with
  | none => cases h
  | some a => exact ⟨a, rfl, h⟩
theorem map_some {A B : Type} {o : Option A} {f : A → B} {b : B} (h : o.map f = some b) : ∃ a, o = some a ∧ f a = b := by
  cases o with
  | none => cases h
  | some a => exact ⟨a, rfl, Option.some.inj h⟩
theorem len0 {l : List Int} (h : l.length = 0) : l = [] := List.length_eq_zero_iff.mp h
theorem len2 {l : List Int} (h : l.length = 2) : ∃ a b, l = [a, b] := by
  match l, h with
  | [a, b], _ => exact ⟨a, b, rfl⟩
theorem len3 {l : List Int} (h : l.length = 3) : ∃ a b c, l = [a, b, c] := by
  match l, h with
  | [a, b, c], _ => exact ⟨a, b, c, rfl⟩
theorem within_le {lo hi z : Int} (h : PyInside.within lo hi z = true) : lo ≤ z ∧ z ≤ hi := by
  unfold PyInside.within at h
  simp only [Bool.and_eq_true, decide_eq_true_eq] at h
  exact h
theorem c_picture {ws row : List Int} (ok : CallOk (rawOf 0 ws row)) (hl : ws.length = nW 0) :
    ∃ w h : Nat, ws = [(w : Int), (h : Int)] ∧ w ≤ 1000000000 ∧ h ≤ 1000000000 ∧ row.length ≤ 160 ∧ ∀ S, one S (rawOf 0 ws row) = Ie04.step S (.picture w h row) := by
  obtain ⟨a, b, rfl⟩ := len2 hl
  obtain ⟨hin, has⟩ := ok
  obtain ⟨x, hx, st⟩ := asked_step has
  obtain ⟨w, e1, hx⟩ := bind_some hx
  obtain ⟨h, e2, hy⟩ := map_some hx
  have q1 := nat_some e1
  have q2 := nat_some e2
  subst q1 q2 hy
  have hin : ((PyInside.within 0 1000000000 (w : Int) && (PyInside.within 0 1000000000 (h : Int) && true)) && (decide (0 ≤ row.length) && decide (row.length ≤ 160) && row.all (PyInside.within (-1000000000) 1000000000) && true)) = true := hin
  simp only [Bool.and_eq_true, Bool.and_true, decide_eq_true_eq] at hin
  obtain ⟨⟨i1, i2⟩, ⟨⟨_, i3⟩, _⟩⟩ := hin
  have i1 := within_le i1
  have i2 := within_le i2
  exact ⟨w, h, rfl, by omega, by omega, i3, st⟩
theorem c_weigh {ws row : List Int} (ok : CallOk (rawOf 1 ws row)) (hl : ws.length = nW 1) :
    ∃ e a b : Nat, ws = [(e : Int), (a : Int), (b : Int)] ∧ e ≤ 1000000000 ∧ a ≤ 1000000000 ∧ b ≤ 1000000000 ∧ row.length ≤ 60 ∧ ∀ S, one S (rawOf 1 ws row) = Ie04.step S (.weigh e ⟨a, b, row⟩) := by
  obtain ⟨a, b, c, rfl⟩ := len3 hl
  obtain ⟨hin, has⟩ := ok
  obtain ⟨x, hx, st⟩ := asked_step has
  obtain ⟨e, e1, hx⟩ := bind_some hx
  obtain ⟨w, e2, hx⟩ := bind_some hx
  obtain ⟨h, e3, hy⟩ := map_some hx
  have q1 := nat_some e1
  have q2 := nat_some e2
  have q3 := nat_some e3
  subst q1 q2 q3 hy
  have hin : ((PyInside.within 0 1000000000 (e : Int) && (PyInside.within 0 1000000000 (w : Int) && (PyInside.within 0 1000000000 (h : Int) && true))) && (decide (0 ≤ row.length) && decide (row.length ≤ 60) && row.all (PyInside.within (-1000000000) 1000000000) && true)) = true := hin
  simp only [Bool.and_eq_true, Bool.and_true, decide_eq_true_eq] at hin
  obtain ⟨⟨i0, i1, i2⟩, ⟨⟨_, i3⟩, _⟩⟩ := hin
  have i0 := within_le i0
  have i1 := within_le i1
  have i2 := within_le i2
  exact ⟨e, w, h, rfl, by omega, by omega, by omega, i3, st⟩
theorem c_rank {ws row : List Int} (ok : CallOk (rawOf 2 ws row)) (hl : ws.length = nW 2) :
    ∃ e r n : Nat, ws = [(e : Int), (r : Int), (n : Int)] ∧ e ≤ 1000000000 ∧ r ≤ 1000000000 ∧ n ≤ 1000000000 ∧ ∀ S, one S (rawOf 2 ws row) = Ie04.step S (.rank e r n) := by
  obtain ⟨a, b, c, rfl⟩ := len3 hl
  obtain ⟨hin, has⟩ := ok
  obtain ⟨x, hx, st⟩ := asked_step has
  obtain ⟨e, e1, hx⟩ := bind_some hx
  obtain ⟨w, e2, hx⟩ := bind_some hx
  obtain ⟨h, e3, hy⟩ := map_some hx
  have q1 := nat_some e1
  have q2 := nat_some e2
  have q3 := nat_some e3
  subst q1 q2 q3 hy
  have hin : ((PyInside.within 0 1000000000 (e : Int) && (PyInside.within 0 1000000000 (w : Int) && (PyInside.within 0 1000000000 (h : Int) && true))) && true) = true := hin
  simp only [Bool.and_eq_true, Bool.and_true] at hin
  obtain ⟨i0, i1, i2⟩ := hin
  have i0 := within_le i0
  have i1 := within_le i1
  have i2 := within_le i2
  exact ⟨e, w, h, rfl, by omega, by omega, by omega, st⟩
theorem c_by {ws row : List Int} (ok : CallOk (rawOf 3 ws row)) (hl : ws.length = nW 3) :
    ∃ d o : Int, ws = [d, o] ∧ ∀ S, one S (rawOf 3 ws row) = Ie04.step S (.by_ d o) := by
  obtain ⟨a, b, rfl⟩ := len2 hl
  obtain ⟨x, hx, st⟩ := asked_step ok.asked
  have hx : some (Ie04.Call.by_ a b) = some x := hx
  cases hx
  exact ⟨a, b, rfl, st⟩
theorem c_hold {ws row : List Int} (ok : CallOk (rawOf 4 ws row)) (hl : ws.length = nW 4) :
    ∃ d o : Int, ws = [d, o] ∧ ∀ S, one S (rawOf 4 ws row) = Ie04.step S (.held d o) := by
  obtain ⟨a, b, rfl⟩ := len2 hl
  obtain ⟨x, hx, st⟩ := asked_step ok.asked
  have hx : some (Ie04.Call.held a b) = some x := hx
  cases hx
  exact ⟨a, b, rfl, st⟩
theorem c_put {ws row : List Int} (ok : CallOk (rawOf 5 ws row)) (hl : ws.length = nW 5) : ws = [] ∧ ∀ S, one S (rawOf 5 ws row) = Ie04.step S .put := by
  have e := len0 hl
  subst e
  obtain ⟨x, hx, st⟩ := asked_step ok.asked
  have hx : some Ie04.Call.put = some x := hx
  cases hx
  exact ⟨rfl, st⟩
theorem c_mix {ws row : List Int} (ok : CallOk (rawOf 6 ws row)) (hl : ws.length = nW 6) :
    ∃ d o : Int, ws = [d, o] ∧ ∀ S, one S (rawOf 6 ws row) = Ie04.step S (.mix d o) := by
  obtain ⟨a, b, rfl⟩ := len2 hl
  obtain ⟨x, hx, st⟩ := asked_step ok.asked
  have hx : some (Ie04.Call.mix a b) = some x := hx
  cases hx
  exact ⟨a, b, rfl, st⟩
theorem c_undo {ws row : List Int} (ok : CallOk (rawOf 7 ws row)) (hl : ws.length = nW 7) : ws = [] ∧ ∀ S, one S (rawOf 7 ws row) = Ie04.step S .undo := by
  have e := len0 hl
  subst e
  obtain ⟨x, hx, st⟩ := asked_step ok.asked
  have hx : some Ie04.Call.undo = some x := hx
  cases hx
  exact ⟨rfl, st⟩
theorem c_now {ws row : List Int} (ok : CallOk (rawOf 8 ws row)) (hl : ws.length = nW 8) : ws = [] ∧ ∀ S, one S (rawOf 8 ws row) = Ie04.step S .now := by
  have e := len0 hl
  subst e
  obtain ⟨x, hx, st⟩ := asked_step ok.asked
  have hx : some Ie04.Call.now = some x := hx
  cases hx
  exact ⟨rfl, st⟩
theorem c_cell {ws row : List Int} (ok : CallOk (rawOf 9 ws row)) (hl : ws.length = nW 9) :
    ∃ x y : Nat, ws = [(x : Int), (y : Int)] ∧ x ≤ 1000000000 ∧ y ≤ 1000000000 ∧ ∀ S, one S (rawOf 9 ws row) = Ie04.step S (.cell x y) := by
  obtain ⟨a, b, rfl⟩ := len2 hl
  obtain ⟨hin, has⟩ := ok
  obtain ⟨x, hx, st⟩ := asked_step has
  obtain ⟨w, e1, hx⟩ := bind_some hx
  obtain ⟨h, e2, hy⟩ := map_some hx
  have q1 := nat_some e1
  have q2 := nat_some e2
  subst q1 q2 hy
  have hin : ((PyInside.within 0 1000000000 (w : Int) && (PyInside.within 0 1000000000 (h : Int) && true)) && true) = true := hin
  simp only [Bool.and_eq_true, Bool.and_true] at hin
  have i1 := within_le hin.1
  have i2 := within_le hin.2
  exact ⟨w, h, rfl, by omega, by omega, st⟩
theorem c_both {ws row : List Int} (ok : CallOk (rawOf 10 ws row)) (hl : ws.length = nW 10) :
    ∃ (a b c d : Nat) (m : List Int), ws = [(a : Int), (b : Int)] ∧ a ≤ 1000000000 ∧ b ≤ 1000000000 ∧ row.length ≤ 120 ∧ a * b + 2 ≤ row.length ∧ row = row.take (a * b) ++ (c : Int) :: (d : Int) :: m ∧ c ≤ 1000000000 ∧ d ≤ 1000000000 ∧
      ∀ S, one S (rawOf 10 ws row) = Ie04.step S (.both ⟨a, b, row.take (a * b)⟩ ⟨c, d, m⟩) := by
  obtain ⟨a, b, rfl⟩ := len2 hl
  obtain ⟨hin, has⟩ := ok
  obtain ⟨x, hx, st⟩ := asked_step has
  obtain ⟨w, e1, hx⟩ := bind_some hx
  obtain ⟨h, e2, hx⟩ := bind_some hx
  have q1 := nat_some e1
  have q2 := nat_some e2
  subst q1 q2
  have hin : ((PyInside.within 0 1000000000 (w : Int) && (PyInside.within 0 1000000000 (h : Int) && true)) && (decide (2 ≤ row.length) && decide (row.length ≤ 120) && row.all (PyInside.within (-1000000000) 1000000000) && true)) = true := hin
  simp only [Bool.and_eq_true, Bool.and_true, decide_eq_true_eq] at hin
  obtain ⟨⟨i1, i2⟩, ⟨⟨_, i3⟩, i4⟩⟩ := hin
  have i1 := within_le i1
  have i2 := within_le i2
  have hx : (match row.drop (w * h) with
    | c :: d :: m => (Ie04Neutral.nat c).bind fun c => (Ie04Neutral.nat d).map fun d => Ie04.Call.both ⟨w, h, row.take (w * h)⟩ ⟨c, d, m⟩
    | _ => none) = some x := hx
  match ed : row.drop (w * h), hx with
  | c :: d :: m, hx =>
    obtain ⟨c', e3, hx⟩ := bind_some hx
    obtain ⟨d', e4, hy⟩ := map_some hx
    have q3 := nat_some e3
    have q4 := nat_some e4
    subst q3 q4 hy
    have split : row = row.take (w * h) ++ (c' : Int) :: (d' : Int) :: m := by
      rw [← ed, List.take_append_drop]
    have inr : ∀ z ∈ row, PyInside.within (-1000000000) 1000000000 z = true := List.all_eq_true.mp i4
    have j1 := within_le (inr (c' : Int) (by rw [split]; simp))
    have j2 := within_le (inr (d' : Int) (by rw [split]; simp))
    have hlen : (row.drop (w * h)).length = m.length + 2 := by rw [ed]; rfl
    rw [List.length_drop] at hlen
    exact ⟨w, h, c', d', m, rfl, by omega, by omega, i3, by omega, split, by omega, by omega, st⟩
theorem c_part {ws row : List Int} (ok : CallOk (rawOf 11 ws row)) (hl : ws.length = nW 11) :
    ∃ w h : Nat, ws = [(w : Int), (h : Int)] ∧ w ≤ 1000000000 ∧ h ≤ 1000000000 ∧ row.length ≤ 60 ∧ ∀ S, one S (rawOf 11 ws row) = Ie04.step S (.parted ⟨w, h, row⟩) := by
  obtain ⟨a, b, rfl⟩ := len2 hl
  obtain ⟨hin, has⟩ := ok
  obtain ⟨x, hx, st⟩ := asked_step has
  obtain ⟨w, e1, hx⟩ := bind_some hx
  obtain ⟨h, e2, hy⟩ := map_some hx
  have q1 := nat_some e1
  have q2 := nat_some e2
  subst q1 q2 hy
  have hin : ((PyInside.within 0 1000000000 (w : Int) && (PyInside.within 0 1000000000 (h : Int) && true)) && (decide (0 ≤ row.length) && decide (row.length ≤ 60) && row.all (PyInside.within (-1000000000) 1000000000) && true)) = true := hin
  simp only [Bool.and_eq_true, Bool.and_true, decide_eq_true_eq] at hin
  obtain ⟨⟨i1, i2⟩, ⟨⟨_, i3⟩, _⟩⟩ := hin
  have i1 := within_le i1
  have i2 := within_le i2
  exact ⟨w, h, rfl, by omega, by omega, i3, st⟩
theorem c_told {ws row : List Int} (ok : CallOk (rawOf 12 ws row)) (hl : ws.length = nW 12) : ws = [] ∧ ∀ S, one S (rawOf 12 ws row) = Ie04.step S .told := by
  have e := len0 hl
  subst e
  obtain ⟨x, hx, st⟩ := asked_step ok.asked
  have hx : some Ie04.Call.told = some x := hx
  cases hx
  exact ⟨rfl, st⟩
end Nd

set_option Elab.async false
namespace Nd
open Ie04
/-! ### what is refused -/
def in135 (a : Int) : Bool := (1 == a) || ((3 == a) || ((5 == a) || false))
theorem in135_is (a : Nat) : in135 (a : Int) = (decide (a % 2 = 1) && decide (a ≤ 5)) := by
  have h : a = 0 ∨ a = 1 ∨ a = 2 ∨ a = 3 ∨ a = 4 ∨ a = 5 ∨ 5 < a := by omega
  rcases h with rfl | rfl | rfl | rfl | rfl | rfl | h
  · decide
  · decide
  · decide
  · decide
  · decide
  · decide
  · have e : decide (a ≤ 5) = false := decide_eq_false (by omega)
    rw [e, Bool.and_false]
    unfold in135
    simp only [Bool.or_false, Bool.or_eq_false_iff, beq_eq_false_iff_ne]
    omega
theorem isW_is (k : Weights) : isWeights k = (in135 (k.a : Int) && (in135 (k.b : Int) && (decide (k.l.length = k.a * k.b) && k.l.all (nearB 1000)))) := by
  rw [in135_is, in135_is]
  unfold isWeights
  simp only [Bool.and_assoc]
  rfl
def BadPic (w h : Nat) (l : List Int) : Prop := w < 1 ∨ 12 < w ∨ h < 1 ∨ 12 < h ∨ l.length ≠ w * h ∨ (l.all fun x => decide (-65536 ≤ x) && decide (x ≤ 65536)) = false
def BadRank (r n : Nat) : Prop := r < 1 ∨ 2 < r ∨ (2 * r + 1) * (2 * r + 1) ≤ n
instance (r n : Nat) : Decidable (BadRank r n) := by unfold BadRank; infer_instance
instance (w h : Nat) (l : List Int) : Decidable (BadPic w h l) := by unfold BadPic; infer_instance
def picB (w h : Nat) (l : List Int) : Bool := (decide ((1 : Int) ≤ w) && decide ((w : Int) ≤ 12)) && ((decide ((1 : Int) ≤ h) && decide ((h : Int) ≤ 12)) && (decide ((l.length : Int) = (w : Int) * (h : Int)) && l.all (nearB 65536)))
theorem picB_is (w h : Nat) (l : List Int) : picB w h l = !decide (BadPic w h l) := by
  have e : (l.all fun x => decide (-65536 ≤ x) && decide (x ≤ 65536)) = l.all (nearB 65536) := rfl
  have e2 : ((l.length : Int) = (w : Int) * (h : Int)) ↔ l.length = w * h := by
    rw [← Int.natCast_mul]
    exact Int.ofNat_inj
  have key : picB w h l = true ↔ ¬ BadPic w h l := by
    unfold picB BadPic
    rw [e]
    simp only [Bool.and_eq_true, decide_eq_true_eq, e2]
    constructor
    · rintro ⟨⟨a, b⟩, ⟨c, d⟩, g, i⟩ z
      rw [i] at z
      simp only [Bool.true_eq_false, or_false] at z
      omega
    · intro z
      simp only [not_or, Nat.not_lt, ne_eq, Classical.not_not, Bool.not_eq_false] at z
      obtain ⟨z1, z2, z3, z4, z5, z6⟩ := z
      refine ⟨⟨by omega, by omega⟩, ⟨by omega, by omega⟩, z5, z6⟩
  by_cases c : BadPic w h l
  · rw [decide_eq_true c, Bool.not_true]
    exact Bool.eq_false_iff.mpr fun z => key.mp z c
  · rw [decide_eq_false c, Bool.not_false]
    exact key.mpr c
def rankB (r n : Nat) : Bool := (decide ((1 : Int) ≤ r) && decide ((r : Int) ≤ 2)) && (decide ((0 : Int) ≤ n) && decide ((n : Int) ≤ (2 * (r : Int) + 1) * (2 * (r : Int) + 1) - 1))
theorem rankB_is (r n : Nat) : rankB r n = !decide (BadRank r n) := by
  have e : (2 * (r : Int) + 1) * (2 * (r : Int) + 1) = (((2 * r + 1) * (2 * r + 1) : Nat) : Int) := by simp
  have key : rankB r n = true ↔ ¬ BadRank r n := by
    unfold rankB BadRank
    rw [e]
    generalize (2 * r + 1) * (2 * r + 1) = m
    simp only [Bool.and_eq_true, decide_eq_true_eq]
    omega
  by_cases c : BadRank r n
  · rw [decide_eq_true c, Bool.not_true]
    exact Bool.eq_false_iff.mpr fun z => key.mp z c
  · rw [decide_eq_false c, Bool.not_false]
    exact key.mpr c
end Nd

set_option Elab.async false
namespace Nd
open Ie04
/-! ### told: the sum -/
theorem sum_is (l : List Int) : Ie04.sum l = l.sum := by
  induction l with
  | nil => rfl
  | cons x r ih =>
    have e : x :: r = [x] ++ r := rfl
    rw [e, sum_append, sum_one, ih, List.singleton_append, List.sum_cons]
/-! ### both: one cell, all cells -/
def bterm (k m : Weights) (i j u v : Nat) : Int := if u ≤ i ∧ i < u + m.a ∧ v ≤ j ∧ j < v + m.b then k.get u v * m.get (i - u) (j - v) else 0
def bcell (k m : Weights) (i j : Nat) : Int := Ie04.sum (rowsOf k.a (bterm k m i j) k.b)
theorem both_l (k m : Weights) : (Ie04.both k m).l = rowsOf (k.a + m.a - 1) (bcell k m) (k.b + m.b - 1) := rfl
theorem both_a (k m : Weights) : (Ie04.both k m).a = k.a + m.a - 1 := rfl
theorem both_b (k m : Weights) : (Ie04.both k m).b = k.b + m.b - 1 := rfl
/-! ### parted -/
theorem row_length (k : Weights) (j : Nat) : (row k j).length = k.a := by simp [row]
theorem row_at {k : Weights} {i : Nat} (hi : i < k.a) (j : Nat) : (row k j)[i]? = some (k.get i j) := by
  unfold row
  rw [List.getElem?_map, List.getElem?_range hi]
  rfl
/-- a row of weights is a slice of their numbers -/
theorem row_slice {k : Weights} (hl : k.l.length = k.a * k.b) {j : Nat} (hj : j < k.b) : row k j = (k.l.drop (j * k.a)).take k.a := by
  apply List.ext_getElem?
  intro i
  by_cases hi : i < k.a
  · rw [row_at hi, List.getElem?_take, if_pos hi, List.getElem?_drop]
    exact (get_is hl hi hj).symm
  · rw [List.getElem?_eq_none (by rw [row_length]; omega), List.getElem?_take, if_neg hi]
/-- a row all of 0 -/
def zeroRow (k : Weights) (j : Nat) : Bool := !((row k j).any fun x => x != 0)
theorem zeroRow_is {k : Weights} {j : Nat} : zeroRow k j = true ↔ ∀ x ∈ row k j, x = 0 := by
  unfold zeroRow
  simp
theorem parted_zero {k : Weights} (h : ∀ j < k.b, zeroRow k j = true) : parted k = some (List.replicate k.a 0, List.replicate k.b 0) := by
  have e : ((List.range k.b).find? fun j => (row k j).any fun x => x != 0) = none := by
    rw [List.find?_eq_none]
    intro j hj
    have := h j (List.mem_range.mp hj)
    unfold zeroRow at this
    simpa using this
  unfold parted
  rw [e]
/-- the first row that isn't all 0 -/
theorem find_first {k : Weights} {j : Nat} (hj : j < k.b) (hb : ∀ i < j, zeroRow k i = true) (h : zeroRow k j = false) : ((List.range k.b).find? fun j => (row k j).any fun x => x != 0) = some j := by
  rw [List.find?_range_eq_some]
  unfold zeroRow at h hb
  refine ⟨by simpa using h, by simpa using hj, fun i hi => ?_⟩
  have := hb i hi
  simpa using this
/-- the divided row -/
def divRow (k : Weights) (j : Nat) : List Int := (row k j).map fun x => x / ((gcdOf (row k j) : Nat) : Int)
theorem divRow_length (k : Weights) (j : Nat) : (divRow k j).length = k.a := by simp [divRow, row_length]
theorem foldl_gcd_dvd : ∀ (l : List Int) (g : Nat), (l.foldl (fun g x => Nat.gcd g x.natAbs) g) ∣ g ∧ ∀ x ∈ l, (((l.foldl (fun g x => Nat.gcd g x.natAbs) g) : Nat) : Int) ∣ x
  | [], g => ⟨Nat.dvd_refl _, fun x hx => by cases hx⟩
  | y :: l, g => by
    have ih := foldl_gcd_dvd l (Nat.gcd g y.natAbs)
    rw [List.foldl_cons]
    refine ⟨Nat.dvd_trans ih.1 (Nat.gcd_dvd_left _ _), fun x hx => ?_⟩
    cases hx with
    | head => exact Int.ofNat_dvd_left.mpr (Nat.dvd_trans ih.1 (Nat.gcd_dvd_right _ _))
    | tail _ h => exact ih.2 x h
theorem gcdOf_dvd {l : List Int} {x : Int} (h : x ∈ l) : ((gcdOf l : Nat) : Int) ∣ x := (foldl_gcd_dvd l 0).2 x h
theorem gcdOf_pos {l : List Int} (h : ∃ x ∈ l, x ≠ 0) : 0 < gcdOf l := by
  obtain ⟨x, hx, h0⟩ := h
  apply Nat.pos_of_ne_zero
  intro z
  have := gcdOf_dvd hx
  rw [z] at this
  exact h0 (Int.zero_dvd.mp (by simpa using this))
theorem zeroRow_false {k : Weights} {j : Nat} (h : zeroRow k j = false) : ∃ x ∈ row k j, x ≠ 0 := by
  unfold zeroRow at h
  simpa using h
/-- some number of the divided row isn't 0 -/
theorem divRow_some {k : Weights} {j : Nat} (h : zeroRow k j = false) : ∃ x ∈ divRow k j, x ≠ 0 := by
  obtain ⟨x, hx, h0⟩ := zeroRow_false h
  refine ⟨x / ((gcdOf (row k j) : Nat) : Int), List.mem_map.mpr ⟨x, hx, rfl⟩, fun z => ?_⟩
  have := Int.ediv_mul_cancel (gcdOf_dvd hx)
  rw [z] at this
  simp at this
  exact h0 this.symm
/-- the place that the specification takes its column from -/
theorem lead {k : Weights} {j : Nat} (h : zeroRow k j = false) : ∃ i < k.a, ((divRow k j).findIdx? fun x => x != 0).getD 0 = i ∧ (divRow k j).getD i 1 ≠ 0 ∧ (divRow k j)[i]? = some ((divRow k j).getD i 1) := by
  cases e : (divRow k j).findIdx? fun x => x != 0 with
  | none =>
    rw [List.findIdx?_eq_none_iff] at e
    obtain ⟨x, hx, h0⟩ := divRow_some h
    have := e x hx
    simp at this
    exact absurd this h0
  | some i =>
    rw [List.findIdx?_eq_some_iff_getElem] at e
    obtain ⟨hi, h1, _⟩ := e
    have hia := hi
    rw [divRow_length] at hia
    refine ⟨i, hia, rfl, ?_, ?_⟩
    · rw [List.getD_eq_getElem?_getD, List.getElem?_eq_getElem hi]
      simpa using h1
    · rw [List.getD_eq_getElem?_getD, List.getElem?_eq_getElem hi]
      rfl
/-- what the specification says behind the first row that isn't all 0 -/
theorem parted_from {k : Weights} {j : Nat} (hj : j < k.b) (hb : ∀ i < j, zeroRow k i = true) (h : zeroRow k j = false) {i : Nat} (hi : ((divRow k j).findIdx? fun x => x != 0).getD 0 = i) :
    parted k = if ((List.range k.b).all fun y => row k y == (divRow k j).map fun x => x * ((List.range k.b).map fun y => k.get i y / (divRow k j).getD i 1).getD y 0) = true then some (divRow k j, (List.range k.b).map fun y => k.get i y / (divRow k j).getD i 1) else none := by
  subst hi
  unfold parted
  rw [find_first hj hb h]
  rfl
/-- it can be parted: the column is the one of how many times each row is -/
theorem parted_some {k : Weights} {j : Nat} (hj : j < k.b) (hb : ∀ i < j, zeroRow k i = true) (h : zeroRow k j = false) {c : List Int} (hc : c.length = k.b) (ht : ∀ y t, c[y]? = some t → row k y = (divRow k j).map fun x => x * t) :
    parted k = some (divRow k j, c) := by
  obtain ⟨i, hi, e, h0, hat⟩ := lead h
  have col : (List.range k.b).map (fun y => k.get i y / (divRow k j).getD i 1) = c := by
    apply List.ext_getElem?
    intro y
    by_cases hy : y < k.b
    · rw [List.getElem?_map, List.getElem?_range hy]
      have hcy : c[y]? = some (c[y]'(by omega)) := List.getElem?_eq_getElem _
      rw [hcy]
      have hr := ht y _ hcy
      have hg : (row k y)[i]? = some (k.get i y) := row_at hi y
      rw [hr, List.getElem?_map, hat] at hg
      have hg := Option.some.inj hg
      show some (k.get i y / (divRow k j).getD i 1) = _
      rw [← hg, Int.mul_ediv_cancel_left _ h0]
    · rw [List.getElem?_eq_none (by simp; omega), List.getElem?_eq_none (by omega)]
  rw [parted_from hj hb h e, col, if_pos]
  rw [List.all_eq_true]
  intro y hy
  have hy := List.mem_range.mp hy
  have hcy : c[y]? = some (c[y]'(by omega)) := List.getElem?_eq_getElem _
  rw [List.getD_eq_getElem?_getD, hcy]
  exact beq_iff_eq.mpr (ht y _ hcy)
/-- it can't: some row isn't a whole number of times the divided row -/
theorem parted_none {k : Weights} {j : Nat} (hj : j < k.b) (hb : ∀ i < j, zeroRow k i = true) (h : zeroRow k j = false) {y : Nat} (hy : y < k.b) (hn : ∀ t : Int, row k y ≠ (divRow k j).map fun x => x * t) : parted k = none := by
  obtain ⟨i, hi, e, h0, hat⟩ := lead h
  rw [parted_from hj hb h e, if_neg]
  rw [List.all_eq_true]
  intro z
  exact hn _ (beq_iff_eq.mp (z y (List.mem_range.mpr hy)))
end Nd

set_option Elab.async false
namespace Nd
open Ie04
/-! ### rows by one place -/
theorem rowsOf_map {A : Type} {w : Nat} (hw : 0 < w) (f : Nat → Nat → A) : ∀ h, rowsOf w f h = (List.range (h * w)).map fun t => f (t % w) (t / w)
  | 0 => by simp [rowsOf_zero]
  | h + 1 => by
    rw [rowsOf_succ, rowsOf_map hw f h, Nat.succ_mul, List.range_add, List.map_append, List.map_map]
    congr 1
    unfold partOf
    apply List.map_congr_left
    intro x hx
    have hx := List.mem_range.mp hx
    show f x h = f ((h * w + x) % w) ((h * w + x) / w)
    rw [Nat.mul_comm h w, Nat.mul_add_mod, Nat.mod_eq_of_lt hx, Nat.mul_add_div hw, Nat.div_eq_of_lt hx, Nat.add_zero]
theorem rowsOf_get {A : Type} {w h t : Nat} (hw : 0 < w) (f : Nat → Nat → A) (ht : t < h * w) : (rowsOf w f h)[t]? = some (f (t % w) (t / w)) := by
  rw [rowsOf_map hw, List.getElem?_map, List.getElem?_range ht]
  rfl
theorem rowsOf_ext {A : Type} {w h : Nat} (hw : 0 < w) {f g : Nat → Nat → A} (e : ∀ i < w, ∀ j < h, f i j = g i j) : rowsOf w f h = rowsOf w g h := by
  rw [rowsOf_map hw, rowsOf_map hw]
  apply List.map_congr_left
  intro t ht
  exact e _ (Nat.mod_lt _ hw) _ (Nat.div_lt_of_lt_mul (by rw [Nat.mul_comm]; exact List.mem_range.mp ht))
/-! ### both, as the program gathers it -/
def bO (k m : Weights) (n i j : Nat) : Int := Ie04.sum ((List.range n).map fun p => bterm k m i j (p % k.a) (p / k.a))
def bI (k m : Weights) (n q i j : Nat) : Int :=
  if (n % k.a ≤ i ∧ i < n % k.a + m.a ∧ n / k.a ≤ j ∧ j < n / k.a + m.b) ∧ (j - n / k.a) * m.a + (i - n % k.a) < q then k.l.getD n 0 * m.l.getD ((j - n / k.a) * m.a + (i - n % k.a)) 0 else 0
def bS (k m : Weights) (n q : Nat) : List Int := rowsOf (k.a + m.a - 1) (fun i j => bO k m n i j + bI k m n q i j) (k.b + m.b - 1)
structure Sized (k : Weights) : Prop where
  a : 0 < k.a
  b : 0 < k.b
  len : k.l.length = k.a * k.b
theorem bS_length (k m : Weights) (n q : Nat) : (bS k m n q).length = (k.b + m.b - 1) * (k.a + m.a - 1) := rowsOf_length _ _ _
theorem bI_zero (k m : Weights) (n i j : Nat) : bI k m n 0 i j = 0 := if_neg (fun z => Nat.not_lt_zero _ z.2)
theorem bS_start {k m : Weights} (hk : Sized k) (hm : Sized m) : bS k m 0 0 = List.replicate ((k.a + m.a - 1) * (k.b + m.b - 1)) 0 := by
  have hA : 0 < k.a + m.a - 1 := by have := hk.a; have := hm.a; omega
  unfold bS
  rw [rowsOf_map hA, Nat.mul_comm]
  apply List.ext_getElem?
  intro t
  by_cases ht : t < (k.a + m.a - 1) * (k.b + m.b - 1)
  · rw [List.getElem?_map, List.getElem?_range ht, List.getElem?_replicate, if_pos ht]
    show some (bO k m 0 _ _ + bI k m 0 0 _ _) = some 0
    rw [bI_zero]
    rfl
  · rw [List.getElem?_eq_none (by simp; omega), List.getElem?_eq_none (by simp; omega)]
theorem bO_succ (k m : Weights) (n i j : Nat) : bO k m (n + 1) i j = bO k m n i j + bterm k m i j (n % k.a) (n / k.a) := by
  unfold bO
  rw [List.range_succ, List.map_append, sum_append]
  exact congrArg _ (sum_one _)
theorem bS_next {k m : Weights} (hk : Sized k) (hm : Sized m) {n : Nat} : bS k m n (m.a * m.b) = bS k m (n + 1) 0 := by
  have hA : 0 < k.a + m.a - 1 := by have := hk.a; have := hm.a; omega
  unfold bS
  refine rowsOf_ext hA fun i hi j hj => ?_
  rw [bI_zero, bO_succ, Int.add_zero]
  congr 1
  unfold bI bterm
  by_cases c : n % k.a ≤ i ∧ i < n % k.a + m.a ∧ n / k.a ≤ j ∧ j < n / k.a + m.b
  · have lt : (j - n / k.a) * m.a + (i - n % k.a) < m.a * m.b := by
      have h1 : j - n / k.a + 1 ≤ m.b := by omega
      have h2 : (j - n / k.a + 1) * m.a ≤ m.b * m.a := Nat.mul_le_mul_right _ h1
      rw [Nat.succ_mul, Nat.mul_comm m.b] at h2
      omega
    rw [if_pos ⟨c, lt⟩, if_pos c]
    congr 1
    unfold Weights.get
    congr 1
    rw [Nat.mul_comm]
    exact (Nat.div_add_mod n k.a).symm
  · rw [if_neg (fun z => c z.1), if_neg c]
theorem bS_end {k m : Weights} (hk : Sized k) (hm : Sized m) : bS k m (k.a * k.b) 0 = (Ie04.both k m).l := by
  have hA : 0 < k.a + m.a - 1 := by have := hk.a; have := hm.a; omega
  rw [both_l]
  unfold bS
  refine rowsOf_ext hA fun i _ j _ => ?_
  rw [bI_zero, Int.add_zero]
  unfold bO bcell
  rw [rowsOf_map hk.a, Nat.mul_comm]
/-- the place that a pair of weights goes to -/
def bAt (k m : Weights) (n q : Nat) : Nat := (n / k.a + q / m.a) * (k.a + m.a - 1) + (n % k.a + q % m.a)
theorem bAt_ok {k m : Weights} (hk : Sized k) (hm : Sized m) {n q : Nat} (hn : n < k.a * k.b) (hq : q < m.a * m.b) :
    n % k.a + q % m.a < k.a + m.a - 1 ∧ n / k.a + q / m.a < k.b + m.b - 1 := by
  have h1 := Nat.mod_lt n hk.a
  have h2 := Nat.mod_lt q hm.a
  have h3 : n / k.a < k.b := Nat.div_lt_of_lt_mul hn
  have h4 : q / m.a < m.b := Nat.div_lt_of_lt_mul hq
  omega
theorem mul_add_lt {j i w h : Nat} (hi : i < w) (hj : j < h) : j * w + i < h * w := by
  have h2 : (j + 1) * w ≤ h * w := Nat.mul_le_mul_right _ hj
  rw [Nat.succ_mul] at h2
  omega
theorem bAt_lt {k m : Weights} (hk : Sized k) (hm : Sized m) {n q : Nat} (hn : n < k.a * k.b) (hq : q < m.a * m.b) : bAt k m n q < (k.b + m.b - 1) * (k.a + m.a - 1) :=
  mul_add_lt (bAt_ok hk hm hn hq).1 (bAt_ok hk hm hn hq).2
theorem split_at {w i j : Nat} (hi : i < w) : (j * w + i) % w = i ∧ (j * w + i) / w = j := by
  have hw : 0 < w := by omega
  rw [Nat.mul_comm j w, Nat.mul_add_mod, Nat.mod_eq_of_lt hi, Nat.mul_add_div hw, Nat.div_eq_of_lt hi]
  exact ⟨rfl, rfl⟩
/-- one pair is added -/
theorem bS_step {k m : Weights} (hk : Sized k) (hm : Sized m) {n q : Nat} (hn : n < k.a * k.b) (hq : q < m.a * m.b) {x y z : Int} (hx : k.l[n]? = some x) (hy : m.l[q]? = some y) (hz : (bS k m n q)[bAt k m n q]? = some z) :
    (bS k m n q).set (bAt k m n q) (z + x * y) = bS k m n (q + 1) := by
  have hA : 0 < k.a + m.a - 1 := by have := hk.a; have := hm.a; omega
  have ok := bAt_ok hk hm hn hq
  have hlt := bAt_lt hk hm hn hq
  have sp := split_at (j := n / k.a + q / m.a) ok.1
  have qm := Nat.mod_lt q hm.a
  apply List.ext_getElem?
  intro t
  by_cases ht : t < (k.b + m.b - 1) * (k.a + m.a - 1)
  · by_cases e : t = bAt k m n q
    · subst e
      rw [List.getElem?_set_self (by rw [bS_length]; exact hlt)]
      unfold bS at hz ⊢
      rw [rowsOf_get hA _ hlt] at hz ⊢
      have hz := Option.some.inj hz
      rw [← hz]
      unfold bAt
      rw [sp.1, sp.2]
      congr 1
      rw [Int.add_assoc]
      congr 1
      have e1 : (n / k.a + q / m.a - n / k.a) * m.a + (n % k.a + q % m.a - n % k.a) = q := by
        rw [Nat.add_sub_cancel_left, Nat.add_sub_cancel_left, Nat.mul_comm]
        exact Nat.div_add_mod q m.a
      have q4 : q / m.a < m.b := Nat.div_lt_of_lt_mul hq
      unfold bI
      rw [e1, if_neg (fun z => Nat.lt_irrefl _ z.2), if_pos ⟨⟨Nat.le_add_right _ _, Nat.add_lt_add_left qm _, Nat.le_add_right _ _, Nat.add_lt_add_left q4 _⟩, Nat.lt_succ_self _⟩, List.getD_eq_getElem?_getD, List.getD_eq_getElem?_getD, hx, hy]
      simp
    · rw [List.getElem?_set_ne (fun z => e z.symm)]
      unfold bS
      rw [rowsOf_get hA _ ht, rowsOf_get hA _ ht]
      congr 2
      unfold bI
      have hi := Nat.mod_lt t hA
      have e2 : t = (t / (k.a + m.a - 1)) * (k.a + m.a - 1) + t % (k.a + m.a - 1) := by
        rw [Nat.mul_comm]
        exact (Nat.div_add_mod t _).symm
      generalize t % (k.a + m.a - 1) = i at *
      generalize t / (k.a + m.a - 1) = j at *
      by_cases c : n % k.a ≤ i ∧ i < n % k.a + m.a ∧ n / k.a ≤ j ∧ j < n / k.a + m.b
      · have ne : (j - n / k.a) * m.a + (i - n % k.a) ≠ q := fun z => by
          have s2 := split_at (w := m.a) (i := i - n % k.a) (j := j - n / k.a) (by omega)
          rw [z] at s2
          apply e
          unfold bAt
          rw [s2.1, s2.2, e2]
          have f1 : n / k.a + (j - n / k.a) = j := by omega
          have f2 : n % k.a + (i - n % k.a) = i := by omega
          rw [f1, f2]
        by_cases l : (j - n / k.a) * m.a + (i - n % k.a) < q
        · rw [if_pos ⟨c, l⟩, if_pos ⟨c, by omega⟩]
        · rw [if_neg (fun z => l z.2), if_neg (fun z => l (by have := z.2; omega))]
      · rw [if_neg (fun z => c z.1), if_neg (fun z => c z.1)]
  · rw [List.getElem?_eq_none (by rw [List.length_set, bS_length]; omega), List.getElem?_eq_none (by rw [bS_length]; omega)]
theorem bS_at {k m : Weights} (hk : Sized k) (hm : Sized m) {n q : Nat} (hn : n < k.a * k.b) (hq : q < m.a * m.b) : ∃ z, (bS k m n q)[bAt k m n q]? = some z :=
  ⟨_, List.getElem?_eq_getElem (by rw [bS_length]; exact bAt_lt hk hm hn hq)⟩
/-! ### the greatest common divisor -/
theorem fmod_nat (a b : Nat) : Int.fmod (a : Int) (b : Int) = ((a % b : Nat) : Int) := by
  rw [Int.fmod_eq_emod_of_nonneg _ (by omega)]
  rfl
theorem fdiv_nat (a b : Nat) : Int.fdiv (a : Int) (b : Int) = ((a / b : Nat) : Int) := by
  rw [Int.fdiv_eq_ediv_of_nonneg _ (by omega)]
  rfl
theorem gcd_next (a b : Nat) : Nat.gcd b (a % b) = Nat.gcd a b := by
  rw [Nat.gcd_comm a b, Nat.gcd_rec b a, Nat.gcd_comm]
theorem abs_is (x : Int) : (if x < 0 then -x else x) = ((x.natAbs : Nat) : Int) := by
  split <;> omega
def gTo (l : List Int) (i : Nat) : Nat := gcdOf (l.take i)
theorem gTo_succ {l : List Int} {i : Nat} {x : Int} (h : l[i]? = some x) : gTo l (i + 1) = Nat.gcd (gTo l i) x.natAbs := by
  unfold gTo gcdOf
  rw [List.take_add_one, h]
  simp
theorem gTo_all (l : List Int) : gTo l l.length = gcdOf l := by
  unfold gTo
  rw [List.take_length]
theorem gcdOf_le {l : List Int} {x : Int} (h : x ∈ l) (h0 : x ≠ 0) : gcdOf l ≤ x.natAbs := by
  have d := gcdOf_dvd h
  exact Nat.le_of_dvd (by omega) (Int.ofNat_dvd_left.mp d)
theorem div_small {x : Int} {g : Nat} : (x / (g : Int)).natAbs ≤ x.natAbs := by
  exact Int.natAbs_ediv_le_natAbs x g
/-! ### how many times -/
def TimesOf (u r : List Int) (t : Int) : Prop := r = u.map fun x => x * t
theorem times_lead {u r : List Int} {t : Int} (h : TimesOf u r t) {i : Nat} {a b : Int} (ha : u[i]? = some a) (hb : r[i]? = some b) (h0 : a ≠ 0) : b.fdiv a = t := by
  unfold TimesOf at h
  rw [h, List.getElem?_map, ha] at hb
  have hb := Option.some.inj hb
  rw [← hb, Int.mul_fdiv_cancel_left _ h0]
theorem times_map (u : List Int) (t : Int) : (u.map fun x => t * x) = u.map fun x => x * t := by
  apply List.map_congr_left
  intro x _
  exact Int.mul_comm _ _
end Nd

set_option Elab.async false
set_option maxRecDepth 100000
set_option maxHeartbeats 2000000
/-! The text by places; what is common to all defs. -/
namespace Nd
open PySem L2
def top (i : Nat) : Stmt := PySem.Challenge.pw_neighboursdesk_s01_answers.main.body.getD i (.Pass ⟨0, 0, 0, 0⟩)
abbrev sGInit : Stmt := inClass (top 1) 0
abbrev sPlace : Stmt := top 2
abbrev sNumAt : Stmt := top 3
abbrev sWCell : Stmt := top 5
abbrev sWeighed : Stmt := top 6
abbrev sRCell : Stmt := top 7
abbrev sRanked : Stmt := top 8
abbrev sDivided : Stmt := top 9
abbrev sDivMoved : Stmt := top 10
abbrev sHeld : Stmt := top 11
abbrev sMixed : Stmt := top 12
abbrev sBothOf : Stmt := top 14
abbrev sCd2 : Stmt := top 15
abbrev sCd : Stmt := top 16
abbrev sRowsOf : Stmt := top 17
abbrev sTimes : Stmt := top 18
abbrev sParted : Stmt := top 19
abbrev sIsFrom : Stmt := top 27
abbrev sAllNear : Stmt := top 28
abbrev sIsPic : Stmt := top 29
abbrev sIsOut : Stmt := top 30
abbrev sAreW : Stmt := top 31
abbrev sIsRank : Stmt := top 32
abbrev sDInit : Stmt := inClass (top 33) 0
abbrev sShow : Stmt := inClass (top 33) 1
abbrev sChange : Stmt := inClass (top 33) 2
abbrev sWeigh : Stmt := inClass (top 33) 3
abbrev sRank : Stmt := inClass (top 33) 4
abbrev sBy : Stmt := inClass (top 33) 5
abbrev sHold : Stmt := inClass (top 33) 6
abbrev sPut : Stmt := inClass (top 33) 7
abbrev sMix : Stmt := inClass (top 33) 8
abbrev sUndo : Stmt := inClass (top 33) 9
abbrev sNow : Stmt := inClass (top 33) 10
abbrev sCell : Stmt := inClass (top 33) 11
abbrev sBoth : Stmt := inClass (top 33) 12
abbrev sPart : Stmt := inClass (top 33) 13
abbrev sTold : Stmt := inClass (top 33) 14
abbrev sRInit : Stmt := inClass (top 35) 0
abbrev sIsDone : Stmt := inClass (top 35) 1
abbrev sTakeS : Stmt := inClass (top 35) 2
abbrev sTakeO : Stmt := inClass (top 35) 3
abbrev sTakeR : Stmt := inClass (top 35) 4
abbrev sAnsBoth : Stmt := top 39
abbrev sAnsQ : Stmt := top 40
abbrev sAnswer : Stmt := top 41
abbrev sAnswers : Stmt := top 42
/-- a def that callers may call by its name -/
structure Def (P : Program) (w : World) (K : PySem.W.Frag) (mg : Str → Option Value) (base : Heap) (k : Nat) (x : Str) (ps : List Str) (sp : Sp) : Prop where
  ex : ∃ (f : Addr) (fd : FuncData), FnOk P w K mg base CX0 k f fd ps sp ∧ mg x = some (.ref f) ∧ PySem.W.keepIn K (.ref f) = true ∧ Binds K fd ps []
/-- a method of the class at C -/
structure Mth (P : Program) (w : World) (K : PySem.W.Frag) (mg : Str → Option Value) (base : Heap) (k : Nat) (C : Addr) (x : Str) (ps : List Str) (sp : Sp) : Prop where
  ex : ∃ (f : Addr) (fd : FuncData), FnOk P w K mg base CX0 k f fd ps sp ∧ Meth K C x f ∧ Binds K fd ps []
/-- an if whose test is known -/
theorem ifT {c : Bool} {A B : Prop} (hc : c = true) (h : A) : if c = true then A else B := by
  rw [if_pos hc]
  exact h
theorem ifF {c : Bool} {A B : Prop} (hc : c = false) (h : B) : if c = true then A else B := by
  rw [hc, if_neg Bool.false_ne_true]
  exact h
theorem ifD {c : Prop} [Decidable c] {A B : Prop} (h1 : c → A) (h2 : ¬ c → B) : if decide c = true then A else B := by
  by_cases h : c
  · exact ifT (decide_eq_true h) (h1 h)
  · exact ifF (decide_eq_false h) (h2 h)
/-! ### the heap: how a grid lies in it -/
theorem lk_here {k : Str} {v : V} {r : List (Str × V)} : List.lookup k ((k, v) :: r) = some v := by
  have e : (k == k) = true := beq_self_eq_true k
  simp only [List.lookup, e]
theorem lk_past {k g : Str} {v : V} {r : List (Str × V)} (h : (k == g) = false) : List.lookup k ((g, v) :: r) = List.lookup k r := by
  simp only [List.lookup, h]
theorem put_here {f : Str} {v x : V} {r : List (Str × V)} : putF f v ((f, x) :: r) = (f, v) :: r := if_pos rfl
theorem put_past {f g : Str} {v x : V} {r : List (Str × V)} (h : ¬ g = f) : putF f v ((g, x) :: r) = (g, x) :: putF f v r := if_neg h
def gF (a b : Int) (l : Addr) : List (Str × V) := [("columns", .int a), ("rows", .int b), ("numbers", .ref l)]
theorem gF_columns (a b : Int) (l : Addr) : (gF a b l).lookup ("columns" : Str) = some (.int a) := lk_here
theorem gF_rows (a b : Int) (l : Addr) : (gF a b l).lookup ("rows" : Str) = some (.int b) := (lk_past (by decide +kernel)).trans lk_here
theorem gF_numbers (a b : Int) (l : Addr) : (gF a b l).lookup ("numbers" : Str) = some (.ref l) := (lk_past (by decide +kernel)).trans ((lk_past (by decide +kernel)).trans lk_here)
/-- a grid at a: so many columns and rows, its numbers -/
def GridAt (C : Addr) (H : Hp) (a : Addr) (w h : Int) (v : List Int) : Prop := ∃ dx l, H a = some (.ins C dx (gF w h l)) ∧ H l = some (.lst (v.map V.int))
theorem GridAt.same {C a : Addr} {H H' : Hp} {w h : Int} {v : List Int} (g : GridAt C H a w h v) (s : Same H H') : GridAt C H' a w h v := by
  obtain ⟨dx, l, h1, h2⟩ := g
  exact ⟨dx, l, s _ _ h1, s _ _ h2⟩
/-- what the top has written of the class Grid -/
structure GTxt (K : PySem.W.Frag) (C : Addr) : Prop where
  cl : Cls K C
  nC : NoAttr K C "columns"
  nR : NoAttr K C "rows"
  nN : NoAttr K C "numbers"
/-- the built-in names that the program uses stand as they are -/
structure BTxt (mg : Str → Option Value) : Prop where
  range : mg "range" = none
  len : mg "len" = none
  sorted : mg "sorted" = none
  min : mg "min" = none
  max : mg "max" = none
  all : mg "all" = none
  zip : mg "zip" = none
  enumerate : mg "enumerate" = none
  abs : mg "abs" = none
  any : mg "any" = none
  sum : mg "sum" = none
/-- weights that are told so -/
structure WOk (k : Ie04.Weights) : Prop where
  a1 : k.a % 2 = 1
  a5 : k.a ≤ 5
  b1 : k.b % 2 = 1
  b5 : k.b ≤ 5
  len : k.l.length = k.a * k.b
  bnd : ∀ x ∈ k.l, -1000 ≤ x ∧ x ≤ 1000
theorem same_new {H : Hp} {p : Addr} {o : HO} (h : H p = none) : Same H (upd H p o) := fun b u e => by
  rw [upd_ne (ne_of_none e h)]
  exact e
theorem map_at {ns : List Int} {i : Nat} {y : V} (h : (ns.map V.int)[i]? = some y) : ∃ z, ns[i]? = some z ∧ y = V.int z := by
  rw [List.getElem?_map] at h
  cases e : ns[i]? with
  | none =>
    rw [e] at h
    cases h
  | some z =>
    rw [e] at h
    exact ⟨z, rfl, (Option.some.inj h).symm⟩
theorem at_map {ns : List Int} {i : Nat} {z : Int} (h : ns[i]? = some z) : (ns.map V.int)[i]? = some (V.int z) := by
  rw [List.getElem?_map, h]
  rfl
end Nd

set_option Elab.async false
set_option maxRecDepth 100000
set_option maxHeartbeats 2000000
/-! Two rules of my own: == with an empty list, any of a list of whole numbers. -/
namespace Nd
open PySem L2 PySem.Spec PyProof.Rows
section
variable {X : Cx}
def rEqNil (K : PySem.W.Frag) : R2 := fun x y H Q => ∃ a b xs, x = V.ref a ∧ y = V.ref b ∧ SqL K H a xs ∧ SqL K H b [] ∧ Q (.bl xs.isEmpty) H
theorem op_eqNil (hu : X.A.units < cLine) : OpR X (compareOp .Eq) (rEqNil X.K) := by
  intro pins s σ H x y v u Q I rx ry h
  obtain ⟨a, b, xs, e1, e2, ha, hb, q⟩ := h
  subst e1 e2
  cases (show v = Value.ref a from rx)
  cases (show u = Value.ref b from ry)
  obtain ⟨us, r1, p1, _⟩ := I.list ha
  obtain ⟨ws, r2, p2, _⟩ := I.list hb
  cases r2
  cases xs with
  | nil =>
    cases r1
    exact SeqAt.eq_listAt (e := fun _ => true) p1.isList p2.isList rfl hu (fun j z => absurd z (Nat.not_lt_zero j)) ⟨.bl true, H, I, rfl, q⟩
  | cons z zs =>
    cases r1
    exact SeqAt.eq_list_lengthsAt p1.isList p2.isList rfl hu ⟨.bl false, H, I, rfl, q⟩
theorem truth_ints {P : Program} {w : World} {A : Around} {ns : List Int} {its : List Value} (r : Vals (ns.map V.int) its) : TruthOf P w A (fun i v => its.toArray[i]? = some v) (fun i => ns.getD i 0 != 0) := fun i v s Q E hv hq => by
  have hv : its[i]? = some v := by simpa using hv
  have hi : i < ns.length := by
    have h1 := (List.getElem?_eq_some_iff.mp hv).1
    have h2 := r.length
    rw [List.length_map] at h2
    omega
  have hn : ns[i]? = some ns[i] := List.getElem?_eq_getElem hi
  obtain ⟨u, hu, ru⟩ := r.get (at_map hn)
  rw [hv] at hu
  cases hu
  obtain ⟨t, rfl⟩ := ru
  have hq : Q (ns.getD i 0 != 0) s := hq
  rw [List.getD_eq_getElem?_getD, hn] at hq
  exact truthy_int hq
theorem any_rangeI : ∀ ns : List Int, (List.range ns.length).any (fun i => ns.getD i 0 != 0) = ns.any fun x => x != 0
  | [] => rfl
  | x :: r => by
    have ih := any_rangeI r
    rw [List.length_cons, List.range_succ_eq_map, List.any_cons, List.any_map, List.any_cons, ← ih]
    rfl
def rAnyI (K : PySem.W.Frag) : List V → Hp → VK → Prop := fun vs H Q => ∃ (a : Addr) (ns : List Int), vs = [V.ref a] ∧ SqL K H a (ns.map V.int) ∧ Q (.bl (ns.any fun x => x != 0)) H
theorem cr_anyI (hc : X.calm = true) : CallR X (.builtin "any") (rAnyI X.K) := by
  intro pins s σ H vs us Q I r h
  obtain ⟨a, ns, e, hs, q⟩ := h
  subst e
  obtain ⟨its, rv, hl, _⟩ := I.list hs
  have hlen := rv.length
  rw [List.length_map] at hlen
  rw [Vals.ref1 r]
  refine call_any_walk (iter_any hl.isList fun s2 es st hne => ?_)
  subst es
  refine ⟨_, _, _, _, _, _, _, rfl, Walks.list (A := X.A.in1) (I.ok.hd hc) _ a hne its.toArray, st, truth_ints rv, fun h2 tk hk => ⟨.bl _, H, I.kept fun b o eo => hk b o (fun hm => ?_) (Heap.get?_push_of_some _ eo), ?_, q⟩⟩
  · have eb := List.mem_singleton.mp hm
    rw [eb] at eo
    exact Nat.lt_irrefl _ (Heap.lt_size eo)
  · show Value.bool _ = Value.bool _
    rw [← any_rangeI, hlen, List.size_toArray]
end
end Nd

set_option Elab.async false
set_option maxRecDepth 100000
set_option maxHeartbeats 2000000
/-! The defs of the grid and of the changes: each keeps its promise. -/
namespace Nd
open PySem L2
section
variable {P : Program} {w : World} {K : PySem.W.Frag} {mg : Str → Option Value} {base : Heap}
def spPlace : Sp := fun vs H Q _ => ∃ (o n i : Int), vs = [.int o, .int n, .int i] ∧ 1 ≤ n ∧ Q (.int (placeI o n i)) H
theorem scPlace : FnScope ["outside", "length", "place", "turned"] ["outside", "length", "place"] (defScope sPlace) := ⟨rfl, rfl, rfl, by decide +kernel, rfl, by decide +kernel, by decide +kernel⟩
theorem ok_place {f : Addr} {fd : FuncData} (F : Fun K "place_in_line" "place_in_line" sPlace f fd) : FnOk P w K mg base CX0 1 f fd ["outside", "length", "place"] spPlace := by
  refine F.ok scPlace (fun vs H Q E h => ?_) (fun cdv A outer s H vs Q E hr h => ?_)
  · obtain ⟨o, n, i, rfl, _⟩ := h
    rfl
  · obtain ⟨o, n, i, rfl, hn, k⟩ := h
    refine ⟨_, pss_cons (ps_if (PW.pt (pw_and (pt_cmpR op_ge (pv 2) pe_int (nomark _)) (pw_and1 (pt_cmpR op_lt (pv 2) (pv 1) (nomark _))))) (pss_one (ps_ret (pv 2))) pss_nil)
      (pss_cons (ps_if (pt_cmpR op_eq (pv 0) pe_int (nomark _)) (pss_one (ps_ret (pe_un un_neg pe_int))) pss_nil)
      (pss_cons (ps_if (pt_cmpR op_eq (pv 0) pe_int (nomark _)) (pss_one (ps_ret (pe_ifExp (pt_cmpR op_lt (pv 2) pe_int (nomark _)) pe_int (pe_op op_sub (pv 1) pe_int)))) pss_nil)
      (pss_cons (ps_if (pt_cmpR op_eq (pv 0) pe_int (nomark _)) (pss_cons (ps_set (i := 3) scPlace.nd rfl (Or.inl rfl) (pe_op op_modN (pv 2) (pe_op op_mul pe_int (pv 1))))
        (pss_one (ps_ret (pe_ifExp (pt_cmpR op_lt (pv 3) (pv 1) (nomark _)) (pv 3) (pe_op op_sub (pe_op op_sub (pe_op op_mul pe_int (pv 1)) pe_int) (pv 3)))))) pss_nil)
      (pss_one (ps_ret (pe_op op_modN (pv 2) (pv 1))))))), ?_⟩
    have out : ∀ c : ¬ (0 ≤ i ∧ i < n), tSeq
        (tIfS (tTest (tOp rEq (tVar 0) (tC (V.int 0)))) (tRet (tUn (rU fun i => V.int (-i)) (tC (V.int 1)))) tNext)
        (tSeq (tIfS (tTest (tOp rEq (tVar 0) (tC (V.int 1)))) (tRet (tIf (tTest (tOp (rI0 fun i j => V.bl (decide (i < j))) (tVar 2) (tC (V.int 0)))) (tC (V.int 0)) (tOp (rI0 fun i j => V.int (i - j)) (tVar 1) (tC (V.int 1))))) tNext)
        (tSeq (tIfS (tTest (tOp rEq (tVar 0) (tC (V.int 2))))
          (tSeq (tAsg (tOp (rI (fun _ j => j ≠ 0) fun i j => V.int (i.fmod j)) (tVar 2) (tOp (rI CMul fun i j => V.int (i * j)) (tC (V.int 2)) (tVar 1))) (gName 3))
            (tRet (tIf (tTest (tOp (rI0 fun i j => V.bl (decide (i < j))) (tVar 3) (tVar 1))) (tVar 3) (tOp (rI0 fun i j => V.int (i - j)) (tOp (rI0 fun i j => V.int (i - j)) (tOp (rI CMul fun i j => V.int (i * j)) (tC (V.int 2)) (tVar 1)) (tC (V.int 1))) (tVar 3))))) tNext)
        (tRet (tOp (rI (fun _ j => j ≠ 0) fun i j => V.int (i.fmod j)) (tVar 2) (tVar 1)))))
        { nx := fun _ H' => Q V.non H', rt := Q } (L2.start ["outside", "length", "place", "turned"] [V.int o, V.int n, V.int i]) H := by
      intro c
      refine ⟨_, rfl, rfl, _, rfl, ?_⟩
      refine ifD (fun c0 => ?_) (fun c0 => ?_)
      · refine ⟨_, rfl, ?_⟩
        have e : placeI o n i = -1 := by
          unfold placeI
          rw [if_neg c, if_pos (by injection c0)]
        rw [e] at k
        exact k
      refine ⟨_, rfl, rfl, _, rfl, ?_⟩
      refine ifD (fun c1 => ?_) (fun c1 => ?_)
      · have c1 : o = 1 := by injection c1
        have e : placeI o n i = if i < 0 then 0 else n - 1 := by
          unfold placeI
          rw [if_neg c, if_neg (by omega), if_pos c1]
        rw [e] at k
        refine ⟨_, rfl, _, _, rfl, rfl, _, rfl, ?_⟩
        refine ifD (fun c2 => ?_) (fun c2 => ?_)
        · rw [if_pos c2] at k
          exact k
        · rw [if_neg c2] at k
          exact ⟨_, rfl, _, _, rfl, rfl, k⟩
      have c0 : ¬ o = 0 := fun z => c0 (by rw [z])
      have c1 : ¬ o = 1 := fun z => c1 (by rw [z])
      refine ⟨_, rfl, rfl, _, rfl, ?_⟩
      refine ifD (fun c2 => ?_) (fun c2 => ?_)
      · have c2 : o = 2 := by injection c2
        have e : placeI o n i = if i.fmod (2 * n) < n then i.fmod (2 * n) else 2 * n - 1 - i.fmod (2 * n) := by
          unfold placeI
          rw [if_neg c, if_neg c0, if_neg c1, if_pos c2]
        rw [e] at k
        refine ⟨_, rfl, _, rfl, _, _, rfl, rfl, .inl ⟨by decide, by decide⟩, _, _, rfl, rfl, (by show (2 : Int) * n ≠ 0; omega), ?_⟩
        refine ⟨_, rfl, _, rfl, _, _, rfl, rfl, _, rfl, ?_⟩
        refine ifD (fun c3 => ?_) (fun c3 => ?_)
        · rw [if_pos c3] at k
          exact ⟨_, rfl, k⟩
        · rw [if_neg c3] at k
          exact ⟨_, rfl, _, _, rfl, rfl, .inl ⟨by decide, by decide⟩, _, _, rfl, rfl, _, rfl, _, _, rfl, rfl, k⟩
      have c2 : ¬ o = 2 := fun z => c2 (by rw [z])
      have e : placeI o n i = i.fmod n := by
        unfold placeI
        rw [if_neg c, if_neg c0, if_neg c1, if_neg c2]
      rw [e] at k
      exact ⟨_, rfl, _, rfl, _, _, rfl, rfl, (by show n ≠ 0; omega), k⟩
    refine ⟨_, rfl, _, _, rfl, rfl, _, rfl, ?_⟩
    refine ifD (fun c1 => ?_) (fun c1 => ?_)
    · refine ⟨_, rfl, _, rfl, _, _, rfl, rfl, _, rfl, ?_⟩
      refine ifD (fun c2 => ?_) (fun c2 => ?_)
      · refine ⟨_, rfl, ?_⟩
        have e : placeI o n i = i := if_pos ⟨c1, c2⟩
        rw [e] at k
        exact k
      · exact out (by omega)
    · exact out (by omega)
/-! number_at -/
def spNumAt (C : Addr) : Sp := fun vs H Q _ => ∃ (a : Addr) (p : Ie04.Pic) (e : Nat) (x y : Int), vs = [.ref a, .int (e : Int), .int x, .int y] ∧ GridAt C H a p.w p.h p.v ∧ Fits p ∧ e ≤ 3 ∧ Q (.int (p.at_ e x y)) H
theorem scNumAt : FnScope ["picture", "outside", "column", "row", "x", "y"] ["picture", "outside", "column", "row"] (defScope sNumAt) := ⟨rfl, rfl, rfl, by decide +kernel, rfl, by decide +kernel, by decide +kernel⟩
theorem ok_numAt {f C : Addr} {fd : FuncData} (F : Fun K "number_at" "number_at" sNumAt f fd) (T : GTxt K C) (D1 : Def P w K mg base 1 "place_in_line" ["outside", "length", "place"] spPlace) :
    FnOk P w K mg base CX0 2 f fd ["picture", "outside", "column", "row"] (spNumAt C) := by
  obtain ⟨fP, fdP, G, mgP, kp, bP⟩ := D1.ex
  refine F.ok scNumAt (fun vs H Q E h => ?_) (fun cdv A outer s H vs Q E hr h => ?_)
  · obtain ⟨a, p, e, x, y, rfl, _⟩ := h
    rfl
  · obtain ⟨a, p, e, x, y, rfl, ⟨dx, l, h1, h2⟩, Fp, he, k⟩ := h
    refine ⟨_, pss_cons (ps_set (i := 4) scNumAt.nd rfl (Or.inl rfl) (pe_call G hr rfl mgP kp bP .nil pass0 (pa_cons (pv 1) (pa_cons (pe_fld (pv 0) rfl) (pa_cons (pv 2) pa_nil)))))
      (pss_cons (ps_set (i := 5) scNumAt.nd rfl (Or.inl rfl) (pe_call G hr rfl mgP kp bP .nil pass0 (pa_cons (pv 1) (pa_cons (pe_fld (pv 0) rfl) (pa_cons (pv 3) pa_nil)))))
      (pss_cons (ps_if (PW.pt (pw_or (pt_cmpR op_lt (pv 4) pe_int (nomark _)) (pw_or1 (pt_cmpR op_lt (pv 5) pe_int (nomark _))))) (pss_one (ps_ret pe_int)) pss_nil)
      (pss_one (ps_ret (pe_ix ix_list (pe_fld (pv 0) rfl) (pe_op op_add (pe_op op_mul (pv 5) (pe_fld (pv 0) rfl)) (pv 4)) (fun _ _ => rfl)))))), ?_⟩
    have w1 := Fp.w1
    have q1 := Fp.h1
    have w2 := Fp.w2
    refine ⟨_, rfl, _, rfl, a, C, dx, _, _, rfl, h1, T.cl, T.nC, gF_columns _ _ _, _, rfl, (e : Int), (p.w : Int), x, rfl, by omega, ?_⟩
    rw [placeI_is he w1]
    refine ⟨_, rfl, _, rfl, a, C, dx, _, _, rfl, h1, T.cl, T.nR, gF_rows _ _ _, _, rfl, (e : Int), (p.h : Int), y, rfl, by omega, ?_⟩
    rw [placeI_is he q1]
    refine ⟨_, rfl, _, _, rfl, rfl, _, rfl, ?_⟩
    refine ifD (fun c1 => ?_) (fun c1 => ?_)
    · refine Eq.mp ?_ k
      rw [at_outside (Or.inl c1)]
      rfl
    · refine ⟨_, rfl, _, _, rfl, rfl, _, rfl, ?_⟩
      refine ifD (fun c2 => ?_) (fun c2 => ?_)
      · refine Eq.mp ?_ k
        rw [at_outside (Or.inr c2)]
        rfl
      · obtain ⟨j, ej, hj⟩ := at_inside Fp c1 c2
        refine ⟨_, rfl, a, C, dx, _, _, rfl, h1, T.cl, T.nN, gF_numbers _ _ _, _, rfl, _, rfl, a, C, dx, _, _, rfl, h1, T.cl, T.nC, gF_columns _ _ _, _, _, rfl, rfl, .inr ⟨by omega, by omega⟩, _, rfl, _, _, rfl, rfl, ?_⟩
        exact ⟨l, _, _, _, rfl, rfl, SqL.of h2, at_of ej (at_map hj), k⟩
end
end Nd

set_option Elab.async false
set_option maxRecDepth 100000
set_option maxHeartbeats 2000000
namespace Nd
open PySem L2
section
variable {P : Program} {w : World} {K : PySem.W.Frag} {mg : Str → Option Value} {base : Heap}
/-! weighed_cell -/
def spWCell (C : Addr) : Sp := fun vs H Q _ => ∃ (a b : Addr) (p : Ie04.Pic) (k : Ie04.Weights) (e : Nat) (x y : Int), vs = [.ref a, .int (e : Int), .ref b, .int x, .int y] ∧ GridAt C H a p.w p.h p.v ∧ Fits p ∧ GridAt C H b k.a k.b k.l ∧ WOk k ∧ e ≤ 3 ∧ Q (.int (wcell e k p x y)) H
theorem scWCell : FnScope ["picture", "outside", "weights", "column", "row", "left", "top", "total", "j", "i", "weight"] ["picture", "outside", "weights", "column", "row"] (defScope sWCell) := ⟨rfl, rfl, rfl, by decide +kernel, rfl, by decide +kernel, by decide +kernel⟩
theorem ok_wcell {f C : Addr} {fd : FuncData} (F : Fun K "weighed_cell" "weighed_cell" sWCell f fd) (T : GTxt K C) (B : BTxt mg) (D1 : Def P w K mg base 2 "number_at" ["picture", "outside", "column", "row"] (spNumAt C)) :
    FnOk P w K mg base CX0 3 f fd ["picture", "outside", "weights", "column", "row"] (spWCell C) := by
  obtain ⟨fP, fdP, G, mgP, kp, bP⟩ := D1.ex
  refine F.ok scWCell (fun vs H Q E h => ?_) (fun cdv A outer s H vs Q E hr h => ?_)
  · obtain ⟨a, b, p, k, e, x, y, rfl, _⟩ := h
    rfl
  · obtain ⟨a, b, p, k, e, x, y, rfl, ga, Fp, ⟨dx, l, h1, h2⟩, ok, he, kk⟩ := h
    refine ⟨_, pss_cons (ps_set (i := 5) scWCell.nd rfl (Or.inl rfl) (pe_op op_sub (pv 3) (pe_op op_fdivN (pe_op op_sub (pe_fld (pv 2) rfl) pe_int) pe_int)))
      (pss_cons (ps_set (i := 6) scWCell.nd rfl (Or.inl rfl) (pe_op op_sub (pv 4) (pe_op op_fdivN (pe_op op_sub (pe_fld (pv 2) rfl) pe_int) pe_int)))
      (pss_cons (ps_set (i := 7) scWCell.nd rfl (Or.inl rfl) pe_int)
      (pss_cons (ps_for PassesOwn.never rfl (pi_range1 rfl B.range (pa_cons (pe_fld (pv 2) rfl) pa_nil)) (pg_name (i := 8) scWCell.nd rfl (Or.inl rfl))
        (pss_one (ps_for PassesOwn.never rfl (pi_range1 rfl B.range (pa_cons (pe_fld (pv 2) rfl) pa_nil)) (pg_name (i := 9) scWCell.nd rfl (Or.inl rfl))
          (pss_cons (ps_set (i := 10) scWCell.nd rfl (Or.inl rfl) (pe_ix ix_list (pe_fld (pv 2) rfl) (pe_op op_add (pe_op op_mul (pv 8) (pe_fld (pv 2) rfl)) (pv 9)) (fun _ _ => rfl)))
          (pss_one (ps_set (i := 7) scWCell.nd rfl (Or.inl rfl) (pe_op op_add (pv 7) (pe_op op_mul (pv 10) (pe_call G hr rfl mgP kp bP .nil pass0 (pa_cons (pv 0) (pa_cons (pv 1) (pa_cons (pe_op op_add (pv 5) (pv 9)) (pa_cons (pe_op op_add (pv 6) (pv 8)) pa_nil)))))))))))))
      (pss_one (ps_ret (pv 7)))))), ?_⟩
    have o1 := ok.a1
    have o2 := ok.a5
    have o3 := ok.b1
    have o4 := ok.b5
    refine ⟨_, rfl, _, rfl, b, C, dx, _, _, rfl, h1, T.cl, T.nC, gF_columns _ _ _, _, _, rfl, rfl, _, _, rfl, rfl, ⟨by decide, by decide⟩, _, _, rfl, rfl, ?_⟩
    rw [halfI k.a o1]
    refine ⟨_, rfl, _, rfl, b, C, dx, _, _, rfl, h1, T.cl, T.nR, gF_rows _ _ _, _, _, rfl, rfl, _, _, rfl, rfl, ⟨by decide, by decide⟩, _, _, rfl, rfl, ?_⟩
    rw [halfI k.b o3]
    have ga' := id ga
    refine ⟨_, rfl, b, C, dx, _, _, rfl, h1, T.cl, T.nR, gF_rows _ _ _, (k.b : Int), rfl, by omega, by omega, for_range (fun j σ H' => H' = H ∧ ∃ u1 u2 u3 : Option V, σ = [some (.ref a), some (.int (e : Int)), some (.ref b), some (.int x), some (.int y), some (.int (x - ((k.a / 2 : Nat) : Int))), some (.int (y - ((k.b / 2 : Nat) : Int))), some (.int (Ie04.sum (rowsOf k.a (wterm e k p x y) j))), u1, u2, u3]) ⟨rfl, none, none, none, rfl⟩ ?_ ?_⟩
    · rintro j σ H' hj ⟨rfl, u1, u2, u3, rfl⟩
      refine ⟨_, rfl, b, C, dx, _, _, rfl, h1, T.cl, T.nC, gF_columns _ _ _, (k.a : Int), rfl, by omega, by omega, for_range (fun i σ H'' => H'' = H' ∧ ∃ u2 u3 : Option V, σ = [some (.ref a), some (.int (e : Int)), some (.ref b), some (.int x), some (.int y), some (.int (x - ((k.a / 2 : Nat) : Int))), some (.int (y - ((k.b / 2 : Nat) : Int))), some (.int (Ie04.sum (rowsOf k.a (wterm e k p x y) j ++ partOf (wterm e k p x y) j i))), some (.int (0 + (j : Int))), u2, u3]) ⟨rfl, u2, u3, ?_⟩ ?_ ?_⟩
      · rw [partOf_zero, List.append_nil]
        rfl
      · rintro i σ H'' hi ⟨rfl, u2, u3, rfl⟩
        have hj' : j < k.b := by omega
        have hi' : i < k.a := by omega
        have hw := get_is ok.len hi' hj'
        have wb := ok.bnd _ (List.mem_of_getElem? hw)
        refine ⟨_, rfl, b, C, dx, _, _, rfl, h1, T.cl, T.nN, gF_numbers _ _ _, _, rfl, _, rfl, b, C, dx, _, _, rfl, h1, T.cl, T.nC, gF_columns _ _ _, _, _, rfl, rfl, .inr ⟨by omega, by omega⟩, _, rfl, _, _, rfl, rfl, ?_⟩
        refine ⟨l, _, _, _, rfl, rfl, SqL.of h2, at_of (j := j * k.a + i) (by simp) (at_map hw), ?_⟩
        refine ⟨_, rfl, _, rfl, _, rfl, _, rfl, _, rfl, _, rfl, _, _, rfl, rfl, _, rfl, _, rfl, _, _, rfl, rfl, a, p, e, _, _, rfl, ga, Fp, he, ?_⟩
        refine ⟨_, _, rfl, rfl, .inl ⟨by omega, by omega⟩, _, _, rfl, rfl, rfl, some (.int (0 + (i : Int))), some (.int (k.get i j)), ?_⟩
        have e1 : x - ((k.a / 2 : Nat) : Int) + (0 + (i : Int)) = x - ((k.a / 2 : Nat) : Int) + (i : Int) := by omega
        have e2 : y - ((k.b / 2 : Nat) : Int) + (0 + (j : Int)) = y - ((k.b / 2 : Nat) : Int) + (j : Int) := by omega
        rw [e1, e2, wterm_prog, partOf_succ, ← List.append_assoc, sum_append _ [_], sum_one]
        rfl
      · rintro σ H'' ⟨rfl, u2, u3, rfl⟩
        refine ⟨rfl, some (.int (0 + (j : Int))), u2, u3, ?_⟩
        rw [rowsOf_succ]
        rfl
    · rintro σ H' ⟨rfl, u1, u2, u3, rfl⟩
      exact ⟨_, rfl, kk⟩
end
end Nd

set_option Elab.async false
set_option maxRecDepth 100000
set_option maxHeartbeats 2000000
namespace Nd
open PySem L2
theorem same_upd {H0 H : Hp} {q : Addr} {o : HO} (s : Same H0 H) (hq : H0 q = none) : Same H0 (upd H q o) := fun b u e => by
  rw [upd_ne (ne_of_none e hq)]
  exact s b u e
theorem ints_snoc (l : List Int) (x : Int) : l.map V.int ++ [V.int x] = (l ++ [x]).map V.int := by
  rw [List.map_append]
  rfl
theorem size_ok {l : List V} {n : Nat} (h : l.length = n) (hn : n < 1000) : l.length < sizeLine := by
  rw [h]
  exact Nat.lt_of_lt_of_le hn (by decide)
section
variable {P : Program} {w : World} {K : PySem.W.Frag} {mg : Str → Option Value} {base : Heap}
/-! weighed -/
def spWeighed (C : Addr) : Sp := fun vs H Q _ => ∃ (a b : Addr) (p : Ie04.Pic) (k : Ie04.Weights) (e : Nat), vs = [.ref a, .int (e : Int), .ref b] ∧ GridAt C H a p.w p.h p.v ∧ Fits p ∧ GridAt C H b k.a k.b k.l ∧ WOk k ∧ e ≤ 3 ∧
  ∀ (H' : Hp) (q : Addr), Same H H' → H q = none → H' q = some (.lst ((Ie04.weigh e k p).v.map V.int)) → Q (.ref q) H'
theorem scWeighed : FnScope ["picture", "outside", "weights", "numbers", "row", "column"] ["picture", "outside", "weights"] (defScope sWeighed) := ⟨rfl, rfl, rfl, by decide +kernel, rfl, by decide +kernel, by decide +kernel⟩
theorem ok_weighed {f C : Addr} {fd : FuncData} (F : Fun K "weighed" "weighed" sWeighed f fd) (T : GTxt K C) (B : BTxt mg) (D1 : Def P w K mg base 3 "weighed_cell" ["picture", "outside", "weights", "column", "row"] (spWCell C)) :
    FnOk P w K mg base CX0 4 f fd ["picture", "outside", "weights"] (spWeighed C) := by
  obtain ⟨fP, fdP, G, mgP, kp, bP⟩ := D1.ex
  refine F.ok scWeighed (fun vs H Q E h => ?_) (fun cdv A outer s H vs Q E hr h => ?_)
  · obtain ⟨a, b, p, k, e, rfl, _⟩ := h
    rfl
  · obtain ⟨a, b, p, k, e, rfl, ga, Fp, gb, ok, he, kk⟩ := h
    refine ⟨_, pss_cons (ps_set (i := 3) scWeighed.nd rfl (Or.inl rfl) (pe_lst pa_nil))
      (pss_cons (ps_for PassesOwn.never rfl (pi_range1 rfl B.range (pa_cons (pe_fld (pv 0) rfl) pa_nil)) (pg_name (i := 4) scWeighed.nd rfl (Or.inl rfl))
        (pss_one (ps_for PassesOwn.never rfl (pi_range1 rfl B.range (pa_cons (pe_fld (pv 0) rfl) pa_nil)) (pg_name (i := 5) scWeighed.nd rfl (Or.inl rfl))
          (pss_one (ps_expr (pe_bm PySem.F.plainAttrs_list PySem.F.slot_list_append PySem.F.type_list_append mt_append (pv 3) (pa_cons (pe_call G hr rfl mgP kp bP .nil pass0 (pa_cons (pv 0) (pa_cons (pv 1) (pa_cons (pv 2) (pa_cons (pv 5) (pa_cons (pv 4) pa_nil)))))) pa_nil)))))))
      (pss_one (ps_ret (pv 3)))), ?_⟩
    have w1 := Fp.w1
    have w2 := Fp.w2
    have q1 := Fp.h1
    have q2 := Fp.h2
    refine ⟨Nat.zero_le _, fun q hq => ?_⟩
    have s1 : Same H (upd H q (.lst [])) := same_new hq
    obtain ⟨dx, l, h1, h2⟩ := id ga
    refine ⟨_, rfl, a, C, dx, _, _, rfl, s1 _ _ h1, T.cl, T.nR, gF_rows _ _ _, (p.h : Int), rfl, by omega, by omega, for_range (fun j σ H' => Same H H' ∧ H' q = some (.lst ((rowsOf p.w (fun x y => wcell e k p (x : Int) (y : Int)) j).map V.int)) ∧ ∃ u1 u2 : Option V, σ = [some (.ref a), some (.int (e : Int)), some (.ref b), some (.ref q), u1, u2]) ⟨s1, upd_same, none, none, rfl⟩ ?_ ?_⟩
    · rintro j σ H' hj ⟨s2, hL, u1, u2, rfl⟩
      refine ⟨_, rfl, a, C, dx, _, _, rfl, s2 _ _ h1, T.cl, T.nC, gF_columns _ _ _, (p.w : Int), rfl, by omega, by omega, for_range (fun i σ H'' => Same H H'' ∧ H'' q = some (.lst ((rowsOf p.w (fun x y => wcell e k p (x : Int) (y : Int)) j ++ partOf (fun x y => wcell e k p (x : Int) (y : Int)) j i).map V.int)) ∧ ∃ u2 : Option V, σ = [some (.ref a), some (.int (e : Int)), some (.ref b), some (.ref q), some (.int (0 + (j : Int))), u2]) ⟨s2, ?_, u2, rfl⟩ ?_ ?_⟩
      · rw [partOf_zero, List.append_nil]
        exact hL
      · rintro i σ H'' hi ⟨s3, hL3, u2, rfl⟩
        have hj' : j < p.h := by omega
        have hi' : i < p.w := by omega
        refine ⟨_, rfl, .inl ⟨rfl, _, SqL.of hL3⟩, _, rfl, _, rfl, _, rfl, _, rfl, _, rfl, a, b, p, k, e, _, _, rfl, ga.same s3, Fp, gb.same s3, ok, he, ?_⟩
        refine ⟨q, _, _, rfl, rfl, hL3, ?_, ?_⟩
        · refine size_ok (n := j * p.w + i) (by rw [List.length_map, List.length_append, rowsOf_length, partOf_length]) ?_
          have : j * p.w ≤ 12 * 12 := Nat.mul_le_mul (by omega) w2
          omega
        · refine ⟨same_upd s3 hq, ?_, some (.int (0 + (i : Int))), rfl⟩
          have e1 : (0 + (i : Int)) = (i : Int) := by omega
          have e2 : (0 + (j : Int)) = (j : Int) := by omega
          rw [upd_same, ints_snoc, partOf_succ, e1, e2, List.append_assoc]
      · rintro σ H'' ⟨s3, hL3, u2, rfl⟩
        refine ⟨s3, ?_, some (.int (0 + (j : Int))), u2, rfl⟩
        rw [rowsOf_succ]
        exact hL3
    · rintro σ H' ⟨s2, hL, u1, u2, rfl⟩
      exact ⟨_, rfl, kk _ q s2 hq hL⟩
/-! ranked_cell -/
def spRCell (C : Addr) : Sp := fun vs H Q _ => ∃ (a : Addr) (p : Ie04.Pic) (e r n : Nat) (x y : Int), vs = [.ref a, .int (e : Int), .int (r : Int), .int (n : Int), .int x, .int y] ∧ GridAt C H a p.w p.h p.v ∧ Fits p ∧ e ≤ 3 ∧ r ≤ 2 ∧ n < (2 * r + 1) * (2 * r + 1) ∧ (-1000 ≤ x ∧ x ≤ 1000 ∧ -1000 ≤ y ∧ y ≤ 1000) ∧
  ∀ H', Same H H' → Q (.int (rcell e r n p x y)) H'
theorem scRCell : FnScope ["picture", "outside", "r", "n", "column", "row", "around", "y", "x"] ["picture", "outside", "r", "n", "column", "row"] (defScope sRCell) := ⟨rfl, rfl, rfl, by decide +kernel, rfl, by decide +kernel, by decide +kernel⟩
theorem ok_rcell {f C : Addr} {fd : FuncData} (F : Fun K "ranked_cell" "ranked_cell" sRCell f fd) (T : GTxt K C) (B : BTxt mg) (D1 : Def P w K mg base 2 "number_at" ["picture", "outside", "column", "row"] (spNumAt C)) :
    FnOk P w K mg base CX0 3 f fd ["picture", "outside", "r", "n", "column", "row"] (spRCell C) := by
  obtain ⟨fP, fdP, G, mgP, kp, bP⟩ := D1.ex
  refine F.ok scRCell (fun vs H Q E h => ?_) (fun cdv A outer s H vs Q E hr h => ?_)
  · obtain ⟨a, p, e, r, n, x, y, rfl, _⟩ := h
    rfl
  · obtain ⟨a, p, e, r, n, x, y, rfl, ga, Fp, he, hr2, hn, ⟨x1, x2, y1, y2⟩, kk⟩ := h
    refine ⟨_, pss_cons (ps_set (i := 6) scRCell.nd rfl (Or.inl rfl) (pe_lst pa_nil))
      (pss_cons (ps_for PassesOwn.never rfl (pi_range2 rfl B.range (pa_cons (pe_op op_sub (pv 5) (pv 2)) (pa_cons (pe_op op_add (pe_op op_add (pv 5) (pv 2)) pe_int) pa_nil))) (pg_name (i := 7) scRCell.nd rfl (Or.inl rfl))
        (pss_one (ps_for PassesOwn.never rfl (pi_range2 rfl B.range (pa_cons (pe_op op_sub (pv 4) (pv 2)) (pa_cons (pe_op op_add (pe_op op_add (pv 4) (pv 2)) pe_int) pa_nil))) (pg_name (i := 8) scRCell.nd rfl (Or.inl rfl))
          (pss_one (ps_expr (pe_bm PySem.F.plainAttrs_list PySem.F.slot_list_append PySem.F.type_list_append mt_append (pv 6) (pa_cons (pe_call G hr rfl mgP kp bP .nil pass0 (pa_cons (pv 0) (pa_cons (pv 1) (pa_cons (pv 8) (pa_cons (pv 7) pa_nil))))) pa_nil)))))))
      (pss_one (ps_ret (pe_ix ix_list (pe_callB cr_sorted (by rfl) B.sorted (by decide +kernel) (pa_cons (pv 6) pa_nil)) (pv 3) (fun _ _ => rfl))))), ?_⟩
    refine ⟨Nat.zero_le _, fun q hq => ?_⟩
    have s1 : Same H (upd H q (.lst [])) := same_new hq
    have en1 : ((y + (r : Int) + 1) - (y - (r : Int))).toNat = 2 * r + 1 := by omega
    have en2 : ((x + (r : Int) + 1) - (x - (r : Int))).toNat = 2 * r + 1 := by omega
    refine ⟨_, rfl, _, rfl, _, _, rfl, rfl, _, rfl, _, rfl, _, _, rfl, rfl, _, _, rfl, rfl, y - (r : Int), y + (r : Int) + 1, rfl, ⟨by omega, by omega, by omega, by omega⟩, ?_⟩
    rw [en1]
    refine for_range (fun j σ H' => Same H H' ∧ H' q = some (.lst ((rowsOf (2 * r + 1) (rterm e r p x y) j).map V.int)) ∧ ∃ u1 u2 : Option V, σ = [some (.ref a), some (.int (e : Int)), some (.int (r : Int)), some (.int (n : Int)), some (.int x), some (.int y), some (.ref q), u1, u2]) ⟨s1, upd_same, none, none, rfl⟩ ?_ ?_
    · rintro j σ H' hj ⟨s2, hL, u1, u2, rfl⟩
      refine ⟨_, rfl, _, rfl, _, _, rfl, rfl, _, rfl, _, rfl, _, _, rfl, rfl, _, _, rfl, rfl, x - (r : Int), x + (r : Int) + 1, rfl, ⟨by omega, by omega, by omega, by omega⟩, ?_⟩
      rw [en2]
      refine for_range (fun i σ H'' => Same H H'' ∧ H'' q = some (.lst ((rowsOf (2 * r + 1) (rterm e r p x y) j ++ partOf (rterm e r p x y) j i).map V.int)) ∧ ∃ u2 : Option V, σ = [some (.ref a), some (.int (e : Int)), some (.int (r : Int)), some (.int (n : Int)), some (.int x), some (.int y), some (.ref q), some (.int (y - (r : Int) + (j : Int))), u2]) ⟨s2, ?_, u2, rfl⟩ ?_ ?_
      · rw [partOf_zero, List.append_nil]
        exact hL
      · rintro i σ H'' hi ⟨s3, hL3, u2, rfl⟩
        refine ⟨_, rfl, .inl ⟨rfl, _, SqL.of hL3⟩, _, rfl, _, rfl, _, rfl, _, rfl, a, p, e, _, _, rfl, ga.same s3, Fp, he, ?_⟩
        refine ⟨q, _, _, rfl, rfl, hL3, ?_, ?_⟩
        · refine size_ok (n := j * (2 * r + 1) + i) (by rw [List.length_map, List.length_append, rowsOf_length, partOf_length]) ?_
          have : j * (2 * r + 1) ≤ 5 * 5 := Nat.mul_le_mul (by omega) (by omega)
          omega
        · refine ⟨same_upd s3 hq, ?_, some (.int (x - (r : Int) + (i : Int))), rfl⟩
          rw [upd_same, ints_snoc, partOf_succ, rterm_prog, List.append_assoc]
      · rintro σ H'' ⟨s3, hL3, u2, rfl⟩
        refine ⟨s3, ?_, some (.int (y - (r : Int) + (j : Int))), u2, rfl⟩
        rw [rowsOf_succ]
        exact hL3
    · rintro σ H' ⟨s2, hL, u1, u2, rfl⟩
      refine ⟨_, rfl, q, _, rfl, SqL.of hL, ?_, fun ns' p' perm rise new => ?_⟩
      · rw [rowsOf_length]
        have : (2 * r + 1) * (2 * r + 1) ≤ 5 * 5 := Nat.mul_le_mul (by omega) (by omega)
        omega
      · have es : ns' = Ie04.sorted (Ie04.around e r p x y) := sorted_is perm rise
        subst es
        refine ⟨_, rfl, p', _, _, _, rfl, rfl, SqL.of upd_same, at_of rfl (at_map (rcell_at hn)), kk _ (s2.trans (same_new new))⟩
/-! ranked -/
def spRanked (C : Addr) : Sp := fun vs H Q _ => ∃ (a : Addr) (p : Ie04.Pic) (e r n : Nat), vs = [.ref a, .int (e : Int), .int (r : Int), .int (n : Int)] ∧ GridAt C H a p.w p.h p.v ∧ Fits p ∧ e ≤ 3 ∧ r ≤ 2 ∧ n < (2 * r + 1) * (2 * r + 1) ∧
  ∀ (H' : Hp) (q : Addr), Same H H' → H q = none → H' q = some (.lst ((Ie04.rank e r n p).v.map V.int)) → Q (.ref q) H'
theorem scRanked : FnScope ["picture", "outside", "r", "n", "numbers", "row", "column"] ["picture", "outside", "r", "n"] (defScope sRanked) := ⟨rfl, rfl, rfl, by decide +kernel, rfl, by decide +kernel, by decide +kernel⟩
theorem ok_ranked {f C : Addr} {fd : FuncData} (F : Fun K "ranked" "ranked" sRanked f fd) (T : GTxt K C) (B : BTxt mg) (D1 : Def P w K mg base 3 "ranked_cell" ["picture", "outside", "r", "n", "column", "row"] (spRCell C)) :
    FnOk P w K mg base CX0 4 f fd ["picture", "outside", "r", "n"] (spRanked C) := by
  obtain ⟨fP, fdP, G, mgP, kp, bP⟩ := D1.ex
  refine F.ok scRanked (fun vs H Q E h => ?_) (fun cdv A outer s H vs Q E hr h => ?_)
  · obtain ⟨a, p, e, r, n, rfl, _⟩ := h
    rfl
  · obtain ⟨a, p, e, r, n, rfl, ga, Fp, he, hr2, hn, kk⟩ := h
    refine ⟨_, pss_cons (ps_set (i := 4) scRanked.nd rfl (Or.inl rfl) (pe_lst pa_nil))
      (pss_cons (ps_for PassesOwn.never rfl (pi_range1 rfl B.range (pa_cons (pe_fld (pv 0) rfl) pa_nil)) (pg_name (i := 5) scRanked.nd rfl (Or.inl rfl))
        (pss_one (ps_for PassesOwn.never rfl (pi_range1 rfl B.range (pa_cons (pe_fld (pv 0) rfl) pa_nil)) (pg_name (i := 6) scRanked.nd rfl (Or.inl rfl))
          (pss_one (ps_expr (pe_bm PySem.F.plainAttrs_list PySem.F.slot_list_append PySem.F.type_list_append mt_append (pv 4) (pa_cons (pe_call G hr rfl mgP kp bP .nil pass0 (pa_cons (pv 0) (pa_cons (pv 1) (pa_cons (pv 2) (pa_cons (pv 3) (pa_cons (pv 6) (pa_cons (pv 5) pa_nil))))))) pa_nil)))))))
      (pss_one (ps_ret (pv 4)))), ?_⟩
    have w1 := Fp.w1
    have w2 := Fp.w2
    have q1 := Fp.h1
    have q2 := Fp.h2
    refine ⟨Nat.zero_le _, fun q hq => ?_⟩
    have s1 : Same H (upd H q (.lst [])) := same_new hq
    obtain ⟨dx, l, h1, h2⟩ := id ga
    refine ⟨_, rfl, a, C, dx, _, _, rfl, s1 _ _ h1, T.cl, T.nR, gF_rows _ _ _, (p.h : Int), rfl, by omega, by omega, for_range (fun j σ H' => Same H H' ∧ H' q = some (.lst ((rowsOf p.w (fun x y => rcell e r n p (x : Int) (y : Int)) j).map V.int)) ∧ ∃ u1 u2 : Option V, σ = [some (.ref a), some (.int (e : Int)), some (.int (r : Int)), some (.int (n : Int)), some (.ref q), u1, u2]) ⟨s1, upd_same, none, none, rfl⟩ ?_ ?_⟩
    · rintro j σ H' hj ⟨s2, hL, u1, u2, rfl⟩
      refine ⟨_, rfl, a, C, dx, _, _, rfl, s2 _ _ h1, T.cl, T.nC, gF_columns _ _ _, (p.w : Int), rfl, by omega, by omega, for_range (fun i σ H'' => Same H H'' ∧ H'' q = some (.lst ((rowsOf p.w (fun x y => rcell e r n p (x : Int) (y : Int)) j ++ partOf (fun x y => rcell e r n p (x : Int) (y : Int)) j i).map V.int)) ∧ ∃ u2 : Option V, σ = [some (.ref a), some (.int (e : Int)), some (.int (r : Int)), some (.int (n : Int)), some (.ref q), some (.int (0 + (j : Int))), u2]) ⟨s2, ?_, u2, rfl⟩ ?_ ?_⟩
      · rw [partOf_zero, List.append_nil]
        exact hL
      · rintro i σ H'' hi ⟨s3, hL3, u2, rfl⟩
        have hj' : j < p.h := by omega
        have hi' : i < p.w := by omega
        refine ⟨_, rfl, .inl ⟨rfl, _, SqL.of hL3⟩, _, rfl, _, rfl, _, rfl, _, rfl, _, rfl, _, rfl, a, p, e, r, n, _, _, rfl, ga.same s3, Fp, he, hr2, hn, ⟨by omega, by omega, by omega, by omega⟩, fun H3 s4 => ?_⟩
        refine ⟨q, _, _, rfl, rfl, s4 _ _ hL3, ?_, ?_⟩
        · refine size_ok (n := j * p.w + i) (by rw [List.length_map, List.length_append, rowsOf_length, partOf_length]) ?_
          have : j * p.w ≤ 12 * 12 := Nat.mul_le_mul (by omega) w2
          omega
        · refine ⟨same_upd (s3.trans s4) hq, ?_, some (.int (0 + (i : Int))), rfl⟩
          have e1 : (0 + (i : Int)) = (i : Int) := by omega
          have e2 : (0 + (j : Int)) = (j : Int) := by omega
          rw [upd_same, ints_snoc, partOf_succ, e1, e2, List.append_assoc]
      · rintro σ H'' ⟨s3, hL3, u2, rfl⟩
        refine ⟨s3, ?_, some (.int (0 + (j : Int))), u2, rfl⟩
        rw [rowsOf_succ]
        exact hL3
    · rintro σ H' ⟨s2, hL, u1, u2, rfl⟩
      exact ⟨_, rfl, kk _ q s2 hq hL⟩
end
end Nd

set_option Elab.async false
set_option maxRecDepth 100000
set_option maxHeartbeats 2000000
namespace Nd
open PySem L2
section
variable {P : Program} {w : World} {K : PySem.W.Frag} {mg : Str → Option Value} {base : Heap}
/-! divided -/
def spDivided : Sp := fun vs H Q _ => ∃ (x d : Int), vs = [.int x, .int d] ∧ 1 ≤ d ∧ d ≤ 1000000 ∧ Q (.int (Ie04.near x d)) H
theorem scDivided : FnScope ["number", "d"] ["number", "d"] (defScope sDivided) := ⟨rfl, rfl, rfl, by decide +kernel, rfl, by decide +kernel, by decide +kernel⟩
theorem ok_divided {f : Addr} {fd : FuncData} (F : Fun K "divided" "divided" sDivided f fd) : FnOk P w K mg base CX0 1 f fd ["number", "d"] spDivided := by
  refine F.ok scDivided (fun vs H Q E h => ?_) (fun cdv A outer s H vs Q E hr h => ?_)
  · obtain ⟨x, d, rfl, _⟩ := h
    rfl
  · obtain ⟨x, d, rfl, d1, d2, k⟩ := h
    refine ⟨_, pss_one (ps_ret (pe_op op_fdivN (pe_op op_add (pe_op op_mul pe_int (pv 0)) (pv 1)) (pe_op op_mul pe_int (pv 1)))), ?_⟩
    rw [← divI_is d1] at k
    exact ⟨_, rfl, _, _, rfl, rfl, .inl ⟨by decide, by decide⟩, _, rfl, _, _, rfl, rfl, _, rfl, _, _, rfl, rfl, .inl ⟨by decide, by decide⟩, _, _, rfl, rfl, ⟨by show (2 : Int) * d ≠ 0; omega, by show ((2 : Int) * d).natAbs < 1073741824; omega⟩, k⟩
/-! divided_and_moved -/
def spDivMoved (C : Addr) : Sp := fun vs H Q _ => ∃ (a : Addr) (wd ht : Int) (v : List Int) (d o : Int), vs = [.ref a, .int d, .int o] ∧ GridAt C H a wd ht v ∧ v.length ≤ 1000 ∧ 1 ≤ d ∧ d ≤ 1000000 ∧
  ∀ (H' : Hp) (q : Addr), Same H H' → H q = none → H' q = some (.lst ((v.map fun x => Ie04.near x d + o).map V.int)) → Q (.ref q) H'
theorem scDivMoved : FnScope ["picture", "d", "o", "number"] ["picture", "d", "o"] (defScope sDivMoved) := ⟨rfl, rfl, rfl, by decide +kernel, rfl, by decide +kernel, by decide +kernel⟩
theorem take_more {α : Type} {l : List α} {i : Nat} {x : α} (h : l[i]? = some x) : l.take (i + 1) = l.take i ++ [x] := by
  rw [List.take_add_one, h]
  rfl
theorem ok_divMoved {f C : Addr} {fd : FuncData} (F : Fun K "divided_and_moved" "divided_and_moved" sDivMoved f fd) (T : GTxt K C) (D1 : Def P w K mg base 1 "divided" ["number", "d"] spDivided) :
    FnOk P w K mg base CX0 2 f fd ["picture", "d", "o"] (spDivMoved C) := by
  obtain ⟨fP, fdP, G, mgP, kp, bP⟩ := D1.ex
  refine F.ok scDivMoved (fun vs H Q E h => ?_) (fun cdv A outer s H vs Q E hr h => ?_)
  · obtain ⟨a, wd, ht, v, d, o, rfl, _⟩ := h
    rfl
  · obtain ⟨a, wd, ht, v, d, o, rfl, ⟨dx, l, h1, h2⟩, hv, d1, d2, k⟩ := h
    refine ⟨_, pss_one (ps_ret (pe_lc (own := [("number", 3)]) (g := gName 3) (tt := tYes) rfl scDivMoved.nd (pi_list (pe_fld (pv 0) rfl)) (blkOk_by (N := ["picture", "d", "o", "number"]) (sc := defScope sDivMoved) (by decide +kernel))
      (fun _ _ _ _ _ => pg_name (i := 3) scDivMoved.nd rfl (Or.inl rfl)) (fun _ _ _ _ _ => pts_nil) (fun _ _ _ _ _ => pe_op op_add (pe_call G hr rfl mgP kp bP .nil pass0 (pa_cons (pv 3) (pa_cons (pv 1) pa_nil))) (pv 2)))), ?_⟩
    refine ⟨_, rfl, a, C, dx, _, _, rfl, h1, T.cl, T.nN, gF_numbers _ _ _, l, rfl, ⟨_, SqL.of h2⟩, fun D hD => ?_⟩
    refine lc_list (K := K) (a := l) (xs := v.map V.int) (fun i H' => Same H H' ∧ H' D = some (.lst (((v.take i).map fun x => Ie04.near x d + o).map V.int))) ⟨same_new hD, upd_same⟩ (fun i H' _ q => SqL.of (q.1 _ _ h2)) ?_ ?_
    · rintro i y H' hi ⟨s2, hL⟩
      obtain ⟨z, hz, rfl⟩ := map_at hi
      refine ⟨rfl, ?_⟩
      refine ⟨_, rfl, _, rfl, z, d, rfl, d1, d2, ?_⟩
      refine ⟨_, rfl, _, _, rfl, rfl, _, hL, ?_, same_upd s2 hD, ?_⟩
      · refine Nat.lt_of_le_of_lt (m := 1000) ?_ (by decide)
        rw [List.length_map, List.length_map, List.length_take]
        omega
      · rw [upd_same, take_more hz]
        simp
    · rintro H' ⟨s2, hL⟩
      rw [List.length_map, List.take_length] at hL
      exact k _ D s2 hD hL
/-! held -/
def spHeld (C : Addr) : Sp := fun vs H Q _ => ∃ (a : Addr) (wd ht : Int) (v : List Int) (lo up : Int), vs = [.ref a, .int lo, .int up] ∧ GridAt C H a wd ht v ∧ v.length ≤ 1000 ∧
  ∀ (H' : Hp) (q : Addr), Same H H' → H q = none → H' q = some (.lst ((v.map fun x => min up (max lo x)).map V.int)) → Q (.ref q) H'
theorem scHeld : FnScope ["picture", "least", "greatest", "number"] ["picture", "least", "greatest"] (defScope sHeld) := ⟨rfl, rfl, rfl, by decide +kernel, rfl, by decide +kernel, by decide +kernel⟩
theorem ok_held {f C : Addr} {fd : FuncData} (F : Fun K "held" "held" sHeld f fd) (T : GTxt K C) (B : BTxt mg) : FnOk P w K mg base CX0 1 f fd ["picture", "least", "greatest"] (spHeld C) := by
  refine F.ok scHeld (fun vs H Q E h => ?_) (fun cdv A outer s H vs Q E hr h => ?_)
  · obtain ⟨a, wd, ht, v, lo, up, rfl, _⟩ := h
    rfl
  · obtain ⟨a, wd, ht, v, lo, up, rfl, ⟨dx, l, h1, h2⟩, hv, k⟩ := h
    refine ⟨_, pss_one (ps_ret (pe_lc (own := [("number", 3)]) (g := gName 3) (tt := tYes) rfl scHeld.nd (pi_list (pe_fld (pv 0) rfl)) (blkOk_by (N := ["picture", "least", "greatest", "number"]) (sc := defScope sHeld) (by decide +kernel))
      (fun _ _ _ _ _ => pg_name (i := 3) scHeld.nd rfl (Or.inl rfl)) (fun _ _ _ _ _ => pts_nil) (fun _ _ _ _ _ => pe_callB (call_min2 rfl) (by rfl) B.min (by decide +kernel) (pa_cons (pe_callB (call_max2 rfl) (by rfl) B.max (by decide +kernel) (pa_cons (pv 3) (pa_cons (pv 1) pa_nil))) (pa_cons (pv 2) pa_nil))))), ?_⟩
    refine ⟨_, rfl, a, C, dx, _, _, rfl, h1, T.cl, T.nN, gF_numbers _ _ _, l, rfl, ⟨_, SqL.of h2⟩, fun D hD => ?_⟩
    refine lc_list (K := K) (a := l) (xs := v.map V.int) (fun i H' => Same H H' ∧ H' D = some (.lst (((v.take i).map fun x => min up (max lo x)).map V.int))) ⟨same_new hD, upd_same⟩ (fun i H' _ q => SqL.of (q.1 _ _ h2)) ?_ ?_
    · rintro i y H' hi ⟨s2, hL⟩
      obtain ⟨z, hz, rfl⟩ := map_at hi
      refine ⟨rfl, ?_⟩
      refine ⟨_, rfl, _, rfl, _, _, rfl, _, rfl, _, _, rfl, _, hL, ?_, same_upd s2 hD, ?_⟩
      · refine Nat.lt_of_le_of_lt (m := 1000) ?_ (by decide)
        rw [List.length_map, List.length_map, List.length_take]
        omega
      · rw [upd_same, take_more hz, List.map_append, List.map_append]
        show some (HO.lst (_ ++ [V.int (min2 (max2 z lo) up)])) = some (HO.lst (_ ++ [V.int (min up (max lo z))]))
        rw [held_is]
    · rintro H' ⟨s2, hL⟩
      rw [List.length_map, List.take_length] at hL
      exact k _ D s2 hD hL
/-! mixed -/
def spMixed (C : Addr) : Sp := fun vs H Q _ => ∃ (a b : Addr) (wd ht wd' ht' : Int) (v u : List Int) (x y : Int), vs = [.ref a, .ref b, .int x, .int y] ∧ GridAt C H a wd ht v ∧ GridAt C H b wd' ht' u ∧ v.length ≤ 1000 ∧ (-1000 ≤ x ∧ x ≤ 1000) ∧ (-1000 ≤ y ∧ y ≤ 1000) ∧
  ∀ (H' : Hp) (q : Addr), Same H H' → H q = none → H' q = some (.lst (((v.zip u).map fun z => x * z.1 + y * z.2).map V.int)) → Q (.ref q) H'
theorem scMixed : FnScope ["picture", "aside", "a", "b", "number", "other"] ["picture", "aside", "a", "b"] (defScope sMixed) := ⟨rfl, rfl, rfl, by decide +kernel, rfl, by decide +kernel, by decide +kernel⟩
theorem ok_mixed {f C : Addr} {fd : FuncData} (F : Fun K "mixed" "mixed" sMixed f fd) (T : GTxt K C) (B : BTxt mg) : FnOk P w K mg base CX0 1 f fd ["picture", "aside", "a", "b"] (spMixed C) := by
  refine F.ok scMixed (fun vs H Q E h => ?_) (fun cdv A outer s H vs Q E hr h => ?_)
  · obtain ⟨a, b, wd, ht, wd', ht', v, u, x, y, rfl, _⟩ := h
    rfl
  · obtain ⟨a, b, wd, ht, wd', ht', v, u, x, y, rfl, ⟨dx, l, h1, h2⟩, ⟨dx', l', h3, h4⟩, hv, ⟨x1, x2⟩, ⟨y1, y2⟩, k⟩ := h
    refine ⟨_, pss_one (ps_ret (pe_lc (own := [("number", 4), ("other", 5)]) (g := gTup K 2 (gCons (gName 4) (gCons (gName 5) gNil))) (tt := tYes) rfl scMixed.nd (pi_zip (by rfl) B.zip (pa_cons (pe_fld (pv 0) rfl) (pa_cons (pe_fld (pv 1) rfl) pa_nil))) (blkOk_by (N := ["picture", "aside", "a", "b", "number", "other"]) (sc := defScope sMixed) (by decide +kernel))
      (fun _ _ _ _ _ => pg_tup rfl (pgs_cons (pg_name (i := 4) scMixed.nd rfl (Or.inl rfl)) (pgs_cons (pg_name (i := 5) scMixed.nd rfl (Or.inl rfl)) pgs_nil))) (fun _ _ _ _ _ => pts_nil)
      (fun _ _ _ _ _ => pe_op op_add (pe_op op_mul (pv 2) (pv 4)) (pe_op op_mul (pv 3) (pv 5))))), ?_⟩
    refine ⟨_, rfl, a, C, dx, _, _, rfl, h1, T.cl, T.nN, gF_numbers _ _ _, _, rfl, b, C, dx', _, _, rfl, h3, T.cl, T.nN, gF_numbers _ _ _, l, l', _, _, rfl, SqL.of h2, SqL.of h4, fun D hD => ?_⟩
    refine lc_it (walk_zip (K := K) (a := l) (b := l') (xs := v.map V.int) (ys := u.map V.int) rfl) (fun i H' => Same H H' ∧ H' D = some (.lst ((((v.zip u).take i).map fun z => x * z.1 + y * z.2).map V.int))) ⟨same_new hD, upd_same⟩ (fun i H' _ q => ⟨SqL.of (q.1 _ _ h2), SqL.of (q.1 _ _ h4)⟩) ?_ ?_
    · rintro i t H1 H2 hi ⟨s2, hL⟩ ⟨tp, z1, z2, rfl, new, rfl, e1, e2⟩
      obtain ⟨n1, g1, rfl⟩ := map_at e1
      obtain ⟨n2, g2, rfl⟩ := map_at e2
      have hz : (v.zip u)[i]? = some (n1, n2) := List.getElem?_zip_eq_some.mpr ⟨g1, g2⟩
      have s3 : Same H (upd H1 tp (.tup [.int n1, .int n2])) := s2.trans (same_new new)
      have hD3 : (upd H1 tp (.tup [.int n1, .int n2])) D = some (.lst ((((v.zip u).take i).map fun z => x * z.1 + y * z.2).map V.int)) := by
        rw [upd_ne (ne_of_none hL new)]
        exact hL
      refine ⟨tp, _, rfl, SqT.of upd_same, rfl, _, _, rfl, _, _, rfl, rfl, rfl, ?_⟩
      refine ⟨_, rfl, _, rfl, _, _, rfl, rfl, .inl ⟨by omega, by omega⟩, _, rfl, _, rfl, _, _, rfl, rfl, .inl ⟨by omega, by omega⟩, _, _, rfl, rfl, _, hD3, ?_, same_upd s3 hD, ?_⟩
      · refine Nat.lt_of_le_of_lt (m := 1000) ?_ (by decide)
        rw [List.length_map, List.length_map, List.length_take, List.length_zip]
        omega
      · rw [upd_same, take_more hz]
        simp
    · rintro H' ⟨s2, hL⟩
      rw [List.length_map, List.length_map, ← List.length_zip, List.take_length] at hL
      exact k _ D s2 hD hL
/-! is_from -/
def spIsFrom : Sp := fun vs H Q _ => ∃ (x l g : Int), vs = [.int x, .int l, .int g] ∧ Q (.bl (decide (l ≤ x) && decide (x ≤ g))) H
theorem scIsFrom : FnScope ["number", "least", "greatest"] ["number", "least", "greatest"] (defScope sIsFrom) := ⟨rfl, rfl, rfl, by decide +kernel, rfl, by decide +kernel, by decide +kernel⟩
theorem ok_isFrom {f : Addr} {fd : FuncData} (F : Fun K "is_from" "is_from" sIsFrom f fd) : FnOk P w K mg base CX0 1 f fd ["number", "least", "greatest"] spIsFrom := by
  refine F.ok scIsFrom (fun vs H Q E h => ?_) (fun cdv A outer s H vs Q E hr h => ?_)
  · obtain ⟨x, l, g, rfl, _⟩ := h
    rfl
  · obtain ⟨x, l, g, rfl, k⟩ := h
    refine ⟨_, pss_one (ps_ret (pe_and (pe_cmpR op_le (pv 1) (pv 0) (nomark _)) (pe_one (pe_cmpR op_le (pv 0) (pv 2) (nomark _))))), ?_⟩
    refine ⟨_, rfl, _, rfl, _, _, rfl, rfl, _, rfl, ?_⟩
    refine ifD (fun c => ?_) (fun c => ?_)
    · rw [decide_eq_true c, Bool.true_and] at k
      exact ⟨_, rfl, _, rfl, _, _, rfl, rfl, k⟩
    · rw [decide_eq_false c, Bool.false_and] at k
      exact k
/-! all_near -/
def spAllNear (K : PySem.W.Frag) : Sp := fun vs H Q _ => ∃ (a : Addr) (ns : List Int) (f : Int), vs = [.ref a, .int f] ∧ SqL K H a (ns.map V.int) ∧ ns.length ≤ 1000 ∧ ∀ H', Same H H' → Q (.bl (ns.all (nearB f))) H'
theorem scAllNear : FnScope ["numbers", "farthest", "number"] ["numbers", "farthest"] (defScope sAllNear) := ⟨rfl, rfl, rfl, by decide +kernel, rfl, by decide +kernel, by decide +kernel⟩
theorem ok_allNear {f : Addr} {fd : FuncData} (F : Fun K "all_near" "all_near" sAllNear f fd) (B : BTxt mg) (D1 : Def P w K mg base 1 "is_from" ["number", "least", "greatest"] spIsFrom) : FnOk P w K mg base CX0 2 f fd ["numbers", "farthest"] (spAllNear K) := by
  obtain ⟨fP, fdP, G, mgP, kp, bP⟩ := D1.ex
  refine F.ok scAllNear (fun vs H Q E h => ?_) (fun cdv A outer s H vs Q E hr h => ?_)
  · obtain ⟨a, ns, g, rfl, _⟩ := h
    rfl
  · obtain ⟨a, ns, g, rfl, hS, hv, k⟩ := h
    refine ⟨_, pss_one (ps_ret (pe_callB (cr_all rfl) (by rfl) B.all (by decide +kernel) (pa_cons (pe_lc (own := [("number", 2)]) (g := gName 2) (tt := tYes) rfl scAllNear.nd (pi_list (pv 0)) (blkOk_by (N := ["numbers", "farthest", "number"]) (sc := defScope sAllNear) (by decide +kernel))
      (fun _ _ _ _ _ => pg_name (i := 2) scAllNear.nd rfl (Or.inl rfl)) (fun _ _ _ _ _ => pts_nil) (fun _ _ _ _ _ => pe_call G hr rfl mgP kp bP .nil pass0 (pa_cons (pv 2) (pa_cons (pe_un un_neg (pv 1)) (pa_cons (pv 1) pa_nil))))) pa_nil))), ?_⟩
    refine ⟨_, rfl, a, rfl, ⟨_, hS⟩, fun D hD => ?_⟩
    refine lc_list (K := K) (a := a) (xs := ns.map V.int) (fun i H' => Same H H' ∧ H' D = some (.lst (((ns.take i).map (nearB g)).map V.bl))) ⟨same_new hD, upd_same⟩ (fun i H' _ q => q.1.seq hS) ?_ ?_
    · rintro i y H' hi ⟨s2, hL⟩
      obtain ⟨z, hz, rfl⟩ := map_at hi
      refine ⟨rfl, ?_⟩
      refine ⟨_, rfl, _, rfl, _, rfl, _, rfl, z, -g, g, rfl, _, hL, ?_, same_upd s2 hD, ?_⟩
      · refine Nat.lt_of_le_of_lt (m := 1000) ?_ (by decide)
        rw [List.length_map, List.length_map, List.length_take]
        omega
      · rw [upd_same, take_more hz, List.map_append, List.map_append]
        rfl
    · rintro H' ⟨s2, hL⟩
      rw [List.length_map, List.take_length] at hL
      refine ⟨D, ns.map (nearB g), rfl, SqL.of hL, ?_⟩
      have e : (ns.map (nearB g)).all id = ns.all (nearB g) := by
        rw [List.all_map]
        rfl
      rw [e]
      exact k _ s2
end
end Nd

set_option Elab.async false
set_option maxRecDepth 100000
set_option maxHeartbeats 2000000
namespace Nd
open PySem L2
/-- the constants of the program's top -/
structure CTxt (mg : Str → Option Value) : Prop where
  side : ∃ t, mg "GREATEST_SIDE" = some (.int 12 t)
  hand : ∃ t, mg "FARTHEST_HANDED_IN" = some (.int 65536 t)
  fac : ∃ t, mg "FARTHEST_FACTOR" = some (.int 1000 t)
  divi : ∃ t, mg "GREATEST_DIVISOR" = some (.int 1000000 t)
  chan : ∃ t, mg "FARTHEST_CHANGED" = some (.int 1000000000000 t)
  kept : ∃ t, mg "CHANGES_KEPT" = some (.int 16 t)
theorem pe_num {X : Cx} {x : Str} {pos : Pos} {u : Value} {i : Int} (hg : Gl X x) (hm : X.mg x = some u) (hu : ∃ t, u = Value.int i t) (hd : (x == ("__debug__" : Str)) = false := by decide) : PE X (.Name x pos) (tC (.int i)) := pe_glob (v := .int i) hg hm hu hd
section
variable {P : Program} {w : World} {K : PySem.W.Frag} {mg : Str → Option Value} {base : Heap}
/-! is_outside -/
def spIsOut : Sp := fun vs H Q _ => ∃ (e : Nat), vs = [.int (e : Int)] ∧ Q (.bl (decide (e ≤ 3))) H
theorem scIsOut : FnScope ["outside"] ["outside"] (defScope sIsOut) := ⟨rfl, rfl, rfl, by decide +kernel, rfl, by decide +kernel, by decide +kernel⟩
theorem ok_isOut {f : Addr} {fd : FuncData} (F : Fun K "is_outside" "is_outside" sIsOut f fd) (D1 : Def P w K mg base 1 "is_from" ["number", "least", "greatest"] spIsFrom) : FnOk P w K mg base CX0 2 f fd ["outside"] spIsOut := by
  obtain ⟨fP, fdP, G, mgP, kp, bP⟩ := D1.ex
  refine F.ok scIsOut (fun vs H Q E h => ?_) (fun cdv A outer s H vs Q E hr h => ?_)
  · obtain ⟨e, rfl, _⟩ := h
    rfl
  · obtain ⟨e, rfl, k⟩ := h
    refine ⟨_, pss_one (ps_ret (pe_call G hr rfl mgP kp bP .nil pass0 (pa_cons (pv 0) (pa_cons pe_int (pa_cons pe_int pa_nil))))), ?_⟩
    refine ⟨_, rfl, _, 0, 3, rfl, ?_⟩
    have q : (decide ((0 : Int) ≤ (e : Int)) && decide ((e : Int) ≤ 3)) = decide (e ≤ 3) := by
      rw [decide_eq_true (show (0 : Int) ≤ (e : Int) by omega), Bool.true_and]
      exact decide_eq_decide.mpr (by omega)
    rw [q]
    exact k
/-! is_rank -/
def spIsRank : Sp := fun vs H Q _ => ∃ (r n : Nat), vs = [.int (r : Int), .int (n : Int)] ∧ r ≤ 1000000000 ∧ Q (.bl (!decide (BadRank r n))) H
theorem scIsRank : FnScope ["r", "n", "side"] ["r", "n"] (defScope sIsRank) := ⟨rfl, rfl, rfl, by decide +kernel, rfl, by decide +kernel, by decide +kernel⟩
theorem ok_isRank {f : Addr} {fd : FuncData} (F : Fun K "is_rank" "is_rank" sIsRank f fd) (D1 : Def P w K mg base 1 "is_from" ["number", "least", "greatest"] spIsFrom) : FnOk P w K mg base CX0 2 f fd ["r", "n"] spIsRank := by
  obtain ⟨fP, fdP, G, mgP, kp, bP⟩ := D1.ex
  refine F.ok scIsRank (fun vs H Q E h => ?_) (fun cdv A outer s H vs Q E hr h => ?_)
  · obtain ⟨r, n, rfl, _⟩ := h
    rfl
  · obtain ⟨r, n, rfl, hb, k⟩ := h
    refine ⟨_, pss_cons (ps_set (i := 2) scIsRank.nd rfl (Or.inl rfl) (pe_op op_add (pe_op op_mul pe_int (pv 0)) pe_int))
      (pss_one (ps_ret (pe_and (pe_call G hr rfl mgP kp bP .nil pass0 (pa_cons (pv 0) (pa_cons pe_int (pa_cons pe_int pa_nil)))) (pe_one (pe_call G hr rfl mgP kp bP .nil pass0 (pa_cons (pv 1) (pa_cons pe_int (pa_cons (pe_op op_sub (pe_op op_mul (pv 2) (pv 2)) pe_int) pa_nil)))))))), ?_⟩
    refine ⟨_, rfl, _, _, rfl, rfl, .inl ⟨by decide, by decide⟩, _, _, rfl, rfl, ?_⟩
    refine ⟨_, rfl, _, 1, 2, rfl, ?_⟩
    rw [← rankB_is] at k
    unfold rankB at k
    refine ⟨_, rfl, ?_⟩
    cases c : (decide ((1 : Int) ≤ (r : Int)) && decide ((r : Int) ≤ 2)) with
    | true =>
      rw [c, Bool.true_and] at k
      refine iteT ?_
      exact ⟨_, rfl, _, rfl, _, rfl, _, _, rfl, rfl, .inl ⟨by omega, by omega⟩, _, _, rfl, rfl, _, 0, _, rfl, k⟩
    | false =>
      rw [c, Bool.false_and] at k
      exact iteF k
/-! is_picture -/
def spIsPic (K : PySem.W.Frag) : Sp := fun vs H Q _ => ∃ (wd ht : Nat) (a : Addr) (ns : List Int), vs = [.int (wd : Int), .int (ht : Int), .ref a] ∧ SqL K H a (ns.map V.int) ∧ ns.length ≤ 1000 ∧ ∀ H', Same H H' → Q (.bl (!decide (BadPic wd ht ns))) H'
theorem scIsPic : FnScope ["columns", "rows", "numbers"] ["columns", "rows", "numbers"] (defScope sIsPic) := ⟨rfl, rfl, rfl, by decide +kernel, rfl, by decide +kernel, by decide +kernel⟩
theorem ok_isPic {f : Addr} {fd : FuncData} (F : Fun K "is_picture" "is_picture" sIsPic f fd) (B : BTxt mg) (Cn : CTxt mg) (D1 : Def P w K mg base 1 "is_from" ["number", "least", "greatest"] spIsFrom) (D2 : Def P w K mg base 2 "all_near" ["numbers", "farthest"] (spAllNear K)) : FnOk P w K mg base CX0 3 f fd ["columns", "rows", "numbers"] (spIsPic K) := by
  obtain ⟨fP, fdP, G, mgP, kp, bP⟩ := D1.ex
  obtain ⟨fN, fdN, GN, mgN, kpN, bN⟩ := D2.ex
  obtain ⟨t1, c1⟩ := Cn.side
  obtain ⟨t2, c2⟩ := Cn.hand
  refine F.ok scIsPic (fun vs H Q E h => ?_) (fun cdv A outer s H vs Q E hr h => ?_)
  · obtain ⟨wd, ht, a, ns, rfl, _⟩ := h
    rfl
  · obtain ⟨wd, ht, a, ns, rfl, hS, hv, k⟩ := h
    have hr1 : Room 1 _ := hr.mono (by decide)
    refine ⟨_, pss_cons (ps_if (PW.pt (pw_or (pt_not (pt_val (pe_call G hr1 rfl mgP kp bP .nil pass0 (pa_cons (pv 0) (pa_cons pe_int (pa_cons (pe_num rfl c1 ⟨_, rfl⟩) pa_nil))))))
        (pw_or1 (pt_not (pt_val (pe_call G hr1 rfl mgP kp bP .nil pass0 (pa_cons (pv 1) (pa_cons pe_int (pa_cons (pe_num rfl c1 ⟨_, rfl⟩) pa_nil))))))))) (pss_one (ps_ret pe_bl)) pss_nil)
      (pss_one (ps_ret (pe_and (pe_cmpR op_eq (pe_callB call_len_seq (by rfl) B.len PySem.boot_len (pa_cons (pv 2) pa_nil)) (pe_op op_mul (pv 0) (pv 1)) (nomark _)) (pe_one (pe_call GN hr rfl mgN kpN bN .nil pass0 (pa_cons (pv 2) (pa_cons (pe_num rfl c2 ⟨_, rfl⟩) pa_nil))))))), ?_⟩
    rw [← picB_is] at k
    unfold picB at k
    refine ⟨_, rfl, _, 1, 12, rfl, _, rfl, ?_⟩
    cases e1 : (decide ((1 : Int) ≤ (wd : Int)) && decide ((wd : Int) ≤ 12)) with
    | false =>
      rw [e1] at k
      exact iteT (iteT (k _ (Same.refl _)))
    | true =>
      rw [e1] at k
      refine iteF ?_
      refine ⟨_, rfl, _, 1, 12, rfl, _, rfl, ?_⟩
      cases e2 : (decide ((1 : Int) ≤ (ht : Int)) && decide ((ht : Int) ≤ 12)) with
      | false =>
        rw [e2] at k
        exact iteT (k _ (Same.refl _))
      | true =>
        rw [e2] at k
        refine iteF ?_
        simp only [Bool.and_eq_true, decide_eq_true_eq] at e1 e2
        refine ⟨_, rfl, a, _, rfl, .inl hS, _, rfl, _, rfl, _, _, rfl, rfl, .inl ⟨by omega, by omega⟩, rfl, _, rfl, ?_⟩
        rw [List.length_map]
        have ed : decide (V.int (ns.length : Int) = V.int ((wd : Int) * (ht : Int))) = decide ((ns.length : Int) = (wd : Int) * (ht : Int)) := decide_eq_decide.mpr ⟨fun z => by injection z, fun z => by rw [z]⟩
        rw [ed]
        refine ifD (fun c3 => ?_) (fun c3 => ?_)
        · refine ⟨_, rfl, a, ns, 65536, rfl, hS, hv, fun H' s1 => ?_⟩
          rw [decide_eq_true c3] at k
          exact k _ s1
        · rw [decide_eq_false c3] at k
          exact k _ (Same.refl _)
/-! are_weights -/
def spAreW (C : Addr) : Sp := fun vs H Q _ => ∃ (a : Addr) (k : Ie04.Weights), vs = [.ref a] ∧ GridAt C H a k.a k.b k.l ∧ k.l.length ≤ 1000 ∧ ∀ H', Same H H' → Q (.bl (Ie04.isWeights k)) H'
theorem scAreW : FnScope ["weights"] ["weights"] (defScope sAreW) := ⟨rfl, rfl, rfl, by decide +kernel, rfl, by decide +kernel, by decide +kernel⟩
theorem ok_areW {f C : Addr} {fd : FuncData} (F : Fun K "are_weights" "are_weights" sAreW f fd) (T : GTxt K C) (B : BTxt mg) (Cn : CTxt mg) (D2 : Def P w K mg base 2 "all_near" ["numbers", "farthest"] (spAllNear K)) : FnOk P w K mg base CX0 3 f fd ["weights"] (spAreW C) := by
  obtain ⟨fN, fdN, GN, mgN, kpN, bN⟩ := D2.ex
  obtain ⟨t2, c2⟩ := Cn.fac
  refine F.ok scAreW (fun vs H Q E h => ?_) (fun cdv A outer s H vs Q E hr h => ?_)
  · obtain ⟨a, k, rfl, _⟩ := h
    rfl
  · obtain ⟨a, k, rfl, g, hv, kk⟩ := h
    refine ⟨_, pss_cons (ps_if (PW.pt (pw_or (pt_cmpR op_notIn_seq (pe_fld (pv 0) rfl) (pe_tup (pa_cons pe_int (pa_cons pe_int (pa_cons pe_int pa_nil)))) (by rfl))
        (pw_or1 (pt_cmpR op_notIn_seq (pe_fld (pv 0) rfl) (pe_tup (pa_cons pe_int (pa_cons pe_int (pa_cons pe_int pa_nil)))) (by rfl))))) (pss_one (ps_ret pe_bl)) pss_nil)
      (pss_one (ps_ret (pe_and (pe_cmpR op_eq (pe_callB call_len_seq (by rfl) B.len PySem.boot_len (pa_cons (pe_fld (pv 0) rfl) pa_nil)) (pe_op op_mul (pe_fld (pv 0) rfl) (pe_fld (pv 0) rfl)) (nomark _)) (pe_one (pe_call GN hr rfl mgN kpN bN .nil pass0 (pa_cons (pe_fld (pv 0) rfl) (pa_cons (pe_num rfl c2 ⟨_, rfl⟩) pa_nil))))))), ?_⟩
    rw [isW_is] at kk
    obtain ⟨dx, l, h1, h2⟩ := g
    refine ⟨_, rfl, a, C, dx, _, _, rfl, h1, T.cl, T.nC, gF_columns _ _ _, (by show 3 ≤ sizeLine; decide), fun p1 n1 => ?_⟩
    have s1 : Same H (upd H p1 (.tup [.int 1, .int 3, .int 5])) := same_new n1
    refine ⟨p1, [.int 1, .int 3, .int 5], rfl, .inr (SqT.of upd_same), rfl, rfl, !in135 (k.a : Int), rfl, ?_⟩
    cases e1 : in135 (k.a : Int) with
    | false =>
      rw [e1] at kk
      exact iteT (iteT (kk _ s1))
    | true =>
      rw [e1] at kk
      refine iteF ?_
      have h1' := s1 _ _ h1
      refine ⟨_, rfl, a, C, dx, _, _, rfl, h1', T.cl, T.nR, gF_rows _ _ _, (by show 3 ≤ sizeLine; decide), fun p2 n2 => ?_⟩
      have s2 : Same H (upd (upd H p1 (.tup [.int 1, .int 3, .int 5])) p2 (.tup [.int 1, .int 3, .int 5])) := s1.trans (same_new n2)
      refine ⟨p2, [.int 1, .int 3, .int 5], rfl, .inr (SqT.of upd_same), rfl, rfl, !in135 (k.b : Int), rfl, ?_⟩
      cases e2 : in135 (k.b : Int) with
      | false =>
        rw [e2] at kk
        exact iteT (kk _ s2)
      | true =>
        rw [e2] at kk
        refine iteF ?_
        rw [in135_is, Bool.and_eq_true, decide_eq_true_eq, decide_eq_true_eq] at e1
        have h1' := s2 _ _ h1
        have h2' := s2 _ _ h2
        refine ⟨_, rfl, a, C, dx, _, _, rfl, h1', T.cl, T.nN, gF_numbers _ _ _, l, _, rfl, .inl (SqL.of h2'), _, rfl, a, C, dx, _, _, rfl, h1', T.cl, T.nC, gF_columns _ _ _, _, rfl, a, C, dx, _, _, rfl, h1', T.cl, T.nR, gF_rows _ _ _, _, _, rfl, rfl, .inl ⟨by omega, by omega⟩, rfl, _, rfl, ?_⟩
        rw [List.length_map]
        have ed : decide (V.int (k.l.length : Int) = V.int ((k.a : Int) * (k.b : Int))) = decide (k.l.length = k.a * k.b) := decide_eq_decide.mpr ⟨fun z => by
          injection z with z
          rw [← Int.natCast_mul] at z
          exact Int.ofNat_inj.mp z, fun z => by rw [z, Int.natCast_mul]⟩
        rw [ed]
        refine ifD (fun c3 => ?_) (fun c3 => ?_)
        · refine ⟨_, rfl, a, C, dx, _, _, rfl, h1', T.cl, T.nN, gF_numbers _ _ _, l, k.l, 1000, rfl, SqL.of h2', hv, fun H' s3 => ?_⟩
          rw [decide_eq_true c3] at kk
          exact kk _ (s2.trans s3)
        · rw [decide_eq_false c3] at kk
          exact kk _ s2
end
end Nd

set_option Elab.async false
set_option maxRecDepth 100000
set_option maxHeartbeats 2000000
namespace Nd
open PySem L2
/-! ### the desk in the heap -/
def dF (c s e : Addr) : List (Str × V) := [("current", .ref c), ("aside", .ref s), ("earlier", .ref e)]
theorem dF_current (c s e : Addr) : (dF c s e).lookup ("current" : Str) = some (.ref c) := lk_here
theorem dF_aside (c s e : Addr) : (dF c s e).lookup ("aside" : Str) = some (.ref s) := (lk_past (by decide +kernel)).trans lk_here
theorem dF_earlier (c s e : Addr) : (dF c s e).lookup ("earlier" : Str) = some (.ref e) := (lk_past (by decide +kernel)).trans ((lk_past (by decide +kernel)).trans lk_here)
theorem dF_no (c s e : Addr) {m : Str} (h1 : (m == ("current" : Str)) = false) (h2 : (m == ("aside" : Str)) = false) (h3 : (m == ("earlier" : Str)) = false) : (dF c s e).lookup m = none :=
  (lk_past h1).trans ((lk_past h2).trans ((lk_past h3).trans rfl))
theorem dF_putC (c s e x : Addr) : putF "current" (.ref x) (dF c s e) = dF x s e := put_here
theorem dF_putA (c s e x : Addr) : putF "aside" (.ref x) (dF c s e) = dF c x e := (put_past (by decide +kernel)).trans (congrArg _ put_here)
theorem dF_putE (c s e x : Addr) : putF "earlier" (.ref x) (dF c s e) = dF c s x := (put_past (by decide +kernel)).trans (congrArg _ ((put_past (by decide +kernel)).trans (congrArg _ put_here)))
theorem gF_ne_dF {a b : Int} {l c s e : Addr} : gF a b l ≠ dF c s e := fun z => by
  have q : ("columns" : Str) = "current" := congrArg Prod.fst (List.cons.inj z).1
  exact absurd q (by decide +kernel)
/-- a grid whose list of numbers is none of X -/
def GridX (X : Addr → Prop) (C : Addr) (H : Hp) (a : Addr) (w h : Int) (v : List Int) : Prop := ∃ dx l, H a = some (.ins C dx (gF w h l)) ∧ H l = some (.lst (v.map V.int)) ∧ ¬ X l
theorem GridX.at_ {X : Addr → Prop} {C a : Addr} {H : Hp} {w h : Int} {v : List Int} (g : GridX X C H a w h v) : GridAt C H a w h v := by
  obtain ⟨dx, l, h1, h2, _⟩ := g
  exact ⟨dx, l, h1, h2⟩
theorem GridX.same {X : Addr → Prop} {C a : Addr} {H H' : Hp} {w h : Int} {v : List Int} (g : GridX X C H a w h v) (s : Same H H') : GridX X C H' a w h v := by
  obtain ⟨dx, l, h1, h2, h3⟩ := g
  exact ⟨dx, l, s _ _ h1, s _ _ h2, h3⟩
/-- grids in a row -/
def Grids (X : Addr → Prop) (C : Addr) (H : Hp) : List Addr → List Ie04.Pic → Prop
  | [], [] => True
  | g :: gs, p :: ps => GridX X C H g p.w p.h p.v ∧ Grids X C H gs ps
  | _, _ => False
theorem Grids.len {X : Addr → Prop} {C : Addr} {H : Hp} : ∀ {gs : List Addr} {ps : List Ie04.Pic}, Grids X C H gs ps → gs.length = ps.length
  | [], [], _ => rfl
  | _ :: _, _ :: _, h => congrArg (· + 1) (Grids.len h.2)
  | [], _ :: _, h => h.elim
  | _ :: _, [], h => h.elim
theorem Grids.snoc {X : Addr → Prop} {C : Addr} {H : Hp} {g : Addr} {p : Ie04.Pic} (hg : GridX X C H g p.w p.h p.v) : ∀ {gs : List Addr} {ps : List Ie04.Pic}, Grids X C H gs ps → Grids X C H (gs ++ [g]) (ps ++ [p])
  | [], [], _ => ⟨hg, trivial⟩
  | _ :: _, _ :: _, h => ⟨h.1, Grids.snoc hg h.2⟩
  | [], _ :: _, h => h.elim
  | _ :: _, [], h => h.elim
theorem Grids.tail {X : Addr → Prop} {C : Addr} {H : Hp} : ∀ {gs : List Addr} {ps : List Ie04.Pic}, Grids X C H gs ps → Grids X C H gs.tail ps.tail
  | [], [], _ => trivial
  | _ :: _, _ :: _, h => h.2
  | [], _ :: _, h => h.elim
  | _ :: _, [], h => h.elim
theorem Grids.unsnoc {X : Addr → Prop} {C : Addr} {H : Hp} {p : Ie04.Pic} : ∀ {ps : List Ie04.Pic} {gs : List Addr}, Grids X C H gs (ps ++ [p]) → ∃ gs' g, gs = gs' ++ [g] ∧ Grids X C H gs' ps ∧ GridX X C H g p.w p.h p.v
  | [], [g], h => ⟨[], g, rfl, trivial, h.1⟩
  | [], _ :: _ :: _, h => h.2.elim
  | [], [], h => h.elim
  | _ :: _, [], h => h.elim
  | q :: ps, g :: gs, h => by
    obtain ⟨gs', g', e, h1, h2⟩ := Grids.unsnoc (ps := ps) (gs := gs) h.2
    subst e
    exact ⟨g :: gs', g', rfl, ⟨h.1, h1⟩, h2⟩
theorem Grids.mono {X : Addr → Prop} {C : Addr} {H H' : Hp} (f : ∀ g p, Fits p → GridX X C H g p.w p.h p.v → GridX X C H' g p.w p.h p.v) : ∀ {gs : List Addr} {ps : List Ie04.Pic}, (∀ p ∈ ps, Fits p) → Grids X C H gs ps → Grids X C H' gs ps
  | [], [], _, _ => trivial
  | g :: gs, p :: ps, a, h => ⟨f g p (a p (List.Mem.head _)) h.1, Grids.mono f (fun q hq => a q (List.Mem.tail _ hq)) h.2⟩
  | [], _ :: _, _, h => h.elim
  | _ :: _, [], _, h => h.elim
/-- what holds of every state of the desk -/
structure StOk (S : Ie04.St) : Prop where
  pic : Fits S.pic
  aside : Fits S.aside
  old : ∀ p ∈ S.old, Fits p
  len : S.old.length ≤ 16
/-- the desk at d, its list of changes at e, in the state S; X: addresses that are somebody else's lists -/
structure DeskAt (X : Addr → Prop) (CD CG : Addr) (H : Hp) (d e : Addr) (S : Ie04.St) : Prop where
  ok : StOk S
  sep : ∀ x, X x → (∃ o, H x = some o) ∧ x ≠ d ∧ x ≠ e
  ex : ∃ dx c s gs, H d = some (.ins CD dx (dF c s e)) ∧ GridX X CG H c S.pic.w S.pic.h S.pic.v ∧ GridX X CG H s S.aside.w S.aside.h S.aside.v ∧ H e = some (.lst (gs.map V.ref)) ∧ Grids X CG H gs S.old.reverse
/-- what a call of the desk leaves as it was; its list of changes is the same or new -/
structure Kept (H H' : Hp) (d e e' : Addr) : Prop where
  keep : ∀ b o, H b = some o → b ≠ d → b ≠ e → H' b = some o
  new : e' = e ∨ H e' = none
theorem Fits.some {p : Ie04.Pic} (F : Fits p) : p.v ≠ [] := fun z => by
  have h := F.len
  rw [z] at h
  have h1 : 1 * 1 ≤ p.w * p.h := Nat.mul_le_mul F.w1 F.h1
  simp at h
  omega
theorem ints_ne_refs {v : List Int} {gs : List Addr} (hv : v ≠ []) : v.map V.int ≠ gs.map V.ref := fun z => by
  cases v with
  | nil => exact hv rfl
  | cons x r =>
    cases gs with
    | nil => cases z
    | cons g s => cases (List.cons.inj z).1
/-- a grid stands where only the desk and its list are changed -/
theorem GridX.kept {X : Addr → Prop} {CD CG d e dx c s g : Addr} {H H' : Hp} {gs : List Addr} {a b : Int} {v : List Int} (G : GridX X CG H g a b v) (hv : v ≠ []) (hd : H d = some (.ins CD dx (dF c s e))) (he : H e = some (.lst (gs.map V.ref)))
    (k : ∀ b o, H b = some o → b ≠ d → b ≠ e → H' b = some o) : GridX X CG H' g a b v := by
  obtain ⟨dg, l, h1, h2, h3⟩ := G
  refine ⟨dg, l, k _ _ h1 (fun z => ?_) (fun z => ?_), k _ _ h2 (fun z => ?_) (fun z => ?_), h3⟩
  · rw [z, hd] at h1
    injection h1 with h1
    injection h1 with _ _ q
    exact gF_ne_dF q.symm
  · rw [z, he] at h1
    cases h1
  · rw [z, hd] at h2
    cases h2
  · rw [z, he] at h2
    injection h2 with h2
    injection h2 with q
    exact ints_ne_refs hv q.symm
theorem DeskAt.same {X : Addr → Prop} {CD CG d e : Addr} {H H' : Hp} {S : Ie04.St} (D : DeskAt X CD CG H d e S) (s : Same H H') : DeskAt X CD CG H' d e S := by
  obtain ⟨ok, sp, dx, c, a, gs, h1, h2, h3, h4, h5⟩ := D
  exact ⟨ok, fun x hx => ⟨(sp x hx).1.imp fun o ho => s _ _ ho, (sp x hx).2⟩, dx, c, a, gs, s _ _ h1, h2.same s, h3.same s, s _ _ h4, Grids.mono (fun g p _ q => q.same s) (fun p hp => ok.old p (List.mem_reverse.mp hp)) h5⟩
theorem DeskAt.fresh {X : Addr → Prop} {CD CG d e q : Addr} {H : Hp} {S : Ie04.St} (D : DeskAt X CD CG H d e S) (h : H q = none) : ¬ X q := fun z => by
  obtain ⟨o, ho⟩ := (D.sep q z).1
  rw [h] at ho
  cases ho
theorem Kept.of_same {H H' : Hp} {d e : Addr} (s : Same H H') : Kept H H' d e e := ⟨fun b o h _ _ => s b o h, .inl rfl⟩
theorem Kept.ahead {H H1 H' : Hp} {d e e' : Addr} (s : Same H H1) (k : Kept H1 H' d e e') : Kept H H' d e e' := ⟨fun b o h => k.keep b o (s b o h), k.new.imp id fun z => s.free z⟩
/-- what a method of the desk hands back: the answer's numbers in a new list, and the desk as it is then -/
def Ans (X : Addr → Prop) (CD CG : Addr) (H : Hp) (d e : Addr) (r : Ie04.St × List Int) (Q : VK) : Prop :=
  ∀ (H' : Hp) (q e' : Addr), DeskAt X CD CG H' d e' r.1 → Kept H H' d e e' → H q = none → H' q = some (.lst (r.2.map V.int)) → Q (.ref q) H'
theorem Ans.ahead {X : Addr → Prop} {CD CG d e : Addr} {H H1 : Hp} {r : Ie04.St × List Int} {Q : VK} (s : Same H H1) (a : Ans X CD CG H d e r Q) : Ans X CD CG H1 d e r Q :=
  fun H' q e' D k hq hl => a H' q e' D (k.ahead s) (s.free hq) hl
/-- a refusal, or any answer that changes nothing: a new list -/
theorem Ans.still {X : Addr → Prop} {CD CG d e q : Addr} {H H1 : Hp} {S : Ie04.St} {l : List Int} {Q : VK} (a : Ans X CD CG H d e (S, l) Q) (D : DeskAt X CD CG H d e S) (s : Same H H1) (hq : H1 q = none) : Q (.ref q) (upd H1 q (.lst (l.map V.int))) := by
  have s2 : Same H (upd H1 q (.lst (l.map V.int))) := s.trans (same_new hq)
  exact a _ q e (D.same s2) (Kept.of_same s2) (s.free hq) upd_same
/-- what the top has written of the class Desk -/
structure DTxt (K : PySem.W.Frag) (C : Addr) : Prop where
  cl : Cls K C
  nC : NoAttr K C "current"
  nA : NoAttr K C "aside"
  nE : NoAttr K C "earlier"
/-! ### Grid's own def -/
def spGInit (C : Addr) : Sp := fun vs H Q _ => ∃ (p dx : Addr) (a b : Int) (l : Addr), vs = [.ref p, .int a, .int b, .ref l] ∧ H p = some (.ins C dx []) ∧
  ∀ H' : Hp, H' p = some (.ins C dx (gF a b l)) → (∀ b o, H b = some o → b ≠ p → H' b = some o) → Q .non H'
theorem gF_new (a b : Int) (l : Addr) : putF "numbers" (.ref l) (putF "rows" (.int b) (putF "columns" (.int a) [])) = gF a b l := by
  show putF "numbers" (.ref l) (putF "rows" (.int b) [("columns", .int a)]) = _
  rw [put_past (by decide +kernel)]
  show putF "numbers" (.ref l) (("columns", .int a) :: [("rows", .int b)]) = _
  rw [put_past (by decide +kernel), put_past (by decide +kernel)]
  rfl
section
variable {P : Program} {w : World} {K : PySem.W.Frag} {mg : Str → Option Value} {base : Heap}
theorem scGInit : FnScope ["self", "columns", "rows", "numbers"] ["self", "columns", "rows", "numbers"] (defScope sGInit) := ⟨rfl, rfl, rfl, by decide +kernel, rfl, by decide +kernel, by decide +kernel⟩
theorem ok_gInit {f C : Addr} {fd : FuncData} (F : Fun K "__init__" "Grid.__init__" sGInit f fd) (T : GTxt K C) : FnOk P w K mg base CX0 1 f fd ["self", "columns", "rows", "numbers"] (spGInit C) := by
  refine F.ok scGInit (fun vs H Q E h => ?_) (fun cdv A outer s H vs Q E hr h => ?_)
  · obtain ⟨p, dx, a, b, l, rfl, _⟩ := h
    rfl
  · obtain ⟨p, dx, a, b, l, rfl, hp, k⟩ := h
    refine ⟨_, pss_cons (ps_fld (pv 0) (pv 1) rfl) (pss_cons (ps_fld (pv 0) (pv 2) rfl) (pss_one (ps_fld (pv 0) (pv 3) rfl))), ?_⟩
    refine ⟨_, rfl, _, rfl, p, C, dx, [], rfl, hp, T.cl, T.nC, (by show 0 < 1000; decide), ?_⟩
    refine ⟨_, rfl, _, rfl, p, C, dx, _, rfl, upd_same, T.cl, T.nR, (by show 1 < 1000; decide), ?_⟩
    refine ⟨_, rfl, _, rfl, p, C, dx, _, rfl, upd_same, T.cl, T.nN, ?_, ?_⟩
    · show (putF "rows" (V.int b) (putF "columns" (V.int a) [])).length < 1000
      show (putF "rows" (V.int b) [("columns", V.int a)]).length < 1000
      rw [put_past (by decide +kernel)]
      show 2 < 1000
      decide
    · exact k _ (Eq.trans upd_same (congrArg (fun q => some (HO.ins C dx q)) (gF_new a b l))) fun b o e hb => by
        rw [upd_ne hb, upd_ne hb, upd_ne hb]
        exact e
/-- the class Grid as it is called -/
structure GridC (P : Program) (w : World) (K : PySem.W.Frag) (mg : Str → Option Value) (base : Heap) (C : Addr) : Prop where
  T : GTxt K C
  mgC : mg "Grid" = some (.ref C)
  ex : ∃ (f : Addr) (fd : FuncData), Mk K C f ∧ FnOk P w K mg base CX0 1 f fd ["self", "columns", "rows", "numbers"] (spGInit C) ∧ Binds K fd ["self", "columns", "rows", "numbers"] []
/-! ### Desk's own defs -/
def spDInit (CD CG : Addr) : Sp := fun vs H Q _ => ∃ (d dx : Addr), vs = [.ref d] ∧ H d = some (.ins CD dx []) ∧
  ∀ (H' : Hp) (e : Addr), DeskAt (fun _ => False) CD CG H' d e Ie04.init → (∀ b o, H b = some o → b ≠ d → H' b = some o) → H e = none → Q .non H'
theorem scDInit : FnScope ["self"] ["self"] (defScope sDInit) := ⟨rfl, rfl, rfl, by decide +kernel, rfl, by decide +kernel, by decide +kernel⟩
theorem dF_new (c e : Addr) : putF "earlier" (.ref e) (putF "aside" (.ref c) (putF "current" (.ref c) [])) = dF c c e := by
  show putF "earlier" (.ref e) (putF "aside" (.ref c) [("current", .ref c)]) = _
  rw [put_past (by decide +kernel)]
  show putF "earlier" (.ref e) (("current", .ref c) :: [("aside", .ref c)]) = _
  rw [put_past (by decide +kernel), put_past (by decide +kernel)]
  rfl
theorem init_ok : StOk Ie04.init := ⟨⟨by decide, by decide, by decide, by decide, by decide⟩, ⟨by decide, by decide, by decide, by decide, by decide⟩, fun p hp => (by cases hp), by decide⟩
theorem ok_dInit {f CD CG : Addr} {fd : FuncData} (F : Fun K "__init__" "Desk.__init__" sDInit f fd) (T : DTxt K CD) (GC : GridC P w K mg base CG) : FnOk P w K mg base CX0 3 f fd ["self"] (spDInit CD CG) := by
  obtain ⟨fI, fdI, M, GI, bI⟩ := GC.ex
  refine F.ok scDInit (fun vs H Q E h => ?_) (fun cdv A outer s H vs Q E hr h => ?_)
  · obtain ⟨d, dx, rfl, _⟩ := h
    rfl
  · obtain ⟨d, dx, rfl, hd, k⟩ := h
    refine ⟨_, pss_cons (ps_fld (pv 0) (pe_make M GI hr rfl GC.mgC bI .nil pass0 (pa_cons pe_int (pa_cons pe_int (pa_cons (pe_lst (pa_cons pe_int pa_nil)) pa_nil)))) rfl)
      (pss_cons (ps_fld (pv 0) (pe_fld (pv 0) rfl) rfl) (pss_one (ps_fld (pv 0) (pe_lst pa_nil) rfl))), ?_⟩
    refine ⟨(by show 1 ≤ sizeLine; decide), fun l hl => ?_⟩
    intro x gx nx ngx nex
    refine ⟨x, gx, 1, 1, l, rfl, upd_same, fun H1 J kp => ⟨rfl, ?_⟩⟩
    have s0 : Same H (upd H l (.lst [.int 0])) := same_new hl
    have s1 : Same (upd H l (.lst [.int 0])) H1 := Same.made nx ngx kp
    have hd1 := s1 _ _ (s0 _ _ hd)
    have nxd : x ≠ d := fun z => by
      rw [z, s0 _ _ hd] at nx
      cases nx
    refine ⟨_, rfl, d, CD, dx, [], rfl, hd1, T.cl, T.nC, (by show 0 < 1000; decide), ?_⟩
    refine ⟨_, rfl, d, CD, dx, _, _, rfl, upd_same, T.cl, T.nC, lk_here, _, rfl, d, CD, dx, _, rfl, upd_same, T.cl, T.nA, (by show 1 < 1000; decide), ?_⟩
    refine ⟨Nat.zero_le _, fun e he => ?_⟩
    have ned : d ≠ e := fun z => by
      rw [← z, upd_same] at he
      cases he
    refine ⟨_, rfl, d, CD, dx, _, rfl, Eq.trans (upd_ne ned) upd_same, T.cl, T.nE, ?_, ?_⟩
    · show (putF "aside" (V.ref x) [("current", V.ref x)]).length < 1000
      rw [put_past (by decide +kernel)]
      show 2 < 1000
      decide
    · have he1 : H1 e = none := by
        rw [upd_ne ned.symm, upd_ne ned.symm] at he
        exact he
      have he0 : H e = none := (s0.trans s1).free he1
      have step : ∀ b o, H1 b = some o → b ≠ d → (upd (upd (upd (upd H1 d (.ins CD dx (putF "current" (.ref x) []))) d (.ins CD dx (putF "aside" (.ref x) (putF "current" (.ref x) [])))) e (.lst [])) d (.ins CD dx (putF "earlier" (.ref e) (putF "aside" (.ref x) (putF "current" (.ref x) []))))) b = some o := fun b o q hb => by
        rw [upd_ne hb, upd_ne (ne_of_none q he1), upd_ne hb, upd_ne hb]
        exact q
      have gx1 : GridX (fun _ => False) CG (upd (upd (upd (upd H1 d (.ins CD dx (putF "current" (.ref x) []))) d (.ins CD dx (putF "aside" (.ref x) (putF "current" (.ref x) [])))) e (.lst [])) d (.ins CD dx (putF "earlier" (.ref e) (putF "aside" (.ref x) (putF "current" (.ref x) []))))) x 1 1 [0] := by
        refine ⟨gx, l, step _ _ J nxd, step _ _ (s1 _ _ upd_same) (fun z => ?_), fun z => z⟩
        rw [z, hd] at hl
        cases hl
      refine k _ e ⟨init_ok, fun x hx => hx.elim, dx, x, x, [], Eq.trans upd_same (congrArg (fun q => some (HO.ins CD dx q)) (dF_new x e)), gx1, gx1, Eq.trans (upd_ne ned.symm) upd_same, trivial⟩ (fun b o q hb => step b o (s1 _ _ (s0 _ _ q)) hb) he0
end
end Nd

set_option Elab.async false
set_option maxRecDepth 100000
set_option maxHeartbeats 2000000
namespace Nd
open PySem L2
/-! ### the changed picture -/
theorem old_take {p : Ie04.Pic} {old : List Ie04.Pic} (h : old.length ≤ 16) : ((p :: old).take 16).reverse = if 16 < old.length + 1 then (old.reverse ++ [p]).tail else old.reverse ++ [p] := by
  have e : old.reverse ++ [p] = (p :: old).reverse := by simp
  rw [e]
  by_cases c : 16 < old.length + 1
  · rw [if_pos c, List.tail_reverse, List.dropLast_eq_take]
    have : (p :: old).length - 1 = 16 := by
      show old.length + 1 - 1 = 16
      omega
    rw [this]
  · rw [if_neg c, List.take_of_length_le (by show old.length + 1 ≤ 16; omega)]
theorem become_ok {S : Ie04.St} {q : Ie04.Pic} (ok : StOk S) (F : Fits q) : StOk ⟨q, S.aside, (S.pic :: S.old).take 16⟩ := by
  refine ⟨F, ok.aside, fun p hp => ?_, ?_⟩
  · have := List.mem_of_mem_take hp
    cases this with
    | head => exact ok.pic
    | tail _ h => exact ok.old p h
  · show ((S.pic :: S.old).take 16).length ≤ 16
    rw [List.length_take]
    omega
theorem become_bad {S : Ie04.St} {q : Ie04.Pic} (h : q.v.all (nearB 1000000000000) = false) : Ie04.become S q = (S, [-9]) := if_pos h
theorem become_good {S : Ie04.St} {q : Ie04.Pic} (h : q.v.all (nearB 1000000000000) = true) : Ie04.become S q = (⟨q, S.aside, (S.pic :: S.old).take 16⟩, [0, Ie04.least q.v, Ie04.greatest q.v]) := by
  unfold Ie04.become
  rw [if_neg]
  rw [small_is, h]
  exact Bool.noConfusion
section
variable {P : Program} {w : World} {K : PySem.W.Frag} {mg : Str → Option Value} {base : Heap}
def spChange (CD CG : Addr) : Sp := fun vs H Q _ => ∃ (X : Addr → Prop) (d e l : Addr) (S : Ie04.St) (v : List Int), vs = [.ref d, .ref l] ∧ DeskAt X CD CG H d e S ∧ H l = some (.lst (v.map V.int)) ∧ ¬ X l ∧ v.length = S.pic.w * S.pic.h ∧
  Ans X CD CG H d e (Ie04.become S ⟨S.pic.w, S.pic.h, v⟩) Q
theorem scChange : FnScope ["self", "numbers"] ["self", "numbers"] (defScope sChange) := ⟨rfl, rfl, rfl, by decide +kernel, rfl, by decide +kernel, by decide +kernel⟩
theorem ok_change {f CD CG : Addr} {fd : FuncData} (F : Fun K "change" "Desk.change" sChange f fd) (T : DTxt K CD) (GC : GridC P w K mg base CG) (B : BTxt mg) (Cn : CTxt mg) (D2 : Def P w K mg base 2 "all_near" ["numbers", "farthest"] (spAllNear K)) :
    FnOk P w K mg base CX0 3 f fd ["self", "numbers"] (spChange CD CG) := by
  obtain ⟨fI, fdI, M, GI, bI⟩ := GC.ex
  obtain ⟨fN, fdN, GN, mgN, kpN, bN⟩ := D2.ex
  obtain ⟨t1, c1⟩ := Cn.chan
  obtain ⟨t2, c2⟩ := Cn.kept
  refine F.ok scChange (fun vs H Q E h => ?_) (fun cdv A outer s H vs Q E hr h => ?_)
  · obtain ⟨X, d, e, l, S, v, rfl, _⟩ := h
    rfl
  · obtain ⟨X, d, e, l, S, v, rfl, D, hl, hXl, hlen, k⟩ := h
    refine ⟨_, pss_cons (ps_if (pt_not (pt_val (pe_call GN hr rfl mgN kpN bN .nil pass0 (pa_cons (pv 1) (pa_cons (pe_num rfl c1 ⟨_, rfl⟩) pa_nil))))) (pss_one (ps_ret (pe_lst (pa_cons (pe_un un_neg pe_int) pa_nil)))) pss_nil)
      (pss_cons (ps_expr (pe_bm PySem.F.plainAttrs_list PySem.F.slot_list_append PySem.F.type_list_append mt_append (pe_fld (pv 0) rfl) (pa_cons (pe_fld (pv 0) rfl) pa_nil)))
      (C8.pss_cut (ps_if (pt_cmpR op_gt (pe_callB call_len_seq (by rfl) B.len PySem.boot_len (pa_cons (pe_fld (pv 0) rfl) pa_nil)) (pe_num rfl c2 ⟨_, rfl⟩) (nomark _)) (pss_one (ps_expr (pe_bm PySem.F.plainAttrs_list PySem.F.slot_list_pop PySem.F.type_list_pop mt_popAt (pe_fld (pv 0) rfl) (pa_cons pe_int pa_nil)))) pss_nil)
      (pss_cons (ps_fld (pv 0) (pe_make M GI hr rfl GC.mgC bI .nil pass0 (pa_cons (pe_fld (pe_fld (pv 0) rfl) rfl) (pa_cons (pe_fld (pe_fld (pv 0) rfl) rfl) (pa_cons (pv 1) pa_nil)))) rfl)
      (pss_one (ps_ret (pe_lst (pa_cons pe_int (pa_cons (pe_callB (cr_min rfl) (by rfl) B.min (by decide +kernel) (pa_cons (pv 1) pa_nil)) (pa_cons (pe_callB (cr_max rfl) (by rfl) B.max (by decide +kernel) (pa_cons (pv 1) pa_nil)) pa_nil))))))))), ?_⟩
    have okS := D.ok
    have b1 : S.pic.w * S.pic.h ≤ 12 * 12 := Nat.mul_le_mul okS.pic.w2 okS.pic.h2
    have b2 : 1 * 1 ≤ S.pic.w * S.pic.h := Nat.mul_le_mul okS.pic.w1 okS.pic.h1
    refine ⟨_, rfl, l, v, 1000000000000, rfl, SqL.of hl, by omega, fun H1 s1 => ⟨_, rfl, ?_⟩⟩
    cases ea : v.all (nearB 1000000000000) with
    | false =>
      refine iteT ?_
      refine ⟨_, rfl, (by show 1 ≤ sizeLine; decide), fun q hq => ?_⟩
      rw [become_bad (q := ⟨S.pic.w, S.pic.h, v⟩) ea] at k
      exact Ans.still k D s1 hq
    | true =>
      refine iteF ?_
      rw [become_good (q := ⟨S.pic.w, S.pic.h, v⟩) ea] at k
      have k := k.ahead s1
      have D1 := D.same s1
      have hl := s1 _ _ hl
      obtain ⟨_, sepX, dx, c, a, gs, h1, h2, h3, h4, h5⟩ := D1
      have hgl : gs.length = S.old.length := by
        rw [h5.len, List.length_reverse]
      have ned : e ≠ d := ne_of h4 h1 (by intro z; cases z)
      have vne : v ≠ [] := fun z => by
        rw [z] at hlen
        simp at hlen
        omega
      refine ⟨_, rfl, d, CD, dx, _, _, rfl, h1, T.cl, T.nE, dF_earlier _ _ _, .inl ⟨rfl, _, SqL.of h4⟩, _, rfl, d, CD, dx, _, _, rfl, h1, T.cl, T.nC, dF_current _ _ _, e, _, _, rfl, rfl, h4, ?_, ?_⟩
      · refine Nat.lt_of_le_of_lt (m := 16) ?_ (by decide)
        rw [List.length_map, hgl]
        exact okS.len
      refine ⟨fun σ' H2 => σ' = [some (.ref d), some (.ref l)] ∧ (∀ b o, H1 b = some o → b ≠ e → H2 b = some o) ∧ (∀ b, H2 b = none → H1 b = none) ∧ ∃ gs', H2 e = some (.lst (gs'.map V.ref)) ∧ Grids X CG H1 gs' ((S.pic :: S.old).take 16).reverse, ?_, ?_⟩
      · have hd2 : (upd H1 e (.lst (gs.map V.ref ++ [.ref c]))) d = some (.ins CD dx (dF c a e)) := by
          rw [upd_ne ned.symm]
          exact h1
        refine ⟨_, rfl, d, CD, dx, _, _, rfl, hd2, T.cl, T.nE, dF_earlier _ _ _, e, _, rfl, .inl (SqL.of upd_same), _, _, rfl, rfl, _, rfl, ?_⟩
        have hlen2 : (gs.map V.ref ++ [V.ref c]).length = S.old.length + 1 := by
          rw [List.length_append, List.length_map, hgl]
          rfl
        rw [hlen2]
        have free2 : ∀ (o : HO) (b : Addr), (upd H1 e o) b = none → H1 b = none := fun o b hb => by
          by_cases z : b = e
          · rw [z, upd_same] at hb
            cases hb
          · rw [upd_ne z] at hb
            exact hb
        have hsn : gs.map V.ref ++ [V.ref c] = (gs ++ [c]).map V.ref := by
          rw [List.map_append]
          rfl
        refine ifD (fun c3 => ?_) (fun c3 => ?_)
        · have hix : (gs.map V.ref ++ [V.ref c])[0]? = some ((gs.map V.ref ++ [V.ref c])[0]'(by rw [hlen2]; omega)) := List.getElem?_eq_getElem _
          refine ⟨_, rfl, d, CD, dx, _, _, rfl, hd2, T.cl, T.nE, dF_earlier _ _ _, .inl ⟨rfl, _, SqL.of upd_same⟩, e, _, 0, 0, _, rfl, rfl, upd_same, by decide, by decide, ?_, hix, ?_⟩
          · rw [hlen2]
            show seqIndex? 0 (S.old.length + 1) = some 0
            unfold seqIndex?
            simp
          · refine ⟨rfl, fun b o hb nb => ?_, fun b hb => ?_, (gs ++ [c]).tail, ?_, ?_⟩
            · rw [upd_ne nb, upd_ne nb]
              exact hb
            · by_cases z : b = e
              · rw [z, upd_same] at hb
                cases hb
              · rw [upd_ne z] at hb
                exact free2 _ b hb
            · rw [upd_same, hsn, List.eraseIdx_zero, List.map_tail]
            · rw [old_take okS.len, if_pos (by omega)]
              exact (h5.snoc h2).tail
        · refine ⟨rfl, fun b o hb nb => ?_, fun b hb => free2 _ b hb, gs ++ [c], ?_, ?_⟩
          · rw [upd_ne nb]
            exact hb
          · rw [upd_same, hsn]
          · rw [old_take okS.len, if_neg (by omega)]
            exact h5.snoc h2
      · rintro σ' H2 ⟨rfl, kp2, fr2, gs', he2, hg2⟩
        have hd2 := kp2 _ _ h1 ned.symm
        have nle : l ≠ e := fun z => by
          rw [z, h4] at hl
          injection hl with hl
          injection hl with hl
          exact ints_ne_refs vne hl.symm
        have nld : l ≠ d := ne_of hl h1 (by intro z; cases z)
        have hl2 := kp2 _ _ hl nle
        obtain ⟨dc, lc, hc1, hc2, _⟩ := id h2
        have nce : c ≠ e := ne_of hc1 h4 (by intro z; cases z)
        have hc2' := kp2 _ _ hc1 nce
        refine ⟨_, rfl, d, CD, dx, _, _, rfl, hd2, T.cl, T.nC, dF_current _ _ _, c, CG, dc, _, _, rfl, hc2', GC.T.cl, GC.T.nC, gF_columns _ _ _, _, rfl, d, CD, dx, _, _, rfl, hd2, T.cl, T.nC, dF_current _ _ _, c, CG, dc, _, _, rfl, hc2', GC.T.cl, GC.T.nR, gF_rows _ _ _, _, rfl, ?_⟩
        intro x gx nx ngx nex
        refine ⟨x, gx, _, _, l, rfl, upd_same, fun H3 J kp3 => ⟨rfl, ?_⟩⟩
        have s3 : Same H2 H3 := Same.made nx ngx kp3
        have hd3 := s3 _ _ hd2
        have hl3 := s3 _ _ hl2
        have nxd : x ≠ d := fun z => by
          rw [z, hd2] at nx
          cases nx
        refine ⟨_, rfl, d, CD, dx, _, rfl, hd3, T.cl, T.nC, (by show 3 < 1000; decide), ?_⟩
        rw [dF_putC]
        have hl4 : (upd H3 d (.ins CD dx (dF x a e))) l = some (.lst (v.map V.int)) := by
          rw [upd_ne nld]
          exact hl3
        refine ⟨_, rfl, l, v, rfl, SqL.of hl4, by omega, fun mn hmn lmn => ?_⟩
        refine ⟨_, rfl, l, v, rfl, SqL.of hl4, by omega, fun mx hmx lmx => ?_⟩
        refine ⟨(by show 3 ≤ sizeLine; decide), fun q hq => ?_⟩
        have hq3 : H3 q = none := by
          by_cases z : q = d
          · rw [z, upd_same] at hq
            cases hq
          · rw [upd_ne z] at hq
            exact hq
        have hq1 : H1 q = none := fr2 _ (s3.free hq3)
        have keep : ∀ b o, H1 b = some o → b ≠ d → b ≠ e → (upd (upd H3 d (.ins CD dx (dF x a e))) q (.lst [.int 0, .int mn, .int mx])) b = some o := fun b o hb nd ne => by
          rw [upd_ne (ne_of_none hb hq1), upd_ne nd]
          exact s3 _ _ (kp2 _ _ hb ne)
        have nqd : d ≠ q := ne_of_none h1 hq1
        have nqe : e ≠ q := ne_of_none h4 hq1
        have nqx : x ≠ q := fun z => by
          rw [← z, J] at hq3
          cases hq3
        rw [least_is hmn lmn, greatest_is hmx lmx] at k
        refine k _ q e ⟨become_ok okS ⟨okS.pic.w1, okS.pic.w2, okS.pic.h1, okS.pic.h2, hlen⟩, fun y hy => ⟨(sepX y hy).1.imp fun o ho => keep y o ho (sepX y hy).2.1 (sepX y hy).2.2, (sepX y hy).2⟩, dx, x, a, gs', ?_, ?_, ?_, ?_, ?_⟩ ⟨keep, .inl rfl⟩ hq1 upd_same
        · rw [upd_ne nqd, upd_same]
        · refine ⟨gx, l, ?_, keep _ _ hl nld nle, hXl⟩
          rw [upd_ne nqx, upd_ne nxd]
          exact J
        · exact h3.kept okS.aside.some h1 h4 keep
        · rw [upd_ne nqe, upd_ne ned]
          exact s3 _ _ he2
        · refine Grids.mono (fun g p fp gp => gp.kept fp.some h1 h4 keep) (fun p hp => ?_) hg2
          have hp := List.mem_of_mem_take (List.mem_reverse.mp hp)
          cases hp with
          | head => exact okS.pic
          | tail _ h => exact okS.old p h
end
end Nd

set_option Elab.async false
set_option maxRecDepth 100000
set_option maxHeartbeats 2000000
namespace Nd
open PySem L2
theorem become_eq (S : Ie04.St) (q : Ie04.Pic) : (if Ie04.small q = false then (S, [-9]) else Ie04.become S q) = Ie04.become S q := by
  by_cases c : Ie04.small q = false
  · rw [if_pos c]
    unfold Ie04.become
    rw [if_pos c]
  · rw [if_neg c]
theorem step_picture_bad {S : Ie04.St} {w h : Nat} {l : List Int} (c : BadPic w h l) : Ie04.step S (.picture w h l) = (S, [-1]) := if_pos c
theorem step_picture {S : Ie04.St} {w h : Nat} {l : List Int} (c : ¬ BadPic w h l) : Ie04.step S (.picture w h l) = (⟨⟨w, h, l⟩, S.aside, []⟩, [0]) := if_neg c
theorem fits_of {w h : Nat} {l : List Int} (c : ¬ BadPic w h l) : Fits ⟨w, h, l⟩ := by
  unfold BadPic at c
  simp only [not_or, Nat.not_lt, ne_eq, Classical.not_not] at c
  exact ⟨c.1, c.2.1, c.2.2.1, c.2.2.2.1, c.2.2.2.2.1⟩
theorem wok_of {k : Ie04.Weights} (h : Ie04.isWeights k = true) : WOk k := by
  unfold Ie04.isWeights at h
  simp only [Bool.and_eq_true, decide_eq_true_eq, List.all_eq_true] at h
  exact ⟨h.1, h.2.1, h.2.2.1, h.2.2.2.1, h.2.2.2.2.1, h.2.2.2.2.2⟩
section
variable {P : Program} {w : World} {K : PySem.W.Frag} {mg : Str → Option Value} {base : Heap}
/-! show -/
def spShow (CD CG : Addr) : Sp := fun vs H Q _ => ∃ (X : Addr → Prop) (d e l : Addr) (S : Ie04.St) (wd ht : Nat) (v : List Int), vs = [.ref d, .int (wd : Int), .int (ht : Int), .ref l] ∧ DeskAt X CD CG H d e S ∧ H l = some (.lst (v.map V.int)) ∧ ¬ X l ∧ v.length ≤ 1000 ∧
  Ans X CD CG H d e (Ie04.step S (.picture wd ht v)) Q
theorem scShow : FnScope ["self", "columns", "rows", "numbers"] ["self", "columns", "rows", "numbers"] (defScope sShow) := ⟨rfl, rfl, rfl, by decide +kernel, rfl, by decide +kernel, by decide +kernel⟩
theorem ok_show {f CD CG : Addr} {fd : FuncData} (F : Fun K "show" "Desk.show" sShow f fd) (T : DTxt K CD) (GC : GridC P w K mg base CG) (D2 : Def P w K mg base 3 "is_picture" ["columns", "rows", "numbers"] (spIsPic K)) :
    FnOk P w K mg base CX0 4 f fd ["self", "columns", "rows", "numbers"] (spShow CD CG) := by
  obtain ⟨fI, fdI, M, GI, bI⟩ := GC.ex
  obtain ⟨fN, fdN, GN, mgN, kpN, bN⟩ := D2.ex
  refine F.ok scShow (fun vs H Q E h => ?_) (fun cdv A outer s H vs Q E hr h => ?_)
  · obtain ⟨X, d, e, l, S, wd, ht, v, rfl, _⟩ := h
    rfl
  · obtain ⟨X, d, e, l, S, wd, ht, v, rfl, D, hl, hXl, hlen, k⟩ := h
    have hr2 : Room 2 _ := hr.mono (by decide)
    refine ⟨_, pss_cons (ps_if (pt_not (pt_val (pe_call GN hr rfl mgN kpN bN .nil pass0 (pa_cons (pv 1) (pa_cons (pv 2) (pa_cons (pv 3) pa_nil)))))) (pss_one (ps_ret (pe_lst (pa_cons (pe_un un_neg pe_int) pa_nil)))) pss_nil)
      (pss_cons (ps_fld (pv 0) (pe_make M GI hr2 rfl GC.mgC bI .nil pass0 (pa_cons (pv 1) (pa_cons (pv 2) (pa_cons (pv 3) pa_nil)))) rfl)
      (pss_cons (ps_fld (pv 0) (pe_lst pa_nil) rfl)
      (pss_one (ps_ret (pe_lst (pa_cons pe_int pa_nil)))))), ?_⟩
    refine ⟨_, rfl, _, rfl, _, rfl, wd, ht, l, v, rfl, SqL.of hl, hlen, fun H1 s1 => ⟨_, rfl, ?_⟩⟩
    by_cases c : BadPic wd ht v
    · rw [decide_eq_true c]
      refine iteT ?_
      refine ⟨_, rfl, (by show 1 ≤ sizeLine; decide), fun q hq => ?_⟩
      rw [step_picture_bad c] at k
      exact Ans.still k D s1 hq
    · rw [decide_eq_false c]
      refine iteF ?_
      rw [step_picture c] at k
      have k := k.ahead s1
      have hl := s1 _ _ hl
      obtain ⟨okS, sepX, dx, c0, a, gs, h1, h2, h3, h4, h5⟩ := D.same s1
      have Fp := fits_of c
      refine ⟨_, rfl, _, rfl, _, rfl, ?_⟩
      intro x gx nx ngx nex
      refine ⟨x, gx, _, _, l, rfl, upd_same, fun H3 J kp3 => ⟨rfl, ?_⟩⟩
      have s3 : Same H1 H3 := Same.made nx ngx kp3
      have hd3 := s3 _ _ h1
      have hl3 := s3 _ _ hl
      have nxd : x ≠ d := fun z => by
        rw [z, h1] at nx
        cases nx
      have nld : l ≠ d := ne_of hl h1 (by intro z; cases z)
      refine ⟨_, rfl, d, CD, dx, _, rfl, hd3, T.cl, T.nC, (by show 3 < 1000; decide), ?_⟩
      rw [dF_putC]
      refine ⟨Nat.zero_le _, fun e' he' => ?_⟩
      have nde : d ≠ e' := fun z => by
        rw [← z, upd_same] at he'
        cases he'
      have he3 : H3 e' = none := by
        rw [upd_ne nde.symm] at he'
        exact he'
      have he1 := s3.free he3
      refine ⟨_, rfl, d, CD, dx, _, rfl, Eq.trans (upd_ne nde) upd_same, T.cl, T.nE, (by show 3 < 1000; decide), ?_⟩
      rw [dF_putE]
      refine ⟨(by show 1 ≤ sizeLine; decide), fun q hq => ?_⟩
      have hqd : q ≠ d := fun z => by
        rw [z, upd_same] at hq
        cases hq
      have hqe : q ≠ e' := fun z => by
        rw [z, upd_ne nde.symm, upd_same] at hq
        cases hq
      have hq3 : H3 q = none := by
        rw [upd_ne hqd, upd_ne hqe, upd_ne hqd] at hq
        exact hq
      have hq1 := s3.free hq3
      have keep : ∀ b o, H3 b = some o → b ≠ d → (upd (upd (upd (upd H3 d (.ins CD dx (dF x a e))) e' (.lst [])) d (.ins CD dx (dF x a e'))) q (.lst [.int 0])) b = some o := fun b o hb nd => by
        rw [upd_ne (ne_of_none hb hq3), upd_ne nd, upd_ne (ne_of_none hb he3), upd_ne nd]
        exact hb
      refine k _ q e' ⟨⟨Fp, okS.aside, fun p hp => (by cases hp), Nat.zero_le _⟩, fun y hy => ⟨(sepX y hy).1.imp fun o ho => keep y o (s3 _ _ ho) (sepX y hy).2.1, (sepX y hy).2.1, fun z => ?_⟩, dx, x, a, [], ?_, ⟨gx, l, keep _ _ J nxd, keep _ _ hl3 nld, hXl⟩, ?_, ?_, trivial⟩ ⟨fun b o hb nd _ => keep b o (s3 _ _ hb) nd, .inr he1⟩ hq1 upd_same
      · obtain ⟨o, ho⟩ := (sepX y hy).1
        rw [z, he1] at ho
        cases ho
      · rw [upd_ne hqd.symm, upd_same]
      · exact h3.kept okS.aside.some h1 h4 fun b o hb nd _ => keep b o (s3 _ _ hb) nd
      · rw [upd_ne hqe.symm, upd_ne nde.symm, upd_same]
        rfl
/-! put -/
def spPut (CD CG : Addr) : Sp := fun vs H Q _ => ∃ (X : Addr → Prop) (d e : Addr) (S : Ie04.St), vs = [.ref d] ∧ DeskAt X CD CG H d e S ∧ Ans X CD CG H d e (Ie04.step S .put) Q
theorem scPut : FnScope ["self"] ["self"] (defScope sPut) := ⟨rfl, rfl, rfl, by decide +kernel, rfl, by decide +kernel, by decide +kernel⟩
theorem ok_put {f CD CG : Addr} {fd : FuncData} (F : Fun K "put" "Desk.put" sPut f fd) (T : DTxt K CD) : FnOk P w K mg base CX0 1 f fd ["self"] (spPut CD CG) := by
  refine F.ok scPut (fun vs H Q E h => ?_) (fun cdv A outer s H vs Q E hr h => ?_)
  · obtain ⟨X, d, e, S, rfl, _⟩ := h
    rfl
  · obtain ⟨X, d, e, S, rfl, ⟨okS, sepX, dx, c, a, gs, h1, h2, h3, h4, h5⟩, k⟩ := h
    refine ⟨_, pss_cons (ps_fld (pv 0) (pe_fld (pv 0) rfl) rfl) (pss_one (ps_ret (pe_lst (pa_cons pe_int pa_nil)))), ?_⟩
    refine ⟨_, rfl, d, CD, dx, _, _, rfl, h1, T.cl, T.nC, dF_current _ _ _, _, rfl, d, CD, dx, _, rfl, h1, T.cl, T.nA, (by show 3 < 1000; decide), ?_⟩
    rw [dF_putA]
    refine ⟨(by show 1 ≤ sizeLine; decide), fun q hq => ?_⟩
    have hqd : q ≠ d := fun z => by
      rw [z, upd_same] at hq
      cases hq
    have hq1 : H q = none := by
      rw [upd_ne hqd] at hq
      exact hq
    have keep : ∀ b o, H b = some o → b ≠ d → (upd (upd H d (.ins CD dx (dF c c e))) q (.lst [.int 0])) b = some o := fun b o hb nd => by
      rw [upd_ne (ne_of_none hb hq1), upd_ne nd]
      exact hb
    have keep2 : ∀ b o, H b = some o → b ≠ d → b ≠ e → (upd (upd H d (.ins CD dx (dF c c e))) q (.lst [.int 0])) b = some o := fun b o hb nd _ => keep b o hb nd
    have hc := h2.kept okS.pic.some h1 h4 keep2
    refine k _ q e ⟨⟨okS.pic, okS.pic, okS.old, okS.len⟩, fun y hy => ⟨(sepX y hy).1.imp fun o ho => keep y o ho (sepX y hy).2.1, (sepX y hy).2⟩, dx, c, c, gs, ?_, hc, hc, keep _ _ h4 (ne_of h4 h1 (by intro z; cases z)), ?_⟩ ⟨keep2, .inl rfl⟩ hq1 upd_same
    · rw [upd_ne hqd.symm, upd_same]
    · exact Grids.mono (fun g p fp gp => gp.kept fp.some h1 h4 keep2) (fun p hp => okS.old p (List.mem_reverse.mp hp)) h5
/-! weigh -/
def spWeigh (CD CG : Addr) : Sp := fun vs H Q _ => ∃ (X : Addr → Prop) (d e g : Addr) (S : Ie04.St) (o : Nat) (k : Ie04.Weights), vs = [.ref d, .int (o : Int), .ref g] ∧ DeskAt X CD CG H d e S ∧ GridAt CG H g k.a k.b k.l ∧ k.l.length ≤ 1000 ∧
  Ans X CD CG H d e (Ie04.step S (.weigh o k)) Q
theorem scWeigh : FnScope ["self", "outside", "weights"] ["self", "outside", "weights"] (defScope sWeigh) := ⟨rfl, rfl, rfl, by decide +kernel, rfl, by decide +kernel, by decide +kernel⟩
theorem ok_weigh {f CD CG : Addr} {fd : FuncData} (F : Fun K "weigh" "Desk.weigh" sWeigh f fd) (T : DTxt K CD) (D1 : Def P w K mg base 2 "is_outside" ["outside"] spIsOut) (D2 : Def P w K mg base 3 "are_weights" ["weights"] (spAreW CG))
    (D3 : Def P w K mg base 4 "weighed" ["picture", "outside", "weights"] (spWeighed CG)) (M1 : Mth P w K mg base 3 CD "change" ["self", "numbers"] (spChange CD CG)) : FnOk P w K mg base CX0 5 f fd ["self", "outside", "weights"] (spWeigh CD CG) := by
  obtain ⟨f1, fd1, G1, m1, kp1, b1⟩ := D1.ex
  obtain ⟨f2, fd2, G2, m2, kp2, b2⟩ := D2.ex
  obtain ⟨f3, fd3, G3, m3, kp3, b3⟩ := D3.ex
  obtain ⟨f4, fd4, G4, m4, b4⟩ := M1.ex
  refine F.ok scWeigh (fun vs H Q E h => ?_) (fun cdv A outer s H vs Q E hr h => ?_)
  · obtain ⟨X, d, e, g, S, o, k, rfl, _⟩ := h
    rfl
  · obtain ⟨X, d, e, g, S, o, k, rfl, D, hg, hlen, kk⟩ := h
    have hr2 : Room 2 _ := hr.mono (by decide)
    have hr3 : Room 3 _ := hr.mono (by decide)
    refine ⟨_, pss_cons (ps_if (pt_not (pt_val (pe_call G1 hr2 rfl m1 kp1 b1 .nil pass0 (pa_cons (pv 1) pa_nil)))) (pss_one (ps_ret (pe_lst (pa_cons (pe_un un_neg pe_int) pa_nil)))) pss_nil)
      (pss_cons (ps_if (pt_not (pt_val (pe_call G2 hr3 rfl m2 kp2 b2 .nil pass0 (pa_cons (pv 2) pa_nil)))) (pss_one (ps_ret (pe_lst (pa_cons (pe_un un_neg pe_int) pa_nil)))) pss_nil)
      (pss_one (ps_ret (pe_meth (pv 0) T.cl m4 G4 hr3 b4 .nil pass0 (pa_cons (pe_call G3 hr rfl m3 kp3 b3 .nil pass0 (pa_cons (pe_fld (pv 0) rfl) (pa_cons (pv 1) (pa_cons (pv 2) pa_nil)))) pa_nil))))), ?_⟩
    refine ⟨_, rfl, o, rfl, _, rfl, ?_⟩
    by_cases c : o ≤ 3
    · rw [decide_eq_true c]
      refine iteF ?_
      refine ⟨_, rfl, g, k, rfl, hg, hlen, fun H1 s1 => ⟨_, rfl, ?_⟩⟩
      have kk : Ans X CD CG H d e (if Ie04.isWeights k = false then (S, [-3]) else if Ie04.small (Ie04.weigh o k S.pic) = false then (S, [-9]) else Ie04.become S (Ie04.weigh o k S.pic)) Q := by
        have e1 : Ie04.step S (.weigh o k) = (if Ie04.isWeights k = false then (S, [-3]) else if Ie04.small (Ie04.weigh o k S.pic) = false then (S, [-9]) else Ie04.become S (Ie04.weigh o k S.pic)) := if_neg (by omega)
        rw [e1] at kk
        exact kk
      cases ew : Ie04.isWeights k with
      | false =>
        refine iteT ?_
        refine ⟨_, rfl, (by show 1 ≤ sizeLine; decide), fun q hq => ?_⟩
        rw [if_pos ew] at kk
        exact Ans.still kk D s1 hq
      | true =>
        refine iteF ?_
        rw [if_neg (by rw [ew]; exact Bool.noConfusion), become_eq] at kk
        have D1 := D.same s1
        obtain ⟨okS, sepX, dx, c0, a, gs, h1, h2, h3, h4, h5⟩ := id D1
        refine ⟨_, rfl, d, dx, _, rfl, h1, dF_no _ _ _ (by decide +kernel) (by decide +kernel) (by decide +kernel), _, rfl, d, CD, dx, _, _, rfl, h1, T.cl, T.nC, dF_current _ _ _, _, rfl, _, rfl, c0, g, S.pic, k, o, rfl, h2.at_, okS.pic, hg.same s1, wok_of ew, c, fun H2 q s2 nq hq => ?_⟩
        refine ⟨X, d, e, q, S, _, rfl, D1.same s2, hq, D1.fresh nq, ?_, (kk.ahead s1).ahead s2⟩
        rw [weigh_v, rowsOf_length, Nat.mul_comm]
    · rw [decide_eq_false c]
      refine iteT ?_
      refine ⟨_, rfl, (by show 1 ≤ sizeLine; decide), fun q hq => ?_⟩
      have e1 : Ie04.step S (.weigh o k) = (S, [-2]) := if_pos (by omega)
      rw [e1] at kk
      exact Ans.still kk D (Same.refl _) hq
end
end Nd

set_option Elab.async false
set_option maxRecDepth 100000
set_option maxHeartbeats 2000000
namespace Nd
open PySem L2
section
variable {P : Program} {w : World} {K : PySem.W.Frag} {mg : Str → Option Value} {base : Heap}
/-! rank -/
def spRank (CD CG : Addr) : Sp := fun vs H Q _ => ∃ (X : Addr → Prop) (d e : Addr) (S : Ie04.St) (o r n : Nat), vs = [.ref d, .int (o : Int), .int (r : Int), .int (n : Int)] ∧ DeskAt X CD CG H d e S ∧ r ≤ 1000000000 ∧ Ans X CD CG H d e (Ie04.step S (.rank o r n)) Q
theorem scRank : FnScope ["self", "outside", "r", "n"] ["self", "outside", "r", "n"] (defScope sRank) := ⟨rfl, rfl, rfl, by decide +kernel, rfl, by decide +kernel, by decide +kernel⟩
theorem ok_rank {f CD CG : Addr} {fd : FuncData} (F : Fun K "rank" "Desk.rank" sRank f fd) (T : DTxt K CD) (D1 : Def P w K mg base 2 "is_outside" ["outside"] spIsOut) (D2 : Def P w K mg base 2 "is_rank" ["r", "n"] spIsRank)
    (D3 : Def P w K mg base 4 "ranked" ["picture", "outside", "r", "n"] (spRanked CG)) (M1 : Mth P w K mg base 3 CD "change" ["self", "numbers"] (spChange CD CG)) : FnOk P w K mg base CX0 5 f fd ["self", "outside", "r", "n"] (spRank CD CG) := by
  obtain ⟨f1, fd1, G1, m1, kp1, b1⟩ := D1.ex
  obtain ⟨f2, fd2, G2, m2, kp2, b2⟩ := D2.ex
  obtain ⟨f3, fd3, G3, m3, kp3, b3⟩ := D3.ex
  obtain ⟨f4, fd4, G4, m4, b4⟩ := M1.ex
  refine F.ok scRank (fun vs H Q E h => ?_) (fun cdv A outer s H vs Q E hr h => ?_)
  · obtain ⟨X, d, e, S, o, r, n, rfl, _⟩ := h
    rfl
  · obtain ⟨X, d, e, S, o, r, n, rfl, D, hrb, kk⟩ := h
    have hr2 : Room 2 _ := hr.mono (by decide)
    have hr3 : Room 3 _ := hr.mono (by decide)
    refine ⟨_, pss_cons (ps_if (pt_not (pt_val (pe_call G1 hr2 rfl m1 kp1 b1 .nil pass0 (pa_cons (pv 1) pa_nil)))) (pss_one (ps_ret (pe_lst (pa_cons (pe_un un_neg pe_int) pa_nil)))) pss_nil)
      (pss_cons (ps_if (pt_not (pt_val (pe_call G2 hr2 rfl m2 kp2 b2 .nil pass0 (pa_cons (pv 2) (pa_cons (pv 3) pa_nil))))) (pss_one (ps_ret (pe_lst (pa_cons (pe_un un_neg pe_int) pa_nil)))) pss_nil)
      (pss_one (ps_ret (pe_meth (pv 0) T.cl m4 G4 hr3 b4 .nil pass0 (pa_cons (pe_call G3 hr rfl m3 kp3 b3 .nil pass0 (pa_cons (pe_fld (pv 0) rfl) (pa_cons (pv 1) (pa_cons (pv 2) (pa_cons (pv 3) pa_nil))))) pa_nil))))), ?_⟩
    refine ⟨_, rfl, o, rfl, _, rfl, ?_⟩
    by_cases c : o ≤ 3
    · rw [decide_eq_true c]
      refine iteF ?_
      refine ⟨_, rfl, _, rfl, r, n, rfl, hrb, _, rfl, ?_⟩
      have e1 : Ie04.step S (.rank o r n) = (if BadRank r n then (S, [-3]) else Ie04.become S (Ie04.rank o r n S.pic)) := if_neg (by omega)
      rw [e1] at kk
      by_cases c2 : BadRank r n
      · rw [decide_eq_true c2]
        refine iteT ?_
        refine ⟨_, rfl, (by show 1 ≤ sizeLine; decide), fun q hq => ?_⟩
        rw [if_pos c2] at kk
        exact Ans.still kk D (Same.refl _) hq
      · rw [decide_eq_false c2]
        refine iteF ?_
        rw [if_neg c2] at kk
        have c3 : 1 ≤ r ∧ r ≤ 2 ∧ n < (2 * r + 1) * (2 * r + 1) := by
          unfold BadRank at c2
          simp only [not_or, Nat.not_lt, Nat.not_le] at c2
          exact c2
        obtain ⟨okS, sepX, dx, c0, a, gs, h1, h2, h3, h4, h5⟩ := id D
        refine ⟨_, rfl, d, dx, _, rfl, h1, dF_no _ _ _ (by decide +kernel) (by decide +kernel) (by decide +kernel), _, rfl, d, CD, dx, _, _, rfl, h1, T.cl, T.nC, dF_current _ _ _, _, rfl, _, rfl, _, rfl, c0, S.pic, o, r, n, rfl, h2.at_, okS.pic, c, c3.2.1, c3.2.2, fun H2 q s2 nq hq => ?_⟩
        refine ⟨X, d, e, q, S, _, rfl, D.same s2, hq, D.fresh nq, ?_, kk.ahead s2⟩
        rw [rank_v, rowsOf_length, Nat.mul_comm]
    · rw [decide_eq_false c]
      refine iteT ?_
      refine ⟨_, rfl, (by show 1 ≤ sizeLine; decide), fun q hq => ?_⟩
      have e1 : Ie04.step S (.rank o r n) = (S, [-2]) := if_pos (by omega)
      rw [e1] at kk
      exact Ans.still kk D (Same.refl _) hq
/-! by -/
def spBy (CD CG : Addr) : Sp := fun vs H Q _ => ∃ (X : Addr → Prop) (d e : Addr) (S : Ie04.St) (x o : Int), vs = [.ref d, .int x, .int o] ∧ DeskAt X CD CG H d e S ∧ Ans X CD CG H d e (Ie04.step S (.by_ x o)) Q
theorem scBy : FnScope ["self", "d", "o"] ["self", "d", "o"] (defScope sBy) := ⟨rfl, rfl, rfl, by decide +kernel, rfl, by decide +kernel, by decide +kernel⟩
theorem ok_by {f CD CG : Addr} {fd : FuncData} (F : Fun K "by" "Desk.by" sBy f fd) (T : DTxt K CD) (Cn : CTxt mg) (D1 : Def P w K mg base 1 "is_from" ["number", "least", "greatest"] spIsFrom) (D2 : Def P w K mg base 2 "all_near" ["numbers", "farthest"] (spAllNear K))
    (D3 : Def P w K mg base 2 "divided_and_moved" ["picture", "d", "o"] (spDivMoved CG)) (M1 : Mth P w K mg base 3 CD "change" ["self", "numbers"] (spChange CD CG)) : FnOk P w K mg base CX0 4 f fd ["self", "d", "o"] (spBy CD CG) := by
  obtain ⟨f1, fd1, G1, m1, kp1, b1⟩ := D1.ex
  obtain ⟨f2, fd2, G2, m2, kp2, b2⟩ := D2.ex
  obtain ⟨f3, fd3, G3, m3, kp3, b3⟩ := D3.ex
  obtain ⟨f4, fd4, G4, m4, b4⟩ := M1.ex
  obtain ⟨t1, c1⟩ := Cn.divi
  obtain ⟨t2, c2⟩ := Cn.hand
  refine F.ok scBy (fun vs H Q E h => ?_) (fun cdv A outer s H vs Q E hr h => ?_)
  · obtain ⟨X, d, e, S, x, o, rfl, _⟩ := h
    rfl
  · obtain ⟨X, d, e, S, x, o, rfl, D, kk⟩ := h
    have hr1 : Room 1 _ := hr.mono (by decide)
    have hr2 : Room 2 _ := hr.mono (by decide)
    refine ⟨_, pss_cons (ps_if (PW.pt (pw_or (pt_not (pt_val (pe_call G1 hr1 rfl m1 kp1 b1 .nil pass0 (pa_cons (pv 1) (pa_cons pe_int (pa_cons (pe_num rfl c1 ⟨_, rfl⟩) pa_nil))))))
        (pw_or1 (pt_not (pt_val (pe_call G2 hr2 rfl m2 kp2 b2 .nil pass0 (pa_cons (pe_lst (pa_cons (pv 2) pa_nil)) (pa_cons (pe_num rfl c2 ⟨_, rfl⟩) pa_nil)))))))) (pss_one (ps_ret (pe_lst (pa_cons (pe_un un_neg pe_int) pa_nil)))) pss_nil)
      (pss_one (ps_ret (pe_meth (pv 0) T.cl m4 G4 hr b4 .nil pass0 (pa_cons (pe_call G3 hr2 rfl m3 kp3 b3 .nil pass0 (pa_cons (pe_fld (pv 0) rfl) (pa_cons (pv 1) (pa_cons (pv 2) pa_nil)))) pa_nil)))), ?_⟩
    refine ⟨_, rfl, x, 1, 1000000, rfl, _, rfl, ?_⟩
    have e1 : Ie04.step S (.by_ x o) = (if x < 1 ∨ 1000000 < x ∨ o < -65536 ∨ 65536 < o then (S, [-3]) else if Ie04.small ⟨S.pic.w, S.pic.h, S.pic.v.map fun z => Ie04.near z x + o⟩ = false then (S, [-9]) else Ie04.become S ⟨S.pic.w, S.pic.h, S.pic.v.map fun z => Ie04.near z x + o⟩) := rfl
    rw [e1] at kk
    by_cases q1 : 1 ≤ x ∧ x ≤ 1000000
    · have eb : (decide ((1 : Int) ≤ x) && decide (x ≤ 1000000)) = true := by
        rw [decide_eq_true q1.1, decide_eq_true q1.2]
        rfl
      rw [eb]
      refine iteF ?_
      refine ⟨_, rfl, (by show 1 ≤ sizeLine; decide), fun p np => ?_⟩
      have s0 : Same H (upd H p (.lst [.int o])) := same_new np
      refine ⟨p, [o], 65536, rfl, SqL.of upd_same, by show 1 ≤ 1000; decide, fun H1 s1 => ⟨_, rfl, ?_⟩⟩
      have s01 := s0.trans s1
      by_cases q2 : -65536 ≤ o ∧ o ≤ 65536
      · have eb : [o].all (nearB 65536) = true := by
          unfold nearB
          simp [q2.1, q2.2]
        rw [eb]
        refine iteF ?_
        rw [if_neg (by omega), become_eq] at kk
        have D1 := D.same s01
        obtain ⟨okS, sepX, dx, c0, a, gs, h1, h2, h3, h4, h5⟩ := id D1
        have bb : S.pic.w * S.pic.h ≤ 12 * 12 := Nat.mul_le_mul okS.pic.w2 okS.pic.h2
        have ll := okS.pic.len
        refine ⟨_, rfl, d, dx, _, rfl, h1, dF_no _ _ _ (by decide +kernel) (by decide +kernel) (by decide +kernel), _, rfl, d, CD, dx, _, _, rfl, h1, T.cl, T.nC, dF_current _ _ _, _, rfl, _, rfl, c0, _, _, _, x, o, rfl, h2.at_, by omega, q1.1, q1.2, fun H2 q s2 nq hq => ?_⟩
        refine ⟨X, d, e, q, S, _, rfl, D1.same s2, hq, D1.fresh nq, ?_, (kk.ahead s01).ahead s2⟩
        rw [List.length_map, ll]
      · have eb : [o].all (nearB 65536) = false := by
          unfold nearB
          simp
          omega
        rw [eb]
        refine iteT ?_
        refine ⟨_, rfl, (by show 1 ≤ sizeLine; decide), fun q hq => ?_⟩
        rw [if_pos (by omega)] at kk
        exact Ans.still kk D s01 hq
    · have eb : (decide ((1 : Int) ≤ x) && decide (x ≤ 1000000)) = false := by
        simp
        omega
      rw [eb]
      refine iteT (iteT ?_)
      refine ⟨_, rfl, (by show 1 ≤ sizeLine; decide), fun q hq => ?_⟩
      rw [if_pos (by omega)] at kk
      exact Ans.still kk D (Same.refl _) hq
/-! hold -/
def spHold (CD CG : Addr) : Sp := fun vs H Q _ => ∃ (X : Addr → Prop) (d e : Addr) (S : Ie04.St) (lo up : Int), vs = [.ref d, .int lo, .int up] ∧ DeskAt X CD CG H d e S ∧ Ans X CD CG H d e (Ie04.step S (.held lo up)) Q
theorem scHold : FnScope ["self", "least", "greatest"] ["self", "least", "greatest"] (defScope sHold) := ⟨rfl, rfl, rfl, by decide +kernel, rfl, by decide +kernel, by decide +kernel⟩
theorem ok_hold {f CD CG : Addr} {fd : FuncData} (F : Fun K "hold" "Desk.hold" sHold f fd) (T : DTxt K CD)
    (D3 : Def P w K mg base 1 "held" ["picture", "least", "greatest"] (spHeld CG)) (M1 : Mth P w K mg base 3 CD "change" ["self", "numbers"] (spChange CD CG)) : FnOk P w K mg base CX0 4 f fd ["self", "least", "greatest"] (spHold CD CG) := by
  obtain ⟨f3, fd3, G3, m3, kp3, b3⟩ := D3.ex
  obtain ⟨f4, fd4, G4, m4, b4⟩ := M1.ex
  refine F.ok scHold (fun vs H Q E h => ?_) (fun cdv A outer s H vs Q E hr h => ?_)
  · obtain ⟨X, d, e, S, lo, up, rfl, _⟩ := h
    rfl
  · obtain ⟨X, d, e, S, lo, up, rfl, D, kk⟩ := h
    have hr1 : Room 1 _ := hr.mono (by decide)
    refine ⟨_, pss_cons (ps_if (pt_cmpR op_lt (pv 2) (pv 1) (nomark _)) (pss_one (ps_ret (pe_lst (pa_cons (pe_un un_neg pe_int) pa_nil)))) pss_nil)
      (pss_one (ps_ret (pe_meth (pv 0) T.cl m4 G4 hr b4 .nil pass0 (pa_cons (pe_call G3 hr1 rfl m3 kp3 b3 .nil pass0 (pa_cons (pe_fld (pv 0) rfl) (pa_cons (pv 1) (pa_cons (pv 2) pa_nil)))) pa_nil)))), ?_⟩
    refine ⟨_, rfl, _, rfl, _, _, rfl, rfl, _, rfl, ?_⟩
    have e1 : Ie04.step S (.held lo up) = (if up < lo then (S, [-3]) else if Ie04.small ⟨S.pic.w, S.pic.h, S.pic.v.map fun z => min up (max lo z)⟩ = false then (S, [-9]) else Ie04.become S ⟨S.pic.w, S.pic.h, S.pic.v.map fun z => min up (max lo z)⟩) := rfl
    rw [e1] at kk
    refine ifD (fun c => ?_) (fun c => ?_)
    · refine ⟨_, rfl, (by show 1 ≤ sizeLine; decide), fun q hq => ?_⟩
      rw [if_pos c] at kk
      exact Ans.still kk D (Same.refl _) hq
    · rw [if_neg c, become_eq] at kk
      obtain ⟨okS, sepX, dx, c0, a, gs, h1, h2, h3, h4, h5⟩ := id D
      have bb : S.pic.w * S.pic.h ≤ 12 * 12 := Nat.mul_le_mul okS.pic.w2 okS.pic.h2
      have ll := okS.pic.len
      refine ⟨_, rfl, d, dx, _, rfl, h1, dF_no _ _ _ (by decide +kernel) (by decide +kernel) (by decide +kernel), _, rfl, d, CD, dx, _, _, rfl, h1, T.cl, T.nC, dF_current _ _ _, _, rfl, _, rfl, c0, _, _, _, lo, up, rfl, h2.at_, by omega, fun H2 q s2 nq hq => ?_⟩
      refine ⟨X, d, e, q, S, _, rfl, D.same s2, hq, D.fresh nq, ?_, kk.ahead s2⟩
      rw [List.length_map, ll]
/-! mix -/
def spMix (CD CG : Addr) : Sp := fun vs H Q _ => ∃ (X : Addr → Prop) (d e : Addr) (S : Ie04.St) (x y : Int), vs = [.ref d, .int x, .int y] ∧ DeskAt X CD CG H d e S ∧ Ans X CD CG H d e (Ie04.step S (.mix x y)) Q
theorem scMix : FnScope ["self", "a", "b"] ["self", "a", "b"] (defScope sMix) := ⟨rfl, rfl, rfl, by decide +kernel, rfl, by decide +kernel, by decide +kernel⟩
theorem ok_mix {f CD CG : Addr} {fd : FuncData} (F : Fun K "mix" "Desk.mix" sMix f fd) (T : DTxt K CD) (TG : GTxt K CG) (Cn : CTxt mg) (D2 : Def P w K mg base 2 "all_near" ["numbers", "farthest"] (spAllNear K))
    (D3 : Def P w K mg base 1 "mixed" ["picture", "aside", "a", "b"] (spMixed CG)) (M1 : Mth P w K mg base 3 CD "change" ["self", "numbers"] (spChange CD CG)) : FnOk P w K mg base CX0 4 f fd ["self", "a", "b"] (spMix CD CG) := by
  obtain ⟨f2, fd2, G2, m2, kp2, b2⟩ := D2.ex
  obtain ⟨f3, fd3, G3, m3, kp3, b3⟩ := D3.ex
  obtain ⟨f4, fd4, G4, m4, b4⟩ := M1.ex
  obtain ⟨t2, c2⟩ := Cn.fac
  refine F.ok scMix (fun vs H Q E h => ?_) (fun cdv A outer s H vs Q E hr h => ?_)
  · obtain ⟨X, d, e, S, x, y, rfl, _⟩ := h
    rfl
  · obtain ⟨X, d, e, S, x, y, rfl, D, kk⟩ := h
    have hr1 : Room 1 _ := hr.mono (by decide)
    have hr2 : Room 2 _ := hr.mono (by decide)
    refine ⟨_, pss_cons (ps_if (pt_not (pt_val (pe_call G2 hr2 rfl m2 kp2 b2 .nil pass0 (pa_cons (pe_lst (pa_cons (pv 1) (pa_cons (pv 2) pa_nil))) (pa_cons (pe_num rfl c2 ⟨_, rfl⟩) pa_nil))))) (pss_one (ps_ret (pe_lst (pa_cons (pe_un un_neg pe_int) pa_nil)))) pss_nil)
      (pss_cons (ps_if (PW.pt (pw_or (pt_cmpR op_ne (pe_fld (pe_fld (pv 0) rfl) rfl) (pe_fld (pe_fld (pv 0) rfl) rfl) (nomark _)) (pw_or1 (pt_cmpR op_ne (pe_fld (pe_fld (pv 0) rfl) rfl) (pe_fld (pe_fld (pv 0) rfl) rfl) (nomark _))))) (pss_one (ps_ret (pe_lst (pa_cons (pe_un un_neg pe_int) pa_nil)))) pss_nil)
      (pss_one (ps_ret (pe_meth (pv 0) T.cl m4 G4 hr b4 .nil pass0 (pa_cons (pe_call G3 hr1 rfl m3 kp3 b3 .nil pass0 (pa_cons (pe_fld (pv 0) rfl) (pa_cons (pe_fld (pv 0) rfl) (pa_cons (pv 1) (pa_cons (pv 2) pa_nil))))) pa_nil))))), ?_⟩
    have e1 : Ie04.step S (.mix x y) = (if x < -1000 ∨ 1000 < x ∨ y < -1000 ∨ 1000 < y then (S, [-3]) else if S.aside.w ≠ S.pic.w ∨ S.aside.h ≠ S.pic.h then (S, [-4]) else if Ie04.small ⟨S.pic.w, S.pic.h, (S.pic.v.zip S.aside.v).map fun z => x * z.1 + y * z.2⟩ = false then (S, [-9]) else Ie04.become S ⟨S.pic.w, S.pic.h, (S.pic.v.zip S.aside.v).map fun z => x * z.1 + y * z.2⟩) := rfl
    rw [e1, become_eq] at kk
    refine ⟨_, rfl, _, rfl, (by show 2 ≤ sizeLine; decide), fun p np => ?_⟩
    have s0 : Same H (upd H p (.lst [.int x, .int y])) := same_new np
    refine ⟨p, [x, y], 1000, rfl, SqL.of upd_same, by show 2 ≤ 1000; decide, fun H1 s1 => ⟨_, rfl, ?_⟩⟩
    have s01 := s0.trans s1
    by_cases q : (-1000 ≤ x ∧ x ≤ 1000) ∧ (-1000 ≤ y ∧ y ≤ 1000)
    · have eb : [x, y].all (nearB 1000) = true := by
        unfold nearB
        simp
        omega
      rw [eb]
      refine iteF ?_
      rw [if_neg (by omega)] at kk
      have D1 := D.same s01
      obtain ⟨okS, sepX, dx, c0, a, gs, h1, h2, h3, h4, h5⟩ := id D1
      obtain ⟨dc, lc, g1, g2, _⟩ := id h2
      obtain ⟨da, la, g3, g4, _⟩ := id h3
      have eqi : ∀ m n : Nat, decide (V.int (m : Int) = V.int (n : Int)) = decide (m = n) := fun m n => decide_eq_decide.mpr ⟨fun z => by
        injection z with z
        omega, fun z => by rw [z]⟩
      refine ⟨_, rfl, d, CD, dx, _, _, rfl, h1, T.cl, T.nA, dF_aside _ _ _, a, CG, da, _, _, rfl, g3, TG.cl, TG.nC, gF_columns _ _ _, _, rfl, d, CD, dx, _, _, rfl, h1, T.cl, T.nC, dF_current _ _ _, c0, CG, dc, _, _, rfl, g1, TG.cl, TG.nC, gF_columns _ _ _, rfl, _, rfl, ?_⟩
      rw [eqi]
      by_cases cw : S.aside.w = S.pic.w
      · rw [decide_eq_true cw]
        refine iteF ?_
        refine ⟨_, rfl, d, CD, dx, _, _, rfl, h1, T.cl, T.nA, dF_aside _ _ _, a, CG, da, _, _, rfl, g3, TG.cl, TG.nR, gF_rows _ _ _, _, rfl, d, CD, dx, _, _, rfl, h1, T.cl, T.nC, dF_current _ _ _, c0, CG, dc, _, _, rfl, g1, TG.cl, TG.nR, gF_rows _ _ _, rfl, _, rfl, ?_⟩
        rw [eqi]
        by_cases ch : S.aside.h = S.pic.h
        · rw [decide_eq_true ch]
          refine iteF ?_
          rw [if_neg (by omega)] at kk
          have bb : S.pic.w * S.pic.h ≤ 12 * 12 := Nat.mul_le_mul okS.pic.w2 okS.pic.h2
          have ll := okS.pic.len
          have la' : S.aside.v.length = S.pic.w * S.pic.h := by rw [okS.aside.len, cw, ch]
          refine ⟨_, rfl, d, dx, _, rfl, h1, dF_no _ _ _ (by decide +kernel) (by decide +kernel) (by decide +kernel), _, rfl, d, CD, dx, _, _, rfl, h1, T.cl, T.nC, dF_current _ _ _, _, rfl, d, CD, dx, _, _, rfl, h1, T.cl, T.nA, dF_aside _ _ _, _, rfl, _, rfl, c0, a, _, _, _, _, _, _, x, y, rfl, h2.at_, h3.at_, by omega, q.1, q.2, fun H2 r s2 nq hq => ?_⟩
          refine ⟨X, d, e, r, S, _, rfl, D1.same s2, hq, D1.fresh nq, ?_, (kk.ahead s01).ahead s2⟩
          rw [List.length_map, List.length_zip, ll, la', Nat.min_self]
        · rw [decide_eq_false ch]
          refine iteT ?_
          refine ⟨_, rfl, (by show 1 ≤ sizeLine; decide), fun r hr => ?_⟩
          rw [if_pos (by omega)] at kk
          exact Ans.still kk D s01 hr
      · rw [decide_eq_false cw]
        refine iteT (iteT ?_)
        refine ⟨_, rfl, (by show 1 ≤ sizeLine; decide), fun r hr => ?_⟩
        rw [if_pos (by omega)] at kk
        exact Ans.still kk D s01 hr
    · have eb : [x, y].all (nearB 1000) = false := by
        unfold nearB
        simp
        omega
      rw [eb]
      refine iteT ?_
      refine ⟨_, rfl, (by show 1 ≤ sizeLine; decide), fun r hr => ?_⟩
      rw [if_pos (by omega)] at kk
      exact Ans.still kk D s01 hr
end
end Nd

set_option Elab.async false
set_option maxRecDepth 100000
set_option maxHeartbeats 2000000
namespace Nd
open PySem L2
/-! ### the reader in the heap -/
def rF (a : Addr) (i : Int) : List (Str × V) := [("source", .ref a), ("place", .int i)]
theorem rF_source (a : Addr) (i : Int) : (rF a i).lookup ("source" : Str) = some (.ref a) := lk_here
theorem rF_place (a : Addr) (i : Int) : (rF a i).lookup ("place" : Str) = some (.int i) := (lk_past (by decide +kernel)).trans lk_here
theorem rF_no (a : Addr) (i : Int) {m : Str} (h1 : (m == ("source" : Str)) = false) (h2 : (m == ("place" : Str)) = false) : (rF a i).lookup m = none := (lk_past h1).trans ((lk_past h2).trans rfl)
theorem rF_put (a : Addr) (i j : Int) : putF "place" (.int j) (rF a i) = rF a j := (put_past (by decide +kernel)).trans (congrArg _ put_here)
theorem rF_new (a : Addr) : putF "place" (.int 0) (putF "source" (.ref a) []) = rF a 0 := (put_past (by decide +kernel)).trans rfl
def ReaderAt (C : Addr) (H : Hp) (r a : Addr) (i : Nat) : Prop := ∃ dx, H r = some (.ins C dx (rF a (i : Int)))
/-- all but r is as it was -/
def But (H H' : Hp) (r : Addr) : Prop := ∀ b o, H b = some o → b ≠ r → H' b = some o
theorem But.trans {H H1 H2 : Hp} {r : Addr} (a : But H H1 r) (b : But H1 H2 r) : But H H2 r := fun c o h n => b c o (a c o h n) n
theorem But.seq {K : PySem.W.Frag} {H H' : Hp} {C dx r a : Addr} {fs : List (Str × V)} {xs : List V} (k : But H H' r) (hr : H r = some (.ins C dx fs)) (h : SqL K H a xs) : SqL K H' a xs := by
  rcases h with (h | ⟨o, h⟩) | h
  · exact .inl (.inl (k _ _ h fun z => by rw [z, hr] at h; cases h))
  · exact .inl (.inr ⟨o, k _ _ h fun z => by rw [z, hr] at h; cases h⟩)
  · exact .inr h
theorem But.free {H H' : Hp} {C dx r q : Addr} {fs : List (Str × V)} (k : But H H' r) (hr : H' r = some (.ins C dx fs)) (h : H' q = none) : H q = none := by
  cases e : H q with
  | none => rfl
  | some o =>
    rw [k q o e fun z => by rw [z, hr] at h; cases h] at h
    cases h
structure RTxt (K : PySem.W.Frag) (C : Addr) : Prop where
  cl : Cls K C
  nS : NoAttr K C "source"
  nP : NoAttr K C "place"
theorem cut_ints (ns : List Int) (i n : Nat) (h : i + n ≤ ns.length) : cutV (ns.map V.int) (some (i : Int)) (some ((i : Int) + (n : Int))) = ((ns.drop i).take n).map V.int := by
  unfold cutV
  have e : ((i : Int) + (n : Int)) = ((i + n : Nat) : Int) := by simp
  rw [e, HT.sIx_nat, HT.sIx_nat, List.length_map, Nat.min_eq_left h, Nat.min_eq_left (show i ≤ ns.length by omega), Nat.add_sub_cancel_left, List.map_take, List.map_drop]
section
variable {P : Program} {w : World} {K : PySem.W.Frag} {mg : Str → Option Value} {base : Heap}
/-! __init__ -/
def spRInit (C : Addr) : Sp := fun vs H Q _ => ∃ (r dx a : Addr), vs = [.ref r, .ref a] ∧ H r = some (.ins C dx []) ∧ ∀ H', ReaderAt C H' r a 0 → But H H' r → Q .non H'
theorem scRInit : FnScope ["self", "source"] ["self", "source"] (defScope sRInit) := ⟨rfl, rfl, rfl, by decide +kernel, rfl, by decide +kernel, by decide +kernel⟩
theorem ok_rInit {f C : Addr} {fd : FuncData} (F : Fun K "__init__" "Reader.__init__" sRInit f fd) (T : RTxt K C) : FnOk P w K mg base CX0 1 f fd ["self", "source"] (spRInit C) := by
  refine F.ok scRInit (fun vs H Q E h => ?_) (fun cdv A outer s H vs Q E hr h => ?_)
  · obtain ⟨r, dx, a, rfl, _⟩ := h
    rfl
  · obtain ⟨r, dx, a, rfl, hp, k⟩ := h
    refine ⟨_, pss_cons (ps_fld (pv 0) (pv 1) rfl) (pss_one (ps_fld (pv 0) pe_int rfl)), ?_⟩
    refine ⟨_, rfl, _, rfl, r, C, dx, [], rfl, hp, T.cl, T.nS, (by show 0 < 1000; decide), ?_⟩
    refine ⟨_, rfl, r, C, dx, _, rfl, upd_same, T.cl, T.nP, (by show 1 < 1000; decide), ?_⟩
    exact k _ ⟨dx, Eq.trans upd_same (congrArg (fun q => some (HO.ins C dx q)) (rF_new a))⟩ fun b o e hb => by
      rw [upd_ne hb, upd_ne hb]
      exact e
/-! is_done -/
def spIsDone (K : PySem.W.Frag) (C : Addr) : Sp := fun vs H Q _ => ∃ (r a : Addr) (i : Nat) (ns : List Int), vs = [.ref r] ∧ ReaderAt C H r a i ∧ SqL K H a (ns.map V.int) ∧ Q (.bl (decide (ns.length ≤ i))) H
theorem scIsDone : FnScope ["self"] ["self"] (defScope sIsDone) := ⟨rfl, rfl, rfl, by decide +kernel, rfl, by decide +kernel, by decide +kernel⟩
theorem ok_isDone {f C : Addr} {fd : FuncData} (F : Fun K "is_done" "Reader.is_done" sIsDone f fd) (T : RTxt K C) (B : BTxt mg) : FnOk P w K mg base CX0 1 f fd ["self"] (spIsDone K C) := by
  refine F.ok scIsDone (fun vs H Q E h => ?_) (fun cdv A outer s H vs Q E hr h => ?_)
  · obtain ⟨r, a, i, ns, rfl, _⟩ := h
    rfl
  · obtain ⟨r, a, i, ns, rfl, ⟨dx, h1⟩, hS, k⟩ := h
    refine ⟨_, pss_one (ps_ret (pe_cmpR op_ge (pe_fld (pv 0) rfl) (pe_callB call_len_seq (by rfl) B.len PySem.boot_len (pa_cons (pe_fld (pv 0) rfl) pa_nil)) (nomark _))), ?_⟩
    refine ⟨_, rfl, r, C, dx, _, _, rfl, h1, T.cl, T.nP, rF_place _ _, _, rfl, r, C, dx, _, _, rfl, h1, T.cl, T.nS, rF_source _ _, a, _, rfl, .inl hS, _, _, rfl, rfl, ?_⟩
    rw [List.length_map]
    have e : decide ((ns.length : Int) ≤ (i : Int)) = decide (ns.length ≤ i) := decide_eq_decide.mpr (by omega)
    show Q (.bl (decide ((ns.length : Int) ≤ (i : Int)))) H
    rw [e]
    exact k
/-! take_several -/
def spTakeS (K : PySem.W.Frag) (C : Addr) : Sp := fun vs H Q _ => ∃ (r a : Addr) (i n : Nat) (ns : List Int), vs = [.ref r, .int (n : Int)] ∧ ReaderAt C H r a i ∧ SqL K H a (ns.map V.int) ∧ i + n ≤ ns.length ∧
  ∀ (H' : Hp) (q : Addr), ReaderAt C H' r a (i + n) → But H H' r → H q = none → H' q = some (.lst (((ns.drop i).take n).map V.int)) → Q (.ref q) H'
theorem scTakeS : FnScope ["self", "count", "start"] ["self", "count"] (defScope sTakeS) := ⟨rfl, rfl, rfl, by decide +kernel, rfl, by decide +kernel, by decide +kernel⟩
theorem ok_takeS {f C : Addr} {fd : FuncData} (F : Fun K "take_several" "Reader.take_several" sTakeS f fd) (T : RTxt K C) : FnOk P w K mg base CX0 1 f fd ["self", "count"] (spTakeS K C) := by
  refine F.ok scTakeS (fun vs H Q E h => ?_) (fun cdv A outer s H vs Q E hr h => ?_)
  · obtain ⟨r, a, i, n, ns, rfl, _⟩ := h
    rfl
  · obtain ⟨r, a, i, n, ns, rfl, ⟨dx, h1⟩, hS, hin, k⟩ := h
    refine ⟨_, pss_cons (ps_set (i := 2) scTakeS.nd rfl (Or.inl rfl) (pe_fld (pv 0) rfl))
      (pss_cons (ps_fld (pv 0) (pe_op op_add (pv 2) (pv 1)) rfl)
      (pss_one (ps_ret (pe_slice sl_list (pe_fld (pv 0) rfl) (po_some (pv 2)) (po_some (pe_fld (pv 0) rfl)))))), ?_⟩
    refine ⟨_, rfl, r, C, dx, _, _, rfl, h1, T.cl, T.nP, rF_place _ _, ?_⟩
    refine ⟨_, rfl, _, rfl, _, _, rfl, rfl, _, rfl, r, C, dx, _, rfl, h1, T.cl, T.nP, (by show 2 < 1000; decide), ?_⟩
    rw [rF_put]
    have kb : But H (upd H r (.ins C dx (rF a ((i : Int) + (n : Int))))) r := fun b o e hb => by
      rw [upd_ne hb]
      exact e
    refine ⟨_, rfl, r, C, dx, _, _, rfl, upd_same, T.cl, T.nS, rF_source _ _, ?_⟩
    refine ⟨_, rfl, _, rfl, _, rfl, r, C, dx, _, _, rfl, upd_same, T.cl, T.nP, rF_place _ _, _, rfl, a, _, rfl, kb.seq h1 hS, fun q hq => ?_⟩
    rw [cut_ints ns i n hin]
    have nqr : r ≠ q := fun z => by
      rw [← z, upd_same] at hq
      cases hq
    refine k _ q ⟨dx, ?_⟩ (fun b o e hb => ?_) (kb.free upd_same hq) upd_same
    · rw [upd_ne nqr, upd_same]
      simp
    · rw [upd_ne (ne_of_none (kb b o e hb) hq)]
      exact kb b o e hb
/-! take_one -/
def spTakeO (K : PySem.W.Frag) (C : Addr) : Sp := fun vs H Q _ => ∃ (r a : Addr) (i : Nat) (ns : List Int) (p : Int), vs = [.ref r] ∧ ReaderAt C H r a i ∧ SqL K H a (ns.map V.int) ∧ ns[i]? = some p ∧
  ∀ (H' : Hp), ReaderAt C H' r a (i + 1) → But H H' r → Q (.int p) H'
theorem scTakeO : FnScope ["self"] ["self"] (defScope sTakeO) := ⟨rfl, rfl, rfl, by decide +kernel, rfl, by decide +kernel, by decide +kernel⟩
theorem ok_takeO {f C : Addr} {fd : FuncData} (F : Fun K "take_one" "Reader.take_one" sTakeO f fd) (T : RTxt K C) (M1 : Mth P w K mg base 1 C "take_several" ["self", "count"] (spTakeS K C)) : FnOk P w K mg base CX0 2 f fd ["self"] (spTakeO K C) := by
  obtain ⟨f4, fd4, G4, m4, b4⟩ := M1.ex
  refine F.ok scTakeO (fun vs H Q E h => ?_) (fun cdv A outer s H vs Q E hr h => ?_)
  · obtain ⟨r, a, i, ns, p, rfl, _⟩ := h
    rfl
  · obtain ⟨r, a, i, ns, p, rfl, R, hS, hp, k⟩ := h
    have hi : i < ns.length := (List.getElem?_eq_some_iff.mp hp).1
    refine ⟨_, pss_one (ps_ret (pe_ix ix_list (pe_meth (pv 0) T.cl m4 G4 hr b4 .nil pass0 (pa_cons pe_int pa_nil)) pe_int (fun _ _ => rfl))), ?_⟩
    obtain ⟨dx, h1⟩ := id R
    refine ⟨_, rfl, r, dx, _, rfl, h1, rF_no _ _ (by decide +kernel) (by decide +kernel), r, a, i, 1, ns, rfl, R, hS, hi, fun H1 q R1 kb nq hq => ?_⟩
    refine ⟨q, _, _, _, rfl, rfl, SqL.of hq, at_of (j := 0) rfl (at_map (z := p) ?_), k _ R1 kb⟩
    rw [List.getElem?_take, if_pos (by omega), List.getElem?_drop]
    exact hp
/-! take_row -/
def spTakeR (K : PySem.W.Frag) (C : Addr) : Sp := fun vs H Q _ => ∃ (r a : Addr) (i m : Nat) (ns : List Int), vs = [.ref r] ∧ ReaderAt C H r a i ∧ SqL K H a (ns.map V.int) ∧ ns[i]? = some (m : Int) ∧ i + 1 + m ≤ ns.length ∧
  ∀ (H' : Hp) (q : Addr), ReaderAt C H' r a (i + 1 + m) → But H H' r → H q = none → H' q = some (.lst (((ns.drop (i + 1)).take m).map V.int)) → Q (.ref q) H'
theorem scTakeR : FnScope ["self"] ["self"] (defScope sTakeR) := ⟨rfl, rfl, rfl, by decide +kernel, rfl, by decide +kernel, by decide +kernel⟩
theorem ok_takeR {f C : Addr} {fd : FuncData} (F : Fun K "take_row" "Reader.take_row" sTakeR f fd) (T : RTxt K C) (M1 : Mth P w K mg base 1 C "take_several" ["self", "count"] (spTakeS K C)) (M2 : Mth P w K mg base 2 C "take_one" ["self"] (spTakeO K C)) : FnOk P w K mg base CX0 3 f fd ["self"] (spTakeR K C) := by
  obtain ⟨f4, fd4, G4, m4, b4⟩ := M1.ex
  obtain ⟨f5, fd5, G5, m5, b5⟩ := M2.ex
  refine F.ok scTakeR (fun vs H Q E h => ?_) (fun cdv A outer s H vs Q E hr h => ?_)
  · obtain ⟨r, a, i, m, ns, rfl, _⟩ := h
    rfl
  · obtain ⟨r, a, i, m, ns, rfl, R, hS, hp, him, k⟩ := h
    have hr1 : Room 1 _ := hr.mono (by decide)
    refine ⟨_, pss_one (ps_ret (pe_meth (pv 0) T.cl m4 G4 hr1 b4 .nil pass0 (pa_cons (pe_meth0 (pv 0) T.cl m5 G5 hr b5 .nil pass0) pa_nil))), ?_⟩
    obtain ⟨dx, h1⟩ := id R
    refine ⟨_, rfl, r, dx, _, rfl, h1, rF_no _ _ (by decide +kernel) (by decide +kernel), _, rfl, r, dx, _, rfl, h1, rF_no _ _ (by decide +kernel) (by decide +kernel), r, a, i, ns, _, rfl, R, hS, hp, fun H1 R1 kb => ?_⟩
    refine ⟨r, a, i + 1, m, ns, rfl, R1, kb.seq h1 hS, him, fun H2 q R2 kb2 nq hq => ?_⟩
    obtain ⟨dx1, h11⟩ := R1
    exact k _ q R2 (kb.trans kb2) (kb.free h11 nq) hq
end
end Nd

set_option Elab.async false
set_option maxRecDepth 100000
set_option maxHeartbeats 2000000
namespace Nd
open PySem L2
section
variable {P : Program} {w : World} {K : PySem.W.Frag} {mg : Str → Option Value} {base : Heap}
theorem WOk.sized {k : Ie04.Weights} (h : WOk k) : Sized k := ⟨by have := h.a1; omega, by have := h.b1; omega, h.len⟩
/-! both_of -/
def spBothOf (C : Addr) : Sp := fun vs H Q _ => ∃ (a b : Addr) (k m : Ie04.Weights), vs = [.ref a, .ref b] ∧ GridAt C H a k.a k.b k.l ∧ GridAt C H b m.a m.b m.l ∧ WOk k ∧ WOk m ∧
  ∀ (H' : Hp) (q : Addr), Same H H' → GridAt C H' q ((Ie04.both k m).a : Nat) ((Ie04.both k m).b : Nat) (Ie04.both k m).l → Q (.ref q) H'
theorem scBothOf : FnScope ["first", "second", "columns", "rows", "sums", "place", "weight", "other_place", "other", "column", "row"] ["first", "second"] (defScope sBothOf) := ⟨rfl, rfl, rfl, by decide +kernel, rfl, by decide +kernel, by decide +kernel⟩
theorem rep_zero (n : Nat) : (List.replicate n [V.int 0]).flatten = (List.replicate n (0 : Int)).map V.int := by
  induction n with
  | zero => rfl
  | succ n ih =>
    rw [List.replicate_succ, List.flatten_cons, ih, List.replicate_succ, List.map_cons]
    rfl
theorem ix_at {n j : Nat} {z : Int} (e : z = (j : Int)) (h : j < n) : ixN n z = some j := by
  rw [e]
  unfold ixN
  rw [if_pos (by omega), if_pos (by omega), Int.toNat_natCast]
theorem ok_bothOf {f C : Addr} {fd : FuncData} (F : Fun K "both_of" "both_of" sBothOf f fd) (GC : GridC P w K mg base C) (B : BTxt mg) : FnOk P w K mg base CX0 3 f fd ["first", "second"] (spBothOf C) := by
  obtain ⟨fI, fdI, M, GI, bI⟩ := GC.ex
  have T := GC.T
  refine F.ok scBothOf (fun vs H Q E h => ?_) (fun cdv A outer s H vs Q E hr h => ?_)
  · obtain ⟨a, b, k, m, rfl, _⟩ := h
    rfl
  · obtain ⟨a, b, k, m, rfl, ⟨dx, l, h1, h2⟩, ⟨dx', l', h3, h4⟩, wk, wm, kk⟩ := h
    have hk := wk.sized
    have hm := wm.sized
    refine ⟨_, pss_cons (ps_set (i := 2) scBothOf.nd rfl (Or.inl rfl) (pe_op op_sub (pe_op op_add (pe_fld (pv 0) rfl) (pe_fld (pv 1) rfl)) pe_int))
      (pss_cons (ps_set (i := 3) scBothOf.nd rfl (Or.inl rfl) (pe_op op_sub (pe_op op_add (pe_fld (pv 0) rfl) (pe_fld (pv 1) rfl)) pe_int))
      (pss_cons (ps_set (i := 4) scBothOf.nd rfl (Or.inl rfl) (pe_op op_rep (pe_lst (pa_cons pe_int pa_nil)) (pe_op op_mul (pv 2) (pv 3))))
      (pss_cons (ps_for PassesOwn.never rfl (pi_enum (by rfl) B.enumerate (pa_cons (pe_fld (pv 0) rfl) pa_nil)) (pg_tup rfl (pgs_cons (pg_name (i := 5) scBothOf.nd rfl (Or.inl rfl)) (pgs_cons (pg_name (i := 6) scBothOf.nd rfl (Or.inl rfl)) pgs_nil)))
        (pss_one (ps_for PassesOwn.never rfl (pi_enum (by rfl) B.enumerate (pa_cons (pe_fld (pv 1) rfl) pa_nil)) (pg_tup rfl (pgs_cons (pg_name (i := 7) scBothOf.nd rfl (Or.inl rfl)) (pgs_cons (pg_name (i := 8) scBothOf.nd rfl (Or.inl rfl)) pgs_nil)))
          (pss_cons (ps_set (i := 9) scBothOf.nd rfl (Or.inl rfl) (pe_op op_add (pe_op op_modN (pv 5) (pe_fld (pv 0) rfl)) (pe_op op_modN (pv 7) (pe_fld (pv 1) rfl))))
          (pss_cons (ps_set (i := 10) scBothOf.nd rfl (Or.inl rfl) (pe_op op_add (pe_op op_fdivN (pv 5) (pe_fld (pv 0) rfl)) (pe_op op_fdivN (pv 7) (pe_fld (pv 1) rfl))))
          (pss_one (ps_asg (pe_op op_add (pe_ix ix_list (pv 4) (pe_op op_add (pe_op op_mul (pv 10) (pv 2)) (pv 9)) (fun _ _ => rfl)) (pe_op op_mul (pv 6) (pv 8))) (pg_sub (pv 4) (pe_op op_add (pe_op op_mul (pv 10) (pv 2)) (pv 9)) set_list))))))))
      (pss_one (ps_ret (pe_make M GI hr rfl GC.mgC bI .nil pass0 (pa_cons (pv 2) (pa_cons (pv 3) (pa_cons (pv 4) pa_nil))))))))), ?_⟩
    have e_a : ((k.a : Int) + (m.a : Int) - 1) = ((k.a + m.a - 1 : Nat) : Int) := by have := hk.a; omega
    have e_b : ((k.b : Int) + (m.b : Int) - 1) = ((k.b + m.b - 1 : Nat) : Int) := by have := hk.b; omega
    have la : k.a + m.a - 1 ≤ 9 := by have := wk.a5; have := wm.a5; omega
    have lb : k.b + m.b - 1 ≤ 9 := by have := wk.b5; have := wm.b5; omega
    have lab : (k.a + m.a - 1) * (k.b + m.b - 1) ≤ 81 := Nat.mul_le_mul la lb
    refine ⟨_, rfl, a, C, dx, _, _, rfl, h1, T.cl, T.nC, gF_columns _ _ _, _, rfl, b, C, dx', _, _, rfl, h3, T.cl, T.nC, gF_columns _ _ _, _, _, rfl, rfl, _, _, rfl, rfl, ?_⟩
    refine ⟨_, rfl, a, C, dx, _, _, rfl, h1, T.cl, T.nR, gF_rows _ _ _, _, rfl, b, C, dx', _, _, rfl, h3, T.cl, T.nR, gF_rows _ _ _, _, _, rfl, rfl, _, _, rfl, rfl, ?_⟩
    have e_ab : ((k.a : Int) + (m.a : Int) - 1) * ((k.b : Int) + (m.b : Int) - 1) = (((k.a + m.a - 1) * (k.b + m.b - 1) : Nat) : Int) := by rw [e_a, e_b, Int.natCast_mul]
    have e_n : Int.toNat (((k.a : Int) + (m.a : Int) - 1) * ((k.b : Int) + (m.b : Int) - 1)) = (k.a + m.a - 1) * (k.b + m.b - 1) := by rw [e_ab, Int.toNat_natCast]
    refine ⟨(by show 1 ≤ sizeLine; decide), fun z nz => ⟨_, rfl, _, rfl, _, _, rfl, rfl, .inl ⟨by omega, by omega⟩, ?_⟩⟩
    refine ⟨z, ((k.a : Int) + (m.a : Int) - 1) * ((k.b : Int) + (m.b : Int) - 1), _, rfl, rfl, upd_same, by rw [e_ab]; omega, by rw [e_ab]; omega, ?_, fun q nq => ?_⟩
    · rw [e_n]
      show 1 * _ ≤ sizeLine
      rw [Nat.one_mul]
      exact Nat.le_trans lab (by decide)
    rw [e_n] at *
    have s0 : Same H (upd H z (.lst [.int 0])) := same_new nz
    have nq0 : H q = none := s0.free nq
    have s1 : Same H (upd (upd H z (.lst [.int 0])) q (.lst (List.replicate ((k.a + m.a - 1) * (k.b + m.b - 1)) [V.int 0]).flatten)) := s0.trans (same_new nq)
    refine ⟨_, rfl, a, C, dx, _, _, rfl, s1 _ _ h1, T.cl, T.nN, gF_numbers _ _ _, l, _, rfl, SqL.of (s1 _ _ h2), ?_⟩
    refine for_it (walk_enum (K := K) (a := l) (xs := k.l.map V.int)) (fun n σ' H' => (∃ u5 u6 u7 u8 u9 u10 : Option V, σ' = [some (.ref a), some (.ref b), some (.int ((k.a : Int) + (m.a : Int) - 1)), some (.int ((k.b : Int) + (m.b : Int) - 1)), some (.ref q), u5, u6, u7, u8, u9, u10]) ∧ Same H H' ∧ H' q = some (.lst ((bS k m n 0).map V.int)))
      ⟨⟨none, none, none, none, none, none, rfl⟩, s1, ?_⟩ (fun i σ' H' _ q' => SqL.of (q'.2.1 _ _ h2)) ?_ ?_
    · rw [upd_same, rep_zero, bS_start hk hm]
    · rintro n t σ' H1 H2 hn ⟨⟨u5, u6, u7, u8, u9, u10, rfl⟩, s2, hq2⟩ ⟨tp, z1, z2, rfl, new, rfl, e1, e2⟩
      cases e1
      obtain ⟨x, g1, rfl⟩ := map_at e2
      rw [List.length_map, hk.len] at hn
      have s3 : Same H (upd H1 tp (.tup [.int (n : Nat), .int x])) := s2.trans (same_new new)
      have hq3 : (upd H1 tp (.tup [.int (n : Nat), .int x])) q = some (.lst ((bS k m n 0).map V.int)) := same_new new _ _ hq2
      refine ⟨tp, _, rfl, SqT.of upd_same, rfl, _, _, rfl, _, _, rfl, rfl, ?_⟩
      refine ⟨_, rfl, b, C, dx', _, _, rfl, s3 _ _ h3, T.cl, T.nN, gF_numbers _ _ _, l', _, rfl, SqL.of (s3 _ _ h4), ?_⟩
      refine for_it (walk_enum (K := K) (a := l') (xs := m.l.map V.int)) (fun p σ' H' => (∃ u7 u8 u9 u10 : Option V, σ' = [some (.ref a), some (.ref b), some (.int ((k.a : Int) + (m.a : Int) - 1)), some (.int ((k.b : Int) + (m.b : Int) - 1)), some (.ref q), some (.int (n : Nat)), some (.int x), u7, u8, u9, u10]) ∧ Same H H' ∧ H' q = some (.lst ((bS k m n p).map V.int)))
        ⟨⟨u7, u8, u9, u10, rfl⟩, s3, hq3⟩ (fun i σ' H' _ q' => SqL.of (q'.2.1 _ _ h4)) ?_ ?_
      · rintro p t σ' H4 H5 hp ⟨⟨u7, u8, u9, u10, rfl⟩, s4, hq4⟩ ⟨tp', z1, z2, rfl, new', rfl, e1, e2⟩
        cases e1
        obtain ⟨y, g2, rfl⟩ := map_at e2
        rw [List.length_map, hm.len] at hp
        have s5 : Same H (upd H4 tp' (.tup [.int (p : Nat), .int y])) := s4.trans (same_new new')
        have hq5 : (upd H4 tp' (.tup [.int (p : Nat), .int y])) q = some (.lst ((bS k m n p).map V.int)) := same_new new' _ _ hq4
        obtain ⟨zv, hz⟩ := bS_at hk hm hn hp
        have okA := bAt_ok hk hm hn hp
        have ltA := bAt_lt hk hm hn hp
        have bx := wk.bnd x (List.mem_of_getElem? g1)
        have ka0 : (k.a : Int) ≠ 0 := by have := hk.a; omega
        have ma0 : (m.a : Int) ≠ 0 := by have := hm.a; omega
        have ka5 := wk.a5
        have ma5 := wm.a5
        have e_i : (Int.fdiv (n : Int) (k.a : Int) + Int.fdiv (p : Int) (m.a : Int)) * ((k.a : Int) + (m.a : Int) - 1) + (Int.fmod (n : Int) (k.a : Int) + Int.fmod (p : Int) (m.a : Int)) = ((bAt k m n p : Nat) : Int) := by
          unfold bAt
          rw [fmod_nat, fmod_nat, fdiv_nat, fdiv_nat, e_a, Int.natCast_add, Int.natCast_mul, Int.natCast_add, Int.natCast_add]
        refine ⟨tp', _, rfl, SqT.of upd_same, rfl, _, _, rfl, _, _, rfl, rfl, ?_⟩
        refine ⟨_, rfl, _, rfl, a, C, dx, _, _, rfl, s5 _ _ h1, T.cl, T.nC, gF_columns _ _ _, _, _, rfl, rfl, ka0, _, rfl, _, rfl, b, C, dx', _, _, rfl, s5 _ _ h3, T.cl, T.nC, gF_columns _ _ _, _, _, rfl, rfl, ma0, _, _, rfl, rfl, ?_⟩
        refine ⟨_, rfl, _, rfl, a, C, dx, _, _, rfl, s5 _ _ h1, T.cl, T.nC, gF_columns _ _ _, _, _, rfl, rfl, ⟨ka0, by omega⟩, _, rfl, _, rfl, b, C, dx', _, _, rfl, s5 _ _ h3, T.cl, T.nC, gF_columns _ _ _, _, _, rfl, rfl, ⟨ma0, by omega⟩, _, _, rfl, rfl, ?_⟩
        refine ⟨_, rfl, _, rfl, _, rfl, _, _, rfl, rfl, .inr ⟨by omega, by omega⟩, _, rfl, _, _, rfl, rfl, ?_⟩
        refine ⟨q, _, _, _, rfl, rfl, SqL.of hq5, at_of e_i (at_map hz), _, rfl, _, rfl, _, _, rfl, rfl, .inl ⟨by omega, by omega⟩, _, _, rfl, rfl, ?_⟩
        refine ⟨_, rfl, _, rfl, _, rfl, _, _, rfl, rfl, .inr ⟨by omega, by omega⟩, _, rfl, _, _, rfl, rfl, ?_⟩
        refine ⟨q, _, _, bAt k m n p, rfl, rfl, hq5, ?_, ⟨_, _, _, _, rfl⟩, same_upd s5 nq0, ?_⟩
        · exact ix_at e_i (by rw [List.length_map, bS_length]; exact ltA)
        · rw [upd_same, ← bS_step hk hm hn hp g1 g2 hz, List.map_set]
      · rintro σ' H4 ⟨⟨u7, u8, u9, u10, rfl⟩, s4, hq4⟩
        refine ⟨⟨_, _, _, _, _, _, rfl⟩, s4, ?_⟩
        rw [List.length_map, hm.len, bS_next hk hm] at hq4
        exact hq4
    · rintro σ' H4 ⟨⟨u5, u6, u7, u8, u9, u10, rfl⟩, s4, hq4⟩
      rw [List.length_map, hk.len, bS_end hk hm] at hq4
      refine ⟨_, rfl, _, rfl, _, rfl, ?_⟩
      intro x gx nx ngx nex
      refine ⟨x, gx, _, _, q, rfl, upd_same, fun H5 J kp => ⟨rfl, ?_⟩⟩
      have s5 : Same H4 H5 := Same.made nx ngx kp
      refine kk _ x (s4.trans s5) ⟨gx, q, ?_, s5 _ _ hq4⟩
      rw [both_a, both_b, ← e_a, ← e_b]
      exact J
end
end Nd

set_option Elab.async false
set_option maxRecDepth 100000
set_option maxHeartbeats 2000000
namespace Nd
open PySem L2
section
variable {P : Program} {w : World} {K : PySem.W.Frag} {mg : Str → Option Value} {base : Heap}
/-! common_divisor_of_two -/
def spCd2 : Sp := fun vs H Q _ => ∃ (x y : Nat), vs = [.int (x : Int), .int (y : Int)] ∧ Q (.int ((Nat.gcd x y : Nat) : Int)) H
theorem scCd2 : FnScope ["first", "second", "remainder"] ["first", "second"] (defScope sCd2) := ⟨rfl, rfl, rfl, by decide +kernel, rfl, by decide +kernel, by decide +kernel⟩
theorem ok_cd2 {f : Addr} {fd : FuncData} (F : Fun K "common_divisor_of_two" "common_divisor_of_two" sCd2 f fd) : FnOk P w K mg base CX0 1 f fd ["first", "second"] spCd2 := by
  refine F.ok scCd2 (fun vs H Q E h => ?_) (fun cdv A outer s H vs Q E hr h => ?_)
  · obtain ⟨x, y, rfl, _⟩ := h
    rfl
  · obtain ⟨x, y, rfl, k⟩ := h
    refine ⟨_, pss_cons (ps_while PassesOwn.never (pt_cmpR op_ne (pv 1) pe_int (nomark _))
      (pss_cons (ps_set (i := 2) scCd2.nd rfl (Or.inl rfl) (pe_op op_modN (pv 0) (pv 1)))
      (pss_cons (ps_set (i := 0) scCd2.nd rfl (Or.inl rfl) (pv 1)) (pss_one (ps_set (i := 1) scCd2.nd rfl (Or.inl rfl) (pv 2))))))
      (pss_one (ps_ret (pv 0))), ?_⟩
    refine ⟨fun n σ' H' => H' = H ∧ ∃ (a b : Nat) (u : Option V), n = b ∧ σ' = [some (.int (a : Int)), some (.int (b : Int)), u] ∧ Nat.gcd a b = Nat.gcd x y, ⟨y, rfl, x, y, none, rfl, rfl, rfl⟩, ?_⟩
    rintro n σ' H' ⟨rfl, a, b, u, rfl, rfl, hg⟩
    refine ⟨_, rfl, rfl, _, rfl, ?_⟩
    by_cases c : n = 0
    · subst c
      refine iteF ?_
      rw [← hg, Nat.gcd_zero_right] at k
      exact ⟨_, rfl, k⟩
    · have c2 : ¬ V.int (n : Int) = V.int 0 := fun z => by
        injection z with z
        omega
      rw [decide_eq_false c2]
      refine iteT ?_
      refine ⟨fun σ' H'' => H'' = H' ∧ ∃ r : Int, r = ((a % n : Nat) : Int) ∧ σ' = [some (.int (n : Int)), some (.int r), some (.int r)], fun σ' H'' h => ?_, ?_⟩
      · obtain ⟨e, r, er, es⟩ := h
        subst er
        exact ⟨a % n, Nat.mod_lt _ (by omega), e, n, a % n, _, rfl, es, by rw [gcd_next]; exact hg⟩
      · exact ⟨_, rfl, _, rfl, _, _, rfl, rfl, by show (n : Int) ≠ 0; omega, _, rfl, _, rfl, rfl, _, fmod_nat a n, rfl⟩
/-! common_divisor -/
def spCd (K : PySem.W.Frag) : Sp := fun vs H Q _ => ∃ (a : Addr) (ns : List Int), vs = [.ref a] ∧ SqL K H a (ns.map V.int) ∧ Q (.int ((Ie04.gcdOf ns : Nat) : Int)) H
theorem scCd : FnScope ["numbers", "found", "number"] ["numbers"] (defScope sCd) := ⟨rfl, rfl, rfl, by decide +kernel, rfl, by decide +kernel, by decide +kernel⟩
theorem ok_cd {f : Addr} {fd : FuncData} (F : Fun K "common_divisor" "common_divisor" sCd f fd) (B : BTxt mg) (D1 : Def P w K mg base 1 "common_divisor_of_two" ["first", "second"] spCd2) : FnOk P w K mg base CX0 2 f fd ["numbers"] (spCd K) := by
  obtain ⟨fP, fdP, G, mgP, kp, bP⟩ := D1.ex
  refine F.ok scCd (fun vs H Q E h => ?_) (fun cdv A outer s H vs Q E hr h => ?_)
  · obtain ⟨a, ns, rfl, _⟩ := h
    rfl
  · obtain ⟨a, ns, rfl, hS, k⟩ := h
    refine ⟨_, pss_cons (ps_set (i := 1) scCd.nd rfl (Or.inl rfl) pe_int)
      (pss_cons (ps_for PassesOwn.never rfl (pi_list (pv 0)) (pg_name (i := 2) scCd.nd rfl (Or.inl rfl)) (pss_one (ps_set (i := 1) scCd.nd rfl (Or.inl rfl) (pe_call G hr rfl mgP kp bP .nil pass0 (pa_cons (pv 1) (pa_cons (pe_callB call_abs (by rfl) B.abs (by decide +kernel) (pa_cons (pv 2) pa_nil)) pa_nil))))))
      (pss_one (ps_ret (pv 1)))), ?_⟩
    refine ⟨_, rfl, a, rfl, ⟨_, hS⟩, ?_⟩
    refine for_list (K := K) (a := a) (xs := ns.map V.int) (fun i σ' H' => H' = H ∧ ∃ u : Option V, σ' = [some (.ref a), some (.int ((gTo ns i : Nat) : Int)), u]) ⟨rfl, none, rfl⟩ (fun i σ' H' _ q => by rw [q.1]; exact hS) ?_ ?_
    · rintro i y σ' H' hi ⟨rfl, u, rfl⟩
      obtain ⟨z, hz, rfl⟩ := map_at hi
      refine ⟨_, rfl, _, rfl, _, rfl, ?_⟩
      rw [abs_is]
      refine ⟨gTo ns i, z.natAbs, rfl, rfl, some (.int z), ?_⟩
      rw [gTo_succ hz]
      rfl
    · rintro σ' H' ⟨rfl, u, rfl⟩
      rw [List.length_map, gTo_all]
      exact ⟨_, rfl, k⟩
/-! rows_of -/
def RowsAt (H : Hp) (q : Addr) (rs : List Addr) (k : Ie04.Weights) : Prop := H q = some (.lst (rs.map V.ref)) ∧ rs.length = k.b ∧ ∀ j r, rs[j]? = some r → H r = some (.lst ((Ie04.row k j).map V.int))
def spRowsOf (C : Addr) : Sp := fun vs H Q _ => ∃ (a : Addr) (k : Ie04.Weights), vs = [.ref a] ∧ GridAt C H a k.a k.b k.l ∧ WOk k ∧ ∀ (H' : Hp) (q : Addr) (rs : List Addr), Same H H' → RowsAt H' q rs k → Q (.ref q) H'
theorem scRowsOf : FnScope ["weights", "columns", "row"] ["weights"] (defScope sRowsOf) := ⟨rfl, rfl, rfl, by decide +kernel, rfl, by decide +kernel, by decide +kernel⟩
theorem cut_at (ns : List Int) (i n : Nat) (h : i + n ≤ ns.length) : cutV (ns.map V.int) (some (i : Int)) (some ((i + n : Nat) : Int)) = ((ns.drop i).take n).map V.int := by
  unfold cutV
  rw [HT.sIx_nat, HT.sIx_nat, List.length_map, Nat.min_eq_left h, Nat.min_eq_left (show i ≤ ns.length by omega), Nat.add_sub_cancel_left, List.map_take, List.map_drop]
theorem ok_rowsOf {f C : Addr} {fd : FuncData} (F : Fun K "rows_of" "rows_of" sRowsOf f fd) (T : GTxt K C) (B : BTxt mg) : FnOk P w K mg base CX0 1 f fd ["weights"] (spRowsOf C) := by
  refine F.ok scRowsOf (fun vs H Q E h => ?_) (fun cdv A outer s H vs Q E hr h => ?_)
  · obtain ⟨a, k, rfl, _⟩ := h
    rfl
  · obtain ⟨a, k, rfl, ⟨dx, l, h1, h2⟩, wk, kk⟩ := h
    refine ⟨_, pss_cons (ps_set (i := 1) scRowsOf.nd rfl (Or.inr rfl) (pe_fld (pv 0) rfl))
      (pss_one (ps_ret (pe_lc (own := [("row", 2)]) (g := gName 2) (tt := tYes) (te := tSl (rSlL K) (tFld K (tVar 0) "numbers") _ _) rfl scRowsOf.nd (pi_range1 (by rfl) B.range (pa_cons (pe_fld (pv 0) rfl) pa_nil)) (blkOk_by (N := ["weights", "columns", "row"]) (sc := defScope sRowsOf) (by decide +kernel))
        (fun _ _ _ _ _ => pg_name (i := 2) scRowsOf.nd rfl (Or.inl rfl)) (fun _ _ _ _ _ => pts_nil) (fun _ _ _ _ _ => pe_slice sl_list (pe_fld (pv 0) rfl) (po_some (pe_op op_mul (pv 2) (pv 1))) (po_some (pe_op op_mul (pe_op op_add (pv 2) pe_int) (pv 1))))))), ?_⟩
    have ka := wk.a5
    have kb := wk.b5
    refine ⟨_, rfl, a, C, dx, _, _, rfl, h1, T.cl, T.nC, gF_columns _ _ _, ?_⟩
    refine ⟨_, rfl, a, C, dx, _, _, rfl, h1, T.cl, T.nR, gF_rows _ _ _, _, rfl, by omega, by omega, fun D hD => ?_⟩
    refine lc_range (lo := 0) (n := Int.toNat (k.b : Int)) (fun i H' => Same H H' ∧ ∃ rs : List Addr, H' D = some (.lst (rs.map V.ref)) ∧ rs.length = i ∧ ∀ j r, rs[j]? = some r → H' r = some (.lst ((Ie04.row k j).map V.int)) ∧ r ≠ D) ⟨same_new hD, [], upd_same, rfl, fun j r h => by cases h⟩ ?_ ?_
    · rintro i H' hi ⟨s2, rs, hL, hn, hrs⟩
      rw [Int.toNat_natCast] at hi
      refine ⟨rfl, ?_⟩
      have e1 : ((0 : Int) + (i : Nat)) * (k.a : Int) = ((i * k.a : Nat) : Int) := by rw [Int.zero_add, Int.natCast_mul]
      have e2 : ((0 : Int) + (i : Nat) + 1) * (k.a : Int) = ((i * k.a + k.a : Nat) : Int) := by rw [Int.zero_add, Int.natCast_add, Int.natCast_mul, Int.add_mul, Int.one_mul]
      refine ⟨_, rfl, a, C, dx, _, _, rfl, s2 _ _ h1, T.cl, T.nN, gF_numbers _ _ _, _, rfl, _, rfl, _, _, rfl, rfl, .inr ⟨by omega, by omega⟩, _, rfl, _, rfl, _, _, rfl, rfl, _, rfl, _, _, rfl, rfl, .inr ⟨by omega, by omega⟩, _, rfl, l, _, rfl, SqL.of (s2 _ _ h2), fun r nr => ?_⟩
      rw [e1, e2, cut_at _ _ _ (by rw [wk.len]; have := Nat.mul_le_mul_right k.a (show i + 1 ≤ k.b from hi); rw [Nat.succ_mul, Nat.mul_comm k.b] at this; exact this), ← row_slice wk.len hi]
      have nrD : r ≠ D := fun z => by
        rw [z, hL] at nr
        cases nr
      have s3 : Same H' (upd H' r (.lst ((Ie04.row k i).map V.int))) := same_new nr
      refine ⟨_, s3 _ _ hL, ?_, same_upd (s2.trans s3) hD, rs ++ [r], ?_, ?_, fun j r' hj => ?_⟩
      · rw [List.length_map, hn]
        exact Nat.lt_of_lt_of_le (m := 5) (by omega) (by decide)
      · rw [upd_same, List.map_append]
        rfl
      · rw [List.length_append, hn]
        rfl
      · by_cases c : j < rs.length
        · rw [List.getElem?_append_left c] at hj
          have q := hrs j r' hj
          refine ⟨?_, q.2⟩
          rw [upd_ne q.2]
          exact s3 _ _ q.1
        · rw [List.getElem?_append_right (by omega)] at hj
          have ej : j - rs.length = 0 := by
            have := (List.getElem?_eq_some_iff.mp hj).1
            simp at this
            omega
          rw [ej] at hj
          cases hj
          have ej2 : j = i := by omega
          subst ej2
          refine ⟨?_, nrD⟩
          rw [upd_ne nrD, upd_same]
    · rintro H' ⟨s2, rs, hL, hn, hrs⟩
      rw [Int.toNat_natCast] at hn
      exact kk _ D rs s2 ⟨hL, hn, fun j r h => (hrs j r h).1⟩
end
end Nd

set_option Elab.async false
set_option maxRecDepth 100000
set_option maxHeartbeats 2000000
namespace Nd
open PySem L2
theorem dp_ints {K : PySem.W.Frag} {H : Hp} : ∀ ns : List Int, DpAll K H (ns.map V.int) (ns.map PyData.int)
  | [] => .nil
  | x :: r => .cons (.int x) (dp_ints r)
theorem eqv_ints (ns ms : List Int) : PyData.eqv (.list (ns.map PyData.int)) (.list (ms.map PyData.int)) = decide (ns = ms) := by
  rw [← PySem.W.ked_eqvAll]
  simp only [PyData.eqv]
/-- how many times a row is the divided one, or None -/
def TimesV (u r : List Int) (v : V) : Prop := (∃ t, v = .int t ∧ TimesOf u r t) ∨ (v = .non ∧ ∀ t, ¬ TimesOf u r t)
section
variable {P : Program} {w : World} {K : PySem.W.Frag} {mg : Str → Option Value} {base : Heap}
/-! times_of -/
def spTimes : Sp := fun vs H Q _ => ∃ (a b : Addr) (u r : List Int), vs = [.ref a, .ref b] ∧ H a = some (.lst (u.map V.int)) ∧ H b = some (.lst (r.map V.int)) ∧ u.length = r.length ∧ u.length ≤ 5 ∧ (∀ x ∈ u, x.natAbs ≤ 1000) ∧ (∃ x ∈ u, x ≠ 0) ∧
  ∀ (H' : Hp) (v : V), Same H H' → TimesV u r v → Q v H'
theorem scTimes : FnScope ["unit", "row", "place", "times", "number"] ["unit", "row"] (defScope sTimes) := ⟨rfl, rfl, rfl, by decide +kernel, rfl, by decide +kernel, by decide +kernel⟩
theorem ok_times {f : Addr} {fd : FuncData} (F : Fun K "times_of" "times_of" sTimes f fd) : FnOk P w K mg base CX0 1 f fd ["unit", "row"] spTimes := by
  refine F.ok scTimes (fun vs H Q E h => ?_) (fun cdv A outer s H vs Q E hr h => ?_)
  · obtain ⟨a, b, u, r, rfl, _⟩ := h
    rfl
  · obtain ⟨a, b, u, r, rfl, ha, hb, hlen, h5, hbd, ⟨x0, hx0, nx0⟩, kk⟩ := h
    refine ⟨_, pss_cons (ps_set (i := 2) scTimes.nd rfl (Or.inl rfl) pe_int)
      (pss_cons (ps_while PassesOwn.never (pt_cmpR op_eq (pe_ix ix_list (pv 0) (pv 2) (fun _ _ => rfl)) pe_int (nomark _)) (pss_one (ps_set (i := 2) scTimes.nd rfl (Or.inl rfl) (pe_op op_add (pv 2) pe_int))))
      (pss_cons (ps_set (i := 3) scTimes.nd rfl (Or.inr rfl) (pe_op op_fdivN (pe_ix ix_list (pv 1) (pv 2) (fun _ _ => rfl)) (pe_ix ix_list (pv 0) (pv 2) (fun _ _ => rfl))))
      (pss_one (ps_ret (pe_ifExp (pt_cmpR (op_eqD hr.units) (pv 1) (pe_lc (own := [("number", 4)]) (g := gName 4) (tt := tYes) rfl scTimes.nd (pi_list (pv 0)) (blkOk_by (N := ["unit", "row", "place", "times", "number"]) (sc := defScope sTimes) (by decide +kernel))
        (fun _ _ _ _ _ => pg_name (i := 4) scTimes.nd rfl (Or.inl rfl)) (fun _ _ _ _ _ => pts_nil) (fun _ _ _ _ _ => pe_op op_mul (pv 3) (pv 4))) (nomark _)) (pv 3) pe_non))))), ?_⟩
    obtain ⟨i0, hi0⟩ := List.getElem?_of_mem hx0
    have li0 : i0 < u.length := (List.getElem?_eq_some_iff.mp hi0).1
    refine ⟨fun n σ' H' => H' = H ∧ ∃ i : Nat, n = i0 - i ∧ i ≤ i0 ∧ σ' = [some (.ref a), some (.ref b), some (.int (i : Int)), none, none], ⟨i0, rfl, 0, rfl, Nat.zero_le _, rfl⟩, ?_⟩
    rintro n σ' H' ⟨rfl, i, rfl, hi, rfl⟩
    have hui : u[i]? = some (u[i]'(by omega)) := List.getElem?_eq_getElem _
    generalize u[i]'(by omega) = ui at hui
    have hri : r[i]? = some (r[i]'(by omega)) := List.getElem?_eq_getElem _
    generalize r[i]'(by omega) = ri at hri
    refine ⟨_, rfl, _, rfl, a, _, _, _, rfl, rfl, SqL.of ha, at_of rfl (at_map hui), rfl, _, rfl, ?_⟩
    refine ifD (fun c => ?_) (fun c => ?_)
    · injection c with c
      subst c
      have ne : i ≠ i0 := fun z => by
        rw [z, hi0] at hui
        exact nx0 (Option.some.inj hui)
      refine ⟨fun σ' H'' => H'' = H' ∧ σ' = [some (.ref a), some (.ref b), some (.int ((i : Int) + 1)), none, none], fun σ' H'' h => ⟨i0 - (i + 1), by omega, h.1, i + 1, rfl, by omega, h.2⟩, ?_⟩
      exact ⟨_, rfl, _, _, rfl, rfl, rfl, rfl⟩
    · have nz : ui ≠ 0 := fun z => c (by rw [z])
      have bu := hbd ui (List.mem_of_getElem? hui)
      refine ⟨_, rfl, _, rfl, b, _, _, _, rfl, rfl, SqL.of hb, at_of rfl (at_map hri), _, rfl, _, rfl, a, _, _, _, rfl, rfl, SqL.of ha, at_of rfl (at_map hui), _, _, rfl, rfl, ⟨nz, by omega⟩, ?_⟩
      refine ⟨_, rfl, _, rfl, a, rfl, ⟨_, SqL.of ha⟩, fun D hD => ?_⟩
      refine lc_list (K := K) (a := a) (xs := u.map V.int) (fun i H2 => Same H' H2 ∧ H2 D = some (.lst (((u.take i).map fun x => ri.fdiv ui * x).map V.int))) ⟨same_new hD, upd_same⟩ (fun i H2 _ q => SqL.of (q.1 _ _ ha)) ?_ ?_
      · rintro j y H2 hj ⟨s2, hL⟩
        obtain ⟨z, hz, rfl⟩ := map_at hj
        have bz := hbd z (List.mem_of_getElem? hz)
        refine ⟨rfl, _, rfl, _, rfl, _, _, rfl, rfl, .inr ⟨by omega, by omega⟩, _, hL, ?_, same_upd s2 hD, ?_⟩
        · refine Nat.lt_of_le_of_lt (m := 1000) ?_ (by decide)
          rw [List.length_map, List.length_map, List.length_take]
          omega
        · rw [upd_same, take_more hz]
          simp
      · rintro H2 ⟨s2, hL⟩
        rw [List.length_map, List.take_length] at hL
        refine ⟨_, _, .lst (SqL.of (s2 _ _ hb)) (dp_ints r), .lst (SqL.of hL) (dp_ints _), PySem.W.ke_shaped_ints _, PySem.W.ke_shaped_ints _, _, rfl, ?_⟩
        rw [eqv_ints]
        refine ifD (fun c2 => ?_) (fun c2 => ?_)
        · rw [times_map] at c2
          exact ⟨_, rfl, kk _ _ s2 (.inl ⟨_, rfl, c2⟩)⟩
        · refine kk _ _ s2 (.inr ⟨rfl, fun t ht => c2 ?_⟩)
          rw [times_lead ht hui hri nz, times_map]
          exact ht
/-! parted -/
/-- the row's numbers and the column's, or None -/
def spParted (C : Addr) : Sp := fun vs H Q _ => ∃ (a : Addr) (k : Ie04.Weights), vs = [.ref a] ∧ GridAt C H a k.a k.b k.l ∧ WOk k ∧
  (∀ H' : Hp, Same H H' → Ie04.parted k = none → Q .non H') ∧ ∀ (H' : Hp) (q : Addr) (z : List Int × List Int), Same H H' → Ie04.parted k = some z → z.1.length ≤ 5 → z.2.length ≤ 5 → H' q = some (.lst ((z.1 ++ z.2).map V.int)) → Q (.ref q) H'
theorem scParted : FnScope ["weights", "rows", "rows_with_weight", "divisor", "unit", "column", "row", "number"] ["weights"] (defScope sParted) := ⟨rfl, rfl, rfl, by decide +kernel, rfl, by decide +kernel, by decide +kernel⟩
end
end Nd

set_option Elab.async false
set_option maxRecDepth 100000
set_option maxHeartbeats 2000000
namespace Nd
open PySem L2
/-- a column of numbers and Nones -/
theorem col_cases (u : List Int) : ∀ (vs : List V) (R : Nat → List Int), (∀ y v, vs[y]? = some v → TimesV u (R y) v) →
    (inV .non vs = true ∧ ∃ y, y < vs.length ∧ ∀ t, ¬ TimesOf u (R y) t) ∨ (inV .non vs = false ∧ ∃ c : List Int, vs = c.map V.int ∧ ∀ y t, c[y]? = some t → TimesOf u (R y) t)
  | [], R, _ => .inr ⟨rfl, [], rfl, fun y t h => by cases h⟩
  | v :: vs, R, h => by
    rcases h 0 v rfl with ⟨t, e, ht⟩ | ⟨e, hn⟩
    · subst e
      rcases col_cases u vs (fun y => R (y + 1)) (fun y w hy => h (y + 1) w hy) with ⟨i, y, hy, hn⟩ | ⟨i, c, e, hc⟩
      · exact .inl ⟨i, y + 1, Nat.succ_lt_succ hy, hn⟩
      · refine .inr ⟨i, t :: c, by rw [e]; rfl, fun y s hy => ?_⟩
        cases y with
        | zero =>
          cases hy
          exact ht
        | succ y => exact hc y s hy
    · subst e
      exact .inl ⟨rfl, 0, Nat.succ_pos _, hn⟩
theorem col_flat {u : List Int} {vs : List V} {R : Nat → List Int} (h : ∀ y v, vs[y]? = some v → TimesV u (R y) v) : vs.all flatV = true := by
  rw [List.all_eq_true]
  intro v hv
  obtain ⟨y, hy⟩ := List.getElem?_of_mem hv
  rcases h y v hy with ⟨t, e, _⟩ | ⟨e, _⟩
  · rw [e]
    rfl
  · rw [e]
    rfl
theorem row_small {k : Ie04.Weights} (wk : WOk k) {j : Nat} (hj : j < k.b) {x : Int} (hx : x ∈ Ie04.row k j) : x.natAbs ≤ 1000 := by
  rw [row_slice wk.len hj] at hx
  have := wk.bnd x (List.mem_of_mem_drop (List.mem_of_mem_take hx))
  omega
theorem div_row_small {k : Ie04.Weights} (wk : WOk k) {j : Nat} (hj : j < k.b) {x : Int} (hx : x ∈ divRow k j) : x.natAbs ≤ 1000 := by
  unfold divRow at hx
  obtain ⟨y, hy, rfl⟩ := List.mem_map.mp hx
  exact Nat.le_trans div_small (row_small wk hj hy)
section
variable {P : Program} {w : World} {K : PySem.W.Frag} {mg : Str → Option Value} {base : Heap}
theorem ok_parted {f C : Addr} {fd : FuncData} (F : Fun K "parted" "parted" sParted f fd) (T : GTxt K C) (B : BTxt mg) (D1 : Def P w K mg base 1 "rows_of" ["weights"] (spRowsOf C)) (D2 : Def P w K mg base 2 "common_divisor" ["numbers"] (spCd K))
    (D3 : Def P w K mg base 1 "times_of" ["unit", "row"] spTimes) : FnOk P w K mg base CX0 3 f fd ["weights"] (spParted C) := by
  obtain ⟨f1, fd1, G1, m1, kp1, b1⟩ := D1.ex
  obtain ⟨f2, fd2, G2, m2, kp2, b2⟩ := D2.ex
  obtain ⟨f3, fd3, G3, m3, kp3, b3⟩ := D3.ex
  refine F.ok scParted (fun vs H Q E h => ?_) (fun cdv A outer s H vs Q E hr h => ?_)
  · obtain ⟨a, k, rfl, _⟩ := h
    rfl
  · obtain ⟨a, k, rfl, hg, wk, kn, ks⟩ := h
    have hr1 : Room 1 _ := hr.mono (by decide)
    refine ⟨_, pss_cons (ps_set (i := 1) scParted.nd rfl (Or.inl rfl) (pe_call G1 hr1 rfl m1 kp1 b1 .nil pass0 (pa_cons (pv 0) pa_nil)))
      (pss_cons (ps_setLc (i := 2) (own := [("row", 6)]) (g := gName 6) (tt := tB (tCB (rAnyI K) (tCons (tVar 6) tNil))) (te := tVar 6) rfl scParted.nd rfl rfl (sw_true rfl rfl rfl (by decide +kernel)) (pi_list (pv 1)) (blkOk_by (N := ["weights", "rows", "rows_with_weight", "divisor", "unit", "column", "row", "number"]) (sc := defScope sParted) (by decide +kernel))
        (fun _ _ _ _ _ => pg_name (i := 6) scParted.nd rfl (Or.inl rfl)) (fun _ _ _ _ _ => pts_one (pt_val (pe_callB (cr_anyI rfl) (by rfl) B.any (by decide +kernel) (pa_cons (pv 6) pa_nil)))) (fun _ _ _ _ _ => pv 6))
      (pss_cons (ps_if (pt_cmpR (op_eqNil hr.units0) (pv 2) (pe_lst pa_nil) (nomark _)) (pss_one (ps_ret (pe_op op_rep (pe_lst (pa_cons pe_int pa_nil)) (pe_op op_add (pe_fld (pv 0) rfl) (pe_fld (pv 0) rfl))))) pss_nil)
      (pss_cons (ps_set (i := 3) scParted.nd rfl (Or.inr rfl) (pe_call G2 hr rfl m2 kp2 b2 .nil pass0 (pa_cons (pe_ix ix_list (pv 2) pe_int (fun _ _ => rfl)) pa_nil)))
      (pss_cons (ps_set (i := 4) scParted.nd rfl (Or.inr rfl) (pe_lc (own := [("number", 7)]) (g := gName 7) (tt := tYes) rfl scParted.nd (pi_list (pe_ix ix_list (pv 2) pe_int (fun _ _ => rfl))) (blkOk_by (N := ["weights", "rows", "rows_with_weight", "divisor", "unit", "column", "row", "number"]) (sc := defScope sParted) (by decide +kernel))
        (fun _ _ _ _ _ => pg_name (i := 7) scParted.nd rfl (Or.inl rfl)) (fun _ _ _ _ _ => pts_nil) (fun _ _ _ _ _ => pe_op op_fdivN (pv 7) (pv 3))))
      (pss_cons (ps_setLc (i := 5) (own := [("row", 6)]) (g := gName 6) (tt := tYes) rfl scParted.nd rfl rfl (sw_true rfl rfl rfl (by decide +kernel)) (pi_list (pv 1)) (blkOk_by (N := ["weights", "rows", "rows_with_weight", "divisor", "unit", "column", "row", "number"]) (sc := defScope sParted) (by decide +kernel))
        (fun _ _ _ _ _ => pg_name (i := 6) scParted.nd rfl (Or.inl rfl)) (fun _ _ _ _ _ => pts_nil) (fun _ _ _ _ _ => pe_call G3 hr1 rfl m3 kp3 b3 .nil pass0 (pa_cons (pv 4) (pa_cons (pv 6) pa_nil))))
      (pss_one (ps_ret (pe_ifExp (pt_cmpR op_in_seq pe_non (pv 5) (by rfl)) pe_non (pe_op op_cat (pv 4) (pv 5)))))))))), ?_⟩
    have ka := wk.a5
    have kb := wk.b5
    -- rows = rows_of(weights)
    refine ⟨_, rfl, a, k, rfl, hg, wk, fun H1 q rs s1 R1 => ?_⟩
    obtain ⟨hq1, hrn, hrs1⟩ := R1
    -- rows_with_weight
    refine ⟨_, rfl, q, rfl, ⟨_, SqL.of hq1⟩, fun D hD => ?_⟩
    refine lc_list (K := K) (a := q) (xs := rs.map V.ref) (fun i H2 => Same H1 H2 ∧ ∃ ws : List Addr, H2 D = some (.lst (ws.map V.ref)) ∧ ws.length ≤ i ∧ ((ws = [] ∧ ∀ j < i, zeroRow k j = true) ∨ ∃ j r, j < i ∧ (∀ y < j, zeroRow k y = true) ∧ zeroRow k j = false ∧ rs[j]? = some r ∧ ws[0]? = some r))
      ⟨same_new hD, [], upd_same, Nat.le_refl _, .inl ⟨rfl, fun j h => absurd h (Nat.not_lt_zero j)⟩⟩ (fun i H2 _ z => SqL.of (z.1 _ _ hq1)) ?_ ?_
    · rintro i y H2 hi ⟨s2, ws, hL, hw, hc⟩
      rw [List.getElem?_map] at hi
      obtain ⟨r, hri, rfl⟩ := Option.map_eq_some_iff.mp hi
      have hr2 := s2 _ _ (hrs1 i r hri)
      have il : i < rs.length := (List.getElem?_eq_some_iff.mp hri).1
      refine ⟨rfl, _, rfl, r, Ie04.row k i, rfl, SqL.of hr2, _, rfl, ?_⟩
      cases hz : (Ie04.row k i).any fun x => x != 0 with
      | true =>
        have zr : zeroRow k i = false := by
          unfold zeroRow
          rw [hz]
          rfl
        refine iteT ?_
        refine ⟨_, rfl, _, hL, ?_, same_upd s2 hD, ws ++ [r], ?_, ?_, .inr ?_⟩
        · rw [List.length_map]
          exact Nat.lt_of_le_of_lt (m := 5) (by omega) (by decide)
        · rw [upd_same, List.map_append]
          rfl
        · rw [List.length_append]
          exact Nat.succ_le_succ hw
        · rcases hc with ⟨e, hall⟩ | ⟨j, r', hj, hb, hf, hrj, h0⟩
          · subst e
            exact ⟨i, r, Nat.lt_succ_self _, hall, zr, hri, rfl⟩
          · refine ⟨j, r', Nat.lt_succ_of_lt hj, hb, hf, hrj, ?_⟩
            rw [List.getElem?_append_left (List.getElem?_eq_some_iff.mp h0).1]
            exact h0
      | false =>
        have zr : zeroRow k i = true := by
          unfold zeroRow
          rw [hz]
          rfl
        refine iteF ?_
        refine ⟨s2, ws, hL, Nat.le_succ_of_le hw, ?_⟩
        rcases hc with ⟨e, hall⟩ | ⟨j, r', hj, hb, hf, hrj, h0⟩
        · refine .inl ⟨e, fun j hj => ?_⟩
          by_cases z : j = i
          · rw [z]
            exact zr
          · exact hall j (by omega)
        · exact .inr ⟨j, r', Nat.lt_succ_of_lt hj, hb, hf, hrj, h0⟩
    · rintro H2 ⟨s2, ws, hL, hw, hc⟩
      rw [List.length_map, hrn] at hc hw
      have s02 : Same H H2 := s1.trans s2
      -- if rows_with_weight == []
      refine ⟨_, rfl, Nat.zero_le _, fun e he => ⟨D, e, _, rfl, rfl, SqL.of (same_new he _ _ hL), SqL.of upd_same, _, rfl, ?_⟩⟩
      have s3 : Same H2 (upd H2 e (.lst [])) := same_new he
      have s03 := s02.trans s3
      rcases hc with ⟨ew, hall⟩ | ⟨j, r, hj, hb, hf, hrj, h0⟩
      · subst ew
        refine iteT ?_
        obtain ⟨dx, l, h1, h2⟩ := hg.same s03
        refine ⟨(by show 1 ≤ sizeLine; decide), fun z nz => ?_⟩
        have s4 := s03.trans (same_new (o := .lst [.int 0]) nz)
        refine ⟨_, rfl, a, C, dx, _, _, rfl, same_new nz _ _ h1, T.cl, T.nC, gF_columns _ _ _, _, rfl, a, C, dx, _, _, rfl, same_new nz _ _ h1, T.cl, T.nR, gF_rows _ _ _, _, _, rfl, rfl, ?_⟩
        have e_n : Int.toNat ((k.a : Int) + (k.b : Int)) = k.a + k.b := by omega
        refine ⟨z, (k.a : Int) + (k.b : Int), _, rfl, rfl, upd_same, by omega, by omega, ?_, fun p hp => ?_⟩
        · rw [e_n]
          show 1 * _ ≤ sizeLine
          exact Nat.le_trans (m := 10) (by omega) (by decide)
        · refine ks _ p _ (s4.trans (same_new hp)) (parted_zero hall) ?_ ?_ ?_
          · simp only [List.length_replicate]
            exact ka
          · simp only [List.length_replicate]
            exact kb
          · rw [upd_same, e_n, rep_zero, List.replicate_append_replicate]
      · have ews : (ws.map V.ref).isEmpty = false := by
          cases ws with
          | nil => cases h0
          | cons x y => rfl
        rw [ews]
        refine iteF ?_
        have hL3 := s3 _ _ hL
        have at0 : (ws.map V.ref)[0]? = some (V.ref r) := by
          rw [List.getElem?_map, h0]
          rfl
        have hr3 := s3 _ _ (s2 _ _ (hrs1 j r hrj))
        have hjb : j < k.b := hj
        -- divisor
        refine ⟨_, rfl, D, _, _, _, rfl, rfl, SqL.of hL3, at_of (j := 0) rfl at0, r, Ie04.row k j, rfl, SqL.of hr3, ?_⟩
        -- unit
        refine ⟨_, rfl, D, _, _, _, rfl, rfl, SqL.of hL3, at_of (j := 0) rfl at0, r, rfl, ⟨_, SqL.of hr3⟩, fun D2 hD2 => ?_⟩
        obtain ⟨x0, hx0, nx0⟩ := zeroRow_false hf
        have gp := gcdOf_pos ⟨x0, hx0, nx0⟩
        have gl := Nat.le_trans (gcdOf_le hx0 nx0) (row_small wk hjb hx0)
        refine lc_list (K := K) (a := r) (xs := (Ie04.row k j).map V.int) (fun i H4 => Same (upd H2 e (.lst [])) H4 ∧ H4 D2 = some (.lst ((((Ie04.row k j).take i).map fun x => x / ((Ie04.gcdOf (Ie04.row k j) : Nat) : Int)).map V.int))) ⟨same_new hD2, upd_same⟩ (fun i H4 _ z => SqL.of (z.1 _ _ hr3)) ?_ ?_
        · rintro i y H4 hi ⟨s4, hL4⟩
          obtain ⟨x, hx, rfl⟩ := map_at hi
          refine ⟨rfl, _, rfl, _, rfl, _, _, rfl, rfl, ⟨by omega, by omega⟩, _, hL4, ?_, same_upd s4 hD2, ?_⟩
          · refine Nat.lt_of_le_of_lt (m := 5) ?_ (by decide)
            rw [List.length_map, List.length_map, List.length_take, row_length]
            omega
          · rw [upd_same, take_more hx, List.map_append, List.map_append]
            show some (HO.lst (_ ++ [V.int (Int.fdiv x ((Ie04.gcdOf (Ie04.row k j) : Nat) : Int))])) = _
            rw [Int.fdiv_eq_ediv_of_nonneg _ (by omega)]
            rfl
        · rintro H4 ⟨s4, hL4⟩
          rw [List.length_map, List.take_length] at hL4
          have hU : H4 D2 = some (.lst ((divRow k j).map V.int)) := hL4
          have s14 : Same H1 H4 := s2.trans (s3.trans s4)
          -- column
          refine ⟨_, rfl, q, rfl, ⟨_, SqL.of (s14 _ _ hq1)⟩, fun D3 hD3 => ?_⟩
          refine lc_list (K := K) (a := q) (xs := rs.map V.ref) (fun i H5 => Same H4 H5 ∧ ∃ vs : List V, H5 D3 = some (.lst vs) ∧ vs.length = i ∧ ∀ y v, vs[y]? = some v → TimesV (divRow k j) (Ie04.row k y) v)
            ⟨same_new hD3, [], upd_same, rfl, fun y v h => by cases h⟩ (fun i H5 _ z => SqL.of (z.1 _ _ (s14 _ _ hq1))) ?_ ?_
          · rintro i y H5 hi ⟨s5, vs, hL5, hn5, hv5⟩
            rw [List.getElem?_map] at hi
            obtain ⟨r', hri, rfl⟩ := Option.map_eq_some_iff.mp hi
            have il : i < rs.length := (List.getElem?_eq_some_iff.mp hri).1
            refine ⟨rfl, _, rfl, _, rfl, D2, r', divRow k j, Ie04.row k i, rfl, s5 _ _ hU, s5 _ _ (s14 _ _ (hrs1 i r' hri)), by rw [divRow_length, row_length], by rw [divRow_length]; exact ka, fun x hx => div_row_small wk hjb hx, divRow_some hf, fun H6 v s6 tv => ?_⟩
            refine ⟨_, s6 _ _ hL5, ?_, same_upd (s5.trans s6) hD3, vs ++ [v], upd_same, by rw [List.length_append, hn5]; rfl, fun y' v' hy => ?_⟩
            · rw [hn5]
              exact Nat.lt_of_le_of_lt (m := 5) (by omega) (by decide)
            · by_cases c : y' < vs.length
              · rw [List.getElem?_append_left c] at hy
                exact hv5 y' v' hy
              · rw [List.getElem?_append_right (by omega)] at hy
                have ej : y' - vs.length = 0 := by
                  have := (List.getElem?_eq_some_iff.mp hy).1
                  simp at this
                  omega
                rw [ej] at hy
                cases hy
                have ey : y' = i := by omega
                rw [ey]
                exact tv
          · rintro H5 ⟨s5, vs, hL5, hn5, hv5⟩
            rw [List.length_map, hrn] at hn5
            have s05 : Same H H5 := s1.trans (s14.trans s5)
            refine ⟨_, rfl, D3, _, rfl, .inl (SqL.of hL5), rfl, col_flat hv5, _, rfl, ?_⟩
            rcases col_cases _ vs _ hv5 with ⟨i, y, hy, hn⟩ | ⟨i, c, ec, hc⟩
            · rw [i]
              refine iteT ?_
              exact kn _ s05 (parted_none hjb hb hf (by rw [← hn5]; exact hy) hn)
            · rw [i]
              refine iteF ?_
              subst ec
              rw [List.length_map] at hn5
              refine ⟨_, rfl, _, rfl, D2, D3, _, _, rfl, rfl, s5 _ _ hU, hL5, ?_, fun p hp => ?_⟩
              · rw [List.length_map, List.length_map, divRow_length, hn5]
                exact Nat.le_trans (m := 10) (by omega) (by decide)
              · refine ks _ p _ (s05.trans (same_new hp)) (parted_some hjb hb hf hn5 hc) (by rw [divRow_length]; exact ka) (by rw [hn5]; exact kb) ?_
                rw [upd_same, List.map_append]
end
end Nd

set_option Elab.async false
set_option maxRecDepth 100000
set_option maxHeartbeats 2000000
namespace Nd
open PySem L2
section
variable {P : Program} {w : World} {K : PySem.W.Frag} {mg : Str → Option Value} {base : Heap}
/-! undo -/
def spUndo (CD CG : Addr) : Sp := fun vs H Q _ => ∃ (X : Addr → Prop) (d e : Addr) (S : Ie04.St), vs = [.ref d] ∧ DeskAt X CD CG H d e S ∧ Ans X CD CG H d e (Ie04.step S .undo) Q
theorem scUndo : FnScope ["self"] ["self"] (defScope sUndo) := ⟨rfl, rfl, rfl, by decide +kernel, rfl, by decide +kernel, by decide +kernel⟩
theorem ok_undo {f CD CG : Addr} {fd : FuncData} (F : Fun K "undo" "Desk.undo" sUndo f fd) (T : DTxt K CD) (B : BTxt mg) : FnOk P w K mg base CX0 1 f fd ["self"] (spUndo CD CG) := by
  refine F.ok scUndo (fun vs H Q E h => ?_) (fun cdv A outer s H vs Q E hr h => ?_)
  · obtain ⟨X, d, e, S, rfl, _⟩ := h
    rfl
  · obtain ⟨X, d, e, S, rfl, D, k⟩ := h
    obtain ⟨okS, sepX, dx, c, a, gs, h1, h2, h3, h4, h5⟩ := id D
    refine ⟨_, pss_cons (ps_if (pt_cmpR (op_eqNil hr.units0) (pe_fld (pv 0) rfl) (pe_lst pa_nil) (nomark _)) (pss_one (ps_ret (pe_lst (pa_cons (pe_un un_neg pe_int) pa_nil)))) pss_nil)
      (pss_cons (ps_fld (pv 0) (pe_bm0 PySem.F.plainAttrs_list PySem.F.slot_list_pop PySem.F.type_list_pop mt_pop (pe_fld (pv 0) rfl)) rfl)
      (pss_one (ps_ret (pe_lst (pa_cons pe_int (pa_cons (pe_callB call_len_seq (by rfl) B.len PySem.boot_len (pa_cons (pe_fld (pv 0) rfl) pa_nil)) pa_nil)))))), ?_⟩
    refine ⟨_, rfl, d, CD, dx, _, _, rfl, h1, T.cl, T.nE, dF_earlier _ _ _, Nat.zero_le _, fun z nz => ⟨e, z, _, rfl, rfl, SqL.of (same_new nz _ _ h4), SqL.of upd_same, _, rfl, ?_⟩⟩
    have s1 : Same H (upd H z (.lst [])) := same_new nz
    cases eo : S.old with
    | nil =>
      have eg : gs = [] := by
        have hl := h5.len
        rw [eo] at hl
        cases gs with
        | nil => rfl
        | cons g r => cases hl
      subst eg
      refine iteT ?_
      refine ⟨_, rfl, (by show 1 ≤ sizeLine; decide), fun q hq => ?_⟩
      have es : Ie04.step S .undo = (S, [-4]) := by
        show (match S.old with | [] => (S, [-4]) | p :: l => (⟨p, S.aside, l⟩, [0, ((l.length : Nat) : Int)])) = _
        rw [eo]
      rw [es] at k
      exact Ans.still k D s1 hq
    | cons p l =>
      have es : Ie04.step S .undo = (⟨p, S.aside, l⟩, [0, ((l.length : Nat) : Int)]) := by
        show (match S.old with | [] => (S, [-4]) | p :: l => (⟨p, S.aside, l⟩, [0, ((l.length : Nat) : Int)])) = _
        rw [eo]
      rw [es] at k
      rw [eo, List.reverse_cons] at h5
      obtain ⟨gs', g, eg, h6, h7⟩ := Grids.unsnoc h5
      subst eg
      have en : ((gs' ++ [g]).map V.ref).isEmpty = false := by
        rw [List.isEmpty_eq_false_iff]
        simp
      rw [en]
      refine iteF ?_
      have nde : d ≠ e := ne_of h1 h4 (by intro z; cases z)
      have nzd : d ≠ z := ne_of_none h1 nz
      have nze : e ≠ z := ne_of_none h4 nz
      have fp : Fits p := okS.old p (by rw [eo]; exact List.Mem.head _)
      have fl : ∀ x ∈ l, Fits x := fun x hx => okS.old x (by rw [eo]; exact List.Mem.tail _ hx)
      -- self.current = self.earlier.pop()
      refine ⟨_, rfl, d, CD, dx, _, _, rfl, s1 _ _ h1, T.cl, T.nE, dF_earlier _ _ _, .inl ⟨rfl, _, SqL.of (s1 _ _ h4)⟩, e, _, V.ref g, rfl, rfl, s1 _ _ h4, ?_, ?_⟩
      · rw [List.map_append, List.length_append]
        simp
      have ed : ((gs' ++ [g]).map V.ref).dropLast = gs'.map V.ref := by
        rw [List.map_append]
        exact List.dropLast_concat
      refine ⟨_, rfl, d, CD, dx, _, rfl, Eq.trans (upd_ne nde) (s1 _ _ h1), T.cl, T.nC, (by show 3 < 1000; decide), ?_⟩
      rw [dF_putC, ed]
      have he : (upd (upd (upd H z (.lst [])) e (.lst (gs'.map V.ref))) d (.ins CD dx (dF g a e))) e = some (.lst (gs'.map V.ref)) := Eq.trans (upd_ne nde.symm) upd_same
      -- return [0, len(self.earlier)]
      refine ⟨_, rfl, d, CD, dx, _, _, rfl, upd_same, T.cl, T.nE, dF_earlier _ _ _, e, _, rfl, .inl (SqL.of he), (by show 2 ≤ sizeLine; decide), fun q hq => ?_⟩
      have hqd : q ≠ d := fun y => by
        rw [y, upd_same] at hq
        cases hq
      have hqe : q ≠ e := fun y => by
        rw [y, he] at hq
        cases hq
      have hq1 : (upd H z (.lst [])) q = none := by
        rw [upd_ne hqd, upd_ne hqe] at hq
        exact hq
      have hq0 : H q = none := s1.free hq1
      have keep : ∀ b o, H b = some o → b ≠ d → b ≠ e → (upd (upd (upd (upd H z (.lst [])) e (.lst (gs'.map V.ref))) d (.ins CD dx (dF g a e))) q (.lst [.int 0, .int ((gs'.map V.ref).length : Nat)])) b = some o := fun b o hb nd ne => by
        rw [upd_ne (ne_of_none hb hq0), upd_ne nd, upd_ne ne]
        exact s1 _ _ hb
      have ln : (gs'.map V.ref).length = l.length := by
        rw [List.length_map, h6.len, List.length_reverse]
      refine k _ q e ⟨⟨fp, okS.aside, fl, ?_⟩, fun y hy => ⟨(sepX y hy).1.imp fun o ho => keep y o ho (sepX y hy).2.1 (sepX y hy).2.2, (sepX y hy).2⟩, dx, g, a, gs', ?_, h7.kept fp.some h1 h4 keep, h3.kept okS.aside.some h1 h4 keep, ?_, ?_⟩ ⟨keep, .inl rfl⟩ hq0 ?_
      · have := okS.len
        rw [eo] at this
        exact Nat.le_of_succ_le this
      · rw [upd_ne hqd.symm, upd_same]
      · rw [upd_ne hqe.symm]
        exact he
      · exact Grids.mono (fun g p fp gp => gp.kept fp.some h1 h4 keep) (fun p hp => fl p (List.mem_reverse.mp hp)) h6
      · rw [upd_same, ln]
        rfl
/-! now -/
def spNow (CD CG : Addr) : Sp := fun vs H Q _ => ∃ (X : Addr → Prop) (d e : Addr) (S : Ie04.St), vs = [.ref d] ∧ DeskAt X CD CG H d e S ∧ Ans X CD CG H d e (Ie04.step S .now) Q
theorem scNow : FnScope ["self"] ["self"] (defScope sNow) := ⟨rfl, rfl, rfl, by decide +kernel, rfl, by decide +kernel, by decide +kernel⟩
theorem ok_now {f CD CG : Addr} {fd : FuncData} (F : Fun K "now" "Desk.now" sNow f fd) (T : DTxt K CD) (TG : GTxt K CG) : FnOk P w K mg base CX0 1 f fd ["self"] (spNow CD CG) := by
  refine F.ok scNow (fun vs H Q E h => ?_) (fun cdv A outer s H vs Q E hr h => ?_)
  · obtain ⟨X, d, e, S, rfl, _⟩ := h
    rfl
  · obtain ⟨X, d, e, S, rfl, D, k⟩ := h
    obtain ⟨okS, sepX, dx, c, a, gs, h1, h2, h3, h4, h5⟩ := id D
    obtain ⟨dc, lc, g1, g2, _⟩ := id h2
    refine ⟨_, pss_one (ps_ret (pe_op op_cat (pe_lst (pa_cons pe_int (pa_cons (pe_fld (pe_fld (pv 0) rfl) rfl) (pa_cons (pe_fld (pe_fld (pv 0) rfl) rfl) pa_nil)))) (pe_fld (pe_fld (pv 0) rfl) rfl))), ?_⟩
    have b1 : S.pic.w * S.pic.h ≤ 12 * 12 := Nat.mul_le_mul okS.pic.w2 okS.pic.h2
    have ll := okS.pic.len
    refine ⟨_, rfl, d, CD, dx, _, _, rfl, h1, T.cl, T.nC, dF_current _ _ _, c, CG, dc, _, _, rfl, g1, TG.cl, TG.nC, gF_columns _ _ _, _, rfl, d, CD, dx, _, _, rfl, h1, T.cl, T.nC, dF_current _ _ _, c, CG, dc, _, _, rfl, g1, TG.cl, TG.nR, gF_rows _ _ _, (by show 3 ≤ sizeLine; decide), fun z nz => ?_⟩
    have s1 : Same H (upd H z (.lst [.int 0, .int S.pic.w, .int S.pic.h])) := same_new nz
    refine ⟨_, rfl, d, CD, dx, _, _, rfl, s1 _ _ h1, T.cl, T.nC, dF_current _ _ _, c, CG, dc, _, _, rfl, s1 _ _ g1, TG.cl, TG.nN, gF_numbers _ _ _, z, lc, _, _, rfl, rfl, upd_same, s1 _ _ g2, ?_, fun q hq => ?_⟩
    · rw [List.length_map, ll]
      show 3 + _ ≤ sizeLine
      exact Nat.le_trans (m := 1000) (by omega) (by decide)
    · exact Ans.still k D s1 hq
/-! cell -/
def spCell (CD CG : Addr) : Sp := fun vs H Q _ => ∃ (X : Addr → Prop) (d e : Addr) (S : Ie04.St) (x y : Nat), vs = [.ref d, .int (x : Int), .int (y : Int)] ∧ DeskAt X CD CG H d e S ∧ Ans X CD CG H d e (Ie04.step S (.cell x y)) Q
theorem scCell : FnScope ["self", "column", "row"] ["self", "column", "row"] (defScope sCell) := ⟨rfl, rfl, rfl, by decide +kernel, rfl, by decide +kernel, by decide +kernel⟩
theorem ok_cell {f CD CG : Addr} {fd : FuncData} (F : Fun K "cell" "Desk.cell" sCell f fd) (T : DTxt K CD) (TG : GTxt K CG) : FnOk P w K mg base CX0 1 f fd ["self", "column", "row"] (spCell CD CG) := by
  refine F.ok scCell (fun vs H Q E h => ?_) (fun cdv A outer s H vs Q E hr h => ?_)
  · obtain ⟨X, d, e, S, x, y, rfl, _⟩ := h
    rfl
  · obtain ⟨X, d, e, S, x, y, rfl, D, k⟩ := h
    obtain ⟨okS, sepX, dx, c, a, gs, h1, h2, h3, h4, h5⟩ := id D
    obtain ⟨dc, lc, g1, g2, _⟩ := id h2
    refine ⟨_, pss_cons (ps_if (PW.pt (pw_or (pt_cmpR op_ge (pv 1) (pe_fld (pe_fld (pv 0) rfl) rfl) (nomark _)) (pw_or1 (pt_cmpR op_ge (pv 2) (pe_fld (pe_fld (pv 0) rfl) rfl) (nomark _))))) (pss_one (ps_ret (pe_lst (pa_cons (pe_un un_neg pe_int) pa_nil)))) pss_nil)
      (pss_one (ps_ret (pe_lst (pa_cons pe_int (pa_cons (pe_ix ix_list (pe_fld (pe_fld (pv 0) rfl) rfl) (pe_op op_add (pe_op op_mul (pv 2) (pe_fld (pe_fld (pv 0) rfl) rfl)) (pv 1)) (fun _ _ => rfl)) pa_nil))))), ?_⟩
    have w2 := okS.pic.w2
    have hh2 := okS.pic.h2
    have ll := okS.pic.len
    have es : Ie04.step S (.cell x y) = (S, if S.pic.w ≤ x ∨ S.pic.h ≤ y then [-1] else [0, S.pic.v.getD (y * S.pic.w + x) 0]) := rfl
    rw [es] at k
    have bad : S.pic.w ≤ x ∨ S.pic.h ≤ y → ∀ q, H q = none → Q (.ref q) (upd H q (.lst [.int (-1)])) := fun z q hq => by
      rw [if_pos z] at k
      exact Ans.still k D (Same.refl _) hq
    refine ⟨_, rfl, _, rfl, d, CD, dx, _, _, rfl, h1, T.cl, T.nC, dF_current _ _ _, c, CG, dc, _, _, rfl, g1, TG.cl, TG.nC, gF_columns _ _ _, _, _, rfl, rfl, _, rfl, ?_⟩
    refine ifD (fun z1 => ?_) (fun z1 => ?_)
    · refine iteT ?_
      exact ⟨_, rfl, (by show 1 ≤ sizeLine; decide), fun q hq => bad (.inl (by omega)) q hq⟩
    · refine ⟨_, rfl, _, rfl, d, CD, dx, _, _, rfl, h1, T.cl, T.nC, dF_current _ _ _, c, CG, dc, _, _, rfl, g1, TG.cl, TG.nR, gF_rows _ _ _, _, _, rfl, rfl, _, rfl, ?_⟩
      refine ifD (fun z2 => ?_) (fun z2 => ?_)
      · exact ⟨_, rfl, (by show 1 ≤ sizeLine; decide), fun q hq => bad (.inr (by omega)) q hq⟩
      · have lx : x < S.pic.w := by omega
        have ly : y < S.pic.h := by omega
        have lt : y * S.pic.w + x < S.pic.v.length := by
          rw [ll, Nat.mul_comm S.pic.w]
          exact mul_add_lt lx ly
        have ei : (y : Int) * (S.pic.w : Int) + (x : Int) = ((y * S.pic.w + x : Nat) : Int) := by rw [Int.natCast_add, Int.natCast_mul]
        have hv : S.pic.v[y * S.pic.w + x]? = some (S.pic.v.getD (y * S.pic.w + x) 0) := by
          rw [List.getD_eq_getElem?_getD, List.getElem?_eq_getElem lt]
          rfl
        refine ⟨_, rfl, d, CD, dx, _, _, rfl, h1, T.cl, T.nC, dF_current _ _ _, c, CG, dc, _, _, rfl, g1, TG.cl, TG.nN, gF_numbers _ _ _, _, rfl, _, rfl, d, CD, dx, _, _, rfl, h1, T.cl, T.nC, dF_current _ _ _, c, CG, dc, _, _, rfl, g1, TG.cl, TG.nC, gF_columns _ _ _, _, _, rfl, rfl, .inl ⟨by omega, by omega⟩, _, rfl, _, _, rfl, rfl, lc, _, _, _, rfl, rfl, SqL.of g2, at_of ei (at_map hv), (by show 2 ≤ sizeLine; decide), fun q hq => ?_⟩
        rw [if_neg (by omega)] at k
        exact Ans.still k D (Same.refl _) hq
/-! told -/
def spTold (CD CG : Addr) : Sp := fun vs H Q _ => ∃ (X : Addr → Prop) (d e : Addr) (S : Ie04.St), vs = [.ref d] ∧ DeskAt X CD CG H d e S ∧ Ans X CD CG H d e (Ie04.step S .told) Q
theorem scTold : FnScope ["self", "numbers"] ["self"] (defScope sTold) := ⟨rfl, rfl, rfl, by decide +kernel, rfl, by decide +kernel, by decide +kernel⟩
theorem ok_told {f CD CG : Addr} {fd : FuncData} (F : Fun K "told" "Desk.told" sTold f fd) (T : DTxt K CD) (TG : GTxt K CG) (B : BTxt mg) : FnOk P w K mg base CX0 1 f fd ["self"] (spTold CD CG) := by
  refine F.ok scTold (fun vs H Q E h => ?_) (fun cdv A outer s H vs Q E hr h => ?_)
  · obtain ⟨X, d, e, S, rfl, _⟩ := h
    rfl
  · obtain ⟨X, d, e, S, rfl, D, k⟩ := h
    obtain ⟨okS, sepX, dx, c, a, gs, h1, h2, h3, h4, h5⟩ := id D
    obtain ⟨dc, lc, g1, g2, _⟩ := id h2
    refine ⟨_, pss_cons (ps_set (i := 1) scTold.nd rfl (Or.inl rfl) (pe_fld (pe_fld (pv 0) rfl) rfl))
      (pss_one (ps_ret (pe_lst (pa_cons pe_int (pa_cons (pe_callB (cr_min rfl) (by rfl) B.min (by decide +kernel) (pa_cons (pv 1) pa_nil)) (pa_cons (pe_callB (cr_max rfl) (by rfl) B.max (by decide +kernel) (pa_cons (pv 1) pa_nil)) (pa_cons (pe_callB (cr_sum rfl) (by rfl) B.sum (by decide +kernel) (pa_cons (pv 1) pa_nil)) pa_nil))))))), ?_⟩
    have v0 : 0 < S.pic.v.length := List.length_pos_iff.mpr okS.pic.some
    refine ⟨_, rfl, d, CD, dx, _, _, rfl, h1, T.cl, T.nC, dF_current _ _ _, c, CG, dc, _, _, rfl, g1, TG.cl, TG.nN, gF_numbers _ _ _, ?_⟩
    refine ⟨_, rfl, lc, S.pic.v, rfl, SqL.of g2, v0, fun lo lom lole => ?_⟩
    refine ⟨_, rfl, lc, S.pic.v, rfl, SqL.of g2, v0, fun hi him hile => ?_⟩
    refine ⟨_, rfl, lc, S.pic.v, rfl, SqL.of g2, (by show 4 ≤ sizeLine; decide), fun q hq => ?_⟩
    have es : Ie04.step S .told = (S, [0, lo, hi, S.pic.v.sum]) := by
      show (S, [0, Ie04.least S.pic.v, Ie04.greatest S.pic.v, Ie04.sum S.pic.v]) = _
      rw [least_is lom lole, greatest_is him hile, sum_is]
    rw [es] at k
    exact Ans.still k D (Same.refl _) hq
end
end Nd

set_option Elab.async false
set_option maxRecDepth 100000
set_option maxHeartbeats 2000000
namespace Nd
open PySem L2
section
variable {P : Program} {w : World} {K : PySem.W.Frag} {mg : Str → Option Value} {base : Heap}
/-! both -/
def spBoth (CD CG : Addr) : Sp := fun vs H Q _ => ∃ (X : Addr → Prop) (d e g g' : Addr) (S : Ie04.St) (k m : Ie04.Weights), vs = [.ref d, .ref g, .ref g'] ∧ DeskAt X CD CG H d e S ∧ GridAt CG H g k.a k.b k.l ∧ GridAt CG H g' m.a m.b m.l ∧ k.l.length ≤ 1000 ∧ m.l.length ≤ 1000 ∧
  Ans X CD CG H d e (Ie04.step S (.both k m)) Q
theorem scBoth : FnScope ["self", "first", "second", "weights"] ["self", "first", "second"] (defScope sBoth) := ⟨rfl, rfl, rfl, by decide +kernel, rfl, by decide +kernel, by decide +kernel⟩
theorem ok_both {f CD CG : Addr} {fd : FuncData} (F : Fun K "both" "Desk.both" sBoth f fd) (TG : GTxt K CG) (D1 : Def P w K mg base 3 "are_weights" ["weights"] (spAreW CG)) (D2 : Def P w K mg base 3 "both_of" ["first", "second"] (spBothOf CG)) :
    FnOk P w K mg base CX0 4 f fd ["self", "first", "second"] (spBoth CD CG) := by
  obtain ⟨f1, fd1, G1, m1, kp1, b1⟩ := D1.ex
  obtain ⟨f2, fd2, G2, m2, kp2, b2⟩ := D2.ex
  refine F.ok scBoth (fun vs H Q E h => ?_) (fun cdv A outer s H vs Q E hr h => ?_)
  · obtain ⟨X, d, e, g, g', S, k, m, rfl, _⟩ := h
    rfl
  · obtain ⟨X, d, e, g, g', S, k, m, rfl, D, hg, hg', hk, hm, kk⟩ := h
    refine ⟨_, pss_cons (ps_if (PW.pt (pw_or (pt_not (pt_val (pe_call G1 hr rfl m1 kp1 b1 .nil pass0 (pa_cons (pv 1) pa_nil)))) (pw_or1 (pt_not (pt_val (pe_call G1 hr rfl m1 kp1 b1 .nil pass0 (pa_cons (pv 2) pa_nil))))))) (pss_one (ps_ret (pe_lst (pa_cons (pe_un un_neg pe_int) pa_nil)))) pss_nil)
      (pss_cons (ps_set (i := 3) scBoth.nd rfl (Or.inl rfl) (pe_call G2 hr rfl m2 kp2 b2 .nil pass0 (pa_cons (pv 1) (pa_cons (pv 2) pa_nil))))
      (pss_one (ps_ret (pe_op op_cat (pe_lst (pa_cons pe_int (pa_cons (pe_fld (pv 3) rfl) (pa_cons (pe_fld (pv 3) rfl) pa_nil)))) (pe_fld (pv 3) rfl))))), ?_⟩
    have es : Ie04.step S (.both k m) = (S, if Ie04.isWeights k = false ∨ Ie04.isWeights m = false then [-3] else 0 :: (((Ie04.both k m).a : Nat) : Int) :: (((Ie04.both k m).b : Nat) : Int) :: (Ie04.both k m).l) := rfl
    rw [es] at kk
    have bad : Ie04.isWeights k = false ∨ Ie04.isWeights m = false → ∀ H1, Same H H1 → ∀ q, H1 q = none → Q (.ref q) (upd H1 q (.lst [.int (-3)])) := fun z H1 s1 q hq => by
      rw [if_pos z] at kk
      exact Ans.still kk D s1 hq
    refine ⟨_, rfl, g, k, rfl, hg, hk, fun H1 s1 => ⟨_, rfl, ?_⟩⟩
    cases ek : Ie04.isWeights k with
    | false =>
      refine iteT ?_
      refine iteT ?_
      exact ⟨_, rfl, (by show 1 ≤ sizeLine; decide), fun q hq => bad (.inl ek) _ s1 q hq⟩
    | true =>
      refine iteF ?_
      refine ⟨_, rfl, g', m, rfl, hg'.same s1, hm, fun H2 s2 => ⟨_, rfl, ?_⟩⟩
      have s02 := s1.trans s2
      cases em : Ie04.isWeights m with
      | false =>
        refine iteT ?_
        exact ⟨_, rfl, (by show 1 ≤ sizeLine; decide), fun q hq => bad (.inr em) _ s02 q hq⟩
      | true =>
        refine iteF ?_
        have no : ¬ (Ie04.isWeights k = false ∨ Ie04.isWeights m = false) := by
          rw [ek, em]
          simp
        rw [if_neg no] at kk
        have wk := wok_of ek
        have wm := wok_of em
        refine ⟨_, rfl, _, rfl, g, g', k, m, rfl, hg.same s02, hg'.same s02, wk, wm, fun H3 p s3 hp => ?_⟩
        obtain ⟨dp, lp, p1, p2⟩ := hp
        have s03 := s02.trans s3
        refine ⟨_, rfl, p, CG, dp, _, _, rfl, p1, TG.cl, TG.nC, gF_columns _ _ _, _, rfl, p, CG, dp, _, _, rfl, p1, TG.cl, TG.nR, gF_rows _ _ _, (by show 3 ≤ sizeLine; decide), fun z nz => ?_⟩
        have s4 : Same H3 (upd H3 z (.lst [.int 0, .int (((Ie04.both k m).a : Nat) : Int), .int (((Ie04.both k m).b : Nat) : Int)])) := same_new nz
        refine ⟨_, rfl, p, CG, dp, _, _, rfl, s4 _ _ p1, TG.cl, TG.nN, gF_numbers _ _ _, z, lp, _, _, rfl, rfl, upd_same, s4 _ _ p2, ?_, fun q hq => ?_⟩
        · have la : k.a + m.a - 1 ≤ 9 := by have := wk.a5; have := wm.a5; omega
          have lb : k.b + m.b - 1 ≤ 9 := by have := wk.b5; have := wm.b5; omega
          have lab : (k.b + m.b - 1) * (k.a + m.a - 1) ≤ 9 * 9 := Nat.mul_le_mul lb la
          rw [List.length_map, both_l, rowsOf_length]
          show 3 + _ ≤ sizeLine
          exact Nat.le_trans (m := 1000) (by omega) (by decide)
        · exact Ans.still kk D (s03.trans s4) hq
/-! part -/
def spPart (CD CG : Addr) : Sp := fun vs H Q _ => ∃ (X : Addr → Prop) (d e g : Addr) (S : Ie04.St) (k : Ie04.Weights), vs = [.ref d, .ref g] ∧ DeskAt X CD CG H d e S ∧ GridAt CG H g k.a k.b k.l ∧ k.l.length ≤ 1000 ∧
  Ans X CD CG H d e (Ie04.step S (.parted k)) Q
theorem scPart : FnScope ["self", "weights", "row_and_column"] ["self", "weights"] (defScope sPart) := ⟨rfl, rfl, rfl, by decide +kernel, rfl, by decide +kernel, by decide +kernel⟩
theorem ok_part {f CD CG : Addr} {fd : FuncData} (F : Fun K "part" "Desk.part" sPart f fd) (D1 : Def P w K mg base 3 "are_weights" ["weights"] (spAreW CG)) (D2 : Def P w K mg base 3 "parted" ["weights"] (spParted CG)) :
    FnOk P w K mg base CX0 4 f fd ["self", "weights"] (spPart CD CG) := by
  obtain ⟨f1, fd1, G1, m1, kp1, b1⟩ := D1.ex
  obtain ⟨f2, fd2, G2, m2, kp2, b2⟩ := D2.ex
  refine F.ok scPart (fun vs H Q E h => ?_) (fun cdv A outer s H vs Q E hr h => ?_)
  · obtain ⟨X, d, e, g, S, k, rfl, _⟩ := h
    rfl
  · obtain ⟨X, d, e, g, S, k, rfl, D, hg, hk, kk⟩ := h
    refine ⟨_, pss_cons (ps_if (pt_not (pt_val (pe_call G1 hr rfl m1 kp1 b1 .nil pass0 (pa_cons (pv 1) pa_nil)))) (pss_one (ps_ret (pe_lst (pa_cons (pe_un un_neg pe_int) pa_nil)))) pss_nil)
      (pss_cons (ps_set (i := 2) scPart.nd rfl (Or.inl rfl) (pe_call G2 hr rfl m2 kp2 b2 .nil pass0 (pa_cons (pv 1) pa_nil)))
      (pss_one (ps_ret (pe_ifExp (pt_cmpR op_isN (pv 2) pe_non (nomark _)) (pe_lst (pa_cons pe_int (pa_cons pe_int pa_nil))) (pe_op op_cat (pe_lst (pa_cons pe_int (pa_cons pe_int pa_nil))) (pv 2)))))), ?_⟩
    refine ⟨_, rfl, g, k, rfl, hg, hk, fun H1 s1 => ⟨_, rfl, ?_⟩⟩
    cases ek : Ie04.isWeights k with
    | false =>
      refine iteT ?_
      have es : Ie04.step S (.parted k) = (S, [-3]) := by
        show (S, if Ie04.isWeights k = false then [-3] else _) = _
        rw [if_pos ek]
      rw [es] at kk
      exact ⟨_, rfl, (by show 1 ≤ sizeLine; decide), fun q hq => Ans.still kk D s1 hq⟩
    | true =>
      refine iteF ?_
      have es : Ie04.step S (.parted k) = (S, match Ie04.parted k with | none => [0, 0] | some q => 0 :: 1 :: (q.1 ++ q.2)) := by
        show (S, if Ie04.isWeights k = false then [-3] else _) = _
        rw [if_neg (by rw [ek]; exact Bool.noConfusion)]
        cases Ie04.parted k <;> rfl
      rw [es] at kk
      refine ⟨_, rfl, g, k, rfl, hg.same s1, wok_of ek, fun H2 s2 en => ?_, fun H2 p z s2 ez l1 l2 hp => ?_⟩
      · rw [en] at kk
        refine ⟨_, rfl, rfl, _, rfl, ?_⟩
        refine iteT ?_
        exact ⟨(by show 2 ≤ sizeLine; decide), fun q hq => Ans.still kk D (s1.trans s2) hq⟩
      · rw [ez] at kk
        refine ⟨_, rfl, rfl, _, rfl, ?_⟩
        refine iteF ?_
        refine ⟨(by show 2 ≤ sizeLine; decide), fun y ny => ?_⟩
        have s3 : Same H2 (upd H2 y (.lst [.int 0, .int 1])) := same_new ny
        refine ⟨_, rfl, y, p, _, _, rfl, rfl, upd_same, s3 _ _ hp, ?_, fun q hq => ?_⟩
        · rw [List.length_map, List.length_append]
          show 2 + _ ≤ sizeLine
          exact Nat.le_trans (m := 1000) (by omega) (by decide)
        · exact Ans.still kk D ((s1.trans s2).trans s3) hq
end
end Nd

set_option Elab.async false
set_option maxRecDepth 100000
set_option maxHeartbeats 2000000
namespace Nd
open PySem L2
theorem rF_ne_dF {a : Addr} {i : Int} {c s e : Addr} : rF a i ≠ dF c s e := fun z => by
  have q : ("source" : Str) = "current" := congrArg Prod.fst (List.cons.inj z).1
  exact absurd q (by decide +kernel)
theorem rF_ne_gF {a : Addr} {i x y : Int} {l : Addr} : rF a i ≠ gF x y l := fun z => by
  have q : ("source" : Str) = "columns" := congrArg Prod.fst (List.cons.inj z).1
  exact absurd q (by decide +kernel)
theorem GridX.but {X : Addr → Prop} {CG CR g r dx a : Addr} {H H' : Hp} {i x y : Int} {v : List Int} (G : GridX X CG H g x y v) (hr : H r = some (.ins CR dx (rF a i))) (k : But H H' r) : GridX X CG H' g x y v := by
  obtain ⟨dg, l, h1, h2, h3⟩ := G
  refine ⟨dg, l, k _ _ h1 (fun z => ?_), k _ _ h2 (fun z => ?_), h3⟩
  · rw [z, hr] at h1
    injection h1 with h1
    injection h1 with _ _ q
    exact rF_ne_gF q
  · rw [z, hr] at h2
    cases h2
/-- the desk stands where only the reader is changed -/
theorem DeskAt.but {X : Addr → Prop} {CD CG CR d e r dx a : Addr} {H H' : Hp} {i : Int} {S : Ie04.St} (D : DeskAt X CD CG H d e S) (hr : H r = some (.ins CR dx (rF a i))) (hX : ¬ X r) (k : But H H' r) : DeskAt X CD CG H' d e S := by
  obtain ⟨ok, sp, dd, c, s, gs, h1, h2, h3, h4, h5⟩ := D
  refine ⟨ok, fun x hx => ⟨(sp x hx).1.imp fun o ho => k _ _ ho fun z => hX (z ▸ hx), (sp x hx).2⟩, dd, c, s, gs, k _ _ h1 (fun z => ?_), h2.but hr k, h3.but hr k, k _ _ h4 (fun z => ?_), Grids.mono (fun g p _ q => q.but hr k) (fun p hp => ok.old p (List.mem_reverse.mp hp)) h5⟩
  · rw [z, hr] at h1
    injection h1 with h1
    injection h1 with _ _ q
    exact rF_ne_dF q
  · rw [z, hr] at h4
    cases h4
/-- the desk stands where a list of X is changed -/
theorem DeskAt.at_ {X : Addr → Prop} {CD CG d e q : Addr} {H : Hp} {S : Ie04.St} {xs ys : List V} (D : DeskAt X CD CG H d e S) (hX : X q) (hq : H q = some (.lst xs)) : DeskAt X CD CG (upd H q (.lst ys)) d e S := by
  have sp := D.sep
  have gk : ∀ {g : Addr} {x y : Int} {v : List Int}, GridX X CG H g x y v → GridX X CG (upd H q (.lst ys)) g x y v := fun {g x y v} G => by
    obtain ⟨dg, l, h1, h2, h3⟩ := G
    refine ⟨dg, l, ?_, ?_, h3⟩
    · rw [upd_ne (ne_of h1 hq (by intro z; cases z))]
      exact h1
    · have nlq : l ≠ q := fun z => h3 (by rw [z]; exact hX)
      rw [upd_ne nlq]
      exact h2
  obtain ⟨ok, _, dd, c, s, gs, h1, h2, h3, h4, h5⟩ := D
  refine ⟨ok, fun x hx => ⟨?_, (sp x hx).2⟩, dd, c, s, gs, ?_, gk h2, gk h3, ?_, Grids.mono (fun g p _ q => gk q) (fun p hp => ok.old p (List.mem_reverse.mp hp)) h5⟩
  · by_cases z : x = q
    · rw [z]
      exact ⟨_, upd_same⟩
    · obtain ⟨o, ho⟩ := (sp x hx).1
      exact ⟨o, by rw [upd_ne z]; exact ho⟩
  · rw [upd_ne (sp q hX).2.1.symm]
    exact h1
  · rw [upd_ne (sp q hX).2.2.symm]
    exact h4
/-- a new list becomes somebody else's -/
theorem DeskAt.mark {CD CG d e q : Addr} {H : Hp} {S : Ie04.St} {o : HO} (D : DeskAt (fun _ => False) CD CG H d e S) (hq : H q = none) : DeskAt (fun x => x = q) CD CG (upd H q o) d e S := by
  have sm : Same H (upd H q o) := same_new hq
  have gk : ∀ {g : Addr} {x y : Int} {v : List Int}, GridX (fun _ => False) CG H g x y v → GridX (fun x => x = q) CG (upd H q o) g x y v := fun {g x y v} G => by
    obtain ⟨dg, l, h1, h2, _⟩ := G
    exact ⟨dg, l, sm _ _ h1, sm _ _ h2, ne_of_none h2 hq⟩
  obtain ⟨ok, _, dd, c, s, gs, h1, h2, h3, h4, h5⟩ := D
  refine ⟨ok, fun x hx => ⟨⟨o, by rw [hx]; exact upd_same⟩, fun z => ?_, fun z => ?_⟩, dd, c, s, gs, sm _ _ h1, gk h2, gk h3, sm _ _ h4, ?_⟩
  · rw [← z, hx, hq] at h1
    cases h1
  · rw [← z, hx, hq] at h4
    cases h4
  · have mono : ∀ {gs : List Addr} {ps : List Ie04.Pic}, Grids (fun _ => False) CG H gs ps → Grids (fun x => x = q) CG (upd H q o) gs ps := by
      intro gs
      induction gs with
      | nil =>
        intro ps h
        cases ps with
        | nil => exact trivial
        | cons p ps => exact h.elim
      | cons g gs ih =>
        intro ps h
        cases ps with
        | nil => exact h.elim
        | cons p ps => exact ⟨gk h.1, ih h.2⟩
    exact mono h5
/-- the tables by a call's number -/
structure Tabs (K : PySem.W.Frag) (mg : Str → Option Value) : Prop where
  whl : ∃ t, mg "WHOLES" = some (.ref t) ∧ ∀ H, ∃ xs, SqT K H t xs ∧ ∀ p : Int, 0 ≤ p → p ≤ 12 → xs[p.toNat]? = some (.int (nW p : Int))
  row : ∃ t, mg "WITH_ROW" = some (.ref t) ∧ ∀ H, ∃ xs, SqT K H t xs ∧ xs.all flatV = true ∧ ∀ p : Int, 0 ≤ p → p ≤ 12 → inV (.int p) xs = hasR p
def spAnswer (CD CG : Addr) : Sp := fun vs H Q _ => ∃ (X : Addr → Prop) (d e ws row : Addr) (S : Ie04.St) (p : Int) (wl rl : List Int), vs = [.ref d, .int p, .ref ws, .ref row] ∧ DeskAt X CD CG H d e S ∧ H ws = some (.lst (wl.map V.int)) ∧ H row = some (.lst (rl.map V.int)) ∧ ¬ X row ∧
  0 ≤ p ∧ p ≤ 12 ∧ wl.length = nW p ∧ CallOk (rawOf p wl rl) ∧ Ans X CD CG H d e (one S (rawOf p wl rl)) Q
def spAnswers (K : PySem.W.Frag) : Sp := fun vs H Q _ => ∃ (a : Addr) (ns : List Int), vs = [.ref a] ∧ SqL K H a (ns.map V.int) ∧ PyIe04.answers_asked ns = true ∧
  ∀ (H' : Hp) (q : Addr), H' q = some (.lst ((PyIe04.answers ns).map V.int)) → Q (.ref q) H'
/-- a class of one's own with an __init__, as it is called -/
structure MkC (P : Program) (w : World) (K : PySem.W.Frag) (mg : Str → Option Value) (base : Heap) (k : Nat) (x : Str) (C : Addr) (ps : List Str) (sp : Sp) : Prop where
  mgC : mg x = some (.ref C)
  ex : ∃ (f : Addr) (fd : FuncData), Mk K C f ∧ FnOk P w K mg base CX0 k f fd ps sp ∧ Binds K fd ps []
/-- between two calls -/
structure Turn (K : PySem.W.Frag) (CD CG CR : Addr) (H0 H : Hp) (ns : List Int) (a d r q : Addr) (m : Nat) : Prop where
  same : Same H0 H
  ex : ∃ (e : Addr) (i f : Nat) (raw : List (List (List Int))) (S : Ie04.St) (out : List Int), m = raw.length ∧ DeskAt (fun x => x = q) CD CG H d e S ∧ ReaderAt CR H r a i ∧ H q = some (.lst (out.map V.int)) ∧ i ≤ ns.length ∧
    PyFlat.calls PyIe04.shape f (ns.drop i) = some raw ∧ (∀ c ∈ raw, CallOk c) ∧ PyIe04.answers ns = out ++ run S raw ∧ H0 e = none
section
variable {P : Program} {w : World} {K : PySem.W.Frag} {mg : Str → Option Value} {base : Heap}
theorem scAnswers : FnScope ["calls", "desk", "reader", "answered", "call", "wholes", "row", "numbers"] ["calls"] (defScope sAnswers) := ⟨rfl, rfl, rfl, by decide +kernel, rfl, by decide +kernel, by decide +kernel⟩
theorem ok_answers {f CD CG CR : Addr} {fd : FuncData} (F : Fun K "answers" "answers" sAnswers f fd) (TR : RTxt K CR) (B : BTxt mg) (TB : Tabs K mg) (MD : MkC P w K mg base 3 "Desk" CD ["self"] (spDInit CD CG)) (MR : MkC P w K mg base 1 "Reader" CR ["self", "source"] (spRInit CR))
    (M1 : Mth P w K mg base 1 CR "is_done" ["self"] (spIsDone K CR)) (M2 : Mth P w K mg base 2 CR "take_one" ["self"] (spTakeO K CR)) (M3 : Mth P w K mg base 1 CR "take_several" ["self", "count"] (spTakeS K CR)) (M4 : Mth P w K mg base 3 CR "take_row" ["self"] (spTakeR K CR))
    (D1 : Def P w K mg base 7 "answer" ["desk", "call", "wholes", "row"] (spAnswer CD CG)) : FnOk P w K mg base CX0 8 f fd ["calls"] (spAnswers K) := by
  obtain ⟨fD, fdD, mkD, GD, bD⟩ := MD.ex
  obtain ⟨fR, fdR, mkR, GR, bR⟩ := MR.ex
  obtain ⟨f1, fd1, G1, m1, b1⟩ := M1.ex
  obtain ⟨f2, fd2, G2, m2, b2⟩ := M2.ex
  obtain ⟨f3, fd3, G3, m3, b3⟩ := M3.ex
  obtain ⟨f4, fd4, G4, m4, b4⟩ := M4.ex
  obtain ⟨fA, fdA, GA, mA, kpA, bA⟩ := D1.ex
  obtain ⟨tW, mW, tabW⟩ := TB.whl
  obtain ⟨tR, mR, tabR⟩ := TB.row
  refine F.ok scAnswers (fun vs H Q E h => ?_) (fun cdv A outer s H vs Q E hr h => ?_)
  · obtain ⟨a, ns, rfl, _⟩ := h
    rfl
  · obtain ⟨a, ns, rfl, hS, hask, k⟩ := h
    have hr1 : Room 1 _ := hr.mono (by decide)
    have hr2 : Room 2 _ := hr.mono (by decide)
    have hr3 : Room 3 _ := hr.mono (by decide)
    have hr4 : Room 4 _ := hr.mono (by decide)
    refine ⟨_, pss_cons (ps_set (i := 1) scAnswers.nd rfl (Or.inl rfl) (pe_make0 mkD GD hr4 rfl MD.mgC bD .nil pass0))
      (pss_cons (ps_set (i := 2) scAnswers.nd rfl (Or.inl rfl) (pe_make mkR GR hr2 rfl MR.mgC bR .nil pass0 (pa_cons (pv 0) pa_nil)))
      (pss_cons (ps_set (i := 3) scAnswers.nd rfl (Or.inl rfl) (pe_lst pa_nil))
      (pss_cons (ps_while PassesOwn.never (pt_not (pt_val (pe_meth0 (pv 2) TR.cl m1 G1 hr1 b1 .nil pass0)))
        (pss_cons (ps_set (i := 4) scAnswers.nd rfl (Or.inl rfl) (pe_meth0 (pv 2) TR.cl m2 G2 hr2 b2 .nil pass0))
        (pss_cons (ps_set (i := 5) scAnswers.nd rfl (Or.inl rfl) (pe_meth (pv 2) TR.cl m3 G3 hr1 b3 .nil pass0 (pa_cons (pe_ix ix_tup (pe_glob (v := .ref tW) rfl mW rfl) (pv 4) (fun _ _ => rfl)) pa_nil)))
        (C8.pss_cut (ps_set (i := 6) scAnswers.nd rfl (Or.inl rfl) (pe_ifExp (pt_cmpR op_in_seq (pv 4) (pe_glob (v := .ref tR) rfl mR rfl) (by rfl)) (pe_meth0 (pv 2) TR.cl m4 G4 hr3 b4 .nil pass0) (pe_lst pa_nil)))
        (pss_cons (ps_set (i := 7) scAnswers.nd rfl (Or.inl rfl) (pe_call GA hr rfl mA kpA bA .nil pass0 (pa_cons (pv 1) (pa_cons (pv 4) (pa_cons (pv 5) (pa_cons (pv 6) pa_nil))))))
        (pss_cons (ps_expr (pe_bm PySem.F.plainAttrs_list PySem.F.slot_list_append PySem.F.type_list_append mt_append (pv 3) (pa_cons (pe_callB call_len_seq (by rfl) B.len PySem.boot_len (pa_cons (pv 7) pa_nil)) pa_nil)))
        (pss_one (ps_expr (pe_bm PySem.F.plainAttrs_list PySem.F.slot_list_extend PySem.F.type_list_extend mt_extend (pv 3) (pa_cons (pv 7) pa_nil))))))))))
      (pss_one (ps_ret (pv 3)))))), ?_⟩
    obtain ⟨raw0, hraw0, hlen40, hok0⟩ := asked_open hask
    have hshort := asked_short hask
    -- desk = Desk()
    intro d dd nd ndd ned
    refine ⟨d, dd, rfl, upd_same, fun H1 e D1 kp1 he1 => ⟨rfl, ?_⟩⟩
    have s1 : Same H H1 := Same.made nd ndd kp1
    have he0 : H e = none := by
      have z : e ≠ d := fun z => by rw [z, upd_same] at he1; cases he1
      rw [upd_ne z] at he1
      by_cases y : e = dd
      · rw [y]; exact ndd
      · rw [upd_ne y] at he1
        exact he1
    -- reader = Reader(calls)
    refine ⟨_, rfl, ?_⟩
    intro r dr nr ndr ner
    refine ⟨r, dr, a, rfl, upd_same, fun H2 R2 kp2 => ⟨rfl, ?_⟩⟩
    have s2 : Same H1 H2 := Same.made nr ndr kp2
    have nr0 : H r = none := s1.free nr
    -- answered = []
    refine ⟨Nat.zero_le _, fun q hq => ?_⟩
    have nq0 : H q = none := (s1.trans s2).free hq
    have s3 : Same H (upd H2 q (.lst [])) := (s1.trans s2).trans (same_new hq)
    have nqr : r ≠ q := fun z => by
      obtain ⟨dx, hx⟩ := R2
      rw [← z, hx] at hq
      cases hq
    refine ⟨fun m σ H' => (∃ u4 u5 u6 u7 : Option V, σ = [some (.ref a), some (.ref d), some (.ref r), some (.ref q), u4, u5, u6, u7]) ∧ Turn K CD CG CR H H' ns a d r q m, ⟨raw0.length, ⟨none, none, none, none, rfl⟩, s3, e, 0, ns.length, raw0, Ie04.init, [], rfl, (D1.same s2).mark hq, ?_, upd_same, Nat.zero_le _, hraw0, hok0, ?_, he0⟩, ?_⟩
    · obtain ⟨dx, hx⟩ := R2
      exact ⟨dx, by rw [upd_ne nqr]; exact hx⟩
    · rw [answers_run hraw0]
      rfl
    rintro m σ H3 ⟨⟨u4, u5, u6, u7, rfl⟩, s4, e', i, fu, raw, S, out, hm, D3, R3, hq3, hi, hraw, hok, hans, he'0⟩
    have hS3 := s4.seq hS
    obtain ⟨dx3, hr3'⟩ := id R3
    have rno : ∀ {j : Nat} {m : Str}, (m == ("source" : Str)) = false → (m == ("place" : Str)) = false → (rF a (j : Int)).lookup m = none := fun h1 h2 => rF_no _ _ h1 h2
    refine ⟨_, rfl, r, dx3, _, rfl, hr3', rno (by decide +kernel) (by decide +kernel), r, a, i, ns, rfl, R3, hS3, _, rfl, ?_⟩
    cases raw with
    | nil =>
      have ei := parse_end hi hraw
      rw [decide_eq_true (show ns.length ≤ i by omega)]
      refine iteF ?_
      refine ⟨_, rfl, k _ q ?_⟩
      rw [hans]
      show _ = some (HO.lst ((out ++ []).map V.int))
      rw [List.append_nil]
      exact hq3
    | cons c cs =>
      have li := parse_not_end hraw
      obtain ⟨p, ws, row, i', f', Pd, hc, hraw'⟩ := parse_next hraw
      rw [decide_eq_false (show ¬ ns.length ≤ i by omega)]
      refine iteT ?_
      refine ⟨fun σ' H' => (∃ u4 u5 u6 u7 : Option V, σ' = [some (.ref a), some (.ref d), some (.ref r), some (.ref q), u4, u5, u6, u7]) ∧ Turn K CD CG CR H H' ns a d r q cs.length, fun σ' H' h => ⟨cs.length, by rw [hm]; exact Nat.lt_succ_self _, h⟩, ?_⟩
      have hX : ¬ (r = q) := nqr
      -- call = reader.take_one()
      refine ⟨_, rfl, r, dx3, _, rfl, hr3', rno (by decide +kernel) (by decide +kernel), r, a, i, ns, p, rfl, R3, hS3, Pd.hp, fun H4 R4 k4 => ?_⟩
      have D4 := D3.but hr3' hX k4
      have hS4 := k4.seq hr3' hS3
      have hq4 := k4 _ _ hq3 (Ne.symm nqr)
      have s5 : Same H H4 := fun b o hb => k4 _ _ (s4 _ _ hb) (ne_of_none hb nr0)
      obtain ⟨dx4, hr4'⟩ := id R4
      -- wholes = reader.take_several(WHOLES[call])
      obtain ⟨xsW, sqW, atW⟩ := tabW H4
      have ep : p = (p.toNat : Int) := (Int.toNat_of_nonneg Pd.p0).symm
      refine ⟨_, rfl, r, dx4, _, rfl, hr4', rno (by decide +kernel) (by decide +kernel), _, rfl, tW, _, p, _, rfl, rfl, sqW, at_of ep (atW p Pd.p0 Pd.p12), ?_⟩
      refine ⟨r, a, i + 1, nW p, ns, rfl, R4, hS4, Pd.lw, fun H5 ls R5 k5 nls hls => ?_⟩
      have D5 := D4.but hr4' hX k5
      have hS5 := k5.seq hr4' hS4
      have hq5 := k5 _ _ hq4 (Ne.symm nqr)
      have s6 : Same H H5 := fun b o hb => k5 _ _ (s5 _ _ hb) (ne_of_none hb nr0)
      obtain ⟨dx5, hr5'⟩ := id R5
      rw [← Pd.hw] at hls
      -- row = reader.take_row() if call in WITH_ROW else []
      obtain ⟨xsR, sqR, flR, atR⟩ := tabR H5
      refine ⟨fun σ' H6 => ∃ lr : Addr, σ' = [some (.ref a), some (.ref d), some (.ref r), some (.ref q), some (.int p), some (.ref ls), some (.ref lr), u7] ∧ Same H H6 ∧ DeskAt (fun x => x = q) CD CG H6 d e' S ∧ ReaderAt CR H6 r a i' ∧ H6 q = some (.lst (out.map V.int)) ∧ H6 ls = some (.lst (ws.map V.int)) ∧ H6 lr = some (.lst (row.map V.int)) ∧ ¬ lr = q, ?_, ?_⟩
      · refine ⟨_, rfl, tR, _, rfl, .inr sqR, rfl, flR, _, rfl, ?_⟩
        rw [atR p Pd.p0 Pd.p12]
        cases hb : hasR p with
        | true =>
          refine iteT ?_
          obtain ⟨mm, hmm, hrow, hi'⟩ := Pd.hyes hb
          have hlm := Pd.li
          refine ⟨_, rfl, r, dx5, _, rfl, hr5', rno (by decide +kernel) (by decide +kernel), r, a, i + 1 + nW p, mm, ns, rfl, R5, hS5, hmm, by omega, fun H6 lr R6 k6 nlr hlr => ?_⟩
          refine ⟨lr, rfl, fun b o hb' => k6 _ _ (s6 _ _ hb') (ne_of_none hb' nr0), D5.but hr5' hX k6, ?_, k6 _ _ hq5 (Ne.symm nqr), k6 _ _ hls (fun z => ?_), ?_, fun z => ?_⟩
          · have e1 : i' = i + 1 + nW p + 1 + mm := by omega
            rw [e1]
            exact R6
          · rw [z, hr5'] at hls
            cases hls
          · have e1 : i + 2 + nW p = i + 1 + nW p + 1 := by omega
            rw [hrow, e1]
            exact hlr
          · rw [z, hq5] at nlr
            cases nlr
        | false =>
          refine iteF ?_
          obtain ⟨hrow, hi'⟩ := Pd.hno hb
          refine ⟨Nat.zero_le _, fun lr nlr => ?_⟩
          have s7 : Same H5 (upd H5 lr (.lst [])) := same_new nlr
          refine ⟨lr, rfl, s6.trans s7, D5.same s7, ?_, s7 _ _ hq5, s7 _ _ hls, ?_, fun z => ?_⟩
          · rw [hi']
            exact ⟨dx5, s7 _ _ hr5'⟩
          · rw [hrow]
            exact upd_same
          · rw [z, hq5] at nlr
            cases nlr
      · rintro σ' H6 ⟨lr, rfl, s7, D6, R6, hq6, hls6, hlr6, nlrq⟩
        -- numbers = answer(desk, call, wholes, row)
        have okc : CallOk (rawOf p ws row) := by
          rw [← hc]
          exact hok c (List.Mem.head _)
        refine ⟨_, rfl, _, rfl, _, rfl, _, rfl, (fun x => x = q), d, e', ls, lr, S, p, ws, row, rfl, D6, hls6, hlr6, nlrq, Pd.p0, Pd.p12, Pd.wlen, okc, fun H7 n e7 D7 K7 nn hn => ?_⟩
        rw [← hc] at D7 hn
        have qd : q ≠ d ∧ q ≠ e' := (D6.sep q rfl).2
        have hq7 := K7.keep _ _ hq6 qd.1 qd.2
        obtain ⟨dx6, hr6'⟩ := id R6
        obtain ⟨_, _, dd6, c6, a6, gs6, hd6, _, _, he6, _⟩ := id D6
        have nrd : r ≠ d := fun z => by
          rw [z, hd6] at hr6'
          injection hr6' with h1
          injection h1 with _ _ q1
          exact rF_ne_dF q1.symm
        have nre : r ≠ e' := ne_of hr6' he6 (by intro z; cases z)
        have hr7 := K7.keep _ _ hr6' nrd nre
        have nnq : n ≠ q := fun z => by
          rw [z, hq6] at nn
          cases nn
        have e70 : H e7 = none := K7.new.elim (fun z => by rw [z]; exact he'0) fun z => s7.free z
        have s8 : Same H H7 := fun b o hb => K7.keep _ _ (s7 _ _ hb) (ne_of_none hb nd) (ne_of_none hb he'0)
        have hans' : PyIe04.answers ns = (out ++ [((one S c).2.length : Int)] ++ (one S c).2) ++ run (one S c).1 cs := by
          rw [hans]
          show out ++ (((one S c).2.length : Int) :: (one S c).2 ++ run (one S c).1 cs) = _
          simp
        have hsz : out.length + 1 + (one S c).2.length ≤ 10000000 := by
          have := hshort
          rw [hans'] at this
          simp at this
          omega
        -- answered.append(len(numbers))
        refine ⟨_, rfl, .inl ⟨rfl, _, SqL.of hq7⟩, _, rfl, n, _, rfl, .inl (SqL.of hn), q, _, _, rfl, rfl, hq7, ?_, ?_⟩
        · rw [List.length_map]
          exact Nat.lt_of_le_of_lt (m := 10000000) (by omega) (by decide)
        have D8 : DeskAt (fun x => x = q) CD CG (upd H7 q (.lst (out.map V.int ++ [.int (((one S c).2.map V.int).length : Int)]))) d e7 (one S c).1 := D7.at_ rfl hq7
        have hn8 : (upd H7 q (.lst (out.map V.int ++ [.int (((one S c).2.map V.int).length : Int)]))) n = some (.lst ((one S c).2.map V.int)) := by
          rw [upd_ne nnq]
          exact hn
        -- answered.extend(numbers)
        refine ⟨_, rfl, .inl ⟨rfl, _, SqL.of upd_same⟩, _, rfl, q, n, _, _, rfl, rfl, upd_same, hn8, ?_, ?_⟩
        · rw [List.length_append, List.length_map, List.length_map]
          exact Nat.le_trans (m := 10000000) hsz (by decide)
        refine ⟨⟨_, _, _, _, rfl⟩, ?_, e7, i', f', cs, (one S c).1, out ++ [((one S c).2.length : Int)] ++ (one S c).2, rfl, D8.at_ rfl upd_same, ⟨dx6, ?_⟩, ?_, Pd.li, hraw', fun x hx => hok x (List.Mem.tail _ hx), hans', e70⟩
        · exact same_upd (same_upd s8 nq0) nq0
        · rw [upd_ne nqr, upd_ne nqr]
          exact hr7
        · rw [upd_same, List.map_append, List.map_append, List.length_map]
          rfl
end
end Nd

set_option Elab.async false
set_option maxRecDepth 100000
set_option maxHeartbeats 2000000
namespace Nd
open PySem L2
theorem int_of {x y : Int} (h : V.int x = V.int y) : x = y := by injection h
theorem int_ne {x y : Int} (h : ¬ V.int x = V.int y) : x ≠ y := fun z => h (by rw [z])
theorem cut_to {ns : List Int} {z : Int} {n : Nat} (e : z = (n : Int)) (h : n ≤ ns.length) : cutV (ns.map V.int) none (some z) = (ns.take n).map V.int := by
  rw [e]
  unfold cutV
  rw [HT.sIx_nat, HT.sIx_none, List.length_map, Nat.min_eq_left h, List.map_take]
  rfl
theorem cut_mid {ns : List Int} {z y : Int} {i n : Nat} (e : z = (i : Int)) (e2 : y = ((i + n : Nat) : Int)) (h : i + n ≤ ns.length) : cutV (ns.map V.int) (some z) (some y) = ((ns.drop i).take n).map V.int := by
  rw [e, e2]
  exact cut_at ns i n h
theorem cut_from {ns : List Int} {z : Int} {i : Nat} (e : z = (i : Int)) (h : i ≤ ns.length) : cutV (ns.map V.int) (some z) none = (ns.drop i).map V.int := by
  rw [e]
  unfold cutV
  rw [HT.sIx_nat, HT.sIx_none, List.length_map, Nat.min_eq_left h, ← List.map_drop, ← List.map_take, List.take_of_length_le (Nat.le_of_eq List.length_drop)]
section
variable {P : Program} {w : World} {K : PySem.W.Frag} {mg : Str → Option Value} {base : Heap}
/-! answer_both -/
def spAnsBoth (CD CG : Addr) : Sp := fun vs H Q _ => ∃ (X : Addr → Prop) (d e row : Addr) (S : Ie04.St) (a b u v : Nat) (m rl : List Int), vs = [.ref d, .int (a : Int), .int (b : Int), .ref row] ∧ DeskAt X CD CG H d e S ∧ H row = some (.lst (rl.map V.int)) ∧
  a ≤ 1000000000 ∧ b ≤ 1000000000 ∧ rl.length ≤ 120 ∧ a * b + 2 ≤ rl.length ∧ rl = rl.take (a * b) ++ (u : Int) :: (v : Int) :: m ∧ Ans X CD CG H d e (Ie04.step S (.both ⟨a, b, rl.take (a * b)⟩ ⟨u, v, m⟩)) Q
theorem scAnsBoth : FnScope ["desk", "columns", "rows", "rest", "count", "first", "sizes"] ["desk", "columns", "rows", "rest"] (defScope sAnsBoth) := ⟨rfl, rfl, rfl, by decide +kernel, rfl, by decide +kernel, by decide +kernel⟩
theorem ok_ansBoth {f CD CG : Addr} {fd : FuncData} (F : Fun K "answer_both" "answer_both" sAnsBoth f fd) (T : DTxt K CD) (GC : GridC P w K mg base CG) (B : BTxt mg) (M1 : Mth P w K mg base 4 CD "both" ["self", "first", "second"] (spBoth CD CG)) :
    FnOk P w K mg base CX0 5 f fd ["desk", "columns", "rows", "rest"] (spAnsBoth CD CG) := by
  obtain ⟨fI, fdI, MG, GI, bI⟩ := GC.ex
  obtain ⟨f1, fd1, G1, m1, b1⟩ := M1.ex
  refine F.ok scAnsBoth (fun vs H Q E h => ?_) (fun cdv A outer s H vs Q E hr h => ?_)
  · obtain ⟨X, d, e, row, S, a, b, u, v, m, rl, rfl, _⟩ := h
    rfl
  · obtain ⟨X, d, e, row, S, a, b, u, v, m, rl, rfl, D, hrow, ha, hb, hlen, hab, hrl, k⟩ := h
    have hr2 : Room 2 _ := hr.mono (by decide)
    refine ⟨_, pss_cons (ps_set (i := 4) scAnsBoth.nd rfl (Or.inl rfl) (pe_op op_mul (pv 1) (pv 2)))
      (pss_cons (ps_set (i := 5) scAnsBoth.nd rfl (Or.inl rfl) (pe_make MG GI hr2 rfl GC.mgC bI .nil pass0 (pa_cons (pv 1) (pa_cons (pv 2) (pa_cons (pe_slice sl_list (pv 3) po_none (po_some (pv 4))) pa_nil)))))
      (pss_cons (ps_set (i := 6) scAnsBoth.nd rfl (Or.inl rfl) (pe_slice sl_list (pv 3) (po_some (pv 4)) (po_some (pe_op op_add (pv 4) pe_int))))
      (pss_cons (ps_if (pt_cmpR op_lt (pe_callB call_len_seq (by rfl) B.len PySem.boot_len (pa_cons (pv 6) pa_nil)) pe_int (nomark _)) (pss_one (ps_set (i := 6) scAnsBoth.nd rfl (Or.inl rfl) (pe_lst (pa_cons pe_int (pa_cons pe_int pa_nil))))) pss_nil)
      (pss_one (ps_ret (pe_meth (pv 0) T.cl m1 G1 hr b1 .nil pass0 (pa_cons (pv 5) (pa_cons (pe_make MG GI hr2 rfl GC.mgC bI .nil pass0 (pa_cons (pe_ix ix_list (pv 6) pe_int (fun _ _ => rfl)) (pa_cons (pe_ix ix_list (pv 6) pe_int (fun _ _ => rfl)) (pa_cons (pe_slice sl_list (pv 3) (po_some (pe_op op_add (pv 4) pe_int)) po_none) pa_nil)))) pa_nil)))))))), ?_⟩
    have ec : (a : Int) * (b : Int) = ((a * b : Nat) : Int) := by rw [Int.natCast_mul]
    have ec2 : (a : Int) * (b : Int) + 2 = ((a * b + 2 : Nat) : Int) := by rw [ec, Int.natCast_add]; rfl
    have dr : rl.drop (a * b) = (u : Int) :: (v : Int) :: m := List.append_cancel_left ((List.take_append_drop (a * b) rl).trans hrl)
    have dr2 : rl.drop (a * b + 2) = m := by
      rw [← List.drop_drop, dr]
      rfl
    -- count
    refine ⟨_, rfl, _, rfl, _, _, rfl, rfl, .inl ⟨by omega, by omega⟩, ?_⟩
    -- first
    refine ⟨_, rfl, _, rfl, _, rfl, _, rfl, _, rfl, row, _, rfl, SqL.of hrow, fun l nl => ?_⟩
    have s1 : Same H (upd H l (.lst (cutV (rl.map V.int) none (some ((a : Int) * (b : Int)))))) := same_new nl
    intro x gx nx ngx nex
    refine ⟨x, gx, _, _, l, rfl, upd_same, fun H2 J2 kp2 => ⟨rfl, ?_⟩⟩
    have s2 : Same (upd H l (.lst (cutV (rl.map V.int) none (some ((a : Int) * (b : Int)))))) H2 := Same.made nx ngx kp2
    have s02 := s1.trans s2
    have g1 : GridAt CG H2 x (a : Int) (b : Int) (rl.take (a * b)) := by
      refine ⟨gx, l, J2, s2 _ _ ?_⟩
      rw [upd_same, cut_to ec (by omega)]
    -- sizes
    refine ⟨_, rfl, _, rfl, _, rfl, _, rfl, _, _, rfl, rfl, _, rfl, row, _, rfl, SqL.of (s02 _ _ hrow), fun z nz => ?_⟩
    have s3 : Same H2 (upd H2 z (.lst (cutV (rl.map V.int) (some ((a : Int) * (b : Int))) (some ((a : Int) * (b : Int) + 2))))) := same_new nz
    have s03 := s02.trans s3
    have hz : (upd H2 z (.lst (cutV (rl.map V.int) (some ((a : Int) * (b : Int))) (some ((a : Int) * (b : Int) + 2))))) z = some (.lst [.int (u : Int), .int (v : Int)]) := by
      rw [upd_same, cut_mid (n := 2) ec ec2 hab, dr]
      rfl
    refine ⟨_, rfl, z, _, rfl, .inl (SqL.of hz), _, _, rfl, rfl, _, rfl, ?_⟩
    refine ifF rfl ?_
    obtain ⟨dx, c0, a0, gs, h1, _⟩ := (D.same s03).ex
    refine ⟨_, rfl, d, dx, _, rfl, h1, dF_no _ _ _ (by decide +kernel) (by decide +kernel) (by decide +kernel), _, rfl, _, rfl, z, _, _, _, rfl, rfl, SqL.of hz, at_of (j := 0) rfl rfl, _, rfl, z, _, _, _, rfl, rfl, SqL.of hz, at_of (j := 1) rfl rfl, _, rfl, _, rfl, _, _, rfl, rfl, _, rfl, row, _, rfl, SqL.of (s03 _ _ hrow), fun y ny => ?_⟩
    intro x2 gx2 nx2 ngx2 nex2
    refine ⟨x2, gx2, _, _, y, rfl, upd_same, fun H4 J4 kp4 => ⟨rfl, ?_⟩⟩
    have s4 := same_new (o := .lst (cutV (rl.map V.int) (some ((a : Int) * (b : Int) + 2)) none)) ny
    have s5 := Same.made nx2 ngx2 kp4
    have s05 := (s03.trans s4).trans s5
    refine ⟨X, d, e, x, x2, S, ⟨a, b, rl.take (a * b)⟩, ⟨u, v, m⟩, rfl, D.same s05, g1.same ((s3.trans s4).trans s5), ⟨gx2, y, J4, s5 _ _ ?_⟩, ?_, ?_, k.ahead s05⟩
    · rw [upd_same, cut_from ec2 hab, dr2]
    · show (rl.take (a * b)).length ≤ 1000
      rw [List.length_take]
      omega
    · show m.length ≤ 1000
      rw [← dr2, List.length_drop]
      omega
/-! answer_question -/
def spAnsQ (CD CG : Addr) : Sp := fun vs H Q _ => ∃ (X : Addr → Prop) (d e ws row : Addr) (S : Ie04.St) (p : Int) (wl rl : List Int), vs = [.ref d, .int p, .ref ws, .ref row] ∧ DeskAt X CD CG H d e S ∧ H ws = some (.lst (wl.map V.int)) ∧ H row = some (.lst (rl.map V.int)) ∧
  8 ≤ p ∧ p ≤ 12 ∧ wl.length = nW p ∧ CallOk (rawOf p wl rl) ∧ Ans X CD CG H d e (one S (rawOf p wl rl)) Q
theorem scAnsQ : FnScope ["desk", "call", "wholes", "row"] ["desk", "call", "wholes", "row"] (defScope sAnsQ) := ⟨rfl, rfl, rfl, by decide +kernel, rfl, by decide +kernel, by decide +kernel⟩
theorem ok_ansQ {f CD CG : Addr} {fd : FuncData} (F : Fun K "answer_question" "answer_question" sAnsQ f fd) (T : DTxt K CD) (GC : GridC P w K mg base CG) (M8 : Mth P w K mg base 1 CD "now" ["self"] (spNow CD CG)) (M9 : Mth P w K mg base 1 CD "cell" ["self", "column", "row"] (spCell CD CG))
    (D10 : Def P w K mg base 5 "answer_both" ["desk", "columns", "rows", "rest"] (spAnsBoth CD CG)) (M11 : Mth P w K mg base 4 CD "part" ["self", "weights"] (spPart CD CG)) (M12 : Mth P w K mg base 1 CD "told" ["self"] (spTold CD CG)) :
    FnOk P w K mg base CX0 6 f fd ["desk", "call", "wholes", "row"] (spAnsQ CD CG) := by
  obtain ⟨fI, fdI, MG, GI, bI⟩ := GC.ex
  obtain ⟨f8, fd8, G8, m8, b8⟩ := M8.ex
  obtain ⟨f9, fd9, G9, m9, b9⟩ := M9.ex
  obtain ⟨f10, fd10, G10, m10, kp10, b10⟩ := D10.ex
  obtain ⟨f11, fd11, G11, m11, b11⟩ := M11.ex
  obtain ⟨f12, fd12, G12, m12, b12⟩ := M12.ex
  refine F.ok scAnsQ (fun vs H Q E h => ?_) (fun cdv A outer s H vs Q E hr h => ?_)
  · obtain ⟨X, d, e, ws, row, S, p, wl, rl, rfl, _⟩ := h
    rfl
  · obtain ⟨X, d, e, ws, row, S, p, wl, rl, rfl, D, hws, hrow, p8, p12, hwl, okc, k⟩ := h
    have hr1 : Room 1 _ := hr.mono (by decide)
    have hr2 : Room 2 _ := hr.mono (by decide)
    have hr4 : Room 4 _ := hr.mono (by decide)
    refine ⟨_, pss_cons (ps_if (pt_cmpR op_eq (pv 1) pe_int (nomark _)) (pss_one (ps_ret (pe_meth0 (pv 0) T.cl m8 G8 hr1 b8 .nil pass0))) pss_nil)
      (pss_cons (ps_if (pt_cmpR op_eq (pv 1) pe_int (nomark _)) (pss_one (ps_ret (pe_meth (pv 0) T.cl m9 G9 hr1 b9 .nil pass0 (pa_cons (pe_ix ix_list (pv 2) pe_int (fun _ _ => rfl)) (pa_cons (pe_ix ix_list (pv 2) pe_int (fun _ _ => rfl)) pa_nil))))) pss_nil)
      (pss_cons (ps_if (pt_cmpR op_eq (pv 1) pe_int (nomark _)) (pss_one (ps_ret (pe_call G10 hr rfl m10 kp10 b10 .nil pass0 (pa_cons (pv 0) (pa_cons (pe_ix ix_list (pv 2) pe_int (fun _ _ => rfl)) (pa_cons (pe_ix ix_list (pv 2) pe_int (fun _ _ => rfl)) (pa_cons (pv 3) pa_nil))))))) pss_nil)
      (pss_cons (ps_if (pt_cmpR op_eq (pv 1) pe_int (nomark _)) (pss_one (ps_ret (pe_meth (pv 0) T.cl m11 G11 hr4 b11 .nil pass0 (pa_cons (pe_make MG GI hr2 rfl GC.mgC bI .nil pass0 (pa_cons (pe_ix ix_list (pv 2) pe_int (fun _ _ => rfl)) (pa_cons (pe_ix ix_list (pv 2) pe_int (fun _ _ => rfl)) (pa_cons (pv 3) pa_nil)))) pa_nil)))) pss_nil)
      (pss_one (ps_ret (pe_meth0 (pv 0) T.cl m12 G12 hr1 b12 .nil pass0)))))), ?_⟩
    obtain ⟨dx, c0, a0, gs, h1, _⟩ := D.ex
    have dno : ∀ {m : Str}, (m == ("current" : Str)) = false → (m == ("aside" : Str)) = false → (m == ("earlier" : Str)) = false → (dF c0 a0 e).lookup m = none := fun q1 q2 q3 => dF_no _ _ _ q1 q2 q3
    -- 8: now
    refine ⟨_, rfl, rfl, _, rfl, ?_⟩
    refine ifD (fun c => ?_) (fun c => ?_)
    · have ep := int_of c
      subst ep
      obtain ⟨rfl, st⟩ := c_now okc hwl
      rw [st] at k
      exact ⟨_, rfl, d, dx, _, rfl, h1, dno (by decide +kernel) (by decide +kernel) (by decide +kernel), X, d, e, S, rfl, D, k⟩
    have n8 := int_ne c
    -- 9: cell
    refine ⟨_, rfl, rfl, _, rfl, ?_⟩
    refine ifD (fun c => ?_) (fun c => ?_)
    · have ep := int_of c
      subst ep
      obtain ⟨x, y, rfl, _, _, st⟩ := c_cell okc hwl
      rw [st] at k
      exact ⟨_, rfl, d, dx, _, rfl, h1, dno (by decide +kernel) (by decide +kernel) (by decide +kernel), _, rfl, ws, _, _, _, rfl, rfl, SqL.of hws, at_of (j := 0) rfl rfl, _, rfl, ws, _, _, _, rfl, rfl, SqL.of hws, at_of (j := 1) rfl rfl, X, d, e, S, x, y, rfl, D, k⟩
    have n9 := int_ne c
    -- 10: both
    refine ⟨_, rfl, rfl, _, rfl, ?_⟩
    refine ifD (fun c => ?_) (fun c => ?_)
    · have ep := int_of c
      subst ep
      obtain ⟨a, b, u, v, m, rfl, ha, hb, hlen, hab, hrl, _, _, st⟩ := c_both okc hwl
      rw [st] at k
      exact ⟨_, rfl, _, rfl, ws, _, _, _, rfl, rfl, SqL.of hws, at_of (j := 0) rfl rfl, _, rfl, ws, _, _, _, rfl, rfl, SqL.of hws, at_of (j := 1) rfl rfl, _, rfl, X, d, e, row, S, a, b, u, v, m, rl, rfl, D, hrow, ha, hb, hlen, hab, hrl, k⟩
    have n10 := int_ne c
    -- 11: part
    refine ⟨_, rfl, rfl, _, rfl, ?_⟩
    refine ifD (fun c => ?_) (fun c => ?_)
    · have ep := int_of c
      subst ep
      obtain ⟨a, b, rfl, _, _, hlen, st⟩ := c_part okc hwl
      rw [st] at k
      refine ⟨_, rfl, d, dx, _, rfl, h1, dno (by decide +kernel) (by decide +kernel) (by decide +kernel), _, rfl, ws, _, _, _, rfl, rfl, SqL.of hws, at_of (j := 0) rfl rfl, _, rfl, ws, _, _, _, rfl, rfl, SqL.of hws, at_of (j := 1) rfl rfl, _, rfl, ?_⟩
      intro x gx nx ngx nex
      refine ⟨x, gx, _, _, row, rfl, upd_same, fun H3 J kp3 => ⟨rfl, ?_⟩⟩
      have s3 : Same H H3 := Same.made nx ngx kp3
      exact ⟨X, d, e, x, S, ⟨a, b, rl⟩, rfl, D.same s3, ⟨gx, row, J, s3 _ _ hrow⟩, by show rl.length ≤ 1000; omega, k.ahead s3⟩
    have n11 := int_ne c
    -- 12: told
    have ep : p = 12 := by omega
    subst ep
    obtain ⟨rfl, st⟩ := c_told okc hwl
    rw [st] at k
    exact ⟨_, rfl, d, dx, _, rfl, h1, dno (by decide +kernel) (by decide +kernel) (by decide +kernel), X, d, e, S, rfl, D, k⟩
end
end Nd

set_option Elab.async false
set_option maxRecDepth 100000
set_option maxHeartbeats 2000000
namespace Nd
open PySem L2
section
variable {P : Program} {w : World} {K : PySem.W.Frag} {mg : Str → Option Value} {base : Heap}
theorem scAnswer : FnScope ["desk", "call", "wholes", "row"] ["desk", "call", "wholes", "row"] (defScope sAnswer) := ⟨rfl, rfl, rfl, by decide +kernel, rfl, by decide +kernel, by decide +kernel⟩
theorem ok_answer {f CD CG : Addr} {fd : FuncData} (F : Fun K "answer" "answer" sAnswer f fd) (T : DTxt K CD) (GC : GridC P w K mg base CG) 
    (M0 : Mth P w K mg base 4 CD "show" ["self", "columns", "rows", "numbers"] (spShow CD CG)) (M1 : Mth P w K mg base 5 CD "weigh" ["self", "outside", "weights"] (spWeigh CD CG)) (M2 : Mth P w K mg base 5 CD "rank" ["self", "outside", "r", "n"] (spRank CD CG))
    (M3 : Mth P w K mg base 4 CD "by" ["self", "d", "o"] (spBy CD CG)) (M4 : Mth P w K mg base 4 CD "hold" ["self", "least", "greatest"] (spHold CD CG)) (M5 : Mth P w K mg base 1 CD "put" ["self"] (spPut CD CG)) (M6 : Mth P w K mg base 4 CD "mix" ["self", "a", "b"] (spMix CD CG)) (M7 : Mth P w K mg base 1 CD "undo" ["self"] (spUndo CD CG)) (D8 : Def P w K mg base 6 "answer_question" ["desk", "call", "wholes", "row"] (spAnsQ CD CG)) :
    FnOk P w K mg base CX0 7 f fd ["desk", "call", "wholes", "row"] (spAnswer CD CG) := by
  obtain ⟨fI, fdI, MG, GI, bI⟩ := GC.ex
  obtain ⟨f0, fd0, G0, m0, b0⟩ := M0.ex
  obtain ⟨f1, fd1, G1, m1, b1⟩ := M1.ex
  obtain ⟨f2, fd2, G2, m2, b2⟩ := M2.ex
  obtain ⟨f3, fd3, G3, m3, b3⟩ := M3.ex
  obtain ⟨f4, fd4, G4, m4, b4⟩ := M4.ex
  obtain ⟨f5, fd5, G5, m5, b5⟩ := M5.ex
  obtain ⟨f6, fd6, G6, m6, b6⟩ := M6.ex
  obtain ⟨f7, fd7, G7, m7, b7⟩ := M7.ex
  obtain ⟨f8, fd8, G8, m8, kp8, b8⟩ := D8.ex
  refine F.ok scAnswer (fun vs H Q E h => ?_) (fun cdv A outer s H vs Q E hr h => ?_)
  · obtain ⟨X, d, e, ws, row, S, p, wl, rl, rfl, _⟩ := h
    rfl
  · obtain ⟨X, d, e, ws, row, S, p, wl, rl, rfl, D, hws, hrow, hX, p0, p12, hwl, okc, k⟩ := h
    have hr1 : Room 1 _ := hr.mono (by decide)
    have hr2 : Room 2 _ := hr.mono (by decide)
    have hr4 : Room 4 _ := hr.mono (by decide)
    have hr5 : Room 5 _ := hr.mono (by decide)
    refine ⟨_, pss_cons (ps_if (pt_cmpR op_eq (pv 1) pe_int (nomark _)) (pss_one (ps_ret (pe_meth (pv 0) T.cl m0 G0 hr4 b0 .nil pass0 (pa_cons (pe_ix ix_list (pv 2) pe_int (fun _ _ => rfl)) (pa_cons (pe_ix ix_list (pv 2) pe_int (fun _ _ => rfl)) (pa_cons (pv 3) pa_nil)))))) pss_nil)
      (pss_cons (ps_if (pt_cmpR op_eq (pv 1) pe_int (nomark _)) (pss_one (ps_ret (pe_meth (pv 0) T.cl m1 G1 hr5 b1 .nil pass0 (pa_cons (pe_ix ix_list (pv 2) pe_int (fun _ _ => rfl)) (pa_cons (pe_make MG GI hr2 rfl GC.mgC bI .nil pass0 (pa_cons (pe_ix ix_list (pv 2) pe_int (fun _ _ => rfl)) (pa_cons (pe_ix ix_list (pv 2) pe_int (fun _ _ => rfl)) (pa_cons (pv 3) pa_nil)))) pa_nil))))) pss_nil)
      (pss_cons (ps_if (pt_cmpR op_eq (pv 1) pe_int (nomark _)) (pss_one (ps_ret (pe_meth (pv 0) T.cl m2 G2 hr5 b2 .nil pass0 (pa_cons (pe_ix ix_list (pv 2) pe_int (fun _ _ => rfl)) (pa_cons (pe_ix ix_list (pv 2) pe_int (fun _ _ => rfl)) (pa_cons (pe_ix ix_list (pv 2) pe_int (fun _ _ => rfl)) pa_nil)))))) pss_nil)
      (pss_cons (ps_if (pt_cmpR op_eq (pv 1) pe_int (nomark _)) (pss_one (ps_ret (pe_meth (pv 0) T.cl m3 G3 hr4 b3 .nil pass0 (pa_cons (pe_ix ix_list (pv 2) pe_int (fun _ _ => rfl)) (pa_cons (pe_ix ix_list (pv 2) pe_int (fun _ _ => rfl)) pa_nil))))) pss_nil)
      (pss_cons (ps_if (pt_cmpR op_eq (pv 1) pe_int (nomark _)) (pss_one (ps_ret (pe_meth (pv 0) T.cl m4 G4 hr4 b4 .nil pass0 (pa_cons (pe_ix ix_list (pv 2) pe_int (fun _ _ => rfl)) (pa_cons (pe_ix ix_list (pv 2) pe_int (fun _ _ => rfl)) pa_nil))))) pss_nil)
      (pss_cons (ps_if (pt_cmpR op_eq (pv 1) pe_int (nomark _)) (pss_one (ps_ret (pe_meth0 (pv 0) T.cl m5 G5 hr1 b5 .nil pass0))) pss_nil)
      (pss_cons (ps_if (pt_cmpR op_eq (pv 1) pe_int (nomark _)) (pss_one (ps_ret (pe_meth (pv 0) T.cl m6 G6 hr4 b6 .nil pass0 (pa_cons (pe_ix ix_list (pv 2) pe_int (fun _ _ => rfl)) (pa_cons (pe_ix ix_list (pv 2) pe_int (fun _ _ => rfl)) pa_nil))))) pss_nil)
      (pss_cons (ps_if (pt_cmpR op_eq (pv 1) pe_int (nomark _)) (pss_one (ps_ret (pe_meth0 (pv 0) T.cl m7 G7 hr1 b7 .nil pass0))) pss_nil)
      (pss_one (ps_ret (pe_call G8 hr rfl m8 kp8 b8 .nil pass0 (pa_cons (pv 0) (pa_cons (pv 1) (pa_cons (pv 2) (pa_cons (pv 3) pa_nil)))))))))))))), ?_⟩
    obtain ⟨dx, c0, a0, gs, h1, _⟩ := D.ex
    have dno : ∀ {m : Str}, (m == ("current" : Str)) = false → (m == ("aside" : Str)) = false → (m == ("earlier" : Str)) = false → (dF c0 a0 e).lookup m = none := fun q1 q2 q3 => dF_no _ _ _ q1 q2 q3
    -- 0: picture
    refine ⟨_, rfl, rfl, _, rfl, ?_⟩
    refine ifD (fun c => ?_) (fun c => ?_)
    · have ep := int_of c
      subst ep
      obtain ⟨wd, ht, rfl, _, _, hrl, st⟩ := c_picture okc hwl
      rw [st] at k
      exact ⟨_, rfl, d, dx, _, rfl, h1, dno (by decide +kernel) (by decide +kernel) (by decide +kernel), _, rfl, ws, _, _, _, rfl, rfl, SqL.of hws, at_of (j := 0) rfl rfl, _, rfl, ws, _, _, _, rfl, rfl, SqL.of hws, at_of (j := 1) rfl rfl, _, rfl, X, d, e, row, S, wd, ht, rl, rfl, D, hrow, hX, by omega, k⟩
    have n0 := int_ne c
    -- 1: weigh
    refine ⟨_, rfl, rfl, _, rfl, ?_⟩
    refine ifD (fun c => ?_) (fun c => ?_)
    · have ep := int_of c
      subst ep
      obtain ⟨o, wa, wb, rfl, _, _, _, hrl, st⟩ := c_weigh okc hwl
      rw [st] at k
      refine ⟨_, rfl, d, dx, _, rfl, h1, dno (by decide +kernel) (by decide +kernel) (by decide +kernel), _, rfl, ws, _, _, _, rfl, rfl, SqL.of hws, at_of (j := 0) rfl rfl, _, rfl, ws, _, _, _, rfl, rfl, SqL.of hws, at_of (j := 1) rfl rfl, _, rfl, ws, _, _, _, rfl, rfl, SqL.of hws, at_of (j := 2) rfl rfl, _, rfl, ?_⟩
      intro x gx nx ngx nex
      refine ⟨x, gx, _, _, row, rfl, upd_same, fun H3 J kp3 => ⟨rfl, ?_⟩⟩
      have s3 : Same H H3 := Same.made nx ngx kp3
      exact ⟨X, d, e, x, S, o, ⟨wa, wb, rl⟩, rfl, D.same s3, ⟨gx, row, J, s3 _ _ hrow⟩, by show rl.length ≤ 1000; omega, k.ahead s3⟩
    have n1 := int_ne c
    -- 2: rank
    refine ⟨_, rfl, rfl, _, rfl, ?_⟩
    refine ifD (fun c => ?_) (fun c => ?_)
    · have ep := int_of c
      subst ep
      obtain ⟨o, r, n, rfl, _, hrb, _, st⟩ := c_rank okc hwl
      rw [st] at k
      exact ⟨_, rfl, d, dx, _, rfl, h1, dno (by decide +kernel) (by decide +kernel) (by decide +kernel), _, rfl, ws, _, _, _, rfl, rfl, SqL.of hws, at_of (j := 0) rfl rfl, _, rfl, ws, _, _, _, rfl, rfl, SqL.of hws, at_of (j := 1) rfl rfl, _, rfl, ws, _, _, _, rfl, rfl, SqL.of hws, at_of (j := 2) rfl rfl, X, d, e, S, o, r, n, rfl, D, hrb, k⟩
    have n2 := int_ne c
    -- 3: by
    refine ⟨_, rfl, rfl, _, rfl, ?_⟩
    refine ifD (fun c => ?_) (fun c => ?_)
    · have ep := int_of c
      subst ep
      obtain ⟨x, y, rfl, st⟩ := c_by okc hwl
      rw [st] at k
      exact ⟨_, rfl, d, dx, _, rfl, h1, dno (by decide +kernel) (by decide +kernel) (by decide +kernel), _, rfl, ws, _, _, _, rfl, rfl, SqL.of hws, at_of (j := 0) rfl rfl, _, rfl, ws, _, _, _, rfl, rfl, SqL.of hws, at_of (j := 1) rfl rfl, X, d, e, S, x, y, rfl, D, k⟩
    have n3 := int_ne c
    -- 4: hold
    refine ⟨_, rfl, rfl, _, rfl, ?_⟩
    refine ifD (fun c => ?_) (fun c => ?_)
    · have ep := int_of c
      subst ep
      obtain ⟨x, y, rfl, st⟩ := c_hold okc hwl
      rw [st] at k
      exact ⟨_, rfl, d, dx, _, rfl, h1, dno (by decide +kernel) (by decide +kernel) (by decide +kernel), _, rfl, ws, _, _, _, rfl, rfl, SqL.of hws, at_of (j := 0) rfl rfl, _, rfl, ws, _, _, _, rfl, rfl, SqL.of hws, at_of (j := 1) rfl rfl, X, d, e, S, x, y, rfl, D, k⟩
    have n4 := int_ne c
    -- 5: put
    refine ⟨_, rfl, rfl, _, rfl, ?_⟩
    refine ifD (fun c => ?_) (fun c => ?_)
    · have ep := int_of c
      subst ep
      obtain ⟨rfl, st⟩ := c_put okc hwl
      rw [st] at k
      exact ⟨_, rfl, d, dx, _, rfl, h1, dno (by decide +kernel) (by decide +kernel) (by decide +kernel), X, d, e, S, rfl, D, k⟩
    have n5 := int_ne c
    -- 6: mix
    refine ⟨_, rfl, rfl, _, rfl, ?_⟩
    refine ifD (fun c => ?_) (fun c => ?_)
    · have ep := int_of c
      subst ep
      obtain ⟨x, y, rfl, st⟩ := c_mix okc hwl
      rw [st] at k
      exact ⟨_, rfl, d, dx, _, rfl, h1, dno (by decide +kernel) (by decide +kernel) (by decide +kernel), _, rfl, ws, _, _, _, rfl, rfl, SqL.of hws, at_of (j := 0) rfl rfl, _, rfl, ws, _, _, _, rfl, rfl, SqL.of hws, at_of (j := 1) rfl rfl, X, d, e, S, x, y, rfl, D, k⟩
    have n6 := int_ne c
    -- 7: undo
    refine ⟨_, rfl, rfl, _, rfl, ?_⟩
    refine ifD (fun c => ?_) (fun c => ?_)
    · have ep := int_of c
      subst ep
      obtain ⟨rfl, st⟩ := c_undo okc hwl
      rw [st] at k
      exact ⟨_, rfl, d, dx, _, rfl, h1, dno (by decide +kernel) (by decide +kernel) (by decide +kernel), X, d, e, S, rfl, D, k⟩
    have n7 := int_ne c
    exact ⟨_, rfl, _, rfl, _, rfl, _, rfl, X, d, e, ws, row, S, p, wl, rl, rfl, D, hws, hrow, by omega, p12, hwl, okc, k⟩
end
end Nd

set_option Elab.async false
set_option maxRecDepth 100000
set_option maxHeartbeats 8000000
namespace Nd
open PySem L2
def whl : List Int := [2, 3, 3, 2, 2, 0, 2, 0, 0, 2, 2, 2, 0]
def hsr : List Int := [0, 1, 10, 11]
def TabOktW (its : Array Value) : Prop := its.size ≤ sizeLine ∧ Vals (whl.map V.int) its.toList
def TabOktH (its : Array Value) : Prop := its.size ≤ sizeLine ∧ Vals (hsr.map V.int) its.toList
theorem tab_whl {K : PySem.W.Frag} {H : Hp} {t : Addr} {o : Obj} {its : Array Value} {nn : Nat} (lk : K.lookup t = some o) (cl : o.cls = .type "tuple") (da : o.data = .seq its nn) (va : TabOktW its) : ∃ xs, SqT K H t xs ∧ ∀ p : Int, 0 ≤ p → p ≤ 12 → xs[p.toNat]? = some (.int (nW p : Int)) := by
  refine ⟨whl.map V.int, .inr ⟨o, its, nn, lk, cl, da, va.1, va.2⟩, fun p h0 h12 => ?_⟩
  have hp : p = 0 ∨ p = 1 ∨ p = 2 ∨ p = 3 ∨ p = 4 ∨ p = 5 ∨ p = 6 ∨ p = 7 ∨ p = 8 ∨ p = 9 ∨ p = 10 ∨ p = 11 ∨ p = 12 := by omega
  rcases hp with rfl | rfl | rfl | rfl | rfl | rfl | rfl | rfl | rfl | rfl | rfl | rfl | rfl <;> rfl
theorem tab_row {K : PySem.W.Frag} {H : Hp} {t : Addr} {o : Obj} {its : Array Value} {nn : Nat} (lk : K.lookup t = some o) (cl : o.cls = .type "tuple") (da : o.data = .seq its nn) (va : TabOktH its) : ∃ xs, SqT K H t xs ∧ xs.all flatV = true ∧ ∀ p : Int, 0 ≤ p → p ≤ 12 → inV (.int p) xs = hasR p := by
  refine ⟨hsr.map V.int, .inr ⟨o, its, nn, lk, cl, da, va.1, va.2⟩, rfl, fun p h0 h12 => ?_⟩
  have hp : p = 0 ∨ p = 1 ∨ p = 2 ∨ p = 3 ∨ p = 4 ∨ p = 5 ∨ p = 6 ∨ p = 7 ∨ p = 8 ∨ p = 9 ∨ p = 10 ∨ p = 11 ∨ p = 12 := by omega
  rcases hp with rfl | rfl | rfl | rfl | rfl | rfl | rfl | rfl | rfl | rfl | rfl | rfl | rfl <;> rfl
theorem all_mk {P : Program} {w : World} {K : PySem.W.Frag} {h : Heap} {mg : Str → Option Value} {fa : Addr} (Xn : K.In h) (Gn : h.Ns mainGlobals mg) (hfa : mg "answers" = some (.ref fa))
    {CG : Addr}
    {fG0 : Addr} {od1 an1 : Option Addr} {sl1 : Array (Option Value)} {oc1 kV1 dc1 pm1 cd1 ct1 : Value}
    {CD : Addr}
    {fD0 : Addr} {od2 an2 : Option Addr} {sl2 : Array (Option Value)} {oc2 kV2 dc2 pm2 cd2 ct2 : Value}
    {fD1 : Addr} {od3 an3 : Option Addr} {sl3 : Array (Option Value)} {oc3 kV3 dc3 pm3 cd3 ct3 : Value}
    {fD2 : Addr} {od4 an4 : Option Addr} {sl4 : Array (Option Value)} {oc4 kV4 dc4 pm4 cd4 ct4 : Value}
    {fD3 : Addr} {od5 an5 : Option Addr} {sl5 : Array (Option Value)} {oc5 kV5 dc5 pm5 cd5 ct5 : Value}
    {fD4 : Addr} {od6 an6 : Option Addr} {sl6 : Array (Option Value)} {oc6 kV6 dc6 pm6 cd6 ct6 : Value}
    {fD5 : Addr} {od7 an7 : Option Addr} {sl7 : Array (Option Value)} {oc7 kV7 dc7 pm7 cd7 ct7 : Value}
    {fD6 : Addr} {od8 an8 : Option Addr} {sl8 : Array (Option Value)} {oc8 kV8 dc8 pm8 cd8 ct8 : Value}
    {fD7 : Addr} {od9 an9 : Option Addr} {sl9 : Array (Option Value)} {oc9 kV9 dc9 pm9 cd9 ct9 : Value}
    {fD8 : Addr} {od10 an10 : Option Addr} {sl10 : Array (Option Value)} {oc10 kV10 dc10 pm10 cd10 ct10 : Value}
    {fD9 : Addr} {od11 an11 : Option Addr} {sl11 : Array (Option Value)} {oc11 kV11 dc11 pm11 cd11 ct11 : Value}
    {fD10 : Addr} {od12 an12 : Option Addr} {sl12 : Array (Option Value)} {oc12 kV12 dc12 pm12 cd12 ct12 : Value}
    {fD11 : Addr} {od13 an13 : Option Addr} {sl13 : Array (Option Value)} {oc13 kV13 dc13 pm13 cd13 ct13 : Value}
    {fD12 : Addr} {od14 an14 : Option Addr} {sl14 : Array (Option Value)} {oc14 kV14 dc14 pm14 cd14 ct14 : Value}
    {fD13 : Addr} {od15 an15 : Option Addr} {sl15 : Array (Option Value)} {oc15 kV15 dc15 pm15 cd15 ct15 : Value}
    {fD14 : Addr} {od16 an16 : Option Addr} {sl16 : Array (Option Value)} {oc16 kV16 dc16 pm16 cd16 ct16 : Value}
    {CR : Addr}
    {fR0 : Addr} {od17 an17 : Option Addr} {sl17 : Array (Option Value)} {oc17 kV17 dc17 pm17 cd17 ct17 : Value}
    {fR1 : Addr} {od18 an18 : Option Addr} {sl18 : Array (Option Value)} {oc18 kV18 dc18 pm18 cd18 ct18 : Value}
    {fR2 : Addr} {od19 an19 : Option Addr} {sl19 : Array (Option Value)} {oc19 kV19 dc19 pm19 cd19 ct19 : Value}
    {fR3 : Addr} {od20 an20 : Option Addr} {sl20 : Array (Option Value)} {oc20 kV20 dc20 pm20 cd20 ct20 : Value}
    {fR4 : Addr} {od21 an21 : Option Addr} {sl21 : Array (Option Value)} {oc21 kV21 dc21 pm21 cd21 ct21 : Value}
    {f_place_in_line : Addr} {od22 an22 : Option Addr} {sl22 : Array (Option Value)} {oc22 kV22 dc22 pm22 cd22 ct22 : Value}
    {f_number_at : Addr} {od23 an23 : Option Addr} {sl23 : Array (Option Value)} {oc23 kV23 dc23 pm23 cd23 ct23 : Value}
    {f_weighed_cell : Addr} {od24 an24 : Option Addr} {sl24 : Array (Option Value)} {oc24 kV24 dc24 pm24 cd24 ct24 : Value}
    {f_weighed : Addr} {od25 an25 : Option Addr} {sl25 : Array (Option Value)} {oc25 kV25 dc25 pm25 cd25 ct25 : Value}
    {f_ranked_cell : Addr} {od26 an26 : Option Addr} {sl26 : Array (Option Value)} {oc26 kV26 dc26 pm26 cd26 ct26 : Value}
    {f_ranked : Addr} {od27 an27 : Option Addr} {sl27 : Array (Option Value)} {oc27 kV27 dc27 pm27 cd27 ct27 : Value}
    {f_divided : Addr} {od28 an28 : Option Addr} {sl28 : Array (Option Value)} {oc28 kV28 dc28 pm28 cd28 ct28 : Value}
    {f_divided_and_moved : Addr} {od29 an29 : Option Addr} {sl29 : Array (Option Value)} {oc29 kV29 dc29 pm29 cd29 ct29 : Value}
    {f_held : Addr} {od30 an30 : Option Addr} {sl30 : Array (Option Value)} {oc30 kV30 dc30 pm30 cd30 ct30 : Value}
    {f_mixed : Addr} {od31 an31 : Option Addr} {sl31 : Array (Option Value)} {oc31 kV31 dc31 pm31 cd31 ct31 : Value}
    {f_both_of : Addr} {od32 an32 : Option Addr} {sl32 : Array (Option Value)} {oc32 kV32 dc32 pm32 cd32 ct32 : Value}
    {f_common_divisor_of_two : Addr} {od33 an33 : Option Addr} {sl33 : Array (Option Value)} {oc33 kV33 dc33 pm33 cd33 ct33 : Value}
    {f_common_divisor : Addr} {od34 an34 : Option Addr} {sl34 : Array (Option Value)} {oc34 kV34 dc34 pm34 cd34 ct34 : Value}
    {f_rows_of : Addr} {od35 an35 : Option Addr} {sl35 : Array (Option Value)} {oc35 kV35 dc35 pm35 cd35 ct35 : Value}
    {f_times_of : Addr} {od36 an36 : Option Addr} {sl36 : Array (Option Value)} {oc36 kV36 dc36 pm36 cd36 ct36 : Value}
    {f_parted : Addr} {od37 an37 : Option Addr} {sl37 : Array (Option Value)} {oc37 kV37 dc37 pm37 cd37 ct37 : Value}
    {f_is_from : Addr} {od38 an38 : Option Addr} {sl38 : Array (Option Value)} {oc38 kV38 dc38 pm38 cd38 ct38 : Value}
    {f_all_near : Addr} {od39 an39 : Option Addr} {sl39 : Array (Option Value)} {oc39 kV39 dc39 pm39 cd39 ct39 : Value}
    {f_is_picture : Addr} {od40 an40 : Option Addr} {sl40 : Array (Option Value)} {oc40 kV40 dc40 pm40 cd40 ct40 : Value}
    {f_is_outside : Addr} {od41 an41 : Option Addr} {sl41 : Array (Option Value)} {oc41 kV41 dc41 pm41 cd41 ct41 : Value}
    {f_are_weights : Addr} {od42 an42 : Option Addr} {sl42 : Array (Option Value)} {oc42 kV42 dc42 pm42 cd42 ct42 : Value}
    {f_is_rank : Addr} {od43 an43 : Option Addr} {sl43 : Array (Option Value)} {oc43 kV43 dc43 pm43 cd43 ct43 : Value}
    {f_answer_both : Addr} {od44 an44 : Option Addr} {sl44 : Array (Option Value)} {oc44 kV44 dc44 pm44 cd44 ct44 : Value}
    {f_answer_question : Addr} {od45 an45 : Option Addr} {sl45 : Array (Option Value)} {oc45 kV45 dc45 pm45 cd45 ct45 : Value}
    {f_answer : Addr} {od46 an46 : Option Addr} {sl46 : Array (Option Value)} {oc46 kV46 dc46 pm46 cd46 ct46 : Value}
    {f_answers : Addr} {od47 an47 : Option Addr} {sl47 : Array (Option Value)} {oc47 kV47 dc47 pm47 cd47 ct47 : Value}
    {v0 : Value}
    {v1 : Value}
    {v2 : Value}
    {v3 : Value}
    {v4 : Value}
    {v5 : Value}
    {tW : Addr} {otW : Obj} {itstW : Array Value} {nntW : Nat}
    {tH : Addr} {otH : Obj} {itstH : Array Value} {nntH : Nat}
    (aG : PySem.W.nsIn K mainGlobals "Grid" = some (some (.ref CG)))
    (pgG : PySem.W.plainGet K CG Str.empty = true)
    (hdG : PySem.W.hasDictIn K CG = true)
    (poG : PySem.W.plainOver K CG = true)
    (saG : PySem.W.findIn K (.ref CG) "__setattr__" = some (some (.builtin "object.__setattr__")))
    (mkG : PySem.W.makesIn K CG = true)
    (kcG : PySem.W.keepIn K (.ref CG) = true)
    (nG0 : PySem.W.findIn K (.ref CG) "columns" = some none)
    (nG1 : PySem.W.findIn K (.ref CG) "rows" = some none)
    (nG2 : PySem.W.findIn K (.ref CG) "numbers" = some none)
    (mG0 : PySem.W.findIn K (.ref CG) "__init__" = some (some (.ref fG0)))
    (iG0 : PySem.W.isFn K (.ref fG0) = true)
    (l1 : K.lookup fG0 = some ⟨oc1, od1, .func (PySem.W.fnOf "__init__" "Grid.__init__" (defArgs sGInit) (defBody sGInit) (defScope sGInit) .none kV1 dc1 pm1 an1 cd1 ct1), sl1⟩)
    (c1 : PySem.W.codeIn K cd1 "Grid.__init__" = true)
    (k1 : PySem.W.keepIn K (.ref fG0) = true)
    (aD : PySem.W.nsIn K mainGlobals "Desk" = some (some (.ref CD)))
    (pgD : PySem.W.plainGet K CD Str.empty = true)
    (hdD : PySem.W.hasDictIn K CD = true)
    (poD : PySem.W.plainOver K CD = true)
    (saD : PySem.W.findIn K (.ref CD) "__setattr__" = some (some (.builtin "object.__setattr__")))
    (mkD : PySem.W.makesIn K CD = true)
    (kcD : PySem.W.keepIn K (.ref CD) = true)
    (nD0 : PySem.W.findIn K (.ref CD) "current" = some none)
    (nD1 : PySem.W.findIn K (.ref CD) "aside" = some none)
    (nD2 : PySem.W.findIn K (.ref CD) "earlier" = some none)
    (mD0 : PySem.W.findIn K (.ref CD) "__init__" = some (some (.ref fD0)))
    (iD0 : PySem.W.isFn K (.ref fD0) = true)
    (l2 : K.lookup fD0 = some ⟨oc2, od2, .func (PySem.W.fnOf "__init__" "Desk.__init__" (defArgs sDInit) (defBody sDInit) (defScope sDInit) .none kV2 dc2 pm2 an2 cd2 ct2), sl2⟩)
    (c2 : PySem.W.codeIn K cd2 "Desk.__init__" = true)
    (k2 : PySem.W.keepIn K (.ref fD0) = true)
    (mD1 : PySem.W.findIn K (.ref CD) "show" = some (some (.ref fD1)))
    (iD1 : PySem.W.isFn K (.ref fD1) = true)
    (l3 : K.lookup fD1 = some ⟨oc3, od3, .func (PySem.W.fnOf "show" "Desk.show" (defArgs sShow) (defBody sShow) (defScope sShow) .none kV3 dc3 pm3 an3 cd3 ct3), sl3⟩)
    (c3 : PySem.W.codeIn K cd3 "Desk.show" = true)
    (k3 : PySem.W.keepIn K (.ref fD1) = true)
    (mD2 : PySem.W.findIn K (.ref CD) "change" = some (some (.ref fD2)))
    (iD2 : PySem.W.isFn K (.ref fD2) = true)
    (l4 : K.lookup fD2 = some ⟨oc4, od4, .func (PySem.W.fnOf "change" "Desk.change" (defArgs sChange) (defBody sChange) (defScope sChange) .none kV4 dc4 pm4 an4 cd4 ct4), sl4⟩)
    (c4 : PySem.W.codeIn K cd4 "Desk.change" = true)
    (k4 : PySem.W.keepIn K (.ref fD2) = true)
    (mD3 : PySem.W.findIn K (.ref CD) "weigh" = some (some (.ref fD3)))
    (iD3 : PySem.W.isFn K (.ref fD3) = true)
    (l5 : K.lookup fD3 = some ⟨oc5, od5, .func (PySem.W.fnOf "weigh" "Desk.weigh" (defArgs sWeigh) (defBody sWeigh) (defScope sWeigh) .none kV5 dc5 pm5 an5 cd5 ct5), sl5⟩)
    (c5 : PySem.W.codeIn K cd5 "Desk.weigh" = true)
    (k5 : PySem.W.keepIn K (.ref fD3) = true)
    (mD4 : PySem.W.findIn K (.ref CD) "rank" = some (some (.ref fD4)))
    (iD4 : PySem.W.isFn K (.ref fD4) = true)
    (l6 : K.lookup fD4 = some ⟨oc6, od6, .func (PySem.W.fnOf "rank" "Desk.rank" (defArgs sRank) (defBody sRank) (defScope sRank) .none kV6 dc6 pm6 an6 cd6 ct6), sl6⟩)
    (c6 : PySem.W.codeIn K cd6 "Desk.rank" = true)
    (k6 : PySem.W.keepIn K (.ref fD4) = true)
    (mD5 : PySem.W.findIn K (.ref CD) "by" = some (some (.ref fD5)))
    (iD5 : PySem.W.isFn K (.ref fD5) = true)
    (l7 : K.lookup fD5 = some ⟨oc7, od7, .func (PySem.W.fnOf "by" "Desk.by" (defArgs sBy) (defBody sBy) (defScope sBy) .none kV7 dc7 pm7 an7 cd7 ct7), sl7⟩)
    (c7 : PySem.W.codeIn K cd7 "Desk.by" = true)
    (k7 : PySem.W.keepIn K (.ref fD5) = true)
    (mD6 : PySem.W.findIn K (.ref CD) "hold" = some (some (.ref fD6)))
    (iD6 : PySem.W.isFn K (.ref fD6) = true)
    (l8 : K.lookup fD6 = some ⟨oc8, od8, .func (PySem.W.fnOf "hold" "Desk.hold" (defArgs sHold) (defBody sHold) (defScope sHold) .none kV8 dc8 pm8 an8 cd8 ct8), sl8⟩)
    (c8 : PySem.W.codeIn K cd8 "Desk.hold" = true)
    (k8 : PySem.W.keepIn K (.ref fD6) = true)
    (mD7 : PySem.W.findIn K (.ref CD) "put" = some (some (.ref fD7)))
    (iD7 : PySem.W.isFn K (.ref fD7) = true)
    (l9 : K.lookup fD7 = some ⟨oc9, od9, .func (PySem.W.fnOf "put" "Desk.put" (defArgs sPut) (defBody sPut) (defScope sPut) .none kV9 dc9 pm9 an9 cd9 ct9), sl9⟩)
    (c9 : PySem.W.codeIn K cd9 "Desk.put" = true)
    (k9 : PySem.W.keepIn K (.ref fD7) = true)
    (mD8 : PySem.W.findIn K (.ref CD) "mix" = some (some (.ref fD8)))
    (iD8 : PySem.W.isFn K (.ref fD8) = true)
    (l10 : K.lookup fD8 = some ⟨oc10, od10, .func (PySem.W.fnOf "mix" "Desk.mix" (defArgs sMix) (defBody sMix) (defScope sMix) .none kV10 dc10 pm10 an10 cd10 ct10), sl10⟩)
    (c10 : PySem.W.codeIn K cd10 "Desk.mix" = true)
    (k10 : PySem.W.keepIn K (.ref fD8) = true)
    (mD9 : PySem.W.findIn K (.ref CD) "undo" = some (some (.ref fD9)))
    (iD9 : PySem.W.isFn K (.ref fD9) = true)
    (l11 : K.lookup fD9 = some ⟨oc11, od11, .func (PySem.W.fnOf "undo" "Desk.undo" (defArgs sUndo) (defBody sUndo) (defScope sUndo) .none kV11 dc11 pm11 an11 cd11 ct11), sl11⟩)
    (c11 : PySem.W.codeIn K cd11 "Desk.undo" = true)
    (k11 : PySem.W.keepIn K (.ref fD9) = true)
    (mD10 : PySem.W.findIn K (.ref CD) "now" = some (some (.ref fD10)))
    (iD10 : PySem.W.isFn K (.ref fD10) = true)
    (l12 : K.lookup fD10 = some ⟨oc12, od12, .func (PySem.W.fnOf "now" "Desk.now" (defArgs sNow) (defBody sNow) (defScope sNow) .none kV12 dc12 pm12 an12 cd12 ct12), sl12⟩)
    (c12 : PySem.W.codeIn K cd12 "Desk.now" = true)
    (k12 : PySem.W.keepIn K (.ref fD10) = true)
    (mD11 : PySem.W.findIn K (.ref CD) "cell" = some (some (.ref fD11)))
    (iD11 : PySem.W.isFn K (.ref fD11) = true)
    (l13 : K.lookup fD11 = some ⟨oc13, od13, .func (PySem.W.fnOf "cell" "Desk.cell" (defArgs sCell) (defBody sCell) (defScope sCell) .none kV13 dc13 pm13 an13 cd13 ct13), sl13⟩)
    (c13 : PySem.W.codeIn K cd13 "Desk.cell" = true)
    (k13 : PySem.W.keepIn K (.ref fD11) = true)
    (mD12 : PySem.W.findIn K (.ref CD) "both" = some (some (.ref fD12)))
    (iD12 : PySem.W.isFn K (.ref fD12) = true)
    (l14 : K.lookup fD12 = some ⟨oc14, od14, .func (PySem.W.fnOf "both" "Desk.both" (defArgs sBoth) (defBody sBoth) (defScope sBoth) .none kV14 dc14 pm14 an14 cd14 ct14), sl14⟩)
    (c14 : PySem.W.codeIn K cd14 "Desk.both" = true)
    (k14 : PySem.W.keepIn K (.ref fD12) = true)
    (mD13 : PySem.W.findIn K (.ref CD) "part" = some (some (.ref fD13)))
    (iD13 : PySem.W.isFn K (.ref fD13) = true)
    (l15 : K.lookup fD13 = some ⟨oc15, od15, .func (PySem.W.fnOf "part" "Desk.part" (defArgs sPart) (defBody sPart) (defScope sPart) .none kV15 dc15 pm15 an15 cd15 ct15), sl15⟩)
    (c15 : PySem.W.codeIn K cd15 "Desk.part" = true)
    (k15 : PySem.W.keepIn K (.ref fD13) = true)
    (mD14 : PySem.W.findIn K (.ref CD) "told" = some (some (.ref fD14)))
    (iD14 : PySem.W.isFn K (.ref fD14) = true)
    (l16 : K.lookup fD14 = some ⟨oc16, od16, .func (PySem.W.fnOf "told" "Desk.told" (defArgs sTold) (defBody sTold) (defScope sTold) .none kV16 dc16 pm16 an16 cd16 ct16), sl16⟩)
    (c16 : PySem.W.codeIn K cd16 "Desk.told" = true)
    (k16 : PySem.W.keepIn K (.ref fD14) = true)
    (aR : PySem.W.nsIn K mainGlobals "Reader" = some (some (.ref CR)))
    (pgR : PySem.W.plainGet K CR Str.empty = true)
    (hdR : PySem.W.hasDictIn K CR = true)
    (poR : PySem.W.plainOver K CR = true)
    (saR : PySem.W.findIn K (.ref CR) "__setattr__" = some (some (.builtin "object.__setattr__")))
    (mkR : PySem.W.makesIn K CR = true)
    (kcR : PySem.W.keepIn K (.ref CR) = true)
    (nR0 : PySem.W.findIn K (.ref CR) "source" = some none)
    (nR1 : PySem.W.findIn K (.ref CR) "place" = some none)
    (mR0 : PySem.W.findIn K (.ref CR) "__init__" = some (some (.ref fR0)))
    (iR0 : PySem.W.isFn K (.ref fR0) = true)
    (l17 : K.lookup fR0 = some ⟨oc17, od17, .func (PySem.W.fnOf "__init__" "Reader.__init__" (defArgs sRInit) (defBody sRInit) (defScope sRInit) .none kV17 dc17 pm17 an17 cd17 ct17), sl17⟩)
    (c17 : PySem.W.codeIn K cd17 "Reader.__init__" = true)
    (k17 : PySem.W.keepIn K (.ref fR0) = true)
    (mR1 : PySem.W.findIn K (.ref CR) "is_done" = some (some (.ref fR1)))
    (iR1 : PySem.W.isFn K (.ref fR1) = true)
    (l18 : K.lookup fR1 = some ⟨oc18, od18, .func (PySem.W.fnOf "is_done" "Reader.is_done" (defArgs sIsDone) (defBody sIsDone) (defScope sIsDone) .none kV18 dc18 pm18 an18 cd18 ct18), sl18⟩)
    (c18 : PySem.W.codeIn K cd18 "Reader.is_done" = true)
    (k18 : PySem.W.keepIn K (.ref fR1) = true)
    (mR2 : PySem.W.findIn K (.ref CR) "take_several" = some (some (.ref fR2)))
    (iR2 : PySem.W.isFn K (.ref fR2) = true)
    (l19 : K.lookup fR2 = some ⟨oc19, od19, .func (PySem.W.fnOf "take_several" "Reader.take_several" (defArgs sTakeS) (defBody sTakeS) (defScope sTakeS) .none kV19 dc19 pm19 an19 cd19 ct19), sl19⟩)
    (c19 : PySem.W.codeIn K cd19 "Reader.take_several" = true)
    (k19 : PySem.W.keepIn K (.ref fR2) = true)
    (mR3 : PySem.W.findIn K (.ref CR) "take_one" = some (some (.ref fR3)))
    (iR3 : PySem.W.isFn K (.ref fR3) = true)
    (l20 : K.lookup fR3 = some ⟨oc20, od20, .func (PySem.W.fnOf "take_one" "Reader.take_one" (defArgs sTakeO) (defBody sTakeO) (defScope sTakeO) .none kV20 dc20 pm20 an20 cd20 ct20), sl20⟩)
    (c20 : PySem.W.codeIn K cd20 "Reader.take_one" = true)
    (k20 : PySem.W.keepIn K (.ref fR3) = true)
    (mR4 : PySem.W.findIn K (.ref CR) "take_row" = some (some (.ref fR4)))
    (iR4 : PySem.W.isFn K (.ref fR4) = true)
    (l21 : K.lookup fR4 = some ⟨oc21, od21, .func (PySem.W.fnOf "take_row" "Reader.take_row" (defArgs sTakeR) (defBody sTakeR) (defScope sTakeR) .none kV21 dc21 pm21 an21 cd21 ct21), sl21⟩)
    (c21 : PySem.W.codeIn K cd21 "Reader.take_row" = true)
    (k21 : PySem.W.keepIn K (.ref fR4) = true)
    (a_place_in_line : PySem.W.nsIn K mainGlobals "place_in_line" = some (some (.ref f_place_in_line)))
    (l22 : K.lookup f_place_in_line = some ⟨oc22, od22, .func (PySem.W.fnOf "place_in_line" "place_in_line" (defArgs sPlace) (defBody sPlace) (defScope sPlace) .none kV22 dc22 pm22 an22 cd22 ct22), sl22⟩)
    (c22 : PySem.W.codeIn K cd22 "place_in_line" = true)
    (k22 : PySem.W.keepIn K (.ref f_place_in_line) = true)
    (a_number_at : PySem.W.nsIn K mainGlobals "number_at" = some (some (.ref f_number_at)))
    (l23 : K.lookup f_number_at = some ⟨oc23, od23, .func (PySem.W.fnOf "number_at" "number_at" (defArgs sNumAt) (defBody sNumAt) (defScope sNumAt) .none kV23 dc23 pm23 an23 cd23 ct23), sl23⟩)
    (c23 : PySem.W.codeIn K cd23 "number_at" = true)
    (k23 : PySem.W.keepIn K (.ref f_number_at) = true)
    (a_weighed_cell : PySem.W.nsIn K mainGlobals "weighed_cell" = some (some (.ref f_weighed_cell)))
    (l24 : K.lookup f_weighed_cell = some ⟨oc24, od24, .func (PySem.W.fnOf "weighed_cell" "weighed_cell" (defArgs sWCell) (defBody sWCell) (defScope sWCell) .none kV24 dc24 pm24 an24 cd24 ct24), sl24⟩)
    (c24 : PySem.W.codeIn K cd24 "weighed_cell" = true)
    (k24 : PySem.W.keepIn K (.ref f_weighed_cell) = true)
    (a_weighed : PySem.W.nsIn K mainGlobals "weighed" = some (some (.ref f_weighed)))
    (l25 : K.lookup f_weighed = some ⟨oc25, od25, .func (PySem.W.fnOf "weighed" "weighed" (defArgs sWeighed) (defBody sWeighed) (defScope sWeighed) .none kV25 dc25 pm25 an25 cd25 ct25), sl25⟩)
    (c25 : PySem.W.codeIn K cd25 "weighed" = true)
    (k25 : PySem.W.keepIn K (.ref f_weighed) = true)
    (a_ranked_cell : PySem.W.nsIn K mainGlobals "ranked_cell" = some (some (.ref f_ranked_cell)))
    (l26 : K.lookup f_ranked_cell = some ⟨oc26, od26, .func (PySem.W.fnOf "ranked_cell" "ranked_cell" (defArgs sRCell) (defBody sRCell) (defScope sRCell) .none kV26 dc26 pm26 an26 cd26 ct26), sl26⟩)
    (c26 : PySem.W.codeIn K cd26 "ranked_cell" = true)
    (k26 : PySem.W.keepIn K (.ref f_ranked_cell) = true)
    (a_ranked : PySem.W.nsIn K mainGlobals "ranked" = some (some (.ref f_ranked)))
    (l27 : K.lookup f_ranked = some ⟨oc27, od27, .func (PySem.W.fnOf "ranked" "ranked" (defArgs sRanked) (defBody sRanked) (defScope sRanked) .none kV27 dc27 pm27 an27 cd27 ct27), sl27⟩)
    (c27 : PySem.W.codeIn K cd27 "ranked" = true)
    (k27 : PySem.W.keepIn K (.ref f_ranked) = true)
    (a_divided : PySem.W.nsIn K mainGlobals "divided" = some (some (.ref f_divided)))
    (l28 : K.lookup f_divided = some ⟨oc28, od28, .func (PySem.W.fnOf "divided" "divided" (defArgs sDivided) (defBody sDivided) (defScope sDivided) .none kV28 dc28 pm28 an28 cd28 ct28), sl28⟩)
    (c28 : PySem.W.codeIn K cd28 "divided" = true)
    (k28 : PySem.W.keepIn K (.ref f_divided) = true)
    (a_divided_and_moved : PySem.W.nsIn K mainGlobals "divided_and_moved" = some (some (.ref f_divided_and_moved)))
    (l29 : K.lookup f_divided_and_moved = some ⟨oc29, od29, .func (PySem.W.fnOf "divided_and_moved" "divided_and_moved" (defArgs sDivMoved) (defBody sDivMoved) (defScope sDivMoved) .none kV29 dc29 pm29 an29 cd29 ct29), sl29⟩)
    (c29 : PySem.W.codeIn K cd29 "divided_and_moved" = true)
    (k29 : PySem.W.keepIn K (.ref f_divided_and_moved) = true)
    (a_held : PySem.W.nsIn K mainGlobals "held" = some (some (.ref f_held)))
    (l30 : K.lookup f_held = some ⟨oc30, od30, .func (PySem.W.fnOf "held" "held" (defArgs sHeld) (defBody sHeld) (defScope sHeld) .none kV30 dc30 pm30 an30 cd30 ct30), sl30⟩)
    (c30 : PySem.W.codeIn K cd30 "held" = true)
    (k30 : PySem.W.keepIn K (.ref f_held) = true)
    (a_mixed : PySem.W.nsIn K mainGlobals "mixed" = some (some (.ref f_mixed)))
    (l31 : K.lookup f_mixed = some ⟨oc31, od31, .func (PySem.W.fnOf "mixed" "mixed" (defArgs sMixed) (defBody sMixed) (defScope sMixed) .none kV31 dc31 pm31 an31 cd31 ct31), sl31⟩)
    (c31 : PySem.W.codeIn K cd31 "mixed" = true)
    (k31 : PySem.W.keepIn K (.ref f_mixed) = true)
    (a_both_of : PySem.W.nsIn K mainGlobals "both_of" = some (some (.ref f_both_of)))
    (l32 : K.lookup f_both_of = some ⟨oc32, od32, .func (PySem.W.fnOf "both_of" "both_of" (defArgs sBothOf) (defBody sBothOf) (defScope sBothOf) .none kV32 dc32 pm32 an32 cd32 ct32), sl32⟩)
    (c32 : PySem.W.codeIn K cd32 "both_of" = true)
    (k32 : PySem.W.keepIn K (.ref f_both_of) = true)
    (a_common_divisor_of_two : PySem.W.nsIn K mainGlobals "common_divisor_of_two" = some (some (.ref f_common_divisor_of_two)))
    (l33 : K.lookup f_common_divisor_of_two = some ⟨oc33, od33, .func (PySem.W.fnOf "common_divisor_of_two" "common_divisor_of_two" (defArgs sCd2) (defBody sCd2) (defScope sCd2) .none kV33 dc33 pm33 an33 cd33 ct33), sl33⟩)
    (c33 : PySem.W.codeIn K cd33 "common_divisor_of_two" = true)
    (k33 : PySem.W.keepIn K (.ref f_common_divisor_of_two) = true)
    (a_common_divisor : PySem.W.nsIn K mainGlobals "common_divisor" = some (some (.ref f_common_divisor)))
    (l34 : K.lookup f_common_divisor = some ⟨oc34, od34, .func (PySem.W.fnOf "common_divisor" "common_divisor" (defArgs sCd) (defBody sCd) (defScope sCd) .none kV34 dc34 pm34 an34 cd34 ct34), sl34⟩)
    (c34 : PySem.W.codeIn K cd34 "common_divisor" = true)
    (k34 : PySem.W.keepIn K (.ref f_common_divisor) = true)
    (a_rows_of : PySem.W.nsIn K mainGlobals "rows_of" = some (some (.ref f_rows_of)))
    (l35 : K.lookup f_rows_of = some ⟨oc35, od35, .func (PySem.W.fnOf "rows_of" "rows_of" (defArgs sRowsOf) (defBody sRowsOf) (defScope sRowsOf) .none kV35 dc35 pm35 an35 cd35 ct35), sl35⟩)
    (c35 : PySem.W.codeIn K cd35 "rows_of" = true)
    (k35 : PySem.W.keepIn K (.ref f_rows_of) = true)
    (a_times_of : PySem.W.nsIn K mainGlobals "times_of" = some (some (.ref f_times_of)))
    (l36 : K.lookup f_times_of = some ⟨oc36, od36, .func (PySem.W.fnOf "times_of" "times_of" (defArgs sTimes) (defBody sTimes) (defScope sTimes) .none kV36 dc36 pm36 an36 cd36 ct36), sl36⟩)
    (c36 : PySem.W.codeIn K cd36 "times_of" = true)
    (k36 : PySem.W.keepIn K (.ref f_times_of) = true)
    (a_parted : PySem.W.nsIn K mainGlobals "parted" = some (some (.ref f_parted)))
    (l37 : K.lookup f_parted = some ⟨oc37, od37, .func (PySem.W.fnOf "parted" "parted" (defArgs sParted) (defBody sParted) (defScope sParted) .none kV37 dc37 pm37 an37 cd37 ct37), sl37⟩)
    (c37 : PySem.W.codeIn K cd37 "parted" = true)
    (k37 : PySem.W.keepIn K (.ref f_parted) = true)
    (a_is_from : PySem.W.nsIn K mainGlobals "is_from" = some (some (.ref f_is_from)))
    (l38 : K.lookup f_is_from = some ⟨oc38, od38, .func (PySem.W.fnOf "is_from" "is_from" (defArgs sIsFrom) (defBody sIsFrom) (defScope sIsFrom) .none kV38 dc38 pm38 an38 cd38 ct38), sl38⟩)
    (c38 : PySem.W.codeIn K cd38 "is_from" = true)
    (k38 : PySem.W.keepIn K (.ref f_is_from) = true)
    (a_all_near : PySem.W.nsIn K mainGlobals "all_near" = some (some (.ref f_all_near)))
    (l39 : K.lookup f_all_near = some ⟨oc39, od39, .func (PySem.W.fnOf "all_near" "all_near" (defArgs sAllNear) (defBody sAllNear) (defScope sAllNear) .none kV39 dc39 pm39 an39 cd39 ct39), sl39⟩)
    (c39 : PySem.W.codeIn K cd39 "all_near" = true)
    (k39 : PySem.W.keepIn K (.ref f_all_near) = true)
    (a_is_picture : PySem.W.nsIn K mainGlobals "is_picture" = some (some (.ref f_is_picture)))
    (l40 : K.lookup f_is_picture = some ⟨oc40, od40, .func (PySem.W.fnOf "is_picture" "is_picture" (defArgs sIsPic) (defBody sIsPic) (defScope sIsPic) .none kV40 dc40 pm40 an40 cd40 ct40), sl40⟩)
    (c40 : PySem.W.codeIn K cd40 "is_picture" = true)
    (k40 : PySem.W.keepIn K (.ref f_is_picture) = true)
    (a_is_outside : PySem.W.nsIn K mainGlobals "is_outside" = some (some (.ref f_is_outside)))
    (l41 : K.lookup f_is_outside = some ⟨oc41, od41, .func (PySem.W.fnOf "is_outside" "is_outside" (defArgs sIsOut) (defBody sIsOut) (defScope sIsOut) .none kV41 dc41 pm41 an41 cd41 ct41), sl41⟩)
    (c41 : PySem.W.codeIn K cd41 "is_outside" = true)
    (k41 : PySem.W.keepIn K (.ref f_is_outside) = true)
    (a_are_weights : PySem.W.nsIn K mainGlobals "are_weights" = some (some (.ref f_are_weights)))
    (l42 : K.lookup f_are_weights = some ⟨oc42, od42, .func (PySem.W.fnOf "are_weights" "are_weights" (defArgs sAreW) (defBody sAreW) (defScope sAreW) .none kV42 dc42 pm42 an42 cd42 ct42), sl42⟩)
    (c42 : PySem.W.codeIn K cd42 "are_weights" = true)
    (k42 : PySem.W.keepIn K (.ref f_are_weights) = true)
    (a_is_rank : PySem.W.nsIn K mainGlobals "is_rank" = some (some (.ref f_is_rank)))
    (l43 : K.lookup f_is_rank = some ⟨oc43, od43, .func (PySem.W.fnOf "is_rank" "is_rank" (defArgs sIsRank) (defBody sIsRank) (defScope sIsRank) .none kV43 dc43 pm43 an43 cd43 ct43), sl43⟩)
    (c43 : PySem.W.codeIn K cd43 "is_rank" = true)
    (k43 : PySem.W.keepIn K (.ref f_is_rank) = true)
    (a_answer_both : PySem.W.nsIn K mainGlobals "answer_both" = some (some (.ref f_answer_both)))
    (l44 : K.lookup f_answer_both = some ⟨oc44, od44, .func (PySem.W.fnOf "answer_both" "answer_both" (defArgs sAnsBoth) (defBody sAnsBoth) (defScope sAnsBoth) .none kV44 dc44 pm44 an44 cd44 ct44), sl44⟩)
    (c44 : PySem.W.codeIn K cd44 "answer_both" = true)
    (k44 : PySem.W.keepIn K (.ref f_answer_both) = true)
    (a_answer_question : PySem.W.nsIn K mainGlobals "answer_question" = some (some (.ref f_answer_question)))
    (l45 : K.lookup f_answer_question = some ⟨oc45, od45, .func (PySem.W.fnOf "answer_question" "answer_question" (defArgs sAnsQ) (defBody sAnsQ) (defScope sAnsQ) .none kV45 dc45 pm45 an45 cd45 ct45), sl45⟩)
    (c45 : PySem.W.codeIn K cd45 "answer_question" = true)
    (k45 : PySem.W.keepIn K (.ref f_answer_question) = true)
    (a_answer : PySem.W.nsIn K mainGlobals "answer" = some (some (.ref f_answer)))
    (l46 : K.lookup f_answer = some ⟨oc46, od46, .func (PySem.W.fnOf "answer" "answer" (defArgs sAnswer) (defBody sAnswer) (defScope sAnswer) .none kV46 dc46 pm46 an46 cd46 ct46), sl46⟩)
    (c46 : PySem.W.codeIn K cd46 "answer" = true)
    (k46 : PySem.W.keepIn K (.ref f_answer) = true)
    (a_answers : PySem.W.nsIn K mainGlobals "answers" = some (some (.ref f_answers)))
    (l47 : K.lookup f_answers = some ⟨oc47, od47, .func (PySem.W.fnOf "answers" "answers" (defArgs sAnswers) (defBody sAnswers) (defScope sAnswers) .none kV47 dc47 pm47 an47 cd47 ct47), sl47⟩)
    (c47 : PySem.W.codeIn K cd47 "answers" = true)
    (k47 : PySem.W.keepIn K (.ref f_answers) = true)
    (z_range : PySem.W.nsIn K mainGlobals "range" = some none)
    (z_len : PySem.W.nsIn K mainGlobals "len" = some none)
    (z_sorted : PySem.W.nsIn K mainGlobals "sorted" = some none)
    (z_min : PySem.W.nsIn K mainGlobals "min" = some none)
    (z_max : PySem.W.nsIn K mainGlobals "max" = some none)
    (z_all : PySem.W.nsIn K mainGlobals "all" = some none)
    (z_zip : PySem.W.nsIn K mainGlobals "zip" = some none)
    (z_enumerate : PySem.W.nsIn K mainGlobals "enumerate" = some none)
    (z_abs : PySem.W.nsIn K mainGlobals "abs" = some none)
    (z_any : PySem.W.nsIn K mainGlobals "any" = some none)
    (z_sum : PySem.W.nsIn K mainGlobals "sum" = some none)
    (v_GREATEST_SIDE : PySem.W.nsIn K mainGlobals "GREATEST_SIDE" = some (some v0))
    (w_GREATEST_SIDE : ∃ t, v0 = Value.int 12 t)
    (v_FARTHEST_HANDED_IN : PySem.W.nsIn K mainGlobals "FARTHEST_HANDED_IN" = some (some v1))
    (w_FARTHEST_HANDED_IN : ∃ t, v1 = Value.int 65536 t)
    (v_FARTHEST_FACTOR : PySem.W.nsIn K mainGlobals "FARTHEST_FACTOR" = some (some v2))
    (w_FARTHEST_FACTOR : ∃ t, v2 = Value.int 1000 t)
    (v_GREATEST_DIVISOR : PySem.W.nsIn K mainGlobals "GREATEST_DIVISOR" = some (some v3))
    (w_GREATEST_DIVISOR : ∃ t, v3 = Value.int 1000000 t)
    (v_FARTHEST_CHANGED : PySem.W.nsIn K mainGlobals "FARTHEST_CHANGED" = some (some v4))
    (w_FARTHEST_CHANGED : ∃ t, v4 = Value.int 1000000000000 t)
    (v_CHANGES_KEPT : PySem.W.nsIn K mainGlobals "CHANGES_KEPT" = some (some v5))
    (w_CHANGES_KEPT : ∃ t, v5 = Value.int 16 t)
    (atW : PySem.W.nsIn K mainGlobals "WHOLES" = some (some (.ref tW)))
    (lktW : K.lookup tW = some otW)
    (cltW : otW.cls = .type "tuple")
    (datW : otW.data = .seq itstW nntW)
    (vatW : TabOktW itstW)
    (atH : PySem.W.nsIn K mainGlobals "WITH_ROW" = some (some (.ref tH)))
    (lktH : K.lookup tH = some otH)
    (cltH : otH.cls = .type "tuple")
    (datH : otH.data = .seq itstH nntH)
    (vatH : TabOktH itstH)
    : ∃ fd : FuncData, (∀ (s : Shared) (us : List Value), us.length = (["calls"] : List Str).length → BindsTo s fd ⟨us, []⟩ ((["calls"] : List Str).zip us)) ∧ ∀ base : Heap, K.In base → base.Ns mainGlobals mg → FnOk P w K mg base CX0 8 fa fd ["calls"] (spAnswers K) := by
  have e := hfa.symm.trans (PySem.W.mg_of Xn Gn a_answers)
  cases e
  have TG : GTxt K CG := ⟨⟨pgG, hdG, poG, saG⟩, nG0, nG1, nG2⟩
  have mgG := PySem.W.mg_of Xn Gn aG
  have F_Grid___init__ := fun_mk (st := sGInit) l1 c1 k1
  have b_Grid___init__ := F_Grid___init__.binds (ps := ["self", "columns", "rows", "numbers"]) fun _ _ _ _ _ _ us hl => match us, hl with | [_, _, _, _], _ => rfl
  have mkG : Mk K CG fG0 := ⟨mkG, mG0, iG0, kcG⟩
  have TD : DTxt K CD := ⟨⟨pgD, hdD, poD, saD⟩, nD0, nD1, nD2⟩
  have mgD := PySem.W.mg_of Xn Gn aD
  have F_Desk___init__ := fun_mk (st := sDInit) l2 c2 k2
  have b_Desk___init__ := F_Desk___init__.binds (ps := ["self"]) fun _ _ _ _ _ _ us hl => match us, hl with | [_], _ => rfl
  have mkD : Mk K CD fD0 := ⟨mkD, mD0, iD0, kcD⟩
  have F_Desk_show := fun_mk (st := sShow) l3 c3 k3
  have b_Desk_show := F_Desk_show.binds (ps := ["self", "columns", "rows", "numbers"]) fun _ _ _ _ _ _ us hl => match us, hl with | [_, _, _, _], _ => rfl
  have me_Desk_show : Meth K CD "show" fD1 := ⟨mD1, iD1, k3⟩
  have F_Desk_change := fun_mk (st := sChange) l4 c4 k4
  have b_Desk_change := F_Desk_change.binds (ps := ["self", "numbers"]) fun _ _ _ _ _ _ us hl => match us, hl with | [_, _], _ => rfl
  have me_Desk_change : Meth K CD "change" fD2 := ⟨mD2, iD2, k4⟩
  have F_Desk_weigh := fun_mk (st := sWeigh) l5 c5 k5
  have b_Desk_weigh := F_Desk_weigh.binds (ps := ["self", "outside", "weights"]) fun _ _ _ _ _ _ us hl => match us, hl with | [_, _, _], _ => rfl
  have me_Desk_weigh : Meth K CD "weigh" fD3 := ⟨mD3, iD3, k5⟩
  have F_Desk_rank := fun_mk (st := sRank) l6 c6 k6
  have b_Desk_rank := F_Desk_rank.binds (ps := ["self", "outside", "r", "n"]) fun _ _ _ _ _ _ us hl => match us, hl with | [_, _, _, _], _ => rfl
  have me_Desk_rank : Meth K CD "rank" fD4 := ⟨mD4, iD4, k6⟩
  have F_Desk_by := fun_mk (st := sBy) l7 c7 k7
  have b_Desk_by := F_Desk_by.binds (ps := ["self", "d", "o"]) fun _ _ _ _ _ _ us hl => match us, hl with | [_, _, _], _ => rfl
  have me_Desk_by : Meth K CD "by" fD5 := ⟨mD5, iD5, k7⟩
  have F_Desk_hold := fun_mk (st := sHold) l8 c8 k8
  have b_Desk_hold := F_Desk_hold.binds (ps := ["self", "least", "greatest"]) fun _ _ _ _ _ _ us hl => match us, hl with | [_, _, _], _ => rfl
  have me_Desk_hold : Meth K CD "hold" fD6 := ⟨mD6, iD6, k8⟩
  have F_Desk_put := fun_mk (st := sPut) l9 c9 k9
  have b_Desk_put := F_Desk_put.binds (ps := ["self"]) fun _ _ _ _ _ _ us hl => match us, hl with | [_], _ => rfl
  have me_Desk_put : Meth K CD "put" fD7 := ⟨mD7, iD7, k9⟩
  have F_Desk_mix := fun_mk (st := sMix) l10 c10 k10
  have b_Desk_mix := F_Desk_mix.binds (ps := ["self", "a", "b"]) fun _ _ _ _ _ _ us hl => match us, hl with | [_, _, _], _ => rfl
  have me_Desk_mix : Meth K CD "mix" fD8 := ⟨mD8, iD8, k10⟩
  have F_Desk_undo := fun_mk (st := sUndo) l11 c11 k11
  have b_Desk_undo := F_Desk_undo.binds (ps := ["self"]) fun _ _ _ _ _ _ us hl => match us, hl with | [_], _ => rfl
  have me_Desk_undo : Meth K CD "undo" fD9 := ⟨mD9, iD9, k11⟩
  have F_Desk_now := fun_mk (st := sNow) l12 c12 k12
  have b_Desk_now := F_Desk_now.binds (ps := ["self"]) fun _ _ _ _ _ _ us hl => match us, hl with | [_], _ => rfl
  have me_Desk_now : Meth K CD "now" fD10 := ⟨mD10, iD10, k12⟩
  have F_Desk_cell := fun_mk (st := sCell) l13 c13 k13
  have b_Desk_cell := F_Desk_cell.binds (ps := ["self", "column", "row"]) fun _ _ _ _ _ _ us hl => match us, hl with | [_, _, _], _ => rfl
  have me_Desk_cell : Meth K CD "cell" fD11 := ⟨mD11, iD11, k13⟩
  have F_Desk_both := fun_mk (st := sBoth) l14 c14 k14
  have b_Desk_both := F_Desk_both.binds (ps := ["self", "first", "second"]) fun _ _ _ _ _ _ us hl => match us, hl with | [_, _, _], _ => rfl
  have me_Desk_both : Meth K CD "both" fD12 := ⟨mD12, iD12, k14⟩
  have F_Desk_part := fun_mk (st := sPart) l15 c15 k15
  have b_Desk_part := F_Desk_part.binds (ps := ["self", "weights"]) fun _ _ _ _ _ _ us hl => match us, hl with | [_, _], _ => rfl
  have me_Desk_part : Meth K CD "part" fD13 := ⟨mD13, iD13, k15⟩
  have F_Desk_told := fun_mk (st := sTold) l16 c16 k16
  have b_Desk_told := F_Desk_told.binds (ps := ["self"]) fun _ _ _ _ _ _ us hl => match us, hl with | [_], _ => rfl
  have me_Desk_told : Meth K CD "told" fD14 := ⟨mD14, iD14, k16⟩
  have TR : RTxt K CR := ⟨⟨pgR, hdR, poR, saR⟩, nR0, nR1⟩
  have mgR := PySem.W.mg_of Xn Gn aR
  have F_Reader___init__ := fun_mk (st := sRInit) l17 c17 k17
  have b_Reader___init__ := F_Reader___init__.binds (ps := ["self", "source"]) fun _ _ _ _ _ _ us hl => match us, hl with | [_, _], _ => rfl
  have mkR : Mk K CR fR0 := ⟨mkR, mR0, iR0, kcR⟩
  have F_Reader_is_done := fun_mk (st := sIsDone) l18 c18 k18
  have b_Reader_is_done := F_Reader_is_done.binds (ps := ["self"]) fun _ _ _ _ _ _ us hl => match us, hl with | [_], _ => rfl
  have me_Reader_is_done : Meth K CR "is_done" fR1 := ⟨mR1, iR1, k18⟩
  have F_Reader_take_several := fun_mk (st := sTakeS) l19 c19 k19
  have b_Reader_take_several := F_Reader_take_several.binds (ps := ["self", "count"]) fun _ _ _ _ _ _ us hl => match us, hl with | [_, _], _ => rfl
  have me_Reader_take_several : Meth K CR "take_several" fR2 := ⟨mR2, iR2, k19⟩
  have F_Reader_take_one := fun_mk (st := sTakeO) l20 c20 k20
  have b_Reader_take_one := F_Reader_take_one.binds (ps := ["self"]) fun _ _ _ _ _ _ us hl => match us, hl with | [_], _ => rfl
  have me_Reader_take_one : Meth K CR "take_one" fR3 := ⟨mR3, iR3, k20⟩
  have F_Reader_take_row := fun_mk (st := sTakeR) l21 c21 k21
  have b_Reader_take_row := F_Reader_take_row.binds (ps := ["self"]) fun _ _ _ _ _ _ us hl => match us, hl with | [_], _ => rfl
  have me_Reader_take_row : Meth K CR "take_row" fR4 := ⟨mR4, iR4, k21⟩
  have F_place_in_line := fun_mk (st := sPlace) l22 c22 k22
  have b_place_in_line := F_place_in_line.binds (ps := ["outside", "length", "place"]) fun _ _ _ _ _ _ us hl => match us, hl with | [_, _, _], _ => rfl
  have g_place_in_line := PySem.W.mg_of Xn Gn a_place_in_line
  have kp_place_in_line := k22
  have F_number_at := fun_mk (st := sNumAt) l23 c23 k23
  have b_number_at := F_number_at.binds (ps := ["picture", "outside", "column", "row"]) fun _ _ _ _ _ _ us hl => match us, hl with | [_, _, _, _], _ => rfl
  have g_number_at := PySem.W.mg_of Xn Gn a_number_at
  have kp_number_at := k23
  have F_weighed_cell := fun_mk (st := sWCell) l24 c24 k24
  have b_weighed_cell := F_weighed_cell.binds (ps := ["picture", "outside", "weights", "column", "row"]) fun _ _ _ _ _ _ us hl => match us, hl with | [_, _, _, _, _], _ => rfl
  have g_weighed_cell := PySem.W.mg_of Xn Gn a_weighed_cell
  have kp_weighed_cell := k24
  have F_weighed := fun_mk (st := sWeighed) l25 c25 k25
  have b_weighed := F_weighed.binds (ps := ["picture", "outside", "weights"]) fun _ _ _ _ _ _ us hl => match us, hl with | [_, _, _], _ => rfl
  have g_weighed := PySem.W.mg_of Xn Gn a_weighed
  have kp_weighed := k25
  have F_ranked_cell := fun_mk (st := sRCell) l26 c26 k26
  have b_ranked_cell := F_ranked_cell.binds (ps := ["picture", "outside", "r", "n", "column", "row"]) fun _ _ _ _ _ _ us hl => match us, hl with | [_, _, _, _, _, _], _ => rfl
  have g_ranked_cell := PySem.W.mg_of Xn Gn a_ranked_cell
  have kp_ranked_cell := k26
  have F_ranked := fun_mk (st := sRanked) l27 c27 k27
  have b_ranked := F_ranked.binds (ps := ["picture", "outside", "r", "n"]) fun _ _ _ _ _ _ us hl => match us, hl with | [_, _, _, _], _ => rfl
  have g_ranked := PySem.W.mg_of Xn Gn a_ranked
  have kp_ranked := k27
  have F_divided := fun_mk (st := sDivided) l28 c28 k28
  have b_divided := F_divided.binds (ps := ["number", "d"]) fun _ _ _ _ _ _ us hl => match us, hl with | [_, _], _ => rfl
  have g_divided := PySem.W.mg_of Xn Gn a_divided
  have kp_divided := k28
  have F_divided_and_moved := fun_mk (st := sDivMoved) l29 c29 k29
  have b_divided_and_moved := F_divided_and_moved.binds (ps := ["picture", "d", "o"]) fun _ _ _ _ _ _ us hl => match us, hl with | [_, _, _], _ => rfl
  have g_divided_and_moved := PySem.W.mg_of Xn Gn a_divided_and_moved
  have kp_divided_and_moved := k29
  have F_held := fun_mk (st := sHeld) l30 c30 k30
  have b_held := F_held.binds (ps := ["picture", "least", "greatest"]) fun _ _ _ _ _ _ us hl => match us, hl with | [_, _, _], _ => rfl
  have g_held := PySem.W.mg_of Xn Gn a_held
  have kp_held := k30
  have F_mixed := fun_mk (st := sMixed) l31 c31 k31
  have b_mixed := F_mixed.binds (ps := ["picture", "aside", "a", "b"]) fun _ _ _ _ _ _ us hl => match us, hl with | [_, _, _, _], _ => rfl
  have g_mixed := PySem.W.mg_of Xn Gn a_mixed
  have kp_mixed := k31
  have F_both_of := fun_mk (st := sBothOf) l32 c32 k32
  have b_both_of := F_both_of.binds (ps := ["first", "second"]) fun _ _ _ _ _ _ us hl => match us, hl with | [_, _], _ => rfl
  have g_both_of := PySem.W.mg_of Xn Gn a_both_of
  have kp_both_of := k32
  have F_common_divisor_of_two := fun_mk (st := sCd2) l33 c33 k33
  have b_common_divisor_of_two := F_common_divisor_of_two.binds (ps := ["first", "second"]) fun _ _ _ _ _ _ us hl => match us, hl with | [_, _], _ => rfl
  have g_common_divisor_of_two := PySem.W.mg_of Xn Gn a_common_divisor_of_two
  have kp_common_divisor_of_two := k33
  have F_common_divisor := fun_mk (st := sCd) l34 c34 k34
  have b_common_divisor := F_common_divisor.binds (ps := ["numbers"]) fun _ _ _ _ _ _ us hl => match us, hl with | [_], _ => rfl
  have g_common_divisor := PySem.W.mg_of Xn Gn a_common_divisor
  have kp_common_divisor := k34
  have F_rows_of := fun_mk (st := sRowsOf) l35 c35 k35
  have b_rows_of := F_rows_of.binds (ps := ["weights"]) fun _ _ _ _ _ _ us hl => match us, hl with | [_], _ => rfl
  have g_rows_of := PySem.W.mg_of Xn Gn a_rows_of
  have kp_rows_of := k35
  have F_times_of := fun_mk (st := sTimes) l36 c36 k36
  have b_times_of := F_times_of.binds (ps := ["unit", "row"]) fun _ _ _ _ _ _ us hl => match us, hl with | [_, _], _ => rfl
  have g_times_of := PySem.W.mg_of Xn Gn a_times_of
  have kp_times_of := k36
  have F_parted := fun_mk (st := sParted) l37 c37 k37
  have b_parted := F_parted.binds (ps := ["weights"]) fun _ _ _ _ _ _ us hl => match us, hl with | [_], _ => rfl
  have g_parted := PySem.W.mg_of Xn Gn a_parted
  have kp_parted := k37
  have F_is_from := fun_mk (st := sIsFrom) l38 c38 k38
  have b_is_from := F_is_from.binds (ps := ["number", "least", "greatest"]) fun _ _ _ _ _ _ us hl => match us, hl with | [_, _, _], _ => rfl
  have g_is_from := PySem.W.mg_of Xn Gn a_is_from
  have kp_is_from := k38
  have F_all_near := fun_mk (st := sAllNear) l39 c39 k39
  have b_all_near := F_all_near.binds (ps := ["numbers", "farthest"]) fun _ _ _ _ _ _ us hl => match us, hl with | [_, _], _ => rfl
  have g_all_near := PySem.W.mg_of Xn Gn a_all_near
  have kp_all_near := k39
  have F_is_picture := fun_mk (st := sIsPic) l40 c40 k40
  have b_is_picture := F_is_picture.binds (ps := ["columns", "rows", "numbers"]) fun _ _ _ _ _ _ us hl => match us, hl with | [_, _, _], _ => rfl
  have g_is_picture := PySem.W.mg_of Xn Gn a_is_picture
  have kp_is_picture := k40
  have F_is_outside := fun_mk (st := sIsOut) l41 c41 k41
  have b_is_outside := F_is_outside.binds (ps := ["outside"]) fun _ _ _ _ _ _ us hl => match us, hl with | [_], _ => rfl
  have g_is_outside := PySem.W.mg_of Xn Gn a_is_outside
  have kp_is_outside := k41
  have F_are_weights := fun_mk (st := sAreW) l42 c42 k42
  have b_are_weights := F_are_weights.binds (ps := ["weights"]) fun _ _ _ _ _ _ us hl => match us, hl with | [_], _ => rfl
  have g_are_weights := PySem.W.mg_of Xn Gn a_are_weights
  have kp_are_weights := k42
  have F_is_rank := fun_mk (st := sIsRank) l43 c43 k43
  have b_is_rank := F_is_rank.binds (ps := ["r", "n"]) fun _ _ _ _ _ _ us hl => match us, hl with | [_, _], _ => rfl
  have g_is_rank := PySem.W.mg_of Xn Gn a_is_rank
  have kp_is_rank := k43
  have F_answer_both := fun_mk (st := sAnsBoth) l44 c44 k44
  have b_answer_both := F_answer_both.binds (ps := ["desk", "columns", "rows", "rest"]) fun _ _ _ _ _ _ us hl => match us, hl with | [_, _, _, _], _ => rfl
  have g_answer_both := PySem.W.mg_of Xn Gn a_answer_both
  have kp_answer_both := k44
  have F_answer_question := fun_mk (st := sAnsQ) l45 c45 k45
  have b_answer_question := F_answer_question.binds (ps := ["desk", "call", "wholes", "row"]) fun _ _ _ _ _ _ us hl => match us, hl with | [_, _, _, _], _ => rfl
  have g_answer_question := PySem.W.mg_of Xn Gn a_answer_question
  have kp_answer_question := k45
  have F_answer := fun_mk (st := sAnswer) l46 c46 k46
  have b_answer := F_answer.binds (ps := ["desk", "call", "wholes", "row"]) fun _ _ _ _ _ _ us hl => match us, hl with | [_, _, _, _], _ => rfl
  have g_answer := PySem.W.mg_of Xn Gn a_answer
  have kp_answer := k46
  have F_answers := fun_mk (st := sAnswers) l47 c47 k47
  have b_answers := F_answers.binds (ps := ["calls"]) fun _ _ _ _ _ _ us hl => match us, hl with | [_], _ => rfl
  have g_answers := PySem.W.mg_of Xn Gn a_answers
  have kp_answers := k47
  have B : BTxt mg := ⟨PySem.W.mg_none_of Xn Gn z_range, PySem.W.mg_none_of Xn Gn z_len, PySem.W.mg_none_of Xn Gn z_sorted, PySem.W.mg_none_of Xn Gn z_min, PySem.W.mg_none_of Xn Gn z_max, PySem.W.mg_none_of Xn Gn z_all, PySem.W.mg_none_of Xn Gn z_zip, PySem.W.mg_none_of Xn Gn z_enumerate, PySem.W.mg_none_of Xn Gn z_abs, PySem.W.mg_none_of Xn Gn z_any, PySem.W.mg_none_of Xn Gn z_sum⟩
  have Cn : CTxt mg := ⟨w_GREATEST_SIDE.imp fun t e => (PySem.W.mg_of Xn Gn v_GREATEST_SIDE).trans (by rw [e]), w_FARTHEST_HANDED_IN.imp fun t e => (PySem.W.mg_of Xn Gn v_FARTHEST_HANDED_IN).trans (by rw [e]), w_FARTHEST_FACTOR.imp fun t e => (PySem.W.mg_of Xn Gn v_FARTHEST_FACTOR).trans (by rw [e]), w_GREATEST_DIVISOR.imp fun t e => (PySem.W.mg_of Xn Gn v_GREATEST_DIVISOR).trans (by rw [e]), w_FARTHEST_CHANGED.imp fun t e => (PySem.W.mg_of Xn Gn v_FARTHEST_CHANGED).trans (by rw [e]), w_CHANGES_KEPT.imp fun t e => (PySem.W.mg_of Xn Gn v_CHANGES_KEPT).trans (by rw [e])⟩
  have TB : Tabs K mg := ⟨⟨tW, PySem.W.mg_of Xn Gn atW, fun H => tab_whl lktW cltW datW vatW⟩, ⟨tH, PySem.W.mg_of Xn Gn atH, fun H => tab_row lktH cltH datH vatH⟩⟩
  refine ⟨PySem.W.fnOf "answers" "answers" (defArgs sAnswers) (defBody sAnswers) (defScope sAnswers) .none kV47 dc47 pm47 an47 cd47 ct47, fun s us hu => match us, hu with | [_], _ => .of_eq rfl, fun base _ _ => ?_⟩
  have D_place_in_line : Def P w K mg base 1 "place_in_line" ["outside", "length", "place"] spPlace := ⟨f_place_in_line, _, ok_place F_place_in_line, g_place_in_line, kp_place_in_line, b_place_in_line⟩
  have D_number_at : Def P w K mg base 2 "number_at" ["picture", "outside", "column", "row"] (spNumAt CG) := ⟨f_number_at, _, ok_numAt F_number_at TG D_place_in_line, g_number_at, kp_number_at, b_number_at⟩
  have D_weighed_cell : Def P w K mg base 3 "weighed_cell" ["picture", "outside", "weights", "column", "row"] (spWCell CG) := ⟨f_weighed_cell, _, ok_wcell F_weighed_cell TG B D_number_at, g_weighed_cell, kp_weighed_cell, b_weighed_cell⟩
  have D_weighed : Def P w K mg base 4 "weighed" ["picture", "outside", "weights"] (spWeighed CG) := ⟨f_weighed, _, ok_weighed F_weighed TG B D_weighed_cell, g_weighed, kp_weighed, b_weighed⟩
  have D_ranked_cell : Def P w K mg base 3 "ranked_cell" ["picture", "outside", "r", "n", "column", "row"] (spRCell CG) := ⟨f_ranked_cell, _, ok_rcell F_ranked_cell TG B D_number_at, g_ranked_cell, kp_ranked_cell, b_ranked_cell⟩
  have D_ranked : Def P w K mg base 4 "ranked" ["picture", "outside", "r", "n"] (spRanked CG) := ⟨f_ranked, _, ok_ranked F_ranked TG B D_ranked_cell, g_ranked, kp_ranked, b_ranked⟩
  have D_divided : Def P w K mg base 1 "divided" ["number", "d"] spDivided := ⟨f_divided, _, ok_divided F_divided, g_divided, kp_divided, b_divided⟩
  have D_divided_and_moved : Def P w K mg base 2 "divided_and_moved" ["picture", "d", "o"] (spDivMoved CG) := ⟨f_divided_and_moved, _, ok_divMoved F_divided_and_moved TG D_divided, g_divided_and_moved, kp_divided_and_moved, b_divided_and_moved⟩
  have D_held : Def P w K mg base 1 "held" ["picture", "least", "greatest"] (spHeld CG) := ⟨f_held, _, ok_held F_held TG B, g_held, kp_held, b_held⟩
  have D_mixed : Def P w K mg base 1 "mixed" ["picture", "aside", "a", "b"] (spMixed CG) := ⟨f_mixed, _, ok_mixed F_mixed TG B, g_mixed, kp_mixed, b_mixed⟩
  have D_common_divisor_of_two : Def P w K mg base 1 "common_divisor_of_two" ["first", "second"] spCd2 := ⟨f_common_divisor_of_two, _, ok_cd2 F_common_divisor_of_two, g_common_divisor_of_two, kp_common_divisor_of_two, b_common_divisor_of_two⟩
  have D_common_divisor : Def P w K mg base 2 "common_divisor" ["numbers"] (spCd K) := ⟨f_common_divisor, _, ok_cd F_common_divisor B D_common_divisor_of_two, g_common_divisor, kp_common_divisor, b_common_divisor⟩
  have D_rows_of : Def P w K mg base 1 "rows_of" ["weights"] (spRowsOf CG) := ⟨f_rows_of, _, ok_rowsOf F_rows_of TG B, g_rows_of, kp_rows_of, b_rows_of⟩
  have D_times_of : Def P w K mg base 1 "times_of" ["unit", "row"] spTimes := ⟨f_times_of, _, ok_times F_times_of, g_times_of, kp_times_of, b_times_of⟩
  have D_parted : Def P w K mg base 3 "parted" ["weights"] (spParted CG) := ⟨f_parted, _, ok_parted F_parted TG B D_rows_of D_common_divisor D_times_of, g_parted, kp_parted, b_parted⟩
  have D_is_from : Def P w K mg base 1 "is_from" ["number", "least", "greatest"] spIsFrom := ⟨f_is_from, _, ok_isFrom F_is_from, g_is_from, kp_is_from, b_is_from⟩
  have D_all_near : Def P w K mg base 2 "all_near" ["numbers", "farthest"] (spAllNear K) := ⟨f_all_near, _, ok_allNear F_all_near B D_is_from, g_all_near, kp_all_near, b_all_near⟩
  have D_is_picture : Def P w K mg base 3 "is_picture" ["columns", "rows", "numbers"] (spIsPic K) := ⟨f_is_picture, _, ok_isPic F_is_picture B Cn D_is_from D_all_near, g_is_picture, kp_is_picture, b_is_picture⟩
  have D_is_outside : Def P w K mg base 2 "is_outside" ["outside"] spIsOut := ⟨f_is_outside, _, ok_isOut F_is_outside D_is_from, g_is_outside, kp_is_outside, b_is_outside⟩
  have D_are_weights : Def P w K mg base 3 "are_weights" ["weights"] (spAreW CG) := ⟨f_are_weights, _, ok_areW F_are_weights TG B Cn D_all_near, g_are_weights, kp_are_weights, b_are_weights⟩
  have D_is_rank : Def P w K mg base 2 "is_rank" ["r", "n"] spIsRank := ⟨f_is_rank, _, ok_isRank F_is_rank D_is_from, g_is_rank, kp_is_rank, b_is_rank⟩
  have GC : GridC P w K mg base CG := ⟨TG, mgG, fG0, _, mkG, ok_gInit F_Grid___init__ TG, b_Grid___init__⟩
  have D_both_of : Def P w K mg base 3 "both_of" ["first", "second"] (spBothOf CG) := ⟨f_both_of, _, ok_bothOf F_both_of GC B, g_both_of, kp_both_of, b_both_of⟩
  have M_Desk_change : Mth P w K mg base 3 CD "change" ["self", "numbers"] (spChange CD CG) := ⟨_, _, ok_change F_Desk_change TD GC B Cn D_all_near, me_Desk_change, b_Desk_change⟩
  have M_Desk_show : Mth P w K mg base 4 CD "show" ["self", "columns", "rows", "numbers"] (spShow CD CG) := ⟨_, _, ok_show F_Desk_show TD GC D_is_picture, me_Desk_show, b_Desk_show⟩
  have M_Desk_weigh : Mth P w K mg base 5 CD "weigh" ["self", "outside", "weights"] (spWeigh CD CG) := ⟨_, _, ok_weigh F_Desk_weigh TD D_is_outside D_are_weights D_weighed M_Desk_change, me_Desk_weigh, b_Desk_weigh⟩
  have M_Desk_rank : Mth P w K mg base 5 CD "rank" ["self", "outside", "r", "n"] (spRank CD CG) := ⟨_, _, ok_rank F_Desk_rank TD D_is_outside D_is_rank D_ranked M_Desk_change, me_Desk_rank, b_Desk_rank⟩
  have M_Desk_by : Mth P w K mg base 4 CD "by" ["self", "d", "o"] (spBy CD CG) := ⟨_, _, ok_by F_Desk_by TD Cn D_is_from D_all_near D_divided_and_moved M_Desk_change, me_Desk_by, b_Desk_by⟩
  have M_Desk_hold : Mth P w K mg base 4 CD "hold" ["self", "least", "greatest"] (spHold CD CG) := ⟨_, _, ok_hold F_Desk_hold TD D_held M_Desk_change, me_Desk_hold, b_Desk_hold⟩
  have M_Desk_put : Mth P w K mg base 1 CD "put" ["self"] (spPut CD CG) := ⟨_, _, ok_put F_Desk_put TD, me_Desk_put, b_Desk_put⟩
  have M_Desk_mix : Mth P w K mg base 4 CD "mix" ["self", "a", "b"] (spMix CD CG) := ⟨_, _, ok_mix F_Desk_mix TD TG Cn D_all_near D_mixed M_Desk_change, me_Desk_mix, b_Desk_mix⟩
  have M_Desk_undo : Mth P w K mg base 1 CD "undo" ["self"] (spUndo CD CG) := ⟨_, _, ok_undo F_Desk_undo TD B, me_Desk_undo, b_Desk_undo⟩
  have M_Desk_now : Mth P w K mg base 1 CD "now" ["self"] (spNow CD CG) := ⟨_, _, ok_now F_Desk_now TD TG, me_Desk_now, b_Desk_now⟩
  have M_Desk_cell : Mth P w K mg base 1 CD "cell" ["self", "column", "row"] (spCell CD CG) := ⟨_, _, ok_cell F_Desk_cell TD TG, me_Desk_cell, b_Desk_cell⟩
  have M_Desk_both : Mth P w K mg base 4 CD "both" ["self", "first", "second"] (spBoth CD CG) := ⟨_, _, ok_both F_Desk_both TG D_are_weights D_both_of, me_Desk_both, b_Desk_both⟩
  have M_Desk_part : Mth P w K mg base 4 CD "part" ["self", "weights"] (spPart CD CG) := ⟨_, _, ok_part F_Desk_part D_are_weights D_parted, me_Desk_part, b_Desk_part⟩
  have M_Desk_told : Mth P w K mg base 1 CD "told" ["self"] (spTold CD CG) := ⟨_, _, ok_told F_Desk_told TD TG B, me_Desk_told, b_Desk_told⟩
  have M_Reader_is_done : Mth P w K mg base 1 CR "is_done" ["self"] (spIsDone K CR) := ⟨_, _, ok_isDone F_Reader_is_done TR B, me_Reader_is_done, b_Reader_is_done⟩
  have M_Reader_take_several : Mth P w K mg base 1 CR "take_several" ["self", "count"] (spTakeS K CR) := ⟨_, _, ok_takeS F_Reader_take_several TR, me_Reader_take_several, b_Reader_take_several⟩
  have M_Reader_take_one : Mth P w K mg base 2 CR "take_one" ["self"] (spTakeO K CR) := ⟨_, _, ok_takeO F_Reader_take_one TR M_Reader_take_several, me_Reader_take_one, b_Reader_take_one⟩
  have M_Reader_take_row : Mth P w K mg base 3 CR "take_row" ["self"] (spTakeR K CR) := ⟨_, _, ok_takeR F_Reader_take_row TR M_Reader_take_several M_Reader_take_one, me_Reader_take_row, b_Reader_take_row⟩
  have MD : MkC P w K mg base 3 "Desk" CD ["self"] (spDInit CD CG) := ⟨mgD, fD0, _, mkD, ok_dInit F_Desk___init__ TD GC, b_Desk___init__⟩
  have MR : MkC P w K mg base 1 "Reader" CR ["self", "source"] (spRInit CR) := ⟨mgR, fR0, _, mkR, ok_rInit F_Reader___init__ TR, b_Reader___init__⟩
  have D_answer_both : Def P w K mg base 5 "answer_both" ["desk", "columns", "rows", "rest"] (spAnsBoth CD CG) := ⟨f_answer_both, _, ok_ansBoth F_answer_both TD GC B M_Desk_both, g_answer_both, kp_answer_both, b_answer_both⟩
  have D_answer_question : Def P w K mg base 6 "answer_question" ["desk", "call", "wholes", "row"] (spAnsQ CD CG) := ⟨f_answer_question, _, ok_ansQ F_answer_question TD GC M_Desk_now M_Desk_cell D_answer_both M_Desk_part M_Desk_told, g_answer_question, kp_answer_question, b_answer_question⟩
  have D_answer : Def P w K mg base 7 "answer" ["desk", "call", "wholes", "row"] (spAnswer CD CG) := ⟨f_answer, _, ok_answer F_answer TD GC M_Desk_show M_Desk_weigh M_Desk_rank M_Desk_by M_Desk_hold M_Desk_put M_Desk_mix M_Desk_undo D_answer_question, g_answer, kp_answer, b_answer⟩
  exact ok_answers F_answers TR B TB MD MR M_Reader_is_done M_Reader_take_one M_Reader_take_several M_Reader_take_row D_answer
end Nd
open PySem PySem.W PyProof.Rows
set_option maxRecDepth 100000 in
set_option maxHeartbeats 8000000 in
theorem PySem.Challenge.cw_neighboursdesk_s01_answers_holds : PySem.Challenge.rw_neighboursdesk_s01_answers.Holds := by
  w_on; k_headS; (case hw => exact ⟨[.list [.int 5]], by decide +kernel, by decide +kernel⟩)
  k_fillS
  refine L2.walk_specK (r := PySem.Challenge.rw_neighboursdesk_s01_answers) (k := 8) (CX := L2.CX0) (ps := ["calls"]) (sp := Nd.spAnswers) (by decide +kernel) rfl rfl ⟨rfl, by decide, by decide⟩ (fun w h Y => PySem.W.kIn_of Y) ?F ?S (fun _ _ _ _ z => z)
  case F =>
    intro w mg fa h Y KX G hmg
    refine' Nd.all_mk KX G hmg ?aG ?pgG ?hdG ?poG ?saG ?mkG ?kcG ?nG0 ?nG1 ?nG2 ?mG0 ?iG0 ?l1 ?c1 ?k1 ?aD ?pgD ?hdD ?poD ?saD ?mkD ?kcD ?nD0 ?nD1 ?nD2 ?mD0 ?iD0 ?l2 ?c2 ?k2 ?mD1 ?iD1 ?l3 ?c3 ?k3 ?mD2 ?iD2 ?l4 ?c4 ?k4 ?mD3 ?iD3 ?l5 ?c5 ?k5 ?mD4 ?iD4 ?l6 ?c6 ?k6 ?mD5 ?iD5 ?l7 ?c7 ?k7 ?mD6 ?iD6 ?l8 ?c8 ?k8 ?mD7 ?iD7 ?l9 ?c9 ?k9 ?mD8 ?iD8 ?l10 ?c10 ?k10 ?mD9 ?iD9 ?l11 ?c11 ?k11 ?mD10 ?iD10 ?l12 ?c12 ?k12 ?mD11 ?iD11 ?l13 ?c13 ?k13 ?mD12 ?iD12 ?l14 ?c14 ?k14 ?mD13 ?iD13 ?l15 ?c15 ?k15 ?mD14 ?iD14 ?l16 ?c16 ?k16 ?aR ?pgR ?hdR ?poR ?saR ?mkR ?kcR ?nR0 ?nR1 ?mR0 ?iR0 ?l17 ?c17 ?k17 ?mR1 ?iR1 ?l18 ?c18 ?k18 ?mR2 ?iR2 ?l19 ?c19 ?k19 ?mR3 ?iR3 ?l20 ?c20 ?k20 ?mR4 ?iR4 ?l21 ?c21 ?k21 ?a_place_in_line ?l22 ?c22 ?k22 ?a_number_at ?l23 ?c23 ?k23 ?a_weighed_cell ?l24 ?c24 ?k24 ?a_weighed ?l25 ?c25 ?k25 ?a_ranked_cell ?l26 ?c26 ?k26 ?a_ranked ?l27 ?c27 ?k27 ?a_divided ?l28 ?c28 ?k28 ?a_divided_and_moved ?l29 ?c29 ?k29 ?a_held ?l30 ?c30 ?k30 ?a_mixed ?l31 ?c31 ?k31 ?a_both_of ?l32 ?c32 ?k32 ?a_common_divisor_of_two ?l33 ?c33 ?k33 ?a_common_divisor ?l34 ?c34 ?k34 ?a_rows_of ?l35 ?c35 ?k35 ?a_times_of ?l36 ?c36 ?k36 ?a_parted ?l37 ?c37 ?k37 ?a_is_from ?l38 ?c38 ?k38 ?a_all_near ?l39 ?c39 ?k39 ?a_is_picture ?l40 ?c40 ?k40 ?a_is_outside ?l41 ?c41 ?k41 ?a_are_weights ?l42 ?c42 ?k42 ?a_is_rank ?l43 ?c43 ?k43 ?a_answer_both ?l44 ?c44 ?k44 ?a_answer_question ?l45 ?c45 ?k45 ?a_answer ?l46 ?c46 ?k46 ?a_answers ?l47 ?c47 ?k47 ?z_range ?z_len ?z_sorted ?z_min ?z_max ?z_all ?z_zip ?z_enumerate ?z_abs ?z_any ?z_sum ?v_GREATEST_SIDE ?w_GREATEST_SIDE ?v_FARTHEST_HANDED_IN ?w_FARTHEST_HANDED_IN ?v_FARTHEST_FACTOR ?w_FARTHEST_FACTOR ?v_GREATEST_DIVISOR ?w_GREATEST_DIVISOR ?v_FARTHEST_CHANGED ?w_FARTHEST_CHANGED ?v_CHANGES_KEPT ?w_CHANGES_KEPT ?atW ?lktW ?cltW ?datW ?vatW ?atH ?lktH ?cltH ?datH ?vatH
    (case aG => k_is)
    (case pgG => k_is)
    (case hdG => k_is)
    (case poG => k_is)
    (case saG => k_is)
    (case mkG => k_is)
    (case kcG => k_is)
    (case nG0 => k_is)
    (case nG1 => k_is)
    (case nG2 => k_is)
    (case mG0 => k_is)
    (case iG0 => k_is)
    (case l1 => k_is)
    (case c1 => k_is)
    (case k1 => k_is)
    (case aD => k_is)
    (case pgD => k_is)
    (case hdD => k_is)
    (case poD => k_is)
    (case saD => k_is)
    (case mkD => k_is)
    (case kcD => k_is)
    (case nD0 => k_is)
    (case nD1 => k_is)
    (case nD2 => k_is)
    (case mD0 => k_is)
    (case iD0 => k_is)
    (case l2 => k_is)
    (case c2 => k_is)
    (case k2 => k_is)
    (case mD1 => k_is)
    (case iD1 => k_is)
    (case l3 => k_is)
    (case c3 => k_is)
    (case k3 => k_is)
    (case mD2 => k_is)
    (case iD2 => k_is)
    (case l4 => k_is)
    (case c4 => k_is)
    (case k4 => k_is)
    (case mD3 => k_is)
    (case iD3 => k_is)
    (case l5 => k_is)
    (case c5 => k_is)
    (case k5 => k_is)
    (case mD4 => k_is)
    (case iD4 => k_is)
    (case l6 => k_is)
    (case c6 => k_is)
    (case k6 => k_is)
    (case mD5 => k_is)
    (case iD5 => k_is)
    (case l7 => k_is)
    (case c7 => k_is)
    (case k7 => k_is)
    (case mD6 => k_is)
    (case iD6 => k_is)
    (case l8 => k_is)
    (case c8 => k_is)
    (case k8 => k_is)
    (case mD7 => k_is)
    (case iD7 => k_is)
    (case l9 => k_is)
    (case c9 => k_is)
    (case k9 => k_is)
    (case mD8 => k_is)
    (case iD8 => k_is)
    (case l10 => k_is)
    (case c10 => k_is)
    (case k10 => k_is)
    (case mD9 => k_is)
    (case iD9 => k_is)
    (case l11 => k_is)
    (case c11 => k_is)
    (case k11 => k_is)
    (case mD10 => k_is)
    (case iD10 => k_is)
    (case l12 => k_is)
    (case c12 => k_is)
    (case k12 => k_is)
    (case mD11 => k_is)
    (case iD11 => k_is)
    (case l13 => k_is)
    (case c13 => k_is)
    (case k13 => k_is)
    (case mD12 => k_is)
    (case iD12 => k_is)
    (case l14 => k_is)
    (case c14 => k_is)
    (case k14 => k_is)
    (case mD13 => k_is)
    (case iD13 => k_is)
    (case l15 => k_is)
    (case c15 => k_is)
    (case k15 => k_is)
    (case mD14 => k_is)
    (case iD14 => k_is)
    (case l16 => k_is)
    (case c16 => k_is)
    (case k16 => k_is)
    (case aR => k_is)
    (case pgR => k_is)
    (case hdR => k_is)
    (case poR => k_is)
    (case saR => k_is)
    (case mkR => k_is)
    (case kcR => k_is)
    (case nR0 => k_is)
    (case nR1 => k_is)
    (case mR0 => k_is)
    (case iR0 => k_is)
    (case l17 => k_is)
    (case c17 => k_is)
    (case k17 => k_is)
    (case mR1 => k_is)
    (case iR1 => k_is)
    (case l18 => k_is)
    (case c18 => k_is)
    (case k18 => k_is)
    (case mR2 => k_is)
    (case iR2 => k_is)
    (case l19 => k_is)
    (case c19 => k_is)
    (case k19 => k_is)
    (case mR3 => k_is)
    (case iR3 => k_is)
    (case l20 => k_is)
    (case c20 => k_is)
    (case k20 => k_is)
    (case mR4 => k_is)
    (case iR4 => k_is)
    (case l21 => k_is)
    (case c21 => k_is)
    (case k21 => k_is)
    (case a_place_in_line => k_is)
    (case l22 => k_is)
    (case c22 => k_is)
    (case k22 => k_is)
    (case a_number_at => k_is)
    (case l23 => k_is)
    (case c23 => k_is)
    (case k23 => k_is)
    (case a_weighed_cell => k_is)
    (case l24 => k_is)
    (case c24 => k_is)
    (case k24 => k_is)
    (case a_weighed => k_is)
    (case l25 => k_is)
    (case c25 => k_is)
    (case k25 => k_is)
    (case a_ranked_cell => k_is)
    (case l26 => k_is)
    (case c26 => k_is)
    (case k26 => k_is)
    (case a_ranked => k_is)
    (case l27 => k_is)
    (case c27 => k_is)
    (case k27 => k_is)
    (case a_divided => k_is)
    (case l28 => k_is)
    (case c28 => k_is)
    (case k28 => k_is)
    (case a_divided_and_moved => k_is)
    (case l29 => k_is)
    (case c29 => k_is)
    (case k29 => k_is)
    (case a_held => k_is)
    (case l30 => k_is)
    (case c30 => k_is)
    (case k30 => k_is)
    (case a_mixed => k_is)
    (case l31 => k_is)
    (case c31 => k_is)
    (case k31 => k_is)
    (case a_both_of => k_is)
    (case l32 => k_is)
    (case c32 => k_is)
    (case k32 => k_is)
    (case a_common_divisor_of_two => k_is)
    (case l33 => k_is)
    (case c33 => k_is)
    (case k33 => k_is)
    (case a_common_divisor => k_is)
    (case l34 => k_is)
    (case c34 => k_is)
    (case k34 => k_is)
    (case a_rows_of => k_is)
    (case l35 => k_is)
    (case c35 => k_is)
    (case k35 => k_is)
    (case a_times_of => k_is)
    (case l36 => k_is)
    (case c36 => k_is)
    (case k36 => k_is)
    (case a_parted => k_is)
    (case l37 => k_is)
    (case c37 => k_is)
    (case k37 => k_is)
    (case a_is_from => k_is)
    (case l38 => k_is)
    (case c38 => k_is)
    (case k38 => k_is)
    (case a_all_near => k_is)
    (case l39 => k_is)
    (case c39 => k_is)
    (case k39 => k_is)
    (case a_is_picture => k_is)
    (case l40 => k_is)
    (case c40 => k_is)
    (case k40 => k_is)
    (case a_is_outside => k_is)
    (case l41 => k_is)
    (case c41 => k_is)
    (case k41 => k_is)
    (case a_are_weights => k_is)
    (case l42 => k_is)
    (case c42 => k_is)
    (case k42 => k_is)
    (case a_is_rank => k_is)
    (case l43 => k_is)
    (case c43 => k_is)
    (case k43 => k_is)
    (case a_answer_both => k_is)
    (case l44 => k_is)
    (case c44 => k_is)
    (case k44 => k_is)
    (case a_answer_question => k_is)
    (case l45 => k_is)
    (case c45 => k_is)
    (case k45 => k_is)
    (case a_answer => k_is)
    (case l46 => k_is)
    (case c46 => k_is)
    (case k46 => k_is)
    (case a_answers => k_is)
    (case l47 => k_is)
    (case c47 => k_is)
    (case k47 => k_is)
    (case z_range => k_is)
    (case z_len => k_is)
    (case z_sorted => k_is)
    (case z_min => k_is)
    (case z_max => k_is)
    (case z_all => k_is)
    (case z_zip => k_is)
    (case z_enumerate => k_is)
    (case z_abs => k_is)
    (case z_any => k_is)
    (case z_sum => k_is)
    (case v_GREATEST_SIDE => k_is)
    (case w_GREATEST_SIDE => exact ⟨_, rfl⟩)
    (case v_FARTHEST_HANDED_IN => k_is)
    (case w_FARTHEST_HANDED_IN => exact ⟨_, rfl⟩)
    (case v_FARTHEST_FACTOR => k_is)
    (case w_FARTHEST_FACTOR => exact ⟨_, rfl⟩)
    (case v_GREATEST_DIVISOR => k_is)
    (case w_GREATEST_DIVISOR => exact ⟨_, rfl⟩)
    (case v_FARTHEST_CHANGED => k_is)
    (case w_FARTHEST_CHANGED => exact ⟨_, rfl⟩)
    (case v_CHANGES_KEPT => k_is)
    (case w_CHANGES_KEPT => exact ⟨_, rfl⟩)
    (case atW => k_is)
    (case lktW => k_is)
    (case cltW => rfl)
    (case datW => rfl)
    (case vatW => exact ⟨by decide, by (repeat' (first | exact .nil | exact .cons ⟨_, rfl⟩ .nil | exact .cons rfl .nil | refine .cons ⟨_, rfl⟩ ?_ | refine .cons rfl ?_))⟩)
    (case atH => k_is)
    (case lktH => k_is)
    (case cltH => rfl)
    (case datH => rfl)
    (case vatH => exact ⟨by decide, by (repeat' (first | exact .nil | exact .cons ⟨_, rfl⟩ .nil | exact .cons rfl .nil | refine .cons ⟨_, rfl⟩ ?_ | refine .cons rfl ?_))⟩)
  case S =>
    intro K H xs a hO hwi hask hx
    cases hx with
    | cons h1 h2 =>
      cases h2
      cases h1 with
      | lst hs ha =>
        have e := L2.ints_dw a.1 _ ha
        subst e
        exact ⟨_, a.1, rfl, hs, hask, fun H' p hp => .lst (L2.SqL.of hp) (L2.dw_ints _)⟩

